/-
  A region of plain operations that draws its order, inside a round; a loop whose rounds are counted by a number.
-/
import Derived.Test.YtncnpodanlhdkaaWBase
import Derived.Deep.RegionHeld3
import Derived.OrdersIn
import Derived.OwnWalkIn
import Derived.LoopNIn
import Derived.StillTailTactics
namespace Go.Proofs.Ytncnpodanlhdkaa
set_option linter.all false
open Go.RowKit

/-- An operation that is no call and no defer statement. -/
def plainOp (o : Oper) : Bool :=
  match o.op with
  | .load _ _ | .store _ _ _ | .fieldAddr _ _ _ | .indexAddr _ _ _ | .move _ | .assign _ => true
  | _ => false

def handsOn : Result Next → Bool
  | .ok (.value _) _ => true
  | .ok .skip _ => true
  | .halt _ _ => true
  | _ => false

theorem upon_in {o : Oper} {F : Fence} {n : Nat} {a : Act} {K : Act → World → Prop} {Q : Exit → Act → World → Prop} {r : Result Next} (hr : handsOn r = true) (h : Oper.upon Try.prog o a K Q r) : Oper.uponIn F n Try.prog o a K Q r := by
  cases r with
  | ok x w => cases x <;> first | exact h | cases hr
  | halt x w => cases x <;> exact h

theorem hands_value (s : Sem Value) (w : World) : handsOn ((do let x ← s; pure (Next.value x) : Sem Next).run Try.prog w) = true := by
  rw [Sem.run_bind]
  cases s.run Try.prog w <;> rfl
theorem hands_skip (s : Sem Unit) (w : World) : handsOn ((do s; pure Next.skip : Sem Next).run Try.prog w) = true := by
  rw [Sem.run_bind]
  cases s.run Try.prog w <;> rfl

theorem plain_hands {o : Oper} (h : plainOp o = true) (ρ : Operand → Value) (w : World) : handsOn ((execOp ρ o).run Try.prog w) = true := by
  obtain ⟨dst, op, type, pos, after, guard⟩ := o
  unfold plainOp at h
  dsimp only at h
  split at h
  · exact hands_value _ w
  · exact hands_skip _ w
  · exact hands_value _ w
  · exact hands_value _ w
  · rfl
  · rfl
  · cases h
theorem plain_about {o : Oper} (h : plainOp o = true) (ρ : Operand → Value) (w : World) : o.about Try.prog w ρ = none := by
  obtain ⟨dst, op, type, pos, after, guard⟩ := o
  unfold plainOp at h
  dsimp only at h
  split at h <;> first | rfl | cases h
theorem plain_sem {o : Oper} (h : plainOp o = true) (F : Fence) (ρ : Operand → Value) : o.semAt F.round ρ = execOp ρ o := by
  refine Oper.semAt_plain F ρ o fun c hc => ?_
  unfold plainOp at h
  rw [hc] at h
  cases h
theorem plain_in {o : Oper} (h : plainOp o = true) {F : Fence} {n : Nat} {a : Act} {w : World} {K : Act → World → Prop} {Q : Exit → Act → World → Prop} (hw : o.wp Try.prog a w K Q) : o.wpIn F n Try.prog a w K Q := by
  unfold Oper.wpIn
  refine ⟨fun f hf => (by rw [plain_about h] at hf; cases hf), ?_⟩
  rw [plain_sem h F]
  exact upon_in (plain_hands h _ w) hw
theorem op_in {ops : Array Oper} (hp : ∀ (i : Nat) (o : Oper), ops[i]? = some o → plainOp o = true) {F : Fence} {n i : Nat} {a : Act} {w : World} {K K' : Act → World → Prop} {Q : Exit → Act → World → Prop} (hQ : ¬ LetsOut Q) (hK : ∀ a w, K a w → K' a w) (h : wpOp Try.prog ops Q i K a w) : wpOpIn F n Try.prog ops Q i K' a w := by
  unfold wpOpIn
  unfold wpOp at h
  split
  · rename_i ho; rw [ho] at h; exact hK _ _ h
  · rename_i o ho
    rw [ho] at h
    dsimp only at h
    split
    · rename_i hw
      rw [if_pos hw] at h
      exact Oper.wpIn_mono hK (plain_in (hp i o ho) (h.resolve_right fun h => hQ h.2))
    · rename_i hw
      rw [if_neg hw] at h
      exact ⟨fun f hf => (by rw [plain_about (hp i o ho)] at hf; cases hf), hK _ _ h⟩
theorem any_in {ops : Array Oper} (hp : ∀ (i : Nat) (o : Oper), ops[i]? = some o → plainOp o = true) {md : Region.Mode} {F : Fence} {n : Nat} {Q : Exit → Act → World → Prop} (hQ : ¬ LetsOut Q) : ∀ (fuel : Nat) (listed : Array Bool) (a : Act) (w : World), wpAny Try.prog md ops Q fuel listed a w → wpAnyIn F n Try.prog md ops Q fuel listed a w
  | 0, _, _, _, h => h
  | fuel + 1, listed, a, w, h => ⟨h.1, fun i hi => op_in hp hQ (fun a w h => any_in hp hQ fuel _ a w h) (h.2 i hi)⟩

/-- A region of plain operations that draws its order, wherever it stands: what S says holds behind each of them. -/
theorem region_round {l : List Oper} {id : Nat} {F : Fence} {n : Nat} {a : Act} {w : World} {Q : Exit → Act → World → Prop} (S : World → Prop) (hp : l.all plainOp = true) (hm : Try.prog.follows .mixedOrders = true) (hQ : ¬ LetsOut Q)
    (h : wpAnyH Try.prog .any l.toArray Q S l.length (Array.replicate l.length false) a w.drew) : (Code.region id l.toArray true).wpIn F n Try.prog Q a w := by
  refine wpIn_region_any hm (any_in (fun i o ho => ?_) hQ _ _ _ _ (wpAny_of_held _ _ _ _ h))
  rw [List.getElem?_toArray] at ho
  exact List.all_eq_true.1 hp o (List.mem_of_getElem? ho)

/-- An operation is taken first. -/
theorem drop_get9 {l : List Oper} {i : Nat} {oi : Oper} {rest : List Oper} (h : l.drop i = oi :: rest) : l.toArray[i]? = some oi := by
  have e : (l.drop i)[0]? = l[i + 0]? := List.getElem?_drop
  rw [h] at e
  rw [List.getElem?_toArray]
  exact e.symm

theorem tku {P : Program} {l : List Oper} {Q : Exit → Act → World → Prop} {md : Region.Mode} {S : World → Prop} (i : Nat) {oi : Oper} {rest : List Oper} {fuel : Nat} {listed : Array Bool} {a : Act} {w : World} (hi : l.drop i = oi :: rest)
    (hc : (Region.noSelect l.toArray && Region.free md l.toArray listed i && (Region.ready md l.toArray listed).contains i) = true) (hw : Region.wanted oi (yielded l.toArray a.tmps) = false) (hS : S w)
    (hQ : ∀ c a w, Q (.panic c) (a.put oi.dst undef) w → Q (.panic c) a w) (h : wpAnyH P md l.toArray Q S fuel (listed.setIfInBounds i true) (a.put oi.dst undef) w) : wpAnyH P md l.toArray Q S (fuel + 1) listed a w := by
  rw [Bool.and_eq_true, Bool.and_eq_true] at hc
  exact wpAnyH_take (drop_get9 hi) hc.1.1 hc.1.2 hc.2 hQ (Or.inr ⟨hw, rfl⟩) hS h

theorem tkw {P : Program} {l : List Oper} {Q : Exit → Act → World → Prop} {md : Region.Mode} {S : World → Prop} (i : Nat) {oi : Oper} {rest : List Oper} {v : Value} {fuel : Nat} {listed : Array Bool} {a : Act} {w : World} (hi : l.drop i = oi :: rest)
    (hc : (Region.noSelect l.toArray && Region.free md l.toArray listed i && (Region.ready md l.toArray listed).contains i) = true) (hw : Region.wanted oi (yielded l.toArray a.tmps) = true) (hS : S w)
    (hQ : ∀ c a w, Q (.panic c) (a.put oi.dst v) w → Q (.panic c) a w) (hy : ∀ w, S w → (execOp a.eval oi).run P w = .ok (.value v) w) (h : wpAnyH P md l.toArray Q S fuel (listed.setIfInBounds i true) (a.put oi.dst v) w) : wpAnyH P md l.toArray Q S (fuel + 1) listed a w := by
  rw [Bool.and_eq_true, Bool.and_eq_true] at hc
  exact wpAnyH_take (drop_get9 hi) hc.1.1 hc.1.2 hc.2 hQ (Or.inl ⟨hw, hy⟩) hS h

/-- A region that only reads in its first k operations, and then goes on in one order; a world that has drawn once more. -/
theorem any_tail {l : List Oper} {Q : Exit → Act → World → Prop} {a : Act} {w : World} (k : Nat) (hB : Region.lexTailB .any l.toArray k = true)
    (h : wpStill Try.prog l.toArray w (fun a' => wpList Try.prog l.toArray Q (l.drop k) a' w) (l.take k) a) : wpAny Try.prog .any l.toArray Q l.length (Array.replicate l.length false) a w := by
  simp only [Region.lexTailB, Bool.and_eq_true, decide_eq_true_eq] at hB
  have hk : k < l.length := by simpa using hB.1.1.1.2
  have ht : (l.take k).length = k := by rw [List.length_take]; omega
  have hd : (l.drop k).length = l.toArray.size - k := by rw [List.length_drop, List.size_toArray]
  have hi : HeadInv .any l.toArray k (Array.replicate l.toArray.size false) := ⟨Array.size_replicate, fun j oj _ hl => (by rw [getD_replicate_false] at hl; cases hl), fun t _ h => getD_in (by rw [Array.size_replicate]; exact h) (getD_replicate_false _ _)⟩
  have H := wpAnyL_lex (md := .any) (g := l.toArray.size - k) hB.1.1.1.1 hB.1.1.2 hB.1.2 hB.1.1.1.2 (l.take k) 0 _ a (fun j hj => by
    rw [ht] at hj
    rw [List.getElem?_take_of_lt hj, List.getElem?_toArray, Nat.zero_add]) (by rw [Nat.zero_add]; exact ht) hi (by rw [ht]; exact hB.2) h
  have G := wpAny_of_head (Q' := Q) (g := l.toArray.size - k) (fun listed a' hL => by
    have := wpAny_of_seq (md := .any) (Q' := Q) (l.drop k) k listed a' w (fun j => by rw [List.getElem?_drop, List.getElem?_toArray]) (by rw [hd]; exact hL.1) hL.2
    rwa [hd] at this) _ _ _ H
  rw [ht, show k + (l.toArray.size - k) = l.length by rw [List.size_toArray]; omega, List.size_toArray] at G
  exact G
theorem tail_round {l : List Oper} {id : Nat} {F : Fence} {n : Nat} {a : Act} {w : World} {Q : Exit → Act → World → Prop} (k : Nat) (hp : l.all plainOp = true) (hm : Try.prog.follows .mixedOrders = true) (hB : Region.lexTailB .any l.toArray k = true) (hQ : ¬ LetsOut Q)
    (h : wpStill Try.prog l.toArray w.drew (fun a' => wpList Try.prog l.toArray Q (l.drop k) a' w.drew) (l.take k) a) : (Code.region id l.toArray true).wpIn F n Try.prog Q a w := by
  refine wpIn_region_any hm (any_in (fun i o ho => ?_) hQ _ _ _ _ (any_tail k hB h))
  rw [List.getElem?_toArray] at ho
  exact List.all_eq_true.1 hp o (List.mem_of_getElem? ho)
/-- A whole row, loaded without a change of the world. -/
theorem still_ld {o : Oper} {a : Act} {w : World} {K : Act → Prop} (ty : TypeId) (x : Operand) (ho : o.op = .load ty x) {g : Nat} (hx : a.eval x = .pointer (some ⟨g, 0, none⟩)) {v : Value} (hr : (loadVar ty ⟨g, 0, none⟩).run Try.prog w = .ok v w) (hk : K (a.put o.dst v)) : o.still Try.prog a w K := by
  unfold Oper.still execOp
  simp only [ho, hx, Instr.loadAt, Instr.sureAddr, Sem.run_bind, Sem.run_pure, Result.andThen_ok, hr]
  rw [Oper.stillUpon_value]
  exact hk
theorem still_want {ops : Array Oper} {w : World} {Q : Act → Prop} {o : Oper} {rest : List Oper} {a : Act} (hgd : o.guard = none) (h : ∀ K : Act → Prop, (∀ a, wpStill Try.prog ops w Q rest a → K a) → o.still Try.prog a w K) : wpStill Try.prog ops w Q (o :: rest) a :=
  wpStill_step fun K hK => by simp only [Region.wanted, hgd, if_true]; exact h K hK

/-- A loop of at most m rounds: what holds when so many are still to come. -/
theorem wpIn_loop_num {F : Fence} {n : Nat} {Q : Exit → Act → World → Prop} {a : Act} {w : World} {c : Code} (I : Nat → Act → World → Prop) (m : Nat) (h0 : I m a w) (hz : ∀ a w, ¬ I 0 a w)
    (round : ∀ m a w, I (m + 1) a w → c.wpIn F n Try.prog (Exit.then (I m) Q) a w) : (Code.loop c).wpIn F n Try.prog Q a w := by
  refine wpIn_loop_rounds m ?_
  have key : ∀ m a w, I m a w → Code.roundsIn F n Try.prog c Q m a w := by
    intro m
    induction m with
    | zero => exact fun a w h => (hz a w h).elim
    | succ m ih =>
      intro a w h
      rw [roundsIn_succ]
      refine wpIn_mono (round m a w h) fun e a' w' he => ?_
      cases e with
      | normal => exact ih a' w' he
      | exit id => exact he
      | goto l => exact he
      | ret => exact he
      | panic c => exact he
      | outgrown => exact he
  exact key m a w h0
end Go.Proofs.Ytncnpodanlhdkaa
