/-
  Whole rows inside a fence.
-/
import Derived.Test.YtncnpodanlhdkaaWNet
import Derived.OwnWalkIn
import Derived.WalkMore
import Derived.ControlIn
import Derived.AtR
namespace Go.Proofs.Ytncnpodanlhdkaa
set_option linter.all false
open Go.RowKit

/-- A whole row out of a block and into one, inside a fence; hr is what the load or the store makes. -/
theorem ldI {ops : Array Oper} {rest : List Oper} {o : Oper} {a : Act} {Q : Exit → Act → World → Prop} {F : Fence} {n : Nat} {W : World} (ty : TypeId) (x : Operand) (hgd : o.guard = none) (ho : o.op = .load ty x) {g : Nat} {v : Value} (hx : a.eval x = .pointer (some ⟨g, 0, none⟩))
    (hr : (loadVar ty ⟨g, 0, none⟩).run Try.prog W = .ok v W) (h : wpListIn F n Try.prog ops Q rest (a.put o.dst v) W) : wpListIn F n Try.prog ops Q (o :: rest) a W := by
  refine wpListIn_plain hgd fun K hK => ?_
  unfold Oper.wpIn
  refine ⟨?_, ?_⟩
  · simp [Oper.about, ho]
  · rw [Oper.semAt_plain F _ _ (by rw [ho]; intro c hc; cases hc)]
    simp only [execOp, ho, hx, Instr.loadAt, Instr.sureAddr, Sem.run_bind, Sem.run_pure, Result.andThen_ok, hr]
    exact hK _ _ h
theorem stI {ops : Array Oper} {rest : List Oper} {o : Oper} {a : Act} {Q : Exit → Act → World → Prop} {F : Fence} {n : Nat} {W W' : World} (ty : TypeId) (x y : Operand) (hgd : o.guard = none) (ho : o.op = .store ty x y) {g : Nat} {v : Value} (hx : a.eval x = .pointer (some ⟨g, 0, none⟩)) (hy : a.eval y = v)
    (hr : (storeVar ty ⟨g, 0, none⟩ v).run Try.prog W = .ok () W') (h : wpListIn F n Try.prog ops Q rest (a.put o.dst undef) W') : wpListIn F n Try.prog ops Q (o :: rest) a W := by
  refine wpListIn_plain hgd fun K hK => ?_
  unfold Oper.wpIn
  refine ⟨?_, ?_⟩
  · simp [Oper.about, ho]
  · rw [Oper.semAt_plain F _ _ (by rw [ho]; intro c hc; cases hc)]
    simp only [execOp, ho, hx, hy, Instr.storeAt, Instr.sureAddr, Sem.run_bind, Sem.run_pure, Result.andThen_ok, hr]
    exact hK _ _ h
theorem put_bal (w : World) {g : Nat} {old l : List Int} {t : TypeId} (hg : Blk w g (ints old) t) (h0 : old.length = 34) (hs : l.length = 34) : (storeVar 94 ⟨g, 0, none⟩ (.agg (ints l))).run Try.prog w = .ok () (w.setRow g (ints l)) :=
  run_storeVar_row w g t 94 _ _ hg (by rw [ints_size, hs]; exact info_bal) (by rw [ints_size, ints_size, hs, h0]) (ints_one l)
theorem put_marks (w : World) {g : Nat} {old l : List Bool} {t : TypeId} (hg : Blk w g (bools old) t) (h0 : old.length = 34) (hs : l.length = 34) : (storeVar 85 ⟨g, 0, none⟩ (.agg (bools l))).run Try.prog w = .ok () (w.setRow g (bools l)) :=
  run_storeVar_row w g t 85 _ _ hg (by rw [bools_size, hs]; exact info_marks) (by rw [bools_size, bools_size, hs, h0]) (bools_one l)
/-- A row that was made last and is stored anew. -/
theorem row_new (w : World) (cs cs' : Array Value) (t : TypeId) : (w.alloc (.cells cs t)).setRow w.heap.size cs' = w.alloc (.cells cs' t) := World.setRow_alloc_new w cs cs' t
theorem put_marks_new (w : World) {old l : List Bool} {t : TypeId} (h0 : old.length = 34) (hs : l.length = 34) {g : Nat} (hg : g = w.heap.size) : (storeVar 85 ⟨g, 0, none⟩ (.agg (bools l))).run Try.prog (w.alloc (.cells (bools old) t)) = .ok () (w.alloc (.cells (bools l) t)) := by
  subst hg
  rw [put_marks _ (Blk.new w _ t) h0 hs, row_new]
theorem put_bal_new (w : World) {old l : List Int} {t : TypeId} (h0 : old.length = 34) (hs : l.length = 34) {g : Nat} (hg : g = w.heap.size) : (storeVar 94 ⟨g, 0, none⟩ (.agg (ints l))).run Try.prog (w.alloc (.cells (ints old) t)) = .ok () (w.alloc (.cells (ints l) t)) := by
  subst hg
  rw [put_bal _ (Blk.new w _ t) h0 hs, row_new]

/-- A scope whose labels nobody jumps to, inside a fence. -/
theorem stepR_scope {b : Frame} {a : Act} {k : List Item} {cs : List Frame} {w : World} {c : Code} : step Try.prog (lone (b.atR a (.code (.scope c) :: k)) cs w) = .next (lone (b.atR a (.code c :: .inScope c :: k)) cs w) :=
  step_lone_go (by simp [stepG, stepG.exec, Frame.atR])
theorem stepR_inScope {b : Frame} {a : Act} {k : List Item} {cs : List Frame} {w : World} {c : Code} : step Try.prog (lone (b.atR a (.inScope c :: k)) cs w) = .next (lone (b.atR a k) cs w) :=
  step_lone_go (by simp [stepG, stepG.exec, Frame.atR])
theorem wpIn_scope {Q : Exit → Act → World → Prop} {a : Act} {w : World} {F : Fence} {n : Nat} {c : Code} (h : c.wpIn F n Try.prog (Exit.noGoto Q) a w) : (Code.scope c).wpIn F n Try.prog Q a w := by
  intro b k cs hro hb hr
  have h0 : (lone (b.atR a (.code (.scope c) :: k)) cs w).fenced Try.prog F := fenced_calm hb hr rfl
  obtain ⟨e, a₁, w₁, hq, harr⟩ := h b (.inScope c :: k) cs hro hb hr
  cases e with
  | normal => exact ⟨.normal, a₁, w₁, hq, .head h0 stepR_scope (StepsIn.trans harr (.one (fenced_calm hb hr rfl) stepR_inScope))⟩
  | exit id =>
    have hx : exitTo id (.inScope c :: k) = exitTo id k := by simp [exitTo]
    exact ⟨.exit id, a₁, w₁, hq, fun k' hk => .head h0 stepR_scope (harr.1 k' (by rw [hx]; exact hk)),
      fun hr' hk => let ⟨k₁, h1, h2⟩ := harr.2 hr' (by rw [hx]; exact hk); ⟨k₁, h1, .head h0 stepR_scope h2⟩⟩
  | goto l => exact hq.elim
  | ret => exact ⟨_, a₁, w₁, hq, .of_steps (.one h0 stepR_scope) harr⟩
  | panic ch => exact ⟨_, a₁, w₁, hq, .of_steps (.one h0 stepR_scope) harr⟩
  | outgrown => exact ⟨_, a₁, w₁, hq, .of_steps (.one h0 stepR_scope) harr⟩
end Go.Proofs.Ytncnpodanlhdkaa
