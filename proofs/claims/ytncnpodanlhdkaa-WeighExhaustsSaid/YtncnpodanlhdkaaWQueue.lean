/-
  A queue of nodes: a slice in memory of the call's own, cut at its head and appended to at its end.
-/
import Derived.Test.YtncnpodanlhdkaaWNet
import Derived.ArgAppend
import Derived.OwnWalkIn
namespace Go.Proofs.Ytncnpodanlhdkaa
set_option linter.all false
open Go.RowKit

/-- The slice v holds the nodes l; from its address on, as far as its capacity, its cells may be written. -/
def QAt (base : Nat) (W : World) (v : Value) (l : List Nat) : Prop :=
  (l = [] ∧ v = .slice none 0 0) ∨ ∃ g o c, v = .slice (some ⟨g, o, none⟩) l.length c ∧ base ≤ g ∧ (∃ cs, Blk W g cs 3) ∧ l.length ≤ c ∧ c ≤ maxLen ∧
    (∀ (j i : Nat), l[j]? = some i → W.cell? ⟨g, o + j, none⟩ = some (.int .i64 (i : Int))) ∧ ∀ j, j < c → (W.cell? ⟨g, o + j, none⟩).isSome = true ∧ W.frozen? ⟨g, o + j, none⟩ = false

theorem QAt.nil (base : Nat) (W : World) : QAt base W (.slice none 0 0) [] := .inl ⟨rfl, rfl⟩
theorem QAt.kept {base : Nat} {W W' : World} {v : Value} {l : List Nat} {row : Option Nat} (h : QAt base W v l) (hg : W.grownBy W' row) (hr : ∀ k, v.ownBlock = some k → row ≠ some k) : QAt base W' v l := by
  rcases h with h | ⟨g, o, c, rfl, h1, h2, h3, h4, h5, h6⟩
  · exact .inl h
  · have hne : row ≠ some g := hr g rfl
    obtain ⟨cs, h2⟩ := h2
    have hb := hg.block g h2.lt (Ne.symm hne)
    refine .inr ⟨g, o, c, rfl, h1, ⟨cs, hb.trans h2⟩, h3, h4, fun j i hj => ?_, fun j hj => ?_⟩
    · rw [World.cell?_of_block (w := W) hb]; exact h5 j i hj
    · rw [World.cell?_of_block (w := W) hb, World.frozen?_of_block (w := W) hb]; exact h6 j hj
theorem QAt.blk {base : Nat} {W : World} {v : Value} {l : List Nat} (h : QAt base W v l) : ∀ k, v.ownBlock = some k → ∃ cs, Blk W k cs 3 := by
  intro k hk
  rcases h with ⟨_, rfl⟩ | ⟨g, o, c, rfl, h1, h2, _⟩
  · cases hk
  · cases hk; exact h2
theorem QAt.lt {base : Nat} {W : World} {v : Value} {l : List Nat} (h : QAt base W v l) : ∀ k, v.ownBlock = some k → base ≤ k ∧ k < W.heap.size := by
  intro k hk
  rcases h with ⟨_, rfl⟩ | ⟨g, o, c, rfl, h1, h2, _⟩
  · cases hk
  · obtain ⟨cs, h2⟩ := h2
    cases hk; exact ⟨h1, h2.lt⟩

theorem QAt.form {base : Nat} {W : World} {v : Value} {l : List Nat} (h : QAt base W v l) : ∃ p m c, v = .slice p m c := by
  rcases h with ⟨_, rfl⟩ | ⟨g, o, c, rfl, _⟩
  · exact ⟨_, _, _, rfl⟩
  · exact ⟨_, _, _, rfl⟩

theorem QAt.shape {base : Nat} {W : World} {v : Value} {l : List Nat} (h : QAt base W v l) : ∃ p c, v = .slice p l.length c := by
  rcases h with ⟨rfl, rfl⟩ | ⟨g, o, c, rfl, _⟩
  · exact ⟨_, _, rfl⟩
  · exact ⟨_, _, rfl⟩
/-- The head of a queue, and what is left behind it. -/
theorem QAt.head {base : Nat} {W : World} {v : Value} {x : Nat} {l : List Nat} (h : QAt base W v (x :: l)) : ∃ g o c, v = .slice (some ⟨g, o, none⟩) (l.length + 1) c ∧ l.length + 1 ≤ c ∧ c ≤ maxLen ∧ W.cell? ⟨g, o, none⟩ = some (.int .i64 (x : Int)) ∧
    (c = 1 → QAt base W (.slice (some ⟨g, o, none⟩) 0 0) l) ∧ (1 < c → QAt base W (.slice (some ⟨g, o + 1, none⟩) l.length (c - 1)) l) := by
  rcases h with ⟨h, _⟩ | ⟨g, o, c, rfl, h1, h2, h3, h4, h5, h6⟩
  · cases h
  · simp only [List.length_cons] at h3
    refine ⟨g, o, c, rfl, h3, h4, by have := h5 0 x rfl; rwa [Nat.add_zero] at this, fun hc => ?_, fun hc => ?_⟩
    · have hl : l = [] := List.length_eq_zero_iff.1 (by omega)
      subst hl
      exact .inr ⟨g, o, 0, rfl, h1, h2, Nat.le_refl _, by decide, fun j i hj => by simp at hj, fun j hj => by omega⟩
    · refine .inr ⟨g, o + 1, c - 1, rfl, h1, h2, by omega, by omega, fun j i hj => ?_, fun j hj => ?_⟩
      · rw [show o + 1 + j = o + (j + 1) by omega]; exact h5 (j + 1) i (by simpa using hj)
      · rw [show o + 1 + j = o + (j + 1) by omega]; exact h6 (j + 1) (by omega)

theorem q_of_own {base : Nat} {W : World} {v : Value} {l : List Nat} (h : W.ownsRow base 3 1 v l.length (natC l)) : QAt base W v l := by
  obtain ⟨h3, h4⟩ := h
  rcases h4 with ⟨rfl, h4⟩ | ⟨g, c, cur, rfl, h5, h6, h7, h8, h9⟩
  · exact .inl ⟨List.length_eq_zero_iff.1 h4, rfl⟩
  · have ho : W.ownsRow base 3 1 (.slice (some ⟨g, 0, none⟩) l.length c) l.length (natC l) := ⟨h3, .inr ⟨g, c, cur, rfl, h5, h6, h7, h8, h9⟩⟩
    refine .inr ⟨g, 0, c, rfl, h5, ⟨cur, h6⟩, h7, h8, fun j i hj => ?_, fun j hj => ⟨?_, ho.frozenAt _⟩⟩
    · have hjl : j < l.length := (List.getElem?_eq_some_iff.1 hj).1
      rw [Nat.zero_add, ho.cellAt j (by omega)]
      unfold natC
      rw [List.getElem?_map, hj]; rfl
    · rw [Nat.zero_add, cell_of_row W g j cur _ (0, 0) h6, Array.getElem?_eq_getElem (by rw [h9.1]; omega)]
      rfl

theorem natC_append (l m : List Nat) : natC (l ++ m) = natC l ++ natC m := List.map_append
theorem natC_len (l : List Nat) : (natC l).length = l.length := List.length_map _

/-- What an append of one node makes. -/
theorem q_run {base : Nat} {W : World} {v : Value} {l : List Nat} (ty : TypeId) (h : QAt base W v l) (hb : base ≤ W.heap.size) (hl : l.length ≤ 1000) (ad : Addr) (c : Nat) (i : Nat) (hi : W.cell? ad = some (.int .i64 (i : Int))) :
    ∃ v' W', (Builtin.append_ #[36, 36] ty #[v, .slice (some ad) 1 c]).run Try.prog W = .ok v' W' ∧ QAt base W' v' (l ++ [i]) ∧ W.grownBy W' v.ownBlock ∧ (∀ k, v'.ownBlock = some k → v.ownBlock = some k ∨ W.heap.size ≤ k) ∧ v'.cells.size = 1 := by
  obtain ⟨i0, hi0, hz0, hz1, hz2⟩ := info_parts (show (Try.prog.info? 3).map (fun i => (i.zero, i.size, i.bytes)) = some (some (.int .i64 0), 1, 8) by kernel_rfl)
  have hu : Try.prog.underlying 36 = some (.slice 3) := by kernel_rfl
  have hnews : ∀ (j : Nat) (u : Value), [Value.int .i64 (i : Int)][j]? = some u → W.cell? (ad.add j) = some u := fun j u hj => by
    match j, hj with
    | 0, hj => cases hj; rw [show ad.add 0 = ad by unfold Addr.add; split <;> simp_all]; exact hi
  have h1 : ∀ u ∈ [Value.int .i64 (i : Int)], u.oneCell' = true := fun u hu => by simp at hu; subst hu; rfl
  rcases h with ⟨rfl, rfl⟩ | ⟨g, o, cc, rfl, h1', h2, h3, h4, h5, h6⟩
  · obtain ⟨v', w', hrun, r1, r2, r3⟩ := run_append_own (P := Try.prog) W W.heap.size 36 ty 3 i0 (.int .i64 0) 1 8 hu hi0 hz0 hz1 hz2 rfl (by decide) (.slice none 0 0) 0 [] (World.ownsRow_nil W _ _ 1) ad 1 c [.int .i64 (i : Int)] rfl hnews h1 (by decide) (by decide) (Nat.le_refl _)
    refine ⟨v', w', hrun, ?_, r2, fun k hk => .inr (r1.lt k hk).1, ?_⟩
    · rcases q_of_own (l := [i]) r1 with ⟨q0, _⟩ | ⟨g', o', c', q1, q2, q3⟩
      · cases q0
      · exact .inr ⟨g', o', c', q1, Nat.le_trans hb q2, q3⟩
    · rcases r1.2 with ⟨rfl, h0⟩ | ⟨g', c', cur', rfl, q1, q2, _⟩ <;> rfl
  · by_cases hr : l.length + 1 ≤ cc
    · have hrun := run_append_room_cells (P := Try.prog) W 36 ty 3 i0 hu hi0 g o l.length cc ad 1 c [.int .i64 (i : Int)] (by rw [hz1]; rfl) hnews h1 hr
        (fun j hj => by simp at hj; subst hj; rw [hz1, Nat.mul_one, Nat.add_zero]; exact (h6 l.length (by omega)).1) (fun j hj => by simp at hj; subst hj; rw [hz1, Nat.mul_one, Nat.add_zero]; exact (h6 l.length (by omega)).2)
      rw [hz1, Nat.mul_one] at hrun
      have hcell := (h6 l.length (by omega)).1
      have hgb : W.grownBy (W.setCell ⟨g, o + l.length, none⟩ (.int .i64 (i : Int))) (some g) := ⟨rfl, rfl, rfl, by rw [World.size_setCell]; exact Nat.le_refl _, fun k hk hne => Below.heap_setCell _ _ _ _ (fun e => hne (by rw [e]))⟩
      refine ⟨_, _, hrun, .inr ⟨g, o, cc, by rw [List.length_append]; rfl, h1', (by obtain ⟨cs, h2⟩ := h2; exact ⟨_, h2.set (o + l.length) _⟩), by rw [List.length_append]; exact hr, h4, fun j x hj => ?_, fun j hj => ?_⟩, hgb, fun k hk => .inl hk, rfl⟩
      · show (W.setCell ⟨g, o + l.length, none⟩ _).cell? ⟨g, o + j, none⟩ = _
        rcases Nat.lt_or_ge j l.length with hlt | hge
        · rw [List.getElem?_append_left hlt] at hj
          rw [World.cell?_setCell_other _ _ _ _ (by intro e; injection e with _ e; omega)]
          exact h5 j x hj
        · rw [List.getElem?_append_right hge] at hj
          have hj0 : j - l.length = 0 := by
            rcases Nat.eq_zero_or_pos (j - l.length) with e | e
            · exact e
            · rw [List.getElem?_eq_none (by simp; omega)] at hj; cases hj
          rw [hj0] at hj
          cases hj
          rw [show j = l.length by omega]
          obtain ⟨u, hu'⟩ := Option.isSome_iff_exists.1 hcell
          exact World.cell?_setCell_same _ _ _ hu'
      · show ((W.setCell ⟨g, o + l.length, none⟩ _).cell? ⟨g, o + j, none⟩).isSome = true ∧ (W.setCell ⟨g, o + l.length, none⟩ _).frozen? ⟨g, o + j, none⟩ = false
        rw [World.frozen?_setCell]
        refine ⟨?_, (h6 j hj).2⟩
        by_cases e : j = l.length
        · subst e
          obtain ⟨u, hu'⟩ := Option.isSome_iff_exists.1 hcell
          rw [World.cell?_setCell_same _ _ _ hu']; rfl
        · rw [World.cell?_setCell_other _ _ _ _ (by intro e'; injection e' with _ e'; omega)]
          exact (h6 j hj).1
    · obtain ⟨v', w', hrun, r1, r2⟩ := run_append_arg_grows (P := Try.prog) W 36 ty 3 i0 (.int .i64 0) 1 8 hu hi0 hz0 hz1 hz2 rfl (by decide) ⟨g, o, none⟩ l.length cc (natC l) (by rw [natC_len, Nat.mul_one])
        (fun j u hj => by
          rw [Addr.add_lit]
          unfold natC at hj
          rw [List.getElem?_map] at hj
          cases hq : l[j]? with
          | none => rw [hq] at hj; cases hj
          | some x => rw [hq] at hj; cases hj; exact h5 j x hq) ad 1 c [.int .i64 (i : Int)] rfl hnews (by omega) (by unfold maxLen; omega) (by omega)
      have r1' : w'.ownsRow W.heap.size 3 1 v' (l ++ [i]).length (natC (l ++ [i])) := by
        rw [List.length_append, natC_append]; exact r1
      have hq := q_of_own r1'
      refine ⟨v', w', hrun, ?_, ⟨r2.os, r2.tape, r2.output, r2.size, fun k hk _ => r2.block k hk (by simp)⟩, fun k hk => .inr (r1'.lt k hk).1, ?_⟩
      · rcases hq with ⟨q0, _⟩ | ⟨g', o', c', q1, q2, q3⟩
        · simp at q0
        · exact .inr ⟨g', o', c', q1, Nat.le_trans hb q2, q3⟩
      · rcases r1.2 with ⟨rfl, h0⟩ | ⟨g', c', cur', rfl, q1, q2, _⟩ <;> rfl

theorem q_app {ops : Array Oper} {rest : List Oper} {o : Oper} {a : Act} {Q : Exit → Act → World → Prop} {F : Fence} {n : Nat} {W : World} (s x : Operand) (hgd : o.guard = none)
    (ho : o.op = .call { callee := .builtin .append, args := #[s, x], argTypes := #[36, 36] }) {base : Nat} {v : Value} {l : List Nat} {ad : Addr} {c i : Nat} (hs : a.eval s = v) (hx : a.eval x = .slice (some ad) 1 c) (hq : QAt base W v l) (hb : base ≤ W.heap.size) (hl : l.length ≤ 1000) (hi : W.cell? ad = some (.int .i64 (i : Int)))
    (h : ∀ p m' c' W', Hid (QAt base W' (.slice p m' c') (l ++ [i])) → Hid (W.grownBy W' v.ownBlock) → Hid (∀ k, (Value.slice p m' c').ownBlock = some k → v.ownBlock = some k ∨ W.heap.size ≤ k) → wpListIn F n Try.prog ops Q rest (a.put o.dst (.slice p m' c')) W') : wpListIn F n Try.prog ops Q (o :: rest) a W := by
  refine wpListIn_plain hgd fun K hK => ?_
  obtain ⟨v', W', hrun, r1, r2, r3, r4⟩ := q_run o.type hq hb hl ad c i hi
  unfold Oper.wpIn
  refine ⟨?_, ?_⟩
  · simp [Oper.about, ho, resolve, Target.leads, Sem.run_pure]
  · rw [Oper.semAt_plain F _ _ (by rw [ho]; intro c hc; cases hc)]
    simp [execOp, ho, resolve, invoke, builtin, hs, hx, hrun, Result.andThen]
    rcases r1.form with ⟨p, m', c', rfl⟩
    exact hK _ _ (h p m' c' W' r1 r2 r3)
end Go.Proofs.Ytncnpodanlhdkaa
