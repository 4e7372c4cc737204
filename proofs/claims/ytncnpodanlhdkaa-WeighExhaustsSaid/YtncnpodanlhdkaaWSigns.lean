/-
  signs: which nodes have too much, and which too little.
-/
import Derived.Test.YtncnpodanlhdkaaWBase
namespace Go.Proofs.Ytncnpodanlhdkaa
set_option linter.all false
open Go.RowKit

def over (l : List Int) : List Bool := l.map fun x => decide (0 < x)
def under (l : List Int) : List Bool := l.map fun x => decide (x < 0)
/-- The first k of marks, the others not marked. -/
def upTo (k : Nat) (m : List Bool) : List Bool := m.take k ++ noM.drop k

theorem upTo_len {k : Nat} {m : List Bool} (hm : m.length = 34) (hk : k ≤ 34) : (upTo k m).length = 34 := by
  unfold upTo
  rw [List.length_append, List.length_take, List.length_drop, noM_len]
  omega
theorem upTo_get {k : Nat} {m : List Bool} (hm : m.length = 34) (hk : k < 34) : (upTo k m)[k]? = some false := by
  unfold upTo
  rw [List.getElem?_append_right (by rw [List.length_take]; omega), List.length_take, List.getElem?_drop]
  unfold noM
  rw [List.getElem?_replicate, if_pos (by omega)]
theorem upTo_next {k : Nat} {m : List Bool} {b : Bool} (hm : m.length = 34) (hb : m[k]? = some b) : (upTo k m).set k b = upTo (k + 1) m := by
  have hk : k < m.length := (List.getElem?_eq_some_iff.1 hb).1
  unfold upTo
  rw [List.set_append_right _ _ (by rw [List.length_take]; omega), List.length_take, show k - min k m.length = 0 by omega]
  have e1 : noM.drop k = false :: noM.drop (k + 1) := by
    rw [List.drop_eq_getElem_cons (show k < noM.length by rw [noM_len]; omega)]
    unfold noM
    rw [List.getElem_replicate]
  have e2 : m.take (k + 1) = m.take k ++ [b] := by
    rw [List.take_add_one, hb]; rfl
  rw [e1, e2, List.set_cons_zero, List.append_assoc]; rfl
theorem upTo_all {m : List Bool} (hm : m.length = 34) : upTo 34 m = m := by
  unfold upTo
  rw [List.take_of_length_le (by omega), List.drop_of_length_le (by rw [noM_len]; omega), List.append_nil]
theorem upTo_zero (m : List Bool) : upTo 0 m = noM := rfl
theorem over_len {l : List Int} (h : l.length = 34) : (over l).length = 34 := by unfold over; rw [List.length_map, h]
theorem under_len {l : List Int} (h : l.length = 34) : (under l).length = 34 := by unfold under; rw [List.length_map, h]

set_option maxRecDepth 100000 in
set_option maxHeartbeats 2000000 in
theorem signs_any (l : List Int) (w : World) (hl : l.length = 34) :
    Calls Try.prog 92 #[.agg (ints l)] w fun e w' => e = .returned (.tuple #[.agg (bools (over l)), .agg (bools (under l))]) ∧ Below w.heap.size w w' := by
  have hz := (zero_of_info zero_marks).1
  have HB : Hid (Blk (((w.alloc (.cells (ints l) 94)).alloc (.cells (bools noM) 85)).alloc (.cells (bools noM) 85)) w.heap.size (ints l) 94) := hid (((Blk.new _ _ _).alloc _).alloc _)
  have HL := hid hl
  clear hl
  go_enter Try.func92, Try.ntmps92
  go_wp2_with (with_reducible refine ld_bal _ rfl rfl ?e1 HB.out HL.out ?_)
  case e1 => rfl
  go_loopw [7] (fun i wr => ∃ k : Nat, k ≤ 34 ∧ i = .int .i64 k ∧ Hid (Blk wr (w.heap.size + 1) (bools (upTo k (over l))) 85) ∧ Hid (Blk wr (w.heap.size + 1 + 1) (bools (upTo k (under l))) 85) ∧ Hid (Below w.heap.size w wr)) (fun i _ => 34 - (intOf i).toNat)
  case atStart => exact ⟨0, by omega, rfl, hid (Blk_new1 _ _ _ _ _), hid (Blk_new2 _ _ _ _ _), hid ((((Below.refl _ _).alloc (Nat.le_refl _) _).alloc (by simp) _).alloc (by simp; omega) _)⟩
  case round =>
    obtain ⟨k, hk, rfl, HO, HU, HBW⟩ := hrel
    by_cases hlt : k < 34
    · obtain ⟨x, hx⟩ : ∃ x, l[k]? = some x := ⟨l[k]'(by rw [HL.out]; exact hlt), List.getElem?_eq_getElem _⟩
      have HX := hid hx
      have c1 := HO.out.cell (bools_get (upTo_get (over_len HL.out) hlt))
      have c2 := HU.out.cell (bools_get (upTo_get (under_len HL.out) hlt))
      have f1 := HO.out.froz k
      have f2 := HU.out.froz k
      have HN1 : Hid ((over l)[k]? = some (decide (0 < x))) := hid (by unfold over; rw [List.getElem?_map, hx]; rfl)
      have HN2 : Hid ((under l)[k]? = some (decide (x < 0))) := hid (by unfold under; rw [List.getElem?_map, hx]; rfl)
      clear hx
      go_wp2_with (with_reducible refine ix_bal _ _ rfl rfl ?e1 ?e2 hlt HX.out ?_)
      case e1 => rfl
      case e2 => rfl
      go_roundw
      case rel => exact ⟨k + 1, by omega, by go_num, hid (by rw [← upTo_next (over_len HL.out) HN1.out, ← bools_set]; exact (HO.out.set k _).setOther k _ (by omega)), hid (by rw [← upTo_next (under_len HL.out) HN2.out, ← bools_set]; exact (HU.out.setOther k _ (by omega)).set k _), hid ((HBW.out.setCell (by simp) _).setCell (by simp; omega) _)⟩
      case measure => simp [intOf]; omega
    · obtain rfl : k = 34 := by omega
      rw [upTo_all (over_len HL.out)] at HO
      rw [upTo_all (under_len HL.out)] at HU
      have HI1 : Hid ((Try.prog.info? 85).map (·.size) = some (bools (over l)).size) := hid (by rw [bools_size, over_len HL.out]; exact info_marks)
      have HI2 : Hid ((Try.prog.info? 85).map (·.size) = some (bools (under l)).size) := hid (by rw [bools_size, under_len HL.out]; exact info_marks)
      go_wp2_with fail
      refine wp_region_quiet_lit (by kernel_rfl) (by kernel_rfl) ?_
      refine BigFrame.wpQuiet_want rfl fun K hK => quiet_ld 85 _ rfl rfl (fun w' hw' => by obtain ⟨n, rfl⟩ := hw'; exact run_marks _ (HO.out.drewN n) (over_len HL.out)) (hK _ ?_)
      clear hK K
      refine BigFrame.wpQuiet_want rfl fun K hK => quiet_ld 85 _ rfl rfl (fun w' hw' => by obtain ⟨n, rfl⟩ := hw'; exact run_marks _ (HU.out.drewN n) (under_len HL.out)) (hK _ ?_)
      clear hK K
      refine BigFrame.wpQuiet_want rfl fun K hK => quiet_st 85 _ _ rfl rfl rfl (fun w' hw' => by obtain ⟨n, rfl⟩ := hw'; exact HO.out.drewN n) HI1.out (bools_one _) (hK _ ?_)
      clear hK K
      refine BigFrame.wpQuiet_want rfl fun K hK => quiet_st 85 _ _ rfl rfl rfl (fun w' hw' => by obtain ⟨n, rfl⟩ := hw'; exact HU.out.drewN n) HI2.out (bools_one _) (hK _ ?_)
      clear hK K
      refine wpQuiet_nil ?_
      rintro w' ⟨n, rfl⟩
      go_wp2_with fail
      have r1 := run_marks _ (HO.out.drewN n) (over_len HL.out)
      have r2 := run_marks _ (HU.out.drewN n) (under_len HL.out)
      refine bodyPost_ret (v := .tuple #[.agg (bools (over l)), .agg (bools (under l))]) ?_ rfl ⟨rfl, ?_⟩
      · simp [results, Try.results92, asAddr, Act.put, r1, r2]
      · exact HBW.out.trans ⟨rfl, rfl, rfl, Nat.le_refl _, fun _ _ => rfl⟩
end Go.Proofs.Ytncnpodanlhdkaa
