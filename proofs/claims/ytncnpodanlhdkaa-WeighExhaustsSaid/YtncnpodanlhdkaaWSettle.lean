/-
  settle: the masses made an assignment.
-/
import Derived.Test.YtncnpodanlhdkaaWBal
import Derived.ChangeKeysEq
namespace Go.Proofs.Ytncnpodanlhdkaa
set_option linter.all false
open Go.RowKit

/-- Nothing is left. -/
def nil (l : List Int) : Bool := (List.range 34).all fun i => l.getD i 0 == noB.getD i 0
theorem part_ints (w : World) {l : List Int} {i : Nat} (hi : i < l.length) : (part 3 (ints l) (i * Try.prog.cellsOf 3)).run Try.prog w = .ok (.int .i64 (l.getD i 0)) w := by
  have hc : Try.prog.cellsOf 3 = 1 := by kernel_rfl
  have hg : (ints l)[i]? = some (.int .i64 (l.getD i 0)) := ints_get (by rw [List.getD_eq_getElem?_getD, List.getElem?_eq_getElem hi]; rfl)
  rw [hc, Nat.mul_one]
  simp [part, go_sem, hg]
theorem eq_items (w : World) {l l' : List Int} (hl : l.length = 34) (hl' : l'.length = 34) : ∀ is : List Nat, (∀ i ∈ is, i < 34) →
    (Op.eqItems 9999 3 (Try.prog.cellsOf 3) (ints l) (ints l') is).run Try.prog w = .ok (is.all fun i => l.getD i 0 == l'.getD i 0) w
  | [], _ => by simp [Op.eqItems]
  | i :: is, h => by
    have hi := h i (List.mem_cons_self ..)
    have hu : Try.prog.underlying 3 = some (.int .i64) := by kernel_rfl
    simp only [Op.eqItems, Sem.run_bind, part_ints w (show i < l.length by omega), part_ints w (show i < l'.length by omega), Result.andThen_ok, run_equalIn_int w 9998 3 .i64 .i64 _ _ hu, List.all_cons]
    cases hb : (l.getD i 0 == l'.getD i 0)
    · simp
    · have := eq_items w hl hl' is fun j hj => h j (List.mem_cons_of_mem _ hj)
      simpa using this
theorem eq_bal (w : World) {l l' : List Int} (hl : l.length = 34) (hl' : l'.length = 34) : (Op.equalIn 10000 94 (.agg (ints l)) (.agg (ints l'))).run Try.prog w = .ok ((List.range 34).all fun i => l.getD i 0 == l'.getD i 0) w := by
  obtain ⟨i, hi⟩ := info_of_underlying (show Try.prog.underlying 3 = some (.int .i64) by kernel_rfl)
  have hu : Try.prog.underlying 94 = some (.array 34 3) := by kernel_rfl
  exact (run_equalIn_array w 9999 (ints l) (ints l') hu hi).trans (eq_items w hl hl' _ fun i h => by simpa using h)
theorem even_len : ∀ {k : Nat} {N N' : Net} {l l' : List Int} {mk : List Bool}, evenF k N l = some (N', l', mk) → l'.length = 34 ∧ mk.length = 34
  | 0, _, _, _, _, _, h => by cases h
  | k + 1, _, _, _, _, _, h => by
    obtain ⟨_, _, hl, p, mk1, hw, hr⟩ := even_turn h
    rcases hr with ⟨_, _, rfl, rfl⟩ | ⟨_, _, _, _, _, _, _, _, _, _, _, h'⟩
    · exact ⟨hl, wayF_len (over_len hl) hw⟩
    · exact even_len h'

set_option maxRecDepth 100000 in
set_option maxHeartbeats 20000000 in
theorem settle_any (base a g c k : Nat) (N N' : Net) (vs : List Value) (b l' : List Int) (mk : List Bool) (W : World) (hnet : NetIn base W a N (.slice (some ⟨g, 0, none⟩) N.arcs.length c) vs) (hb : balF N.arcs noB = some b) (hk : evenF k N b = some (N', l', mk)) :
    Calls Try.prog 61 #[.pointer (some ⟨a, 0, none⟩)] W fun e W' => e = .returned (.tuple #[.bool (nil l'), .agg (bools mk)]) ∧ NetIn base W' a N' (.slice (some ⟨g, 0, none⟩) N.arcs.length c) vs ∧ W.grownBy W' (some g) := by
  have hz := (zero_of_info zero_marks).1
  have hz2 := (zero_of_info zero_bal).1
  have hok : N.Ok ∧ b.length = 34 := by
    cases k with
    | zero => cases hk
    | succ k => exact ⟨(even_turn hk).1, (even_turn hk).2.2.1⟩
  obtain ⟨hl1, hl2⟩ := even_len hk
  have hlow := hnet.below hok.1.len
  have hb0 : Below W.heap.size W (W.alloc (.cells (bools noM) 85)) := (Below.refl _ _).alloc (Nat.le_refl _) _
  have HM0 := hid (Blk.new W (bools noM) 85)
  have hnet1 := hnet.later hb0
  have HC1 := hid (balance_any base a N _ vs b _ hnet1 hok.1 hb)
  have HNET := hid hnet1
  have HL1 := hid hl1
  have HL2 := hid hl2
  have HLOW := hid hlow
  have HB0 := hid hb0
  have HOK := hid hok.2
  have HK := hid hk
  clear hnet hb hk hok hl1 hl2 hlow hb0 hnet1
  go_enter Try.func61, Try.ntmps61
  go_wp2_with fail
  refine HC1.out.mono ?_
  rintro e w1 ⟨rfl, hb1⟩
  have HNET1 := hid (HNET.out.later hb1)
  have HM1 := hid (HM0.out.later hb1 HM0.out.lt)
  have HB1 := hid (HB0.out.trans (hb1.mono (by simp)))
  have HC2 := hid (even_any base a g c k N N' vs b l' mk w1 HNET1.out HOK.out HK.out)
  clear hb1 HC1
  go_wp2_with fail
  refine HC2.out.mono ?_
  rintro e w2 ⟨rfl, hnet2, hg2⟩
  obtain ⟨w3, hw3⟩ : ∃ w3, w3 = (w2.alloc (.cells (ints noB) 94)).alloc (.cells (bools noM) 85) := ⟨_, rfl⟩
  have hgl := HLOW.out.2.1 g rfl
  have hm2 : Blk w2 W.heap.size (bools noM) 85 := (hg2.block _ HM1.out.lt (fun e => by have h : W.heap.size = g := Option.some.inj e; omega)).trans HM1.out
  have hm3 : Blk w3 W.heap.size (bools noM) 85 := by rw [hw3]; exact (hm2.alloc _).alloc _
  have R1 : Hid ((storeVar 94 ⟨w2.heap.size, 0, none⟩ (.agg (ints l'))).run Try.prog w3 = .ok () (w3.setRow w2.heap.size (ints l'))) := hid (put_bal w3 (by rw [hw3]; exact Blk_new01 _ _ _ _) noB_len HL1.out)
  have R2 : Hid ((storeVar 85 ⟨w2.heap.size + 1, 0, none⟩ (.agg (bools mk))).run Try.prog (w3.setRow w2.heap.size (ints l')) = .ok () ((w3.setRow w2.heap.size (ints l')).setRow (w2.heap.size + 1) (bools mk))) := hid (put_marks _ (by rw [hw3]; exact (Blk_new11 _ _ _ _).rowOther _ (by omega)) noM_len HL2.out)
  have HW3 := hid hw3
  have HM2 := hid hm2
  have HM3 := hid hm3
  have HNET2 := hid hnet2
  have HG2 := hid hg2
  clear hw3 hm2 hm3 hnet2 hg2 HC2
  go_wp2_with (first | (rw [← HW3.out]; with_reducible refine stP 94 _ _ rfl rfl ?e1 ?e2 R1.out ?_) | (with_reducible refine stP 85 _ _ rfl rfl ?e3 ?e4 R2.out ?_))
  case e1 => rfl
  case e2 => rfl
  try (case e3 => rfl)
  try (case e4 => rfl)
  obtain ⟨w4, hw4⟩ : ∃ w4, w4 = ((w3.setRow w2.heap.size (ints l')).setRow (w2.heap.size + 1) (bools mk)).drew := ⟨_, rfl⟩
  have hle : W.heap.size < w2.heap.size := HM2.out.lt
  have hA : Blk w4 w2.heap.size (ints l') 94 := by
    rw [hw4]
    exact ((Blk.row (by rw [HW3.out]; exact Blk_new01 _ _ _ _ : Blk w3 w2.heap.size (ints noB) 94) (ints l')).rowOther _ (by omega)).drew
  have hBm : Blk w4 (w2.heap.size + 1) (bools mk) 85 := by
    rw [hw4]
    exact (Blk.row ((by rw [HW3.out]; exact Blk_new11 _ _ _ _ : Blk w3 (w2.heap.size + 1) (bools noM) 85).rowOther _ (by omega)) (bools mk)).drew
  have hC : Blk w4 W.heap.size (bools noM) 85 := by
    rw [hw4]
    exact ((HM3.out.rowOther _ (by omega)).rowOther _ (by omega)).drew
  have hbel : Below W.heap.size w2 w4 := by
    rw [hw4, HW3.out]
    exact (below_setRow (below_setRow (((Below.refl _ _).alloc (by omega) _).alloc (by simp; omega) _) (by omega) _) (by omega) _).drew
  have HA := hid hA
  have HBm := hid hBm
  have HC := hid hC
  have HBEL := hid (below_setRow hbel (g := W.heap.size) (Nat.le_refl _) (bools mk))
  have HQ : Hid (∀ w : World, (Op.equalIn 10000 94 (.agg (ints l')) (.agg (ints noB))).run Try.prog w = .ok (nil l') w) := hid (fun w => eq_bal w HL1.out noB_len)
  have HW4 := hid hw4
  clear hA hBm hC hbel hw4 hgl
  refine region_held (fun w' => Blk w' w2.heap.size (ints l') 94 ∧ Blk w' (w2.heap.size + 1) (bools mk) 85) (by kernel_rfl) ?_
  rw [← HW4.out]
  clear HW4
  refine' tkw 0 (v := .agg (ints l')) rfl (by kernel_rfl) (by kernel_rfl) ⟨HA.out, HBm.out⟩ (fun _ _ _ h => h) (fun w' hS => yield_ld 94 _ rfl rfl (run_bal w' hS.1 HL1.out)) ?_
  refine' tkw 1 (v := .agg (ints noB)) rfl (by kernel_rfl) (by kernel_rfl) ⟨HA.out, HBm.out⟩ (fun _ _ _ h => h) (fun w' hS => ?_) ?_
  · clear hS
    go_simp
  refine' tkw 2 (v := .bool (nil l')) rfl (by kernel_rfl) (by kernel_rfl) ⟨HA.out, HBm.out⟩ (fun _ _ _ h => h) (fun w' hS => ?_) ?_
  · clear hS
    have hq := HQ.out w'
    try simp only [Act.put, List.setIfInBounds_toArray, List.set_cons_zero, List.set_cons_succ]
    go_simp
  refine' tkw 3 (v := .agg (bools mk)) rfl (by kernel_rfl) (by kernel_rfl) ⟨HA.out, HBm.out⟩ (fun _ _ _ h => h) (fun w' hS => yield_ld 85 _ rfl rfl (run_marks w' hS.2 HL2.out)) ?_
  refine' tkw 4 (v := .bool (nil l')) rfl (by kernel_rfl) (by kernel_rfl) ⟨HA.out, HBm.out⟩ (fun _ _ _ h => h) (fun w' hS => by clear hS; go_simp; (try with_reducible rfl)) ?_
  try simp only [Act.put, List.setIfInBounds_toArray, List.set_cons_zero, List.set_cons_succ]
  refine wpAnyH_ready (rs := [5]) (by kernel_rfl) (by simp) ?_
  refine AllReadyH.cons rfl (fun K hK => ?_) AllReadyH.nil
  refine ready_st 85 _ _ rfl rfl rfl rfl (put_marks _ HC.out noM_len HL2.out) ?_
  refine hK.out _ _ ⟨HA.out.rowOther _ (by omega), HBm.out.rowOther _ (by omega)⟩ (fun _ => ?_)
  clear hK
  refine wpAnyH_done (by kernel_rfl) ?_ _
  have HR := hid (run_marks _ (HC.out.row (bools mk)) HL2.out)
  go_wp2_with fail
  refine bodyPost_ret (v := .tuple #[.bool (nil l'), .agg (bools mk)]) ?_ rfl ⟨rfl, HNET2.out.kept HLOW.out HBEL.out, ?_⟩
  · simp [results, Try.results61, asAddr, Act.put, HR.out]
  · have hb1 : W.grownBy w1 (some g) := grown_below HB1.out _
    exact grown_kept (grown_trans hb1 HG2.out) HBEL.out
end Go.Proofs.Ytncnpodanlhdkaa
