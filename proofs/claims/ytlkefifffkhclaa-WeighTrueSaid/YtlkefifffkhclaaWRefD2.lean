/-
  The reference's Drift, and the program's errors of it.
-/
import Derived.Test.YtlkefifffkhclaaWRefD
import Derived.Test.YtlkefifffkhclaaWLNets
namespace Go.Proofs.Ytlkefifffkhclaa
set_option linter.all false
open Go.RowKit

set_option maxRecDepth 100000 in
set_option maxHeartbeats 4000000 in
theorem drift_err1 (l : List Int) (b a : Int × Int) (v : Value) (W : World) (hl : SlcIn W v l.length (l.map (Value.int .i64))) (h1 : shownErr l ≠ 0) :
    Calls Try.prog 21 #[v, .agg #[.int .i64 b.1, .int .i64 b.2], .agg #[.int .i64 a.1, .int .i64 a.2]] W (Ret (.tuple #[.slice none 0 0, .int .i64 (shownErr l)]) W) := by
  obtain ⟨w1, hw1⟩ : ∃ w1, w1 = (W.alloc (.cells #[.int .i64 b.1, .int .i64 b.2] 23)).alloc (.cells #[.int .i64 a.1, .int .i64 a.2] 23) := ⟨_, rfl⟩
  have hb1 : Below W.heap.size W w1 := by rw [hw1]; exact (below_new W _).alloc (by simp) _
  have HSH := hid (shown_any l _ w1 (hl.later hb1))
  obtain ⟨x, hx⟩ : ∃ x, x = shownErr l := ⟨_, rfl⟩
  rw [← hx] at HSH h1 ⊢
  have hz : (x == 0) = false := by simpa using h1
  have hz2 : (x != 0) = true := by simpa using h1
  have HB1 := hid hb1
  have HW1 := hid hw1
  clear hx h1 hl hw1 hb1
  go_enter Try.func21, Try.ntmps21
  go_wp2_with (first | (rw [← HW1.out]) | (go_at_call 43; (with_reducible refine HSH.out.mono ?_); rintro e w3 ⟨rfl, rfl⟩))
  go_ret2
  exact ⟨rfl, HB1.out⟩
set_option maxRecDepth 100000 in
set_option maxHeartbeats 4000000 in
theorem drift_err2 (l : List Int) (bl bh al ah : Int) (v : Value) (W : World) (hl : SlcIn W v l.length (l.map (Value.int .i64))) (h1 : shownErr l = 0) (h2 : eachErr rangeErr [(bl, bh), (al, ah)] ≠ 0) :
    Calls Try.prog 21 #[v, .agg #[.int .i64 bl, .int .i64 bh], .agg #[.int .i64 al, .int .i64 ah]] W (Ret (.tuple #[.slice none 0 0, .int .i64 (eachErr rangeErr [(bl, bh), (al, ah)])]) W) := by
  obtain ⟨w1, hw1⟩ : ∃ w1, w1 = (W.alloc (.cells #[.int .i64 bl, .int .i64 bh] 23)).alloc (.cells #[.int .i64 al, .int .i64 ah] 23) := ⟨_, rfl⟩
  have hb1 : Below W.heap.size W w1 := by rw [hw1]; exact (below_new W _).alloc (by simp) _
  have hA : Blk w1 W.heap.size #[.int .i64 bl, .int .i64 bh] 23 := by rw [hw1]; exact (Blk.new W _ _).alloc _
  have hB : Blk w1 (W.heap.size + 1) #[.int .i64 al, .int .i64 ah] 23 := by rw [hw1]; exact Blk_newn _ _ _ (by simp)
  obtain ⟨w2, hw2⟩ : ∃ w2, w2 = w1.alloc (.cells #[.int .i64 bl, .int .i64 bh, .int .i64 al, .int .i64 ah] 23) := ⟨_, rfl⟩
  have hb2 : Below w1.heap.size w1 w2 := by rw [hw2]; exact below_new w1 _
  have HC := hid (each_range [(bl, bh), (al, ah)] (.slice (some ⟨w1.heap.size, 0, none⟩) 2 2) w2 (by rw [hw2]; exact slc_new w1 [.int .i64 bl, .int .i64 bh, .int .i64 al, .int .i64 ah] _ 2 (by decide)))
  have HSH := hid (shown_any l _ w1 (hl.later hb1))
  rw [h1] at HSH
  obtain ⟨x, hx⟩ : ∃ x, x = eachErr rangeErr [(bl, bh), (al, ah)] := ⟨_, rfl⟩
  rw [← hx] at HC h2 ⊢
  have hz : (x == 0) = false := by simpa using h2
  have hz2 : (x != 0) = true := by simpa using h2
  have HB2 := hid (hb1.trans (hb2.mono hb1.size))
  have a0 := hA.cell (i := 0) rfl
  have a1 := hA.cell (i := 1) rfl
  have b0 := hB.cell (i := 0) rfl
  have b1 := hB.cell (i := 1) rfl
  have HW1 := hid hw1
  have HW2 := hid hw2
  clear hx h1 h2 hl hw1 hb1 hw2 hb2 hA hB
  go_enter Try.func21, Try.ntmps21
  go_wp2_with (first | (rw [← HW1.out]) | (rw [← HW2.out]) | (go_at_call 43; (with_reducible refine HSH.out.mono ?_); rintro e w3 ⟨rfl, rfl⟩) | (go_at_call 36; (with_reducible refine HC.out.mono ?_); rintro e w3 ⟨rfl, hb⟩; have HB3 := hid (HB2.out.trans (hb.mono HB2.out.size)); clear hb))
  go_ret2
  exact ⟨rfl, HB3.out⟩

theorem dRg_le (l : List Int) (bl bh al ah : Int) (k : Nat) (hk : k < l.length) (hb : bl ≤ bh) (ha : al ≤ ah) : (dRg l (bl, bh) (al, ah) k).1 ≤ (dRg l (bl, bh) (al, ah) k).2 := by
  unfold dRg
  dsimp only
  have hn : (0 : Int) < (l.length : Int) + 1 := by omega
  have h1 : bl * ((l.length : Int) + 1 - ((k : Int) + 1)) ≤ bh * ((l.length : Int) + 1 - ((k : Int) + 1)) := Int.mul_le_mul_of_nonneg_right hb (by omega)
  have h2 : al * ((k : Int) + 1) ≤ ah * ((k : Int) + 1) := Int.mul_le_mul_of_nonneg_right ha (by omega)
  obtain ⟨X, hX⟩ : ∃ X, X = l.getD k 0 * ((l.length : Int) + 1) := ⟨_, rfl⟩
  obtain ⟨P, hP⟩ : ∃ P, P = bl * ((l.length : Int) + 1 - ((k : Int) + 1)) + al * ((k : Int) + 1) := ⟨_, rfl⟩
  obtain ⟨Q, hQ⟩ : ∃ Q, Q = bh * ((l.length : Int) + 1 - ((k : Int) + 1)) + ah * ((k : Int) + 1) := ⟨_, rfl⟩
  rw [← hX, ← hP, ← hQ]
  have hPQ : P ≤ Q := by omega
  clear hX hP hQ h1 h2
  have h3 : (X - Q) / ((l.length : Int) + 1) ≤ (X - P) / ((l.length : Int) + 1) := Int.ediv_le_ediv hn (by omega)
  have h4 : (X - P) / ((l.length : Int) + 1) ≤ -((-(X - P)) / ((l.length : Int) + 1)) := by
    have h5 := Int.ediv_mul_le (X - P) (show (l.length : Int) + 1 ≠ 0 by omega)
    have h6 := Int.ediv_mul_le (-(X - P)) (show (l.length : Int) + 1 ≠ 0 by omega)
    have h7 : ((X - P) / ((l.length : Int) + 1) + (-(X - P)) / ((l.length : Int) + 1)) * ((l.length : Int) + 1) ≤ 0 := by
      rw [Int.add_mul]; omega
    have h8 : (X - P) / ((l.length : Int) + 1) + (-(X - P)) / ((l.length : Int) + 1) ≤ 0 := by
      rcases Int.lt_or_le 0 ((X - P) / ((l.length : Int) + 1) + (-(X - P)) / ((l.length : Int) + 1)) with h9 | h9
      · have h10 := Int.mul_pos h9 hn
        omega
      · exact h9
    omega
  omega

set_option maxRecDepth 100000 in
set_option maxHeartbeats 8000000 in
theorem refDrift_any (l : List Int) (bl bh al ah : Int) (v : Value) (W : World) (hl : SlcIn W v l.length (l.map (Value.int .i64))) (h1 : shownErr l = 0) (hb1 : rangeErr bl bh = 0) (ha1 : rangeErr al ah = 0) :
    Calls Try.prog 24 #[v, .agg #[.int .i64 bl, .int .i64 bh], .agg #[.int .i64 al, .int .i64 ah]] W (OwnPost W 23 2 l.length ((driftL l (bl, bh) (al, ah) l.length).flatMap rgC)) := by
  obtain ⟨i0, g0, g1, g2, g3⟩ := info_parts info_rg
  have HI : Hid (Try.prog.info? 23 = some i0 ∧ i0.zero = some (.agg #[.int .i64 0, .int .i64 0]) ∧ i0.size = 2 ∧ i0.bytes = 16) := hid ⟨g0, g1, g2, g3⟩
  clear g0 g1 g2 g3
  obtain ⟨p, c, rfl, hm⟩ := hl.shape
  obtain ⟨n, hn⟩ : ∃ n, n = l.length := ⟨_, rfl⟩
  obtain ⟨w1, hw1⟩ : ∃ w1, w1 = (W.alloc (.cells #[.int .i64 bl, .int .i64 bh] 23)).alloc (.cells #[.int .i64 al, .int .i64 ah] 23) := ⟨_, rfl⟩
  have hb1' : Below W.heap.size W w1 := by rw [hw1]; exact (below_new W _).alloc (by simp) _
  have hA : Blk w1 W.heap.size #[.int .i64 bl, .int .i64 bh] 23 := by rw [hw1]; exact (Blk.new W _ _).alloc _
  have hB : Blk w1 (W.heap.size + 1) #[.int .i64 al, .int .i64 ah] 23 := by rw [hw1]; exact Blk_newn _ _ _ (by simp)
  have hm2 : 1 ≤ n ∧ n ≤ 256 := by
    rw [hn]
    unfold shownErr at h1
    split at h1
    · cases h1
    · split at h1
      · cases h1
      · omega
  obtain ⟨hn1, hn2⟩ := hm2
  have HX : Hid (∀ (i : Nat) (x : Int), l[i]? = some x → 0 ≤ x ∧ x ≤ 999999999) := hid (by
    intro i x hx
    unfold shownErr at h1
    split at h1
    · cases h1
    · split at h1
      · cases h1
      · split at h1
        · cases h1
        · rename_i h3
          rw [Bool.not_eq_true, List.any_eq_false] at h3
          have := h3 x (List.mem_of_getElem? hx)
          unfold badM at this
          simp at this
          omega)
  obtain ⟨m1, m2, m3⟩ := range_ok hb1
  obtain ⟨m4, m5, m6⟩ := range_ok ha1
  have hL := hl.later hb1'
  rw [← hn] at hL ⊢
  have HL := hid hL
  have HN := hid hn
  have HA1 := hid hA
  have HBB1 := hid hB
  have HB1 := hid hb1'
  have HW1 := hid hw1
  have HS1 : Hid (W.heap.size + 1 < w1.heap.size) := hid hB.lt
  clear hl hn hw1 hb1' hA hB h1 hb1 ha1 hm hL
  go_enter Try.func24, Try.ntmps24
  go_wp2_with (rw [← HW1.out])
  go_loopw [7, 9] (fun v u wr => ∃ k : Nat, k ≤ n ∧ u = .int .i64 ((k : Int) + 1) ∧ Hid (wr.ownsRow w1.heap.size 23 2 v k ((driftL l (bl, bh) (al, ah) k).flatMap rgC)) ∧ Hid (Below w1.heap.size w1 wr)) (fun _ u _ => n + 1 - (intOf u).toNat)
  case atStart => exact ⟨0, Nat.zero_le _, rfl, hid (World.ownsRow_nil _ _ _ _), hid (Below.refl _ _)⟩
  case round =>
    obtain ⟨k, hk, rfl, HO, HB⟩ := hrel
    obtain ⟨pv, cv, rfl⟩ := row_slice HO.out
    by_cases hlt : k < n
    · obtain ⟨x, hx⟩ : ∃ x, l[k]? = some x := ⟨_, List.getElem?_eq_getElem (by rw [← HN.out]; exact hlt)⟩
      have hw := HL.out.later HB.out
      rw [HN.out] at hw
      obtain ⟨g, o, c', hv, r0, _⟩ := int_at hw hx
      injection hv with e1 e2 e3
      subst e1
      obtain ⟨x1, x2⟩ := HX.out k x hx
      have HA4 := hid (HA1.out.later HB.out HA1.out.lt)
      have HBB4 := hid (HBB1.out.later HB.out HBB1.out.lt)
      have c0 := HA4.out.cell (i := 0) rfl
      have c1 := HA4.out.cell (i := 1) rfl
      have d0 := HBB4.out.cell (i := 0) rfl
      have d1 := HBB4.out.cell (i := 1) rfl
      have hgx : l.getD k 0 = x := by rw [List.getD_eq_getElem?_getD, hx]; rfl
      obtain ⟨p1, p2⟩ := prod_bd (x := bl) (y := (n : Int) + 1 - ((k : Int) + 1)) (by omega) (by omega) (by omega) (by omega)
      obtain ⟨p3, p4⟩ := prod_bd (x := bh) (y := (n : Int) + 1 - ((k : Int) + 1)) (by omega) (by omega) (by omega) (by omega)
      obtain ⟨p5, p6⟩ := prod_bd (x := al) (y := (k : Int) + 1) (by omega) (by omega) (by omega) (by omega)
      obtain ⟨p7, p8⟩ := prod_bd (x := ah) (y := (k : Int) + 1) (by omega) (by omega) (by omega) (by omega)
      obtain ⟨p9, p10⟩ := prod_bd (x := x) (y := (n : Int) + 1) (by omega) (by omega) (by omega) (by omega)
      have HFL := hid (fun w => refFloor_any (x * ((n : Int) + 1) - (bh * ((n : Int) + 1 - ((k : Int) + 1)) + ah * ((k : Int) + 1))) ((n : Int) + 1) w (by omega) (by omega) (by omega) (by omega))
      have HCL := hid (fun w => refFloor_any (bl * ((n : Int) + 1 - ((k : Int) + 1)) + al * ((k : Int) + 1) - x * ((n : Int) + 1)) ((n : Int) + 1) w (by omega) (by omega) (by omega) (by omega))
      have hqb := fdiv_bd (bl * ((n : Int) + 1 - ((k : Int) + 1)) + al * ((k : Int) + 1) - x * ((n : Int) + 1)) ((n : Int) + 1) (by omega) (by omega) (by omega)
      obtain ⟨lo, hlo⟩ : ∃ lo, lo = (x * ((n : Int) + 1) - (bh * ((n : Int) + 1 - ((k : Int) + 1)) + ah * ((k : Int) + 1))) / ((n : Int) + 1) := ⟨_, rfl⟩
      obtain ⟨q, hq⟩ : ∃ q, q = (bl * ((n : Int) + 1 - ((k : Int) + 1)) + al * ((k : Int) + 1) - x * ((n : Int) + 1)) / ((n : Int) + 1) := ⟨_, rfl⟩
      have HDR : Hid (dRg l (bl, bh) (al, ah) k = (lo, -q)) := hid (by
        rw [hlo, hq]
        unfold dRg
        rw [hgx, ← HN.out]
        dsimp only
        rw [show -(x * ((n : Int) + 1) - (bl * ((n : Int) + 1 - ((k : Int) + 1)) + al * ((k : Int) + 1))) = bl * ((n : Int) + 1 - ((k : Int) + 1)) + al * ((k : Int) + 1) - x * ((n : Int) + 1) by omega])
      rw [← hlo] at HFL
      rw [← hq] at HCL hqb
      obtain ⟨q1, q2⟩ := hqb
      have hwr : w1.heap.size ≤ wr.heap.size := HB.out.size
      have HG1 : Hid (w1.cell? ⟨g, o + k, none⟩ = some (.int .i64 x)) := hid (by
        have h := HL.out
        rw [HN.out] at h
        obtain ⟨g9, o9, c9, hv9, r9, _⟩ := int_at h hx
        injection hv9 with i1 _ _
        injection i1 with i1
        injection i1 with i1 i2 _
        rw [i1, i2]
        exact r9)
      clear hw e2 e3 hx hlo hq hgx
      go_wp2_with fail
      have HSC : Hid (wr.drew.cell? ⟨g, o + k, none⟩ = some (.int .i64 x)) := hid r0
      refine region_held (fun w' => w'.cell? ⟨g, o + k, none⟩ = some (.int .i64 x)) (by kernel_rfl) ?_
      refine' tkw 0 (v := .slice pv k cv) rfl (by kernel_rfl) (by kernel_rfl) HSC.out (fun _ _ _ h => h) (fun w' hS => by clear hS; go_simp; (try with_reducible rfl); (try (rw [IntKind.wrap_i64]; omega))) ?_
      refine' tkw 1 (v := .slice (some ⟨g, o, none⟩) n c) rfl (by kernel_rfl) (by kernel_rfl) HSC.out (fun _ _ _ h => h) (fun w' hS => by clear hS; go_simp; (try with_reducible rfl); (try (rw [IntKind.wrap_i64]; omega))) ?_
      refine' tkw 2 (v := .int .i64 ((k : Int) + 1)) rfl (by kernel_rfl) (by kernel_rfl) HSC.out (fun _ _ _ h => h) (fun w' hS => by clear hS; go_simp; (try with_reducible rfl); (try (rw [IntKind.wrap_i64]; omega))) ?_
      refine' tkw 3 (v := .int .i64 k) rfl (by kernel_rfl) (by kernel_rfl) HSC.out (fun _ _ _ h => h) (fun w' hS => by clear hS; go_simp; (try with_reducible rfl); (try (rw [IntKind.wrap_i64]; omega))) ?_
      refine' tkw 4 (v := .pointer (some ⟨g, o + k, none⟩)) rfl (by kernel_rfl) (by kernel_rfl) HSC.out (fun _ _ _ h => h) (fun w' hS => by clear hS; go_simp; (try with_reducible rfl); (try (rw [IntKind.wrap_i64]; omega))) ?_
      refine' tkw 5 (v := .int .i64 x) rfl (by kernel_rfl) (by kernel_rfl) HSC.out (fun _ _ _ h => h) (fun w' hS => by have h1 := hS; clear hS; go_simp; (try with_reducible rfl); (try (rw [IntKind.wrap_i64]; omega))) ?_
      refine' tkw 6 (v := .int .i64 ((n : Int) + 1)) rfl (by kernel_rfl) (by kernel_rfl) HSC.out (fun _ _ _ h => h) (fun w' hS => by clear hS; go_simp; (try with_reducible rfl); (try (rw [IntKind.wrap_i64]; omega))) ?_
      refine' tkw 7 (v := .int .i64 (x * ((n : Int) + 1))) rfl (by kernel_rfl) (by kernel_rfl) HSC.out (fun _ _ _ h => h) (fun w' hS => by clear hS; go_simp; (try with_reducible rfl); (try (rw [IntKind.wrap_i64]; omega))) ?_
      refine' tkw 8 (v := .int .i64 (bh * ((n : Int) + 1 - ((k : Int) + 1)) + ah * ((k : Int) + 1))) rfl (by kernel_rfl) (by kernel_rfl) HSC.out (fun _ _ _ h => h) (fun w' hS => by clear hS; go_simp; (try with_reducible rfl); (try (rw [IntKind.wrap_i64]; omega))) ?_
      refine' tkw 9 (v := .int .i64 (x * ((n : Int) + 1) - (bh * ((n : Int) + 1 - ((k : Int) + 1)) + ah * ((k : Int) + 1)))) rfl (by kernel_rfl) (by kernel_rfl) HSC.out (fun _ _ _ h => h) (fun w' hS => by clear hS; go_simp; (try with_reducible rfl); (try (rw [IntKind.wrap_i64]; omega))) ?_
      refine' tkw 10 (v := .int .i64 ((n : Int) + 1)) rfl (by kernel_rfl) (by kernel_rfl) HSC.out (fun _ _ _ h => h) (fun w' hS => by clear hS; go_simp; (try with_reducible rfl); (try (rw [IntKind.wrap_i64]; omega))) ?_
      refine' tkw 12 (v := .int .i64 (bl * ((n : Int) + 1 - ((k : Int) + 1)) + al * ((k : Int) + 1))) rfl (by kernel_rfl) (by kernel_rfl) HSC.out (fun _ _ _ h => h) (fun w' hS => by clear hS; go_simp; (try with_reducible rfl); (try (rw [IntKind.wrap_i64]; omega))) ?_
      refine' tkw 13 (v := .slice (some ⟨g, o, none⟩) n c) rfl (by kernel_rfl) (by kernel_rfl) HSC.out (fun _ _ _ h => h) (fun w' hS => by clear hS; go_simp; (try with_reducible rfl); (try (rw [IntKind.wrap_i64]; omega))) ?_
      refine' tkw 14 (v := .int .i64 ((k : Int) + 1)) rfl (by kernel_rfl) (by kernel_rfl) HSC.out (fun _ _ _ h => h) (fun w' hS => by clear hS; go_simp; (try with_reducible rfl); (try (rw [IntKind.wrap_i64]; omega))) ?_
      refine' tkw 15 (v := .int .i64 k) rfl (by kernel_rfl) (by kernel_rfl) HSC.out (fun _ _ _ h => h) (fun w' hS => by clear hS; go_simp; (try with_reducible rfl); (try (rw [IntKind.wrap_i64]; omega))) ?_
      refine' tkw 16 (v := .pointer (some ⟨g, o + k, none⟩)) rfl (by kernel_rfl) (by kernel_rfl) HSC.out (fun _ _ _ h => h) (fun w' hS => by clear hS; go_simp; (try with_reducible rfl); (try (rw [IntKind.wrap_i64]; omega))) ?_
      refine' tkw 17 (v := .int .i64 x) rfl (by kernel_rfl) (by kernel_rfl) HSC.out (fun _ _ _ h => h) (fun w' hS => by have h1 := hS; clear hS; go_simp; (try with_reducible rfl); (try (rw [IntKind.wrap_i64]; omega))) ?_
      refine' tkw 18 (v := .int .i64 ((n : Int) + 1)) rfl (by kernel_rfl) (by kernel_rfl) HSC.out (fun _ _ _ h => h) (fun w' hS => by clear hS; go_simp; (try with_reducible rfl); (try (rw [IntKind.wrap_i64]; omega))) ?_
      refine' tkw 19 (v := .int .i64 (x * ((n : Int) + 1))) rfl (by kernel_rfl) (by kernel_rfl) HSC.out (fun _ _ _ h => h) (fun w' hS => by clear hS; go_simp; (try with_reducible rfl); (try (rw [IntKind.wrap_i64]; omega))) ?_
      refine' tkw 20 (v := .int .i64 (bl * ((n : Int) + 1 - ((k : Int) + 1)) + al * ((k : Int) + 1) - x * ((n : Int) + 1))) rfl (by kernel_rfl) (by kernel_rfl) HSC.out (fun _ _ _ h => h) (fun w' hS => by clear hS; go_simp; (try with_reducible rfl); (try (rw [IntKind.wrap_i64]; omega))) ?_
      refine' tkw 21 (v := .int .i64 ((n : Int) + 1)) rfl (by kernel_rfl) (by kernel_rfl) HSC.out (fun _ _ _ h => h) (fun w' hS => by clear hS; go_simp; (try with_reducible rfl); (try (rw [IntKind.wrap_i64]; omega))) ?_
      try simp only [Act.put, List.setIfInBounds_toArray, List.set_cons_zero, List.set_cons_succ]
      refine wpAnyH_ready (rs := [11]) (by kernel_rfl) (by simp) ?_
      refine AllReadyH.cons rfl (fun K hK => ?_) AllReadyH.nil
      go_simp
      refine (HFL.out _).mono ?_
      rintro e w4 ⟨rfl, hw4⟩
      rw [← hw4]
      clear hw4
      go_simp
      refine hK.out _ _ HSC.out (fun hHeld => ?_)
      clear hK hHeld
      refine wpAnyH_ready (rs := [22]) (by kernel_rfl) (by simp) ?_
      refine AllReadyH.cons rfl (fun K hK => ?_) AllReadyH.nil
      go_simp
      refine (HCL.out _).mono ?_
      rintro e w4 ⟨rfl, hw4⟩
      rw [← hw4]
      clear hw4
      go_simp
      refine hK.out _ _ HSC.out (fun hHeld => ?_)
      clear hK hHeld
      refine' tkw 23 (v := .int .i64 (-q)) rfl (by kernel_rfl) (by kernel_rfl) HSC.out (fun _ _ _ h => h) (fun w' hS => by clear hS; go_simp; (try with_reducible rfl); (try (rw [IntKind.wrap_i64]; omega))) ?_
      refine' tkw 24 (v := .agg #[.int .i64 lo, .int .i64 (-q)]) rfl (by kernel_rfl) (by kernel_rfl) HSC.out (fun _ _ _ h => h) (fun w' hS => by clear hS; go_simp; (try with_reducible rfl); (try (rw [IntKind.wrap_i64]; omega))) ?_
      try simp only [Act.put, List.setIfInBounds_toArray, List.set_cons_zero, List.set_cons_succ]
      refine wpAnyH_ready (rs := [25]) (by kernel_rfl) (by simp) ?_
      refine AllReadyH.cons rfl (fun K hK => ?_) AllReadyH.nil
      go_simp
      have HSC2 : Hid ((wr.alloc (.cells #[.int .i64 lo, .int .i64 (-q)] 23)).drew.cell? ⟨g, o + k, none⟩ = some (.int .i64 x)) := hid (((below_new wr _).cell (p := ⟨g, o + k, none⟩) (World.block_lt_of_cell? wr _ HSC.out)).trans HSC.out)
      have HO2 : Hid (World.ownsRow (wr.alloc (.cells #[.int .i64 lo, .int .i64 (-q)] 23)).drew w1.heap.size 23 2 (.slice pv k cv) k ((driftL l (bl, bh) (al, ah) k).flatMap rgC)) := hid (HO.out.alloc _).drew
      refine hK.out _ _ HSC2.out (fun hHeld => ?_)
      clear hK hHeld
      refine wpAnyH_ready (rs := [26]) (by kernel_rfl) (by simp) ?_
      refine AllReadyH.cons rfl (fun K hK => ?_) AllReadyH.nil
      refine step_own (by rfl) _ _ 24 23 i0 _ 2 16 (by rfl) (by kernel_rfl) HI.out.1 HI.out.2.1 HI.out.2.2.1 HI.out.2.2.2 rfl (by decide) (by rfl) HO2.out (by simp; omega) ⟨wr.heap.size, 0, none⟩ 1 1 [.int .i64 lo, .int .i64 (-q)] (by rfl) rfl (cells_new wr [.int .i64 lo, .int .i64 (-q)] 23) (by simp [Value.oneCell']) (by unfold maxLen; omega) (by omega) ?_
      intro v6 w6 ho6 hg6 hv6
      have HB6 := hid (HB.out.trans (((below_new wr (.cells #[.int .i64 lo, .int .i64 (-q)] 23)).drew.mono hwr).trans (grown_base HO2.out hg6 (by simp; omega))))
      have HO6 : Hid (w6.ownsRow w1.heap.size 23 2 v6 (k + 1) ((driftL l (bl, bh) (al, ah) (k + 1)).flatMap rgC)) := hid (by rw [drift_snoc, HDR.out, rg_snoc]; exact ho6)
      have HSC6 : Hid (w6.cell? ⟨g, o + k, none⟩ = some (.int .i64 x)) := hid (by
        have hgl := World.block_lt_of_cell? w1 _ HG1.out
        exact (HB6.out.cell (p := ⟨g, o + k, none⟩) hgl).trans HG1.out)
      clear ho6 hg6 hv6
      go_simp
      refine hK.out _ _ HSC6.out (fun hHeld => ?_)
      clear hK hHeld
      refine' tkw 27 (v := v6) rfl (by kernel_rfl) (by kernel_rfl) HSC6.out (fun _ _ _ h => h) (fun w' hS => by clear hS; go_simp; (try with_reducible rfl)) ?_
      try simp only [Act.put, List.setIfInBounds_toArray, List.set_cons_zero, List.set_cons_succ]
      refine wpAnyH_done (by kernel_rfl) ?_ _
      go_wp2_with fail
      go_roundw
      case rel => exact ⟨k + 1, by omega, by simp, HO6, HB6⟩
      case measure => simp [intOf]; omega
    · have hkn : k = n := by omega
      subst hkn
      go_wp2_with fail
      go_ret
      exact ⟨_, rfl, HO.out.mono (by have := HS1.out; omega), HB1.out.trans (HB.out.mono (by have := HS1.out; omega))⟩
end Go.Proofs.Ytlkefifffkhclaa
