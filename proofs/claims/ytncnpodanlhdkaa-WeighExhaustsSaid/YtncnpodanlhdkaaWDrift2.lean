/-
  Drift, whole.
-/
import Derived.Test.YtncnpodanlhdkaaWConf
import Derived.Test.YtncnpodanlhdkaaWTight
import Derived.Test.YtncnpodanlhdkaaWNetW
namespace Go.Proofs.Ytncnpodanlhdkaa
set_option linter.all false
open Go.RowKit

theorem floor_lo (a b : Int) (hb : 0 < b) (h : a.tmod b < 0) : a.tdiv b - 1 = a / b := by
  have h1 := Int.tmod_eq_emod (a := a) (b := b)
  have h2 := Int.tdiv_eq_ediv (a := a) (b := b)
  have h3 := Int.emod_nonneg a (show b ≠ 0 by omega)
  split at h1
  · omega
  · rename_i hc
    rw [if_neg hc] at h2
    rw [Int.sign_eq_one_of_pos hb] at h2
    omega
theorem floor_hi (a b : Int) (hb : 0 < b) (h : ¬ a.tmod b < 0) : a.tdiv b = a / b := by
  have h1 := Int.tmod_eq_emod (a := a) (b := b)
  have h2 := Int.tdiv_eq_ediv (a := a) (b := b)
  have h4 := Int.emod_lt_of_pos a hb
  split at h1
  · rename_i hc
    rw [if_pos hc] at h2
    omega
  · have : (b.natAbs : Int) = b := by omega
    omega
theorem tdiv_bd (a b : Int) (hb : 0 < b) : -a.natAbs ≤ a.tdiv b ∧ a.tdiv b ≤ a.natAbs := by
  have h := Int.natAbs_tdiv_le_natAbs a b
  omega

set_option maxHeartbeats 2000000 in
theorem floorOf_any (a b : Int) (w : World) (hb : 0 < b) (hb2 : b ≤ 1000) (ha : -1125899906842624 ≤ a) (ha2 : a ≤ 1125899906842624) : Calls Try.prog 73 #[.int .i64 a, .int .i64 b] w fun e w' => e = .returned (.int .i64 (a / b)) ∧ w = w' := by
  have hbd := tdiv_bd a b hb
  have hm1 := Int.tmod_lt_of_pos a hb
  have hm2 : -b < a.tmod b := by
    have h1 := Int.tmod_eq_emod (a := a) (b := b)
    have h3 := Int.emod_nonneg a (show b ≠ 0 by omega)
    have h4 := Int.emod_lt_of_pos a hb
    split at h1 <;> omega
  have hb0 : (b == 0) = false := by simp; omega
  have hbne : b ≠ 0 := by omega
  have hq1 : -1125899906842624 ≤ a.tdiv b := by omega
  have hq2 : a.tdiv b ≤ 1125899906842624 := by omega
  clear hbd
  by_cases h : a.tmod b < 0
  · have HE := hid (floor_lo a b hb h)
    go_enter Try.func73, Try.ntmps73
    go_wp2
    go_ret
    exact ⟨by rw [← HE.out]; rfl, rfl⟩
  · have HE := hid (floor_hi a b hb h)
    go_enter Try.func73, Try.ntmps73
    go_wp2
    go_ret
    exact ⟨by rw [← HE.out]; rfl, rfl⟩
theorem fdiv_bd (a b : Int) (hb : 0 < b) (ha : -1125899906842624 ≤ a) (ha2 : a ≤ 1125899906842624) : -1125899906842624 ≤ a / b ∧ a / b ≤ 1125899906842624 := by
  have h1 : a / b * b ≤ a := Int.ediv_mul_le a (by omega)
  have h2 := Int.lt_ediv_add_one_mul_self a hb
  constructor
  · rw [Int.le_ediv_iff_mul_le hb]
    have : -1125899906842624 * b ≤ -1125899906842624 * 1 := by omega
    omega
  · have h3 : a / b < 1125899906842624 + 1 := by
      rw [Int.ediv_lt_iff_lt_mul hb]
      have : (1125899906842624 + 1) * 1 ≤ (1125899906842624 + 1) * b := by omega
      omega
    omega
theorem ceilOf_any (a b : Int) (w : World) (hb : 0 < b) (hb2 : b ≤ 1000) (ha : -1125899906842624 ≤ a) (ha2 : a ≤ 1125899906842624) : Calls Try.prog 74 #[.int .i64 a, .int .i64 b] w fun e w' => e = .returned (.int .i64 (-((-a) / b))) ∧ w = w' := by
  have HC := hid (floorOf_any (-a) b w hb hb2 (by omega) (by omega))
  obtain ⟨f1, f2⟩ := fdiv_bd (-a) b hb (by omega) (by omega)
  obtain ⟨q, hq⟩ : ∃ q, q = (-a) / b := ⟨_, rfl⟩
  rw [← hq] at HC f1 f2 ⊢
  clear hq
  go_enter Try.func74, Try.ntmps74
  go_wp2_with (go_at_call 73; (with_reducible refine HC.out.mono ?_); rintro e w' ⟨rfl, rfl⟩)
  go_ret
  exact ⟨rfl, rfl⟩

def badM (x : Int) : Bool := decide (x < 0) || decide (999999999 < x)
def shownErr (l : List Int) : Int := if l.length = 0 then 2 else if 256 < l.length then 5 else if l.any badM = true then 3 else 0
set_option maxRecDepth 100000 in
set_option maxHeartbeats 4000000 in
theorem shown_any (l : List Int) (v : Value) (w : World) (hl : SlcIn w v l.length (l.map (Value.int .i64))) : Calls Try.prog 71 #[v] w fun e w' => e = .returned (.int .i64 (shownErr l)) ∧ w = w' := by
  obtain ⟨p, c, rfl, hm⟩ := hl.shape
  obtain ⟨n, hn⟩ : ∃ n, n = l.length := ⟨_, rfl⟩
  rw [← hn] at hl hm ⊢
  have hm' : n ≤ 9223372036854775807 := by unfold maxLen at hm; omega
  have HL := hid hl
  have HN := hid hn
  have HSE : Hid (shownErr l = if n = 0 then 2 else if 256 < n then 5 else if l.any badM = true then 3 else 0) := hid (by rw [hn]; rfl)
  clear hl hn hm
  by_cases h0 : n = 0
  · subst h0
    have HE : Hid (shownErr l = 2) := hid (by rw [HSE.out, if_pos rfl])
    go_enter Try.func71, Try.ntmps71
    go_wp2_with fail
    go_ret
    exact ⟨by rw [HE.out]; rfl, rfl⟩
  have hz : ((n : Int) == 0) = false := by simp; omega
  by_cases h1 : 256 < n
  · have HE : Hid (shownErr l = 5) := hid (by rw [HSE.out, if_neg h0, if_pos h1])
    go_enter Try.func71, Try.ntmps71
    go_wp2_with fail
    go_ret
    exact ⟨by rw [HE.out]; rfl, rfl⟩
  have HSE2 : Hid (shownErr l = if l.any badM = true then 3 else 0) := hid (by rw [HSE.out, if_neg h0, if_neg h1])
  have h1' : n ≤ 256 := by omega
  go_enter Try.func71, Try.ntmps71
  go_wp2_with fail
  go_loop [13] (fun u => ∃ k : Nat, k ≤ n ∧ u = .int .i64 k ∧ Hid (∀ (j : Nat) (x : Int), j < k → l[j]? = some x → badM x = false)) (fun u => n - (intOf u).toNat)
  case atStart => exact ⟨0, Nat.zero_le _, rfl, hid (fun j x hj _ => by omega)⟩
  case round =>
    obtain ⟨k, hk, rfl, HZ⟩ := hrel
    by_cases hlt : k < n
    · obtain ⟨x, hx⟩ : ∃ x, l[k]? = some x := ⟨_, List.getElem?_eq_getElem (by rw [← HN.out]; exact hlt)⟩
      have hw := HL.out
      rw [HN.out] at hw
      obtain ⟨g, o, c', hv, r0, _⟩ := int_at hw hx
      injection hv with e1 e2 e3
      subst e1
      by_cases h2 : x < 0
      · have HE : Hid (shownErr l = 3) := hid (by rw [HSE2.out, if_pos (any_at hx (by unfold badM; simp [h2]))])
        clear hw e2 e3 hx
        go_wp2_with fail
        go_ret
        exact ⟨by rw [HE.out]; rfl, rfl⟩
      · by_cases h3 : 999999999 < x
        · have HE : Hid (shownErr l = 3) := hid (by rw [HSE2.out, if_pos (any_at hx (by unfold badM; simp [h3]))])
          clear hw e2 e3 hx
          go_wp2_with fail
          go_ret
          exact ⟨by rw [HE.out]; rfl, rfl⟩
        · have HZ2 : Hid (∀ (j : Nat) (y : Int), j < k + 1 → l[j]? = some y → badM y = false) := hid (fun j y hj hy => by
            by_cases e : j = k
            · subst e; rw [hx] at hy; cases hy; unfold badM; simp; omega
            · exact HZ.out j y (by omega) hy)
          clear hw e2 e3 hx
          go_wp2_with fail
          go_round
          case rel => exact ⟨k + 1, by omega, by go_num, HZ2⟩
          case measure => simp [intOf]; omega
    · have HE : Hid (shownErr l = 0) := hid (by rw [HSE2.out, any_none fun j x hj => HZ.out j x (by have := (List.getElem?_eq_some_iff.1 hj).1; have := HN.out; omega) hj]; rfl)
      go_wp2_with fail
      go_ret
      exact ⟨by rw [HE.out]; rfl, rfl⟩

open Go.RowKit

def dRg (l : List Int) (b a : Int × Int) (k : Nat) : Int × Int :=
  ((l.getD k 0 * ((l.length : Int) + 1) - (b.2 * ((l.length : Int) + 1 - ((k : Int) + 1)) + a.2 * ((k : Int) + 1))) / ((l.length : Int) + 1), -((-(l.getD k 0 * ((l.length : Int) + 1) - (b.1 * ((l.length : Int) + 1 - ((k : Int) + 1)) + a.1 * ((k : Int) + 1)))) / ((l.length : Int) + 1)))
def farR (r : Int × Int) : Bool := far r.1 || far r.2
def driftErr (l : List Int) (b a : Int × Int) : Int := if shownErr l ≠ 0 then shownErr l else if eachErr rangeErr [b, a] ≠ 0 then eachErr rangeErr [b, a] else if (List.range l.length).any (fun k => farR (dRg l b a k)) = true then 4 else 0
def driftL (l : List Int) (b a : Int × Int) (k : Nat) : List (Int × Int) := (List.range k).map (dRg l b a)
theorem drift_snoc (l : List Int) (b a : Int × Int) (k : Nat) : driftL l b a (k + 1) = driftL l b a k ++ [dRg l b a k] := by unfold driftL; rw [List.range_succ, List.map_append]; rfl
theorem prod_bd {x y : Int} (h1 : -999999999 ≤ x) (h2 : x ≤ 999999999) (h3 : 0 ≤ y) (h4 : y ≤ 300) : -299999999700 ≤ x * y ∧ x * y ≤ 299999999700 := by
  constructor
  · have h5 : -999999999 * y ≤ x * y := Int.mul_le_mul_of_nonneg_right h1 h3
    omega
  · have h5 : x * y ≤ 999999999 * y := Int.mul_le_mul_of_nonneg_right h2 h3
    omega

theorem cells_new2 (w : World) (cs : List Value) (o : Obj) (t : TypeId) : ∀ (j : Nat) (u : Value), cs[j]? = some u → ((w.alloc o).alloc (.cells cs.toArray t)).cell? ((⟨w.heap.size + 1, 0, none⟩ : Addr).add j) = some u := fun j u hj => by
  have h := cells_new1 (w.alloc o) cs t j u hj
  rwa [World.size_alloc] at h
structure DriftAt (w3 : World) (l : List Int) (b a : Int × Int) (k : Nat) (wr : World) (v : Value) : Prop where
  own : wr.ownsRow w3.heap.size 38 2 v k ((driftL l b a k).flatMap rgC)
  old : Below w3.heap.size w3 wr
  near : ∀ j : Nat, j < k → farR (dRg l b a j) = false
def DriftPost (W : World) (l : List Int) (b a : Int × Int) (e : Ending) (W' : World) : Prop :=
  ((∃ k, k < l.length ∧ farR (dRg l b a k) = true) ∧ Ret (.tuple #[.slice none 0 0, .int .i64 4]) W e W') ∨ ((∀ k, k < l.length → farR (dRg l b a k) = false) ∧ TightPost W (driftL l b a l.length) e W')

set_option maxRecDepth 100000 in
set_option maxHeartbeats 8000000 in
theorem drift_yes (l : List Int) (b a : Int × Int) (v : Value) (W : World) (hl : SlcIn W v l.length (l.map (Value.int .i64))) (h1 : shownErr l = 0) (h2 : eachErr rangeErr [b, a] = 0) :
    Calls Try.prog 43 #[v, .agg #[.int .i64 b.1, .int .i64 b.2], .agg #[.int .i64 a.1, .int .i64 a.2]] W (DriftPost W l b a) := by
  obtain ⟨i0, g0, g1, g2, g3⟩ := info_parts info_rg
  have HI : Hid (Try.prog.info? 38 = some i0 ∧ i0.zero = some (.agg #[.int .i64 0, .int .i64 0]) ∧ i0.size = 2 ∧ i0.bytes = 16) := hid ⟨g0, g1, g2, g3⟩
  clear g0 g1 g2 g3
  obtain ⟨p, c, rfl, hm⟩ := hl.shape
  obtain ⟨n, hn⟩ : ∃ n, n = l.length := ⟨_, rfl⟩
  obtain ⟨bl, bh⟩ := b
  obtain ⟨al, ah⟩ := a
  obtain ⟨w1, hw1⟩ : ∃ w1, w1 = (W.alloc (.cells #[.int .i64 bl, .int .i64 bh] 38)).alloc (.cells #[.int .i64 al, .int .i64 ah] 38) := ⟨_, rfl⟩
  have hb1 : Below W.heap.size W w1 := by rw [hw1]; exact (below_new W _).alloc (by simp) _
  have hA : Blk w1 W.heap.size #[.int .i64 bl, .int .i64 bh] 38 := by rw [hw1]; exact (Blk.new W _ _).alloc _
  have hB : Blk w1 (W.heap.size + 1) #[.int .i64 al, .int .i64 ah] 38 := by rw [hw1]; exact Blk_newn _ _ _ (by simp)
  obtain ⟨w2, hw2⟩ : ∃ w2, w2 = w1.alloc (.cells #[.int .i64 bl, .int .i64 bh, .int .i64 al, .int .i64 ah] 38) := ⟨_, rfl⟩
  have hb2 : Below w1.heap.size w1 w2 := by rw [hw2]; exact below_new w1 _
  have HC := hid (each_range [(bl, bh), (al, ah)] (.slice (some ⟨w1.heap.size, 0, none⟩) 2 2) w2 (by rw [hw2]; exact slc_new w1 [.int .i64 bl, .int .i64 bh, .int .i64 al, .int .i64 ah] _ 2 (by decide)))
  have HSH := hid (shown_any l _ w1 (hl.later hb1))
  rw [h1] at HSH
  rw [h2] at HC
  have hm2 : 1 ≤ n ∧ n ≤ 256 := by
    rw [hn]
    unfold shownErr at h1
    split at h1
    · cases h1
    · split at h1
      · cases h1
      · omega
  obtain ⟨hn1, hn2⟩ := hm2
  have HX : Hid (∀ (i : Nat) (x : Int), l[i]? = some x → 0 ≤ x ∧ x ≤ 999999999) := hid (by
    intro i x hx
    unfold shownErr at h1
    split at h1
    · cases h1
    · split at h1
      · cases h1
      · split at h1
        · cases h1
        · rename_i h3
          rw [Bool.not_eq_true, List.any_eq_false] at h3
          have := h3 x (List.mem_of_getElem? hx)
          unfold badM at this
          simp at this
          omega)
  have r1 := range_ok (each_ok h2 0 _ rfl)
  have r2 := range_ok (each_ok h2 1 _ rfl)
  dsimp only at r1 r2
  obtain ⟨m1, m2, m3⟩ := r1
  obtain ⟨m4, m5, m6⟩ := r2
  have hL := hl.later (hb1.trans (hb2.mono hb1.size))
  rw [← hn] at HSH hL ⊢
  have HL := hid hL
  have HN := hid hn
  have HA2 := hid (hA.later hb2 hA.lt)
  have HBB2 := hid (hB.later hb2 hB.lt)
  have HB2 := hid (hb1.trans (hb2.mono hb1.size))
  have a0 := hA.cell (i := 0) rfl
  have a1 := hA.cell (i := 1) rfl
  have b0 := hB.cell (i := 0) rfl
  have b1 := hB.cell (i := 1) rfl
  have HW1 := hid hw1
  have HW2 := hid hw2
  clear hl hn hw1 hb1 hA hB hw2 hb2 h1 h2 hm hL
  go_enter Try.func43, Try.ntmps43
  go_wp2_with (first | (rw [← HW1.out]) | (rw [← HW2.out]) | (go_at_call 71; (with_reducible refine HSH.out.mono ?_); rintro e w3 ⟨rfl, rfl⟩) | (go_at_call 69; (with_reducible refine HC.out.mono ?_); rintro e w3 ⟨rfl, hb⟩; have HB3 := hid (HB2.out.trans (hb.mono HB2.out.size)); have HA3 := hid (HA2.out.later hb HA2.out.lt); have HBB3 := hid (HBB2.out.later hb HBB2.out.lt); have HL3 := hid (HL.out.later hb); clear hb))
  have HS3 : Hid (W.heap.size + 1 < w3.heap.size) := hid HBB3.out.lt
  go_loopw [11, 38] (fun v u wr => ∃ k : Nat, k ≤ n ∧ u = .int .i64 k ∧ Hid (DriftAt w3 l (bl, bh) (al, ah) k wr v)) (fun _ u _ => n - (intOf u).toNat)
  case atStart => exact ⟨0, Nat.zero_le _, rfl, hid ⟨World.ownsRow_nil _ _ _ _, Below.refl _ _, fun j hj => by omega⟩⟩
  case round =>
    obtain ⟨k, hk, rfl, HR⟩ := hrel
    obtain ⟨pv, cv, rfl⟩ := row_slice HR.out.own
    by_cases hlt : k < n
    · obtain ⟨x, hx⟩ : ∃ x, l[k]? = some x := ⟨_, List.getElem?_eq_getElem (by rw [← HN.out]; exact hlt)⟩
      have hw := HL3.out.later HR.out.old
      rw [HN.out] at hw
      obtain ⟨g, o, c', hv, r0, _⟩ := int_at hw hx
      injection hv with e1 e2 e3
      subst e1
      obtain ⟨x1, x2⟩ := HX.out k x hx
      have HA4 := hid (HA3.out.later HR.out.old HA3.out.lt)
      have HBB4 := hid (HBB3.out.later HR.out.old HBB3.out.lt)
      have c0 := HA4.out.cell (i := 0) rfl
      have c1 := HA4.out.cell (i := 1) rfl
      have d0 := HBB4.out.cell (i := 0) rfl
      have d1 := HBB4.out.cell (i := 1) rfl
      have hgx : l.getD k 0 = x := by rw [List.getD_eq_getElem?_getD, hx]; rfl
      obtain ⟨p1, p2⟩ := prod_bd (x := bl) (y := (n : Int) + 1 - ((k : Int) + 1)) (by omega) (by omega) (by omega) (by omega)
      obtain ⟨p3, p4⟩ := prod_bd (x := bh) (y := (n : Int) + 1 - ((k : Int) + 1)) (by omega) (by omega) (by omega) (by omega)
      obtain ⟨p5, p6⟩ := prod_bd (x := al) (y := (k : Int) + 1) (by omega) (by omega) (by omega) (by omega)
      obtain ⟨p7, p8⟩ := prod_bd (x := ah) (y := (k : Int) + 1) (by omega) (by omega) (by omega) (by omega)
      obtain ⟨p9, p10⟩ := prod_bd (x := x) (y := (n : Int) + 1) (by omega) (by omega) (by omega) (by omega)
      have HFL := hid (fun w => floorOf_any (x * ((n : Int) + 1) - (bh * ((n : Int) + 1 - ((k : Int) + 1)) + ah * ((k : Int) + 1))) ((n : Int) + 1) w (by omega) (by omega) (by omega) (by omega))
      have HCL := hid (fun w => ceilOf_any (x * ((n : Int) + 1) - (bl * ((n : Int) + 1 - ((k : Int) + 1)) + al * ((k : Int) + 1))) ((n : Int) + 1) w (by omega) (by omega) (by omega) (by omega))
      obtain ⟨lo, hlo⟩ : ∃ lo, lo = (x * ((n : Int) + 1) - (bh * ((n : Int) + 1 - ((k : Int) + 1)) + ah * ((k : Int) + 1))) / ((n : Int) + 1) := ⟨_, rfl⟩
      obtain ⟨hi, hhi⟩ : ∃ hi, hi = -((-(x * ((n : Int) + 1) - (bl * ((n : Int) + 1 - ((k : Int) + 1)) + al * ((k : Int) + 1)))) / ((n : Int) + 1)) := ⟨_, rfl⟩
      have HDR : Hid (dRg l (bl, bh) (al, ah) k = (lo, hi)) := hid (by rw [hlo, hhi]; unfold dRg; rw [hgx, ← HN.out])
      rw [← hlo] at HFL
      rw [← hhi] at HCL
      have hnr : wr.heap.size + 1 = (wr.alloc (.cells #[.int .i64 lo, .int .i64 hi] 38)).heap.size := by simp
      have HOW := hid HR.out.own
      have hwr : w3.heap.size ≤ wr.heap.size := HR.out.old.size
      clear hw e2 e3 hx hlo hhi hgx
      cases hf : farR (dRg l (bl, bh) (al, ah) k)
      · have HFR := hid hf
        rw [HDR.out] at hf
        unfold farR at hf
        obtain ⟨f1, f2⟩ := Bool.or_eq_false_iff.1 hf
        have HBO := hid (fun w => bounded_yes lo hi w f1 f2)
        clear hf f1 f2
        go_wp2_with (first | (go_at_call 73; (with_reducible refine (HFL.out _).mono ?_); rintro e w4 ⟨rfl, rfl⟩) | (go_at_call 74; (with_reducible refine (HCL.out _).mono ?_); rintro e w4 ⟨rfl, rfl⟩) | (go_at_call 55; (with_reducible refine (HBO.out _).mono ?_); rintro e w5 ⟨rfl, hb5⟩; have HB5 := hid (HR.out.old.trans (hb5.mono hwr)); have HO5 := hid ((ownsRow_later HOW.out hb5).alloc (.cells #[.int .i64 lo, .int .i64 hi] 38)); have h5s : w3.heap.size ≤ w5.heap.size := Nat.le_trans hwr hb5.size; have HB6 := hid (HB5.out.trans ((below_new w5 (.cells #[.int .i64 lo, .int .i64 hi] 38)).mono h5s)); have HN6 := hid (Blk.new w5 #[.int .i64 lo, .int .i64 hi] 38); clear hb5) | (at_builtin; refine wpList_append_own _ rfl _ _ 22 rfl (w3.heap.size) 38 i0 (.agg #[.int .i64 0, .int .i64 0]) 2 16 (by kernel_rfl) HI.out.1 HI.out.2.1 HI.out.2.2.1 HI.out.2.2.2 rfl (by decide) _ _ _ rfl (HO5.out.alloc _) ⟨w5.heap.size + 1, 0, none⟩ 1 1 [.int .i64 lo, .int .i64 hi] rfl rfl (cells_new2 w5 [.int .i64 lo, .int .i64 hi] _ 38) (by simp [Value.oneCell']) (by unfold maxLen; omega) (by omega) (by simp; omega) ?_; intro v7 w7 ho7 hg7 _; have HB7 := hid (HB6.out.trans (((below_new _ _).mono (by simp; omega)).trans (grown_base (HO5.out.alloc _) hg7 (by simp; omega)))); have HO7 := hid ho7; clear hg7 ho7))
        have HEND : Hid (DriftAt w3 l (bl, bh) (al, ah) (k + 1) w7 v7) := hid ⟨by rw [drift_snoc, HDR.out, rg_snoc]; exact HO7.out, HB7.out, fun j hj => by
          by_cases e : j = k
          · subst e; exact HFR.out
          · exact HR.out.near j (by omega)⟩
        go_roundw
        case rel => exact ⟨k + 1, by omega, by go_num, HEND⟩
        case measure => simp [intOf]; omega
      · have HFR := hid hf
        rw [HDR.out] at hf
        unfold farR at hf
        have hf2 : far lo = true ∨ far hi = true := by simpa using hf
        have HBO := hid (fun w => bounded_no lo hi w hf2)
        clear hf hf2
        go_wp2_with (first | (go_at_call 73; (with_reducible refine (HFL.out _).mono ?_); rintro e w4 ⟨rfl, rfl⟩) | (go_at_call 74; (with_reducible refine (HCL.out _).mono ?_); rintro e w4 ⟨rfl, rfl⟩) | (go_at_call 55; (with_reducible refine (HBO.out _).mono ?_); rintro e w5 ⟨rfl, hb5⟩; have HB5 := hid (HR.out.old.trans (hb5.mono hwr)); have h5s : w3.heap.size ≤ w5.heap.size := Nat.le_trans hwr hb5.size; have HB6 := hid (HB5.out.trans ((below_new w5 (.cells #[.int .i64 0, .int .i64 0] 38)).mono h5s)); clear hb5))
        go_ret2
        exact .inl ⟨⟨k, by rw [← HN.out]; exact hlt, HFR.out⟩, rfl, HB3.out.trans (HB6.out.mono (by have := HS3.out; omega))⟩
    · have hkn : k = n := by omega
      subst hkn
      have HLL : Hid ((driftL l (bl, bh) (al, ah) k).length = k) := hid (by unfold driftL; simp)
      go_wp2_with fail
      go_ret2
      refine .inr ⟨fun j hj => HR.out.near j (by rw [HN.out]; exact hj), ⟨_, rfl, ?_, HB3.out.trans (HR.out.old.mono (by have := HS3.out; omega))⟩⟩
      rw [← HN.out, HLL.out]
      exact HR.out.own.mono (by have := HS3.out; omega)
end Go.Proofs.Ytncnpodanlhdkaa
