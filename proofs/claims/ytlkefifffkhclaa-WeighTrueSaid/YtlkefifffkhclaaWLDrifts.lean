/-
  WeighDrifts: the walk.
-/
import Derived.Test.YtlkefifffkhclaaWRefD2
namespace Go.Proofs.Ytlkefifffkhclaa
set_option linter.all false
open Go.RowKit

theorem first_shown (x : Int) (a b c d : Int) : firstF [x, rangeErr a b, rangeErr c d] = if x ≠ 0 then x else eachErr rangeErr [(a, b), (c, d)] := by
  unfold firstF eachErr eachErr eachErr
  by_cases h : x = 0
  · by_cases h2 : rangeErr a b = 0
    · by_cases h3 : rangeErr c d = 0 <;> simp [h, h2, h3]
    · simp [h, h2]
  · simp [h]
theorem drift_len (l : List Int) (b a : Int × Int) (k : Nat) : (driftL l b a k).length = k := by unfold driftL; rw [List.length_map, List.length_range]
theorem drift_at (l : List Int) (b a : Int × Int) (n k : Nat) (h : k < n) : (driftL l b a n)[k]? = some (dRg l b a k) := by unfold driftL; rw [List.getElem?_map, List.getElem?_range h]; rfl
theorem farR_no {r : Int × Int} (h1 : ¬ r.1 < -999999999) (h2 : ¬ 999999999 < r.2) (h3 : r.1 ≤ r.2) : farR r = false := by
  unfold farR far
  simp
  omega
theorem farR_yes {r : Int × Int} (h : r.1 < -999999999 ∨ 999999999 < r.2) : farR r = true := by
  unfold farR far
  simp
  omega
/-- What Drift answers where its arguments are good, and what ranges makes of it. -/
theorem drift_post {W W' : World} {l : List Int} {b a : Int × Int} {e : Ending} (h : DriftPost W l b a e W') :
    ∃ v bd, e = .returned (.tuple #[v, .int .i64 bd]) ∧ Below W.heap.size W W' ∧ ((bd = 4 ∧ ∃ k, k < l.length ∧ farR (dRg l b a k) = true) ∨ (bd = 0 ∧ ∀ k, k < l.length → farR (dRg l b a k) = false)) ∧
      ∀ w v2, Below W'.heap.size W' w → SlcIn w v2 l.length ((driftL l b a l.length).flatMap rgC) → Calls Try.prog 23 #[v, .int .i64 bd, .int .i64 bd, v2] w (Ret (.bool true) w) := by
  rcases h with ⟨hk, rfl, hb⟩ | ⟨hk, v, rfl, ho, hb⟩
  · exact ⟨_, _, rfl, hb, .inl ⟨rfl, hk⟩, fun w v2 _ _ => ranges_bad none 0 4 v2 w (by decide)⟩
  · refine ⟨_, _, rfl, hb, .inr ⟨rfl, hk⟩, fun w v2 hb2 h2 => ?_⟩
    have hl := drift_len l b a l.length
    have h1 := SlcIn.own ho
    exact ranges_ok (driftL l b a l.length) v v2 w (h1.later hb2) (by rw [hl]; exact h2)

set_option maxRecDepth 100000 in
set_option maxHeartbeats 8000000 in
theorem drifts_many (a b c d : Int) (p : Option Addr) (n cap : Nat) (W : World) (hn : 300 < n) (hn2 : n ≤ 9223372036854775807) : Calls Try.prog 4 #[.slice p n cap, .agg #[.int .i64 a, .int .i64 b], .agg #[.int .i64 c, .int .i64 d]] W (Ret (.bool true) W) := by
  obtain ⟨w0, hw0⟩ : ∃ w0, w0 = (W.alloc (.cells #[.int .i64 a, .int .i64 b] 23)).alloc (.cells #[.int .i64 c, .int .i64 d] 23) := ⟨_, rfl⟩
  have HB0 : Hid (Below W.heap.size W w0) := hid (by rw [hw0]; exact (below_new W _).alloc (by simp) _)
  have HAW := hid (fun w => awake_any w)
  have HW0 := hid hw0
  clear hw0
  go_enter Try.func4, Try.ntmps4
  go_wp2_with (rw [← HW0.out])
  refine (HAW.out _).mono ?_
  rintro e w1 ⟨rfl, hb⟩
  have HB1 := hid (HB0.out.trans (hb.mono HB0.out.size))
  clear hb
  go_wp2_with fail
  refine (HAW.out _).mono ?_
  rintro e w2 ⟨rfl, hb⟩
  have HB2 := hid (HB1.out.trans (hb.mono HB1.out.size))
  clear hb
  go_wp2_with fail
  go_ret
  exact ⟨rfl, HB2.out⟩

set_option maxRecDepth 100000 in
set_option maxHeartbeats 8000000 in
theorem drifts_bad (a b c d xx : Int) (l : List Int) (v : Value) (W : World) (hl : SlcIn W v l.length (l.map (Value.int .i64))) (hlen : l.length ≤ 300)
    (hx : firstF [shownErr l, rangeErr a b, rangeErr c d] = xx) (h0 : xx ≠ 0)
    (hd : ∀ w, SlcIn w v l.length (l.map (Value.int .i64)) → Calls Try.prog 21 #[v, .agg #[.int .i64 a, .int .i64 b], .agg #[.int .i64 c, .int .i64 d]] w (Ret (.tuple #[.slice none 0 0, .int .i64 xx]) w)) :
    Calls Try.prog 4 #[v, .agg #[.int .i64 a, .int .i64 b], .agg #[.int .i64 c, .int .i64 d]] W (Ret (.bool true) W) := by
  obtain ⟨p, cp, rfl, _⟩ := hl.shape
  obtain ⟨n, hn⟩ : ∃ n, n = l.length := ⟨_, rfl⟩
  obtain ⟨w0, hw0⟩ : ∃ w0, w0 = (W.alloc (.cells #[.int .i64 a, .int .i64 b] 23)).alloc (.cells #[.int .i64 c, .int .i64 d] 23) := ⟨_, rfl⟩
  have hb0 : Below W.heap.size W w0 := by rw [hw0]; exact (below_new W _).alloc (by simp) _
  have hx0 : Bx w0 [(W.heap.size, a, b), (W.heap.size + 1, c, d)] := fun p hp => by
    simp only [List.mem_cons, List.not_mem_nil, or_false] at hp
    rcases hp with rfl | rfl
    · rw [hw0]; exact (Blk.new W _ _).alloc _
    · rw [hw0]; exact Blk_newn _ _ _ (by simp)
  have HCS := hid (fun w (h : SlcIn w (.slice p l.length cp) l.length (l.map (Value.int .i64))) => refShown_any l _ w h)
  have HR1 := hid (fun w => refRange_any a b w)
  have HR2 := hid (fun w => refRange_any c d w)
  have HL := hid (hl.later hb0)
  obtain ⟨x1, hx1⟩ : ∃ x1, x1 = shownErr l := ⟨_, rfl⟩
  obtain ⟨x2, hx2⟩ : ∃ x2, x2 = rangeErr a b := ⟨_, rfl⟩
  obtain ⟨x3, hx3⟩ : ∃ x3, x3 = rangeErr c d := ⟨_, rfl⟩
  rw [← hx1] at HCS hx
  rw [← hx2] at HR1 hx
  rw [← hx3] at HR2 hx
  rw [← hn] at HCS HL hlen ⊢ hd
  have HB0 := hid hb0
  have HX0 := hid hx0
  have HW0 := hid hw0
  have HN := hid hn
  have hl0 := hlen
  have HAW := hid (fun w => awake_any w)
  clear hl hn hlen hb0 hx0 hw0 hx1 hx2 hx3
  have HRB := hid (fun v w => ranges_bad none 0 xx v w h0)
  have hz : (xx == 0) = false := by simpa using h0
  have hz2 : (xx != 0) = true := by simpa using h0
  have HD := hid hd
  have HFM := hid hx
  clear hd hx h0
  go_enter Try.func4, Try.ntmps4
  go_wp2_with (rw [← HW0.out])
  refine (HAW.out _).mono ?_
  rintro e w1 ⟨rfl, hb⟩
  have HB1 := hid (HB0.out.trans (hb.mono HB0.out.size))
  have HX1 := hid (HX0.out.later hb)
  have HL1 := hid (HL.out.later hb)
  have t0 := HX1.out.at0 (g := W.heap.size) (x := a) (y := b) (by simp)
  have t1 := HX1.out.at1 (g := W.heap.size) (x := a) (y := b) (by simp)
  have t2 := HX1.out.at0 (g := W.heap.size + 1) (x := c) (y := d) (by simp)
  have t3 := HX1.out.at1 (g := W.heap.size + 1) (x := c) (y := d) (by simp)
  clear hb HX0 HB0 HL HAW
  go_wp2_with fail
  refine (HD.out _ HL1.out).mono ?_
  rintro e w3 ⟨rfl, hb⟩
  have HB3 := hid (HB1.out.trans (hb.mono HB1.out.size))
  have HX3 := hid (HX1.out.later hb)
  have HL3 := hid (HL1.out.later hb)
  clear hb HX1 HB1 HL1 HD t0 t1 t2 t3
  go_wp2_with fail
  have HS : Hid (∀ w', Below w3.heap.size w3 w' → w'.cell? ⟨W.heap.size, 0, none⟩ = some (.int .i64 a) ∧ w'.cell? ⟨W.heap.size, 1, none⟩ = some (.int .i64 b) ∧ w'.cell? ⟨W.heap.size + 1, 0, none⟩ = some (.int .i64 c) ∧ w'.cell? ⟨W.heap.size + 1, 1, none⟩ = some (.int .i64 d)) := hid (fun w' hb => ⟨(HX3.out.later hb).at0 (g := W.heap.size) (x := a) (y := b) (by simp), (HX3.out.later hb).at1 (g := W.heap.size) (x := a) (y := b) (by simp), (HX3.out.later hb).at0 (g := W.heap.size + 1) (x := c) (y := d) (by simp), (HX3.out.later hb).at1 (g := W.heap.size + 1) (x := c) (y := d) (by simp)⟩)
  have HBc : Hid (Below w3.heap.size w3 w3.drew) := hid (Below.refl _ _).drew
  have HFI : Hid (∀ w : World, Calls Try.prog 13 #[.slice (some ⟨w.heap.size, 0, none⟩) 3 3] (w.alloc (.cells #[.int .i64 x1, .int .i64 x2, .int .i64 x3] 3)) fun e w' => e = .returned (.int .i64 xx) ∧ (w.alloc (.cells #[.int .i64 x1, .int .i64 x2, .int .i64 x3] 3)) = w') := hid (fun w => by
    have h := first_any [x1, x2, x3] (.slice (some ⟨w.heap.size, 0, none⟩) 3 3) (w.alloc (.cells #[.int .i64 x1, .int .i64 x2, .int .i64 x3] 3)) (slc_new w [.int .i64 x1, .int .i64 x2, .int .i64 x3] 3 3 (by decide))
    rw [HFM.out] at h
    exact h)
  go_region_held3 (fun w' => w'.cell? ⟨W.heap.size, 0, none⟩ = some (.int .i64 a) ∧ w'.cell? ⟨W.heap.size, 1, none⟩ = some (.int .i64 b) ∧ w'.cell? ⟨W.heap.size + 1, 0, none⟩ = some (.int .i64 c) ∧ w'.cell? ⟨W.heap.size + 1, 1, none⟩ = some (.int .i64 d)) (first | exact HS.out _ HBc.out | exact HS.out _ (HBc.out.trans ((below_new _ _).mono HBc.out.size))) ((first | (go_at_call 22; (with_reducible refine (HCS.out _ (HL3.out.later HBc.out)).mono ?_); rintro e w' ⟨rfl, rfl⟩) | (go_at_call 12; first | ((with_reducible refine (HR1.out _).mono ?_); rintro e wA ⟨rfl, hb⟩; have HBc := hid (HBc.out.trans (hb.mono HBc.out.size)); clear hb) | ((with_reducible refine (HR2.out _).mono ?_); rintro e wA ⟨rfl, hb⟩; have HBc := hid (HBc.out.trans (hb.mono HBc.out.size)); clear hb)) | (go_at_call 13; (with_reducible refine (HFI.out _).mono ?_); rintro e w' ⟨rfl, rfl⟩)))
  have HB35 : Hid (Below w3.heap.size w3 (wA.alloc (.cells #[.int .i64 x1, .int .i64 x2, .int .i64 x3] 3))) := hid (HBc.out.trans ((below_new wA _).mono HBc.out.size))
  obtain ⟨w5, hw5⟩ : ∃ w5, w5 = wA.alloc (.cells #[.int .i64 x1, .int .i64 x2, .int .i64 x3] 3) := ⟨_, rfl⟩
  rw [← hw5] at HB35
  rw [← hw5]
  have HX5 := hid (HX3.out.later HB35.out)
  have HB5 := hid (HB3.out.trans (HB35.out.mono HB3.out.size))
  have HL5 := hid (HL3.out.later HB35.out)
  have t0 := HX5.out.at0 (g := W.heap.size) (x := a) (y := b) (by simp)
  have t1 := HX5.out.at1 (g := W.heap.size) (x := a) (y := b) (by simp)
  have t2 := HX5.out.at0 (g := W.heap.size + 1) (x := c) (y := d) (by simp)
  have t3 := HX5.out.at1 (g := W.heap.size + 1) (x := c) (y := d) (by simp)
  clear hw5 HBc HX3 HB3 HL3 HS HFI HCS HR1 HR2 HFM
  go_wp2_with fail
  refine (HRB.out _ _).mono ?_
  rintro e w6 ⟨rfl, hb⟩
  have HB6 := hid (HB5.out.trans (hb.mono HB5.out.size))
  clear hb
  go_wp2_with fail
  go_ret
  exact ⟨rfl, HB6.out⟩

set_option maxRecDepth 100000 in
set_option maxHeartbeats 8000000 in
theorem drifts_good (a b c d : Int) (l : List Int) (v : Value) (W : World) (hl : SlcIn W v l.length (l.map (Value.int .i64))) (hlen : l.length ≤ 300)
    (hs : shownErr l = 0) (hr : eachErr rangeErr [(a, b), (c, d)] = 0) :
    Calls Try.prog 4 #[v, .agg #[.int .i64 a, .int .i64 b], .agg #[.int .i64 c, .int .i64 d]] W (Ret (.bool true) W) := by
  obtain ⟨p, cp, rfl, _⟩ := hl.shape
  have hx : firstF [shownErr l, rangeErr a b, rangeErr c d] = 0 := by rw [first_shown, hs, hr]; rfl
  have hr1 : rangeErr a b = 0 := each_ok hr 0 _ rfl
  have hr2 : rangeErr c d = 0 := each_ok hr 1 _ rfl
  have HLE := hid (fun k hk => dRg_le l a b c d k hk (range_ok hr1).2.1 (range_ok hr2).2.1)
  have HD := hid (fun w h => drift_yes l (a, b) (c, d) (.slice p l.length cp) w h hs hr)
  have HRD := hid (fun w h => refDrift_any l a b c d (.slice p l.length cp) w h hs hr1 hr2)
  obtain ⟨xx, hxx⟩ : ∃ xx : Int, xx = 0 := ⟨_, rfl⟩
  rw [← hxx] at hx
  obtain ⟨n, hn⟩ : ∃ n, n = l.length := ⟨_, rfl⟩
  obtain ⟨w0, hw0⟩ : ∃ w0, w0 = (W.alloc (.cells #[.int .i64 a, .int .i64 b] 23)).alloc (.cells #[.int .i64 c, .int .i64 d] 23) := ⟨_, rfl⟩
  have hb0 : Below W.heap.size W w0 := by rw [hw0]; exact (below_new W _).alloc (by simp) _
  have hx0 : Bx w0 [(W.heap.size, a, b), (W.heap.size + 1, c, d)] := fun p hp => by
    simp only [List.mem_cons, List.not_mem_nil, or_false] at hp
    rcases hp with rfl | rfl
    · rw [hw0]; exact (Blk.new W _ _).alloc _
    · rw [hw0]; exact Blk_newn _ _ _ (by simp)
  have HCS := hid (fun w (h : SlcIn w (.slice p l.length cp) l.length (l.map (Value.int .i64))) => refShown_any l _ w h)
  have HR1 := hid (fun w => refRange_any a b w)
  have HR2 := hid (fun w => refRange_any c d w)
  have HL := hid (hl.later hb0)
  obtain ⟨x1, hx1⟩ : ∃ x1, x1 = shownErr l := ⟨_, rfl⟩
  obtain ⟨x2, hx2⟩ : ∃ x2, x2 = rangeErr a b := ⟨_, rfl⟩
  obtain ⟨x3, hx3⟩ : ∃ x3, x3 = rangeErr c d := ⟨_, rfl⟩
  rw [← hx1] at HCS hx
  rw [← hx2] at HR1 hx
  rw [← hx3] at HR2 hx
  rw [← hn] at HCS HL hlen ⊢
  have HB0 := hid hb0
  have HX0 := hid hx0
  have HW0 := hid hw0
  have HN := hid hn
  have hl0 := hlen
  have HAW := hid (fun w => awake_any w)
  clear hl hn hlen hb0 hx0 hw0 hx1 hx2 hx3
  rw [← HN.out] at HD HRD HLE
  have HFM := hid hx
  clear hx hs hr hr1 hr2
  go_enter Try.func4, Try.ntmps4
  go_wp2_with (rw [← HW0.out])
  refine (HAW.out _).mono ?_
  rintro e w1 ⟨rfl, hb⟩
  have HB1 := hid (HB0.out.trans (hb.mono HB0.out.size))
  have HX1 := hid (HX0.out.later hb)
  have HL1 := hid (HL.out.later hb)
  have t0 := HX1.out.at0 (g := W.heap.size) (x := a) (y := b) (by simp)
  have t1 := HX1.out.at1 (g := W.heap.size) (x := a) (y := b) (by simp)
  have t2 := HX1.out.at0 (g := W.heap.size + 1) (x := c) (y := d) (by simp)
  have t3 := HX1.out.at1 (g := W.heap.size + 1) (x := c) (y := d) (by simp)
  clear hb HX0 HB0 HL HAW
  go_wp2_with fail
  refine (HD.out _ HL1.out).mono ?_
  intro e w3 hp
  obtain ⟨v7, bd, rfl, hb, hbd, hfin⟩ := drift_post hp
  have HBD := hid hbd
  have HFIN := hid hfin
  clear hp hbd hfin
  have HB3 := hid (HB1.out.trans (hb.mono HB1.out.size))
  have HX3 := hid (HX1.out.later hb)
  have HL3 := hid (HL1.out.later hb)
  clear hb HX1 HB1 HL1 HD t0 t1 t2 t3
  go_wp2_with fail
  have HS : Hid (∀ w', Below w3.heap.size w3 w' → w'.cell? ⟨W.heap.size, 0, none⟩ = some (.int .i64 a) ∧ w'.cell? ⟨W.heap.size, 1, none⟩ = some (.int .i64 b) ∧ w'.cell? ⟨W.heap.size + 1, 0, none⟩ = some (.int .i64 c) ∧ w'.cell? ⟨W.heap.size + 1, 1, none⟩ = some (.int .i64 d)) := hid (fun w' hb => ⟨(HX3.out.later hb).at0 (g := W.heap.size) (x := a) (y := b) (by simp), (HX3.out.later hb).at1 (g := W.heap.size) (x := a) (y := b) (by simp), (HX3.out.later hb).at0 (g := W.heap.size + 1) (x := c) (y := d) (by simp), (HX3.out.later hb).at1 (g := W.heap.size + 1) (x := c) (y := d) (by simp)⟩)
  have HBc : Hid (Below w3.heap.size w3 w3.drew) := hid (Below.refl _ _).drew
  have HFI : Hid (∀ w : World, Calls Try.prog 13 #[.slice (some ⟨w.heap.size, 0, none⟩) 3 3] (w.alloc (.cells #[.int .i64 x1, .int .i64 x2, .int .i64 x3] 3)) fun e w' => e = .returned (.int .i64 xx) ∧ (w.alloc (.cells #[.int .i64 x1, .int .i64 x2, .int .i64 x3] 3)) = w') := hid (fun w => by
    have h := first_any [x1, x2, x3] (.slice (some ⟨w.heap.size, 0, none⟩) 3 3) (w.alloc (.cells #[.int .i64 x1, .int .i64 x2, .int .i64 x3] 3)) (slc_new w [.int .i64 x1, .int .i64 x2, .int .i64 x3] 3 3 (by decide))
    rw [HFM.out] at h
    exact h)
  go_region_held3 (fun w' => w'.cell? ⟨W.heap.size, 0, none⟩ = some (.int .i64 a) ∧ w'.cell? ⟨W.heap.size, 1, none⟩ = some (.int .i64 b) ∧ w'.cell? ⟨W.heap.size + 1, 0, none⟩ = some (.int .i64 c) ∧ w'.cell? ⟨W.heap.size + 1, 1, none⟩ = some (.int .i64 d)) (first | exact HS.out _ HBc.out | exact HS.out _ (HBc.out.trans ((below_new _ _).mono HBc.out.size))) ((first | (go_at_call 22; (with_reducible refine (HCS.out _ (HL3.out.later HBc.out)).mono ?_); rintro e w' ⟨rfl, rfl⟩) | (go_at_call 12; first | ((with_reducible refine (HR1.out _).mono ?_); rintro e wA ⟨rfl, hb⟩; have HBc := hid (HBc.out.trans (hb.mono HBc.out.size)); clear hb) | ((with_reducible refine (HR2.out _).mono ?_); rintro e wA ⟨rfl, hb⟩; have HBc := hid (HBc.out.trans (hb.mono HBc.out.size)); clear hb)) | (go_at_call 13; (with_reducible refine (HFI.out _).mono ?_); rintro e w' ⟨rfl, rfl⟩)))
  have HB35 : Hid (Below w3.heap.size w3 (wA.alloc (.cells #[.int .i64 x1, .int .i64 x2, .int .i64 x3] 3))) := hid (HBc.out.trans ((below_new wA _).mono HBc.out.size))
  obtain ⟨w5, hw5⟩ : ∃ w5, w5 = wA.alloc (.cells #[.int .i64 x1, .int .i64 x2, .int .i64 x3] 3) := ⟨_, rfl⟩
  rw [← hw5] at HB35
  rw [← hw5]
  have HX5 := hid (HX3.out.later HB35.out)
  have HB5 := hid (HB3.out.trans (HB35.out.mono HB3.out.size))
  have HL5 := hid (HL3.out.later HB35.out)
  have t0 := HX5.out.at0 (g := W.heap.size) (x := a) (y := b) (by simp)
  have t1 := HX5.out.at1 (g := W.heap.size) (x := a) (y := b) (by simp)
  have t2 := HX5.out.at0 (g := W.heap.size + 1) (x := c) (y := d) (by simp)
  have t3 := HX5.out.at1 (g := W.heap.size + 1) (x := c) (y := d) (by simp)
  clear hw5 HBc HX3 HB3 HL3 HS HFI HCS HR1 HR2 HFM
  subst hxx
  have hz2 : ((0 : Int) != 0) = false := rfl
  go_wp2_with fail
  refine (HRD.out _ HL5.out).mono ?_
  rintro e w6 ⟨v10, rfl, ho, hb⟩
  have hs10 := SlcIn.own ho
  have HS10 := hid hs10
  have HB6 := hid (HB5.out.trans (hb.mono HB5.out.size))
  have HB36 : Hid (Below w3.heap.size w3 w6) := hid (HB35.out.trans (hb.mono HB35.out.size))
  have HDL : Hid ((driftL l (a, b) (c, d) n).length = n) := hid (drift_len _ _ _ _)
  obtain ⟨p10, c10, rfl, hm10⟩ := hs10.shape
  clear ho hb hs10 hm10
  go_wp2_with fail
  go_loopw [9, 11] (fun u9 u11 wr => ∃ (k : Nat) (z : Int), k ≤ n ∧ u11 = .int .i64 k ∧ u9 = .int .i64 z ∧ Hid ((z = 0 ∧ ∀ j, j < k → farR (dRg l (a, b) (c, d) j) = false) ∨ (z = 4 ∧ ∃ j, j < k ∧ farR (dRg l (a, b) (c, d) j) = true)) ∧ Hid (Below w6.heap.size w6 wr)) (fun _ u _ => n - (intOf u).toNat)
  case atStart => exact ⟨0, 0, Nat.zero_le _, rfl, rfl, hid (.inl ⟨rfl, fun j hj => absurd hj (Nat.not_lt_zero _)⟩), hid (Below.refl _ _)⟩
  case round =>
    obtain ⟨k, z, hk, rfl, rfl, HZ, HBR⟩ := hrel
    by_cases hlt : k < n
    · have hw : SlcIn wr (.slice p10 (driftL l (a, b) (c, d) n).length c10) (driftL l (a, b) (c, d) n).length ((driftL l (a, b) (c, d) n).flatMap rgC) := by rw [HDL.out]; exact HS10.out.later HBR.out
      have hrg := drift_at l (a, b) (c, d) n k hlt
      have hle := HLE.out k hlt
      obtain ⟨r, hr⟩ : ∃ r, r = dRg l (a, b) (c, d) k := ⟨_, rfl⟩
      rw [← hr] at hrg hle
      obtain ⟨g, o, c', hv, r0, r1⟩ := SlcIn.rgAt (T := driftL l (a, b) (c, d) n) hw hrg
      rw [HDL.out] at hv
      injection hv with e1 e2 e3
      subst e1
      have hu0 : ∀ y, farR r = y → y = true → ((4 : Int) = 0 ∧ ∀ j, j < k + 1 → farR (dRg l (a, b) (c, d) j) = false) ∨ ((4 : Int) = 4 ∧ ∃ j, j < k + 1 ∧ farR (dRg l (a, b) (c, d) j) = true) := fun y hy hy2 => .inr ⟨rfl, k, Nat.lt_succ_self _, by rw [← hr, hy, hy2]⟩
      have hu1 : farR r = false → (z = 0 ∧ ∀ j, j < k + 1 → farR (dRg l (a, b) (c, d) j) = false) ∨ (z = 4 ∧ ∃ j, j < k + 1 ∧ farR (dRg l (a, b) (c, d) j) = true) := fun hf => by
        rcases HZ.out with ⟨h1, h2⟩ | ⟨h1, j, h2, h3⟩
        · refine .inl ⟨h1, fun j hj => ?_⟩
          by_cases e : j = k
          · subst e; rw [← hr]; exact hf
          · exact h2 j (by omega)
        · exact .inr ⟨h1, j, by omega, h3⟩
      by_cases h1 : r.1 < -999999999
      · have HU := hid (hu0 _ rfl (farR_yes (.inl h1)))
        clear hw e2 e3 hrg hr hle hu0 hu1
        go_wp2_with fail
        go_roundw
        case rel => exact ⟨k + 1, 4, by omega, by go_num, rfl, HU, HBR⟩
        case measure => simp [intOf]; omega
      · by_cases h2 : 999999999 < r.2
        · have HU := hid (hu0 _ rfl (farR_yes (.inr h2)))
          clear hw e2 e3 hrg hr hle hu0 hu1
          go_wp2_with fail
          go_roundw
          case rel => exact ⟨k + 1, 4, by omega, by go_num, rfl, HU, HBR⟩
          case measure => simp [intOf]; omega
        · have HU := hid (hu1 (farR_no h1 h2 hle))
          clear hw e2 e3 hrg hr hle hu0 hu1
          go_wp2_with fail
          go_roundw
          case rel => exact ⟨k + 1, z, by omega, by go_num, rfl, HU, HBR⟩
          case measure => simp [intOf]; omega
    · have hkn : k = n := by omega
      subst hkn
      have hzb : z = bd := by
        rcases HZ.out with ⟨h1, h2⟩ | ⟨h1, j, h2, h3⟩
        · rcases HBD.out with ⟨h4, j, h5, h6⟩ | ⟨h4, h5⟩
          · rw [h2 j (by have := HN.out; omega)] at h6; cases h6
          · rw [h1, h4]
        · rcases HBD.out with ⟨h4, _⟩ | ⟨h4, h5⟩
          · rw [h1, h4]
          · rw [h5 j (by have := HN.out; omega)] at h3; cases h3
      subst hzb
      have HC := hid (HFIN.out wr (.slice p10 k c10) (HB36.out.trans (HBR.out.mono HB36.out.size)) (by have h := HS10.out.later HBR.out; rw [← HN.out]; exact h))
      have HB7 := hid (HB6.out.trans (HBR.out.mono HB6.out.size))
      clear HBR HFIN
      go_wp2_with fail
      refine HC.out.mono ?_
      rintro e w8 ⟨rfl, hb⟩
      have HB8 := hid (HB7.out.trans (hb.mono HB7.out.size))
      clear hb
      go_wp2_with fail
      go_ret
      exact ⟨rfl, HB8.out⟩

theorem drifts_any (a b c d : Int) (l : List Int) (v : Value) (W : World) (hl : SlcIn W v l.length (l.map (Value.int .i64))) (hlen : l.length ≤ 300) :
    Calls Try.prog 4 #[v, .agg #[.int .i64 a, .int .i64 b], .agg #[.int .i64 c, .int .i64 d]] W (Ret (.bool true) W) := by
  by_cases hs : shownErr l = 0
  · by_cases hr : eachErr rangeErr [(a, b), (c, d)] = 0
    · exact drifts_good a b c d l v W hl hlen hs hr
    · exact drifts_bad a b c d _ l v W hl hlen (by rw [first_shown, hs]; rfl) hr (fun w h => drift_err2 l a b c d v w h hs hr)
  · exact drifts_bad a b c d _ l v W hl hlen (by rw [first_shown, if_pos hs]) hs (fun w h => drift_err1 l (a, b) (c, d) v w h hs)
end Go.Proofs.Ytlkefifffkhclaa
