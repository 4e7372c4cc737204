/-
  WeighTrue: the walk.
-/
import Derived.Test.YtlkefifffkhclaaWLDrifts
namespace Go.Proofs.Ytlkefifffkhclaa
set_option linter.all false
open Go.RowKit

theorem u16_at {w : World} {v : Value} {l : List Int} (h : SlcIn w v l.length (l.map (Value.int .u16))) {i : Nat} {x : Int} (hx : l[i]? = some x) : ∃ g o c, v = .slice (some ⟨g, o, none⟩) l.length c ∧ w.cell? ⟨g, o + i, none⟩ = some (.int .u16 x) ∧ l.length ≤ c ∧ c ≤ maxLen := by
  have hi := (List.getElem?_eq_some_iff.1 hx).1
  obtain ⟨p, c, rfl, h2, h3, h4 | ⟨g, o, rfl, h5⟩⟩ := h
  · omega
  · exact ⟨g, o, c, rfl, h5 i _ (by rw [List.getElem?_map, hx]; rfl), h2, h3⟩
theorem small_range {lo hi : Int} (h1 : 0 ≤ lo) (h2 : lo ≤ hi) (h3 : hi ≤ 999999999) : rangeErr lo hi = 0 := by
  unfold rangeErr
  rw [far_no (by omega) (by omega), far_no (by omega) h3]
  simp
  omega
theorem small_mass {lo hi : Int} (h1 : 0 ≤ lo) (h2 : lo ≤ hi) (h3 : hi ≤ 999999999) : massErr lo hi = 0 := by
  unfold massErr
  rw [small_range h1 h2 h3]
  simp
  omega
theorem each_two {E : Int → Int → Int} {a b c d : Int} (h1 : E a b = 0) (h2 : E c d = 0) : eachErr E [(a, b), (c, d)] = 0 := by
  unfold eachErr eachErr eachErr
  simp [h1, h2]
theorem small_net {a b c d x y : Int} (ha : 0 ≤ a) (hb : b ≤ 999999999) (hc : 0 ≤ c) (hd : d ≤ 999999999) (h1 : a ≤ x) (h2 : x ≤ b) (h3 : c ≤ y) (h4 : y ≤ d) (h : y ≤ x) : netErr (a, b) (c, d) = 0 ∧ (netRg (a, b) (c, d)).1 ≤ x - y ∧ x - y ≤ (netRg (a, b) (c, d)).2 := by
  have e : netErr (a, b) (c, d) = 0 := by
    unfold netErr
    rw [each_two (small_mass ha (by omega) hb) (small_mass hc (by omega) hd)]
    simp
    omega
  have r : netRg (a, b) (c, d) = (max 0 (a - d), b - c) := by unfold netRg; rw [e]; rfl
  rw [e, r]
  refine ⟨rfl, ?_, ?_⟩ <;> dsimp only <;> omega
theorem shown_ok {l : List Int} (h0 : 0 < l.length) (h6 : l.length ≤ 6) (h : ∀ x ∈ l, 0 ≤ x ∧ x ≤ 65535) : shownErr l = 0 := by
  unfold shownErr
  rw [if_neg (by omega), if_neg (by omega), if_neg]
  rw [Bool.not_eq_true, List.any_eq_false]
  intro x hx
  have := h x hx
  unfold badM
  simp
  omega
theorem div_bd {x m B : Int} (hm : 0 < m) (h1 : -(B * m) ≤ x) (h2 : x ≤ B * m) : -B ≤ x / m ∧ x / m ≤ B := by
  constructor
  · exact Int.le_ediv_of_mul_le hm (by rw [Int.neg_mul]; exact h1)
  · exact Int.ediv_le_of_le_mul hm h2
theorem mul_bd {x y : Int} {A B : Int} (h1 : 0 ≤ x) (h2 : x ≤ A) (h3 : 0 ≤ y) (h4 : y ≤ B) : 0 ≤ x * y ∧ x * y ≤ A * B := ⟨Int.mul_nonneg h1 h3, Int.mul_le_mul h2 h4 h3 (by omega)⟩
/-- What Drift's ranges are good for: the true error lies between. -/
theorem true_drift {l : List Int} {a b c d x y X : Int} {k : Nat} (hk : k < l.length) (h6 : l.length ≤ 6) (hx : l.getD k 0 = X) (hX : 0 ≤ X ∧ X ≤ 65535) (ha : 0 ≤ a) (hb : b ≤ 131070) (hc : 0 ≤ c) (hd : d ≤ 131070) (h1 : a ≤ x) (h2 : x ≤ b) (h3 : c ≤ y) (h4 : y ≤ d) :
    (dRg l (a, b) (c, d) k).1 * ((l.length : Int) + 1) ≤ X * ((l.length : Int) + 1) - (x * ((l.length : Int) - k) + y * ((k : Int) + 1)) ∧
    X * ((l.length : Int) + 1) - (x * ((l.length : Int) - k) + y * ((k : Int) + 1)) ≤ (dRg l (a, b) (c, d) k).2 * ((l.length : Int) + 1) ∧
    (-2000000 ≤ (dRg l (a, b) (c, d) k).1 ∧ (dRg l (a, b) (c, d) k).1 ≤ 2000000) ∧ (-2000000 ≤ (dRg l (a, b) (c, d) k).2 ∧ (dRg l (a, b) (c, d) k).2 ≤ 2000000) := by
  unfold dRg
  dsimp only
  rw [hx]
  obtain ⟨m, hm⟩ : ∃ m : Int, m = (l.length : Int) + 1 := ⟨_, rfl⟩
  obtain ⟨i, hi⟩ : ∃ i : Int, i = (k : Int) + 1 := ⟨_, rfl⟩
  have e : (l.length : Int) - k = m - i := by omega
  rw [← hm, ← hi, e]
  have hm0 : 0 < m := by omega
  have hm7 : m ≤ 7 := by omega
  have hi0 : 0 ≤ i := by omega
  have hmi : 0 ≤ m - i := by omega
  have hi7 : i ≤ 7 := by omega
  have hmi7 : m - i ≤ 7 := by omega
  clear hm hi e hk h6 hx
  have g1 : x * (m - i) ≤ b * (m - i) := Int.mul_le_mul_of_nonneg_right h2 hmi
  have g2 : y * i ≤ d * i := Int.mul_le_mul_of_nonneg_right h4 hi0
  have g3 : a * (m - i) ≤ x * (m - i) := Int.mul_le_mul_of_nonneg_right h1 hmi
  have g4 : c * i ≤ y * i := Int.mul_le_mul_of_nonneg_right h3 hi0
  obtain ⟨q1, q2⟩ := mul_bd (x := X) (y := m) hX.1 hX.2 (by omega) hm7
  obtain ⟨q3, q4⟩ := mul_bd (x := b) (y := m - i) (by omega) hb hmi hmi7
  obtain ⟨q5, q6⟩ := mul_bd (x := d) (y := i) (by omega) hd hi0 hi7
  obtain ⟨q7, q8⟩ := mul_bd (x := a) (y := m - i) ha (show a ≤ 131070 by omega) hmi hmi7
  obtain ⟨q9, q10⟩ := mul_bd (x := c) (y := i) hc (show c ≤ 131070 by omega) hi0 hi7
  have hne : m ≠ 0 := by omega
  obtain ⟨P, hP⟩ : ∃ P, P = X * m - (b * (m - i) + d * i) := ⟨_, rfl⟩
  obtain ⟨Q, hQ⟩ : ∃ Q, Q = X * m - (a * (m - i) + c * i) := ⟨_, rfl⟩
  rw [← hP, ← hQ]
  have d1 := Int.ediv_mul_le P hne
  have d2 := Int.ediv_mul_le (-Q) hne
  have d3 := div_bd (x := P) (m := m) (B := 2000000) hm0 (by omega) (by omega)
  have d4 := div_bd (x := -Q) (m := m) (B := 2000000) hm0 (by omega) (by omega)
  have d5 : -(-Q / m) * m = -(-Q / m * m) := Int.neg_mul _ _
  rw [d5]
  refine ⟨by omega, by omega, ?_, ?_⟩ <;> omega
theorem true_far {l : List Int} {b a : Int × Int} {k : Nat} (h : (-2000000 ≤ (dRg l b a k).1 ∧ (dRg l b a k).1 ≤ 2000000) ∧ (-2000000 ≤ (dRg l b a k).2 ∧ (dRg l b a k).2 ≤ 2000000)) : farR (dRg l b a k) = false := by
  unfold farR
  rw [far_no (by omega) (by omega), far_no (by omega) (by omega)]
  rfl
theorem mul_in {x y : Int} {A B : Int} (h1 : -A ≤ x) (h2 : x ≤ A) (h3 : 0 ≤ y) (h4 : y ≤ B) : -(A * B) ≤ x * y ∧ x * y ≤ A * B := by
  have hA : 0 ≤ A := by omega
  have h5 : A * y ≤ A * B := Int.mul_le_mul_of_nonneg_left h4 hA
  have h6 : x * y ≤ A * y := Int.mul_le_mul_of_nonneg_right h2 h3
  have h7 : -A * y ≤ x * y := Int.mul_le_mul_of_nonneg_right h1 h3
  have h8 : -A * y = -(A * y) := Int.neg_mul _ _
  omega
theorem drift_near {W W' : World} {l : List Int} {b a : Int × Int} {e : Ending} (hn : ∀ k, k < l.length → farR (dRg l b a k) = false) (h : DriftPost W l b a e W') :
    ∃ v, e = .returned (.tuple #[v, .int .i64 0]) ∧ SlcIn W' v l.length ((driftL l b a l.length).flatMap rgC) ∧ Below W.heap.size W W' := by
  rcases h with ⟨⟨k, hk, hf⟩, _⟩ | ⟨_, v, rfl, ho, hb⟩
  · rw [hn k hk] at hf; cases hf
  · have h1 := SlcIn.own ho
    rw [drift_len] at h1
    exact ⟨v, rfl, h1, hb⟩
set_option maxRecDepth 100000 in
set_option maxHeartbeats 8000000 in
theorem trues_few (a0 a1 a2 b0 b1 b2 : Int) (p : Option Addr) (n cap : Nat) (W : World) (hn : n = 0 ∨ 6 < n) (hn2 : n ≤ 9223372036854775807) : Calls Try.prog 6 #[.agg #[.int .u16 a0, .int .u16 a1, .int .u16 a2], .agg #[.int .u16 b0, .int .u16 b1, .int .u16 b2], .slice p n cap] W (Ret (.bool true) W) := by
  obtain ⟨w0, hw0⟩ : ∃ w0, w0 = (W.alloc (.cells #[.int .u16 a0, .int .u16 a1, .int .u16 a2] 58)).alloc (.cells #[.int .u16 b0, .int .u16 b1, .int .u16 b2] 58) := ⟨_, rfl⟩
  have HB0 : Hid (Below W.heap.size W w0) := hid (by rw [hw0]; exact (below_new W _).alloc (by simp) _)
  have HAW := hid (fun w => awake_any w)
  have HW0 := hid hw0
  clear hw0
  rcases hn with rfl | hn
  all_goals
    go_enter Try.func6, Try.ntmps6
    go_wp2_with (rw [← HW0.out])
    refine (HAW.out _).mono ?_
    rintro e w1 ⟨rfl, hb⟩
    have HB1 := hid (HB0.out.trans (hb.mono HB0.out.size))
    clear hb
    go_wp2_with fail
    refine (HAW.out _).mono ?_
    rintro e w2 ⟨rfl, hb⟩
    have HB2 := hid (HB1.out.trans (hb.mono HB1.out.size))
    clear hb
    go_wp2_with fail
    go_ret
    exact ⟨rfl, HB2.out⟩

set_option maxRecDepth 100000 in
set_option maxHeartbeats 16000000 in
theorem trues_any (a0 a1 a2 b0 b1 b2 : Int) (l : List Int) (v : Value) (W : World) (hl : SlcIn W v l.length (l.map (Value.int .u16))) (h1 : 0 < l.length) (h6 : l.length ≤ 6) (hx : ∀ x ∈ l, 0 ≤ x ∧ x ≤ 65535)
    (ha0 : 0 ≤ a0 ∧ a0 ≤ 65535) (ha1 : 0 ≤ a1 ∧ a1 ≤ 65535) (ha2 : 0 ≤ a2 ∧ a2 ≤ 65535) (hb0 : 0 ≤ b0 ∧ b0 ≤ 65535) (hb1 : 0 ≤ b1 ∧ b1 ≤ 65535) (hb2 : 0 ≤ b2 ∧ b2 ≤ 65535) :
    Calls Try.prog 6 #[.agg #[.int .u16 a0, .int .u16 a1, .int .u16 a2], .agg #[.int .u16 b0, .int .u16 b1, .int .u16 b2], v] W (Ret (.bool true) W) := by
  obtain ⟨i0, g0, g1, g2, g3⟩ := info_parts info_int9
  have HI : Hid (Try.prog.info? 3 = some i0 ∧ i0.zero = some (.int .i64 0) ∧ i0.size = 1 ∧ i0.bytes = 8) := hid ⟨g0, g1, g2, g3⟩
  clear g0 g1 g2 g3
  obtain ⟨p, cap, rfl, _⟩ := hl.shape
  obtain ⟨n, hn⟩ : ∃ n, n = l.length := ⟨_, rfl⟩
  obtain ⟨w0, hw0⟩ : ∃ w0, w0 = (W.alloc (.cells #[.int .u16 a0, .int .u16 a1, .int .u16 a2] 58)).alloc (.cells #[.int .u16 b0, .int .u16 b1, .int .u16 b2] 58) := ⟨_, rfl⟩
  have hbl : Below W.heap.size W w0 := by rw [hw0]; exact (below_new W _).alloc (by simp) _
  have hA : Blk w0 W.heap.size #[.int .u16 a0, .int .u16 a1, .int .u16 a2] 58 := by rw [hw0]; exact (Blk.new W _ _).alloc _
  have hB : Blk w0 (W.heap.size + 1) #[.int .u16 b0, .int .u16 b1, .int .u16 b2] 58 := by rw [hw0]; exact Blk_newn _ _ _ (by simp)
  have r1 : 0 ≤ a2 % (a1 + 1) := Int.emod_nonneg _ (by omega)
  have r2 := Int.emod_lt_of_pos a2 (show 0 < a1 + 1 by omega)
  have r3 : 0 ≤ b2 % (b1 + 1) := Int.emod_nonneg _ (by omega)
  have r4 := Int.emod_lt_of_pos b2 (show 0 < b1 + 1 by omega)
  have z1 : (a1 + 1 == 0) = false := by simp; omega
  have z2 : (b1 + 1 == 0) = false := by simp; omega
  rw [← hn] at h1 h6 ⊢
  have HSH := hid (fun h => shown_ok (l := l) h)
  have HX := hid hx
  have HL := hid (hl.later hbl)
  have HN := hid hn
  have HA0 := hid hA
  have HB0 := hid hB
  have HBL := hid hbl
  have HAW := hid (fun w => awake_any w)
  have HW0 := hid hw0
  clear hl hn hbl hA hB hw0 hx
  go_enter Try.func6, Try.ntmps6
  go_wp2_with (rw [← HW0.out])
  refine (HAW.out _).mono ?_
  rintro e w1 ⟨rfl, hb⟩
  have HBL1 := hid (HBL.out.trans (hb.mono HBL.out.size))
  have HA1 := hid (HA0.out.later hb HA0.out.lt)
  have HB1 := hid (HB0.out.later hb HB0.out.lt)
  have HL1 := hid (HL.out.later hb)
  have x0 := HA1.out.cell (i := 0) rfl
  have x1 := HA1.out.cell (i := 1) rfl
  have x2 := HA1.out.cell (i := 2) rfl
  have y0 := HB1.out.cell (i := 0) rfl
  have y1 := HB1.out.cell (i := 1) rfl
  have y2 := HB1.out.cell (i := 2) rfl
  have hz0 : ((n : Int) == 0) = false := by simp; omega
  obtain ⟨wa, hwa⟩ : ∃ wa, wa = w1.alloc (.cells #[.int .i64 a0, .int .i64 (a0 + a1)] 23) := ⟨_, rfl⟩
  obtain ⟨wb, hwb⟩ : ∃ wb, wb = wa.alloc (.cells #[.int .i64 b0, .int .i64 (b0 + b1)] 23) := ⟨_, rfl⟩
  have hba : Below w1.heap.size w1 wa := by rw [hwa]; exact below_new w1 _
  have hbb : Below w1.heap.size w1 wb := by rw [hwb]; exact hba.trans ((below_new wa _).mono hba.size)
  have hGa : Blk wa w1.heap.size #[.int .i64 a0, .int .i64 (a0 + a1)] 23 := by rw [hwa]; exact Blk.new w1 _ _
  have HG := hid (show Blk wb w1.heap.size #[.int .i64 a0, .int .i64 (a0 + a1)] 23 from by rw [hwb]; exact hGa.alloc _)
  have HT := hid (show Blk wb wa.heap.size #[.int .i64 b0, .int .i64 (b0 + b1)] 23 from by rw [hwb]; exact Blk.new wa _ _)
  have HAb := hid (HA1.out.later hbb HA1.out.lt)
  have HBb := hid (HB1.out.later hbb HB1.out.lt)
  have HLb := hid (HL1.out.later hbb)
  have HBLb := hid (HBL1.out.trans (hbb.mono HBL1.out.size))
  have ya0 := (HB1.out.later hba HB1.out.lt).cell (i := 0) rfl
  have ya1 := (HB1.out.later hba HB1.out.lt).cell (i := 1) rfl
  have xb1 := HAb.out.cell (i := 1) rfl
  have xb2 := HAb.out.cell (i := 2) rfl
  have yb1 := HBb.out.cell (i := 1) rfl
  have yb2 := HBb.out.cell (i := 2) rfl
  have gb0 := HG.out.cell (i := 0) rfl
  have gb1 := HG.out.cell (i := 1) rfl
  have tb0 := HT.out.cell (i := 0) rfl
  have tb1 := HT.out.cell (i := 1) rfl
  have HWA := hid hwa
  have HWB := hid hwb
  clear hb HA0 HB0 HBL HL HAW x2 y0 y1 y2 hwa hwb hba hbb hGa HBL1 HL1
  go_wp2_with (first | (rw [← HWA.out]) | (rw [← HWB.out]))
  clear x0 x1 ya0 ya1
  have HQB : Hid (∀ q, Below wb.heap.size wb (wb.drewN q)) := hid (fun q => ⟨rfl, rfl, rfl, Nat.le_refl _, fun _ _ => rfl⟩)
  have HNET : Hid (∀ w, Calls Try.prog 8 #[.agg #[.int .i64 a0, .int .i64 (a0 + a1)], .agg #[.int .i64 b0, .int .i64 (b0 + b1)]] w (Ret (.tuple #[.agg #[.int .i64 (netRg (a0, a0 + a1) (b0, b0 + b1)).1, .int .i64 (netRg (a0, a0 + a1) (b0, b0 + b1)).2], .int .i64 (netErr (a0, a0 + a1) (b0, b0 + b1))]) w)) := hid (fun w => net_any (a0, a0 + a1) (b0, b0 + b1) w)
  have HSN := hid (fun x y h1 h2 h3 h4 h => small_net (a := a0) (b := a0 + a1) (c := b0) (d := b0 + b1) (x := x) (y := y) ha0.1 (by omega) hb0.1 (by omega) h1 h2 h3 h4 h)
  obtain ⟨nr, hnr⟩ : ∃ nr, nr = netRg (a0, a0 + a1) (b0, b0 + b1) := ⟨_, rfl⟩
  obtain ⟨ne, hne⟩ : ∃ ne, ne = netErr (a0, a0 + a1) (b0, b0 + b1) := ⟨_, rfl⟩
  rw [← hnr, ← hne] at HNET HSN
  clear hnr hne
  go_quiet (fail)
  go_wp2_with fail
  go_quiet (fail)
  go_wp2_with fail
  obtain ⟨x, hx⟩ : ∃ x, x = a0 + a2 % (a1 + 1) := ⟨_, rfl⟩
  obtain ⟨y, hy⟩ : ∃ y, y = b0 + b2 % (b1 + 1) := ⟨_, rfl⟩
  rw [← hx, ← hy]
  have e1 : a0 ≤ x := by omega
  have e2 : x ≤ a0 + a1 := by omega
  have e3 : b0 ≤ y := by omega
  have e4 : y ≤ b0 + b1 := by omega
  have hcs : (y ≤ x ∧ ne = 0 ∧ nr.1 ≤ x - y ∧ x - y ≤ nr.2) ∨ x < y := by
    rcases Int.lt_or_le x y with h | h
    · exact .inr h
    · exact .inl ⟨h, HSN.out x y e1 e2 e3 e4 h⟩
  clear hx hy r1 r2 r3 r4 z1 z2 HSN xb1 xb2 yb1 yb2
  refine (HNET.out _).mono ?_
  rintro e w3 ⟨rfl, hb⟩
  have hb3 : Below wb.heap.size wb w3 := (HQB.out _).trans (hb.mono (HQB.out _).size)
  clear hb
  obtain ⟨w4, hw4⟩ : ∃ w4, w4 = w3.alloc (.cells #[.int .i64 nr.1, .int .i64 nr.2] 23) := ⟨_, rfl⟩
  have hb4 : Below wb.heap.size wb w4 := by rw [hw4]; exact hb3.trans ((below_new w3 _).mono hb3.size)
  have hN : Blk w4 w3.heap.size #[.int .i64 nr.1, .int .i64 nr.2] 23 := by rw [hw4]; exact Blk.new w3 _ _
  have n0 := hN.cell (i := 0) rfl
  have n1 := hN.cell (i := 1) rfl
  have HG4 := hid (HG.out.later hb4 HG.out.lt)
  have HT4 := hid (HT.out.later hb4 HT.out.lt)
  have HL4 := hid (HLb.out.later hb4)
  have HBL4 := hid (HBLb.out.trans (hb4.mono HBLb.out.size))
  have HW4 := hid hw4
  clear hb3 hb4 hw4 hN HG HT HLb HBLb HAb HBb HNET HQB HWA HWB HA1 HB1 gb0 gb1 tb0 tb1
  rcases hcs with ⟨c1, c2, c3, c4⟩ | c1
  all_goals
    (try subst c2)
    go_wp2_with (rw [← HW4.out])
    clear n0 n1
    go_loopw [13, 14] (fun v u wr => ∃ k : Nat, k ≤ n ∧ u = .int .i64 k ∧ Hid (wr.ownsRow w4.heap.size 3 1 v k ((l.take k).map (Value.int .i64))) ∧ Hid (Below w4.heap.size w4 wr)) (fun _ u _ => n - (intOf u).toNat)
    case atStart => exact ⟨0, Nat.zero_le _, rfl, hid (World.ownsRow_nil _ _ _ _), hid (Below.refl _ _)⟩
    case round =>
      obtain ⟨k, hk, rfl, HO, HBR⟩ := hrel
      obtain ⟨pv, cv, rfl⟩ := row_slice HO.out
      have hwr : w4.heap.size ≤ wr.heap.size := HBR.out.size
      by_cases hlt : k < n
      · obtain ⟨z, hz⟩ : ∃ z, l[k]? = some z := ⟨_, List.getElem?_eq_getElem (by rw [← HN.out]; exact hlt)⟩
        obtain ⟨g, o, c', hv, r0, _⟩ := u16_at (HL4.out.later HBR.out) hz
        injection hv with f1 f2 f3
        subst f1
        obtain ⟨z1, z2⟩ := HX.out z (List.mem_of_getElem? hz)
        have HTK : Hid ((l.take (k + 1)).map (Value.int .i64) = (l.take k).map (Value.int .i64) ++ [.int .i64 z]) := hid (by rw [List.take_add_one, hz, Option.toList_some, List.map_append]; rfl)
        clear f2 f3 hz
        go_wp2_with (at_builtin; refine wpList_append_own _ rfl _ _ 41 rfl (w4.heap.size) 3 i0 (.int .i64 0) 1 8 (by kernel_rfl) HI.out.1 HI.out.2.1 HI.out.2.2.1 HI.out.2.2.2 rfl (by decide) _ _ _ rfl (HO.out.alloc _) ⟨wr.heap.size, 0, none⟩ 1 1 [.int .i64 z] rfl rfl (cells_new1 wr [.int .i64 z] 3) (by simp [Value.oneCell']) (by unfold maxLen; omega) (by omega) (by simp; omega) ?_; intro v6 w6 ho6 hg6 _; have HB6 := hid (HBR.out.trans (((below_new wr _).mono hwr).trans (grown_base (HO.out.alloc _) hg6 (by simp; omega)))); have HO6 := hid ho6; clear hg6 ho6)
        have HO7 : Hid (w6.ownsRow w4.heap.size 3 1 v6 (k + 1) ((l.take (k + 1)).map (Value.int .i64))) := hid (by rw [HTK.out]; exact HO6.out)
        go_roundw
        case rel => exact ⟨k + 1, by omega, by go_num, HO7, HB6⟩
        case measure => simp [intOf]; omega
      · have hkn : k = n := by omega
        subst hkn
        have htk : l.take k = l := List.take_of_length_le (by have := HN.out; omega)
        have HSL : Hid (SlcIn wr (.slice pv k cv) l.length (l.map (Value.int .i64))) := hid (by
          have h := SlcIn.own HO.out
          rw [htk] at h
          rw [← HN.out]
          exact h)
        have HG5 := hid (HG4.out.later HBR.out HG4.out.lt)
        have HT5 := hid (HT4.out.later HBR.out HT4.out.lt)
        have HB5 := hid (HBL4.out.trans (HBR.out.mono HBL4.out.size))
        have gb0 := HG5.out.cell (i := 0) rfl
        have gb1 := HG5.out.cell (i := 1) rfl
        have tb0 := HT5.out.cell (i := 0) rfl
        have tb1 := HT5.out.cell (i := 1) rfl
        clear htk HL4 HBL4 HG4 HT4 HO
        have hs0 : shownErr l = 0 := HSH.out (by have := HN.out; omega) (by have := HN.out; omega) HX.out
        have hr0 : eachErr rangeErr [(a0, a0 + a1), (b0, b0 + b1)] = 0 := each_two (small_range ha0.1 (by omega) (by omega)) (small_range hb0.1 (by omega) (by omega))
        have HDF := hid (drift_yes l (a0, a0 + a1) (b0, b0 + b1) (.slice pv k cv) wr (by have h := HSL.out; have e : k = l.length := HN.out; exact h) hs0 hr0)
        have HTD := hid (fun (j : Nat) (X : Int) (hj : j < l.length) (h6 : l.length ≤ 6) hX hX2 => true_drift (l := l) (a := a0) (b := a0 + a1) (c := b0) (d := b0 + b1) (x := x) (y := y) (X := X) (k := j) hj h6 hX hX2 ha0.1 (by omega) hb0.1 (by omega) e1 e2 e3 e4)
        have HFR : Hid (∀ j, j < l.length → farR (dRg l (a0, a0 + a1) (b0, b0 + b1) j) = false) := hid (fun j hj => true_far (HTD.out j _ hj (by have := HN.out; omega) rfl (by
          have h := HX.out (l.getD j 0) (by rw [List.getD_eq_getElem?_getD, List.getElem?_eq_getElem hj]; exact List.getElem_mem hj)
          exact h)).2.2)
        clear hs0 hr0
        have hzk : ((k : Int) != (k : Int)) = false := by simp
        go_wp2_with fail
        refine HDF.out.mono ?_
        intro e w7 hp
        obtain ⟨v7, rfl, hs7, hb7⟩ := drift_near HFR.out hp
        rw [← HN.out] at hs7
        obtain ⟨p7, c7, rfl, _⟩ := hs7.shape
        have HS7 := hid hs7
        have HSL7 := hid (HSL.out.later hb7)
        have HB7 := hid (HB5.out.trans (hb7.mono HB5.out.size))
        clear hp hs7 hb7 HSL HDF HB5 HBR gb0 gb1 tb0 tb1 HG5 HT5
        go_wp2_with fail
        go_loopw [17] (fun u wr => ∃ j : Nat, j ≤ k ∧ u = .int .i64 j ∧ Hid (Below w7.heap.size w7 wr)) (fun u _ => k - (intOf u).toNat)
        case atStart => exact ⟨0, Nat.zero_le _, rfl, hid (Below.refl _ _)⟩
        case round =>
          obtain ⟨j, hj, rfl, HBQ⟩ := hrel
          by_cases hjk : j < k
          · obtain ⟨X, hX⟩ : ∃ X, l[j]? = some X := ⟨_, List.getElem?_eq_getElem (by rw [← HN.out]; exact hjk)⟩
            have hX2 : l.getD j 0 = X := by rw [List.getD_eq_getElem?_getD, hX]; rfl
            obtain ⟨x3, x4⟩ := HX.out X (List.mem_of_getElem? hX)
            obtain ⟨t1, t2, ⟨t3, t4⟩, t5, t6⟩ := HTD.out j X (by rw [← HN.out]; exact hjk) (by have := HN.out; omega) hX2 ⟨x3, x4⟩
            rw [← HN.out] at t1 t2
            have hrg := drift_at l (a0, a0 + a1) (b0, b0 + b1) k j hjk
            obtain ⟨r, hr⟩ : ∃ r, r = dRg l (a0, a0 + a1) (b0, b0 + b1) j := ⟨_, rfl⟩
            rw [← hr] at hrg t1 t2 t3 t4 t5 t6
            have hw7 : SlcIn wr (.slice p7 k c7) (driftL l (a0, a0 + a1) (b0, b0 + b1) k).length ((driftL l (a0, a0 + a1) (b0, b0 + b1) k).flatMap rgC) := by rw [drift_len]; exact HS7.out.later HBQ.out
            obtain ⟨g, o, c', hv, s0, s1⟩ := SlcIn.rgAt hw7 hrg
            rw [drift_len] at hv
            injection hv with f1 f2 f3
            subst f1
            obtain ⟨g2, o2, c2', hv2, q0, _⟩ := int_at (by have h := HSL7.out.later HBQ.out; exact h) hX
            injection hv2 with f4 f5 f6
            subst f4
            obtain ⟨m1, m2⟩ := mul_in (x := r.1) (y := (k : Int) + 1) (A := 2000000) (B := 7) t3 t4 (by omega) (by omega)
            obtain ⟨m3, m4⟩ := mul_in (x := r.2) (y := (k : Int) + 1) (A := 2000000) (B := 7) t5 t6 (by omega) (by omega)
            obtain ⟨m5, m6⟩ := mul_in (x := X) (y := (k : Int) + 1) (A := 2000000) (B := 7) (by omega) (by omega) (by omega) (by omega)
            obtain ⟨m7, m8⟩ := mul_in (x := x) (y := (k : Int) - (j : Int)) (A := 2000000) (B := 7) (by omega) (by omega) (by omega) (by omega)
            obtain ⟨m9, m10⟩ := mul_in (x := y) (y := (j : Int) + 1) (A := 2000000) (B := 7) (by omega) (by omega) (by omega) (by omega)
            have HBD : Hid (∀ q, Below w7.heap.size w7 (wr.drewN q)) := hid (fun q => ⟨HBQ.out.os, HBQ.out.tape, HBQ.out.output, HBQ.out.size, HBQ.out.block⟩)
            clear hX hX2 hrg hr hw7 f2 f3 f5 f6 t3 t4 t5 t6 x3 x4
            go_wp2_with fail
            obtain ⟨E, hE⟩ : ∃ E, E = x * ((k : Int) - (j : Int)) + y * ((j : Int) + 1) := ⟨_, rfl⟩
            rw [← hE] at t1 t2
            rw [← hE]
            have hE1 : -28000000 ≤ E ∧ E ≤ 28000000 := by omega
            have d1 : decide (X * ((k : Int) + 1) - E < r.1 * ((k : Int) + 1)) = false := by simp; omega
            have d2 : decide (r.2 * ((k : Int) + 1) < X * ((k : Int) + 1) - E) = false := by simp; omega
            clear hE m7 m8 m9 m10
            go_quiet (fail)
            go_wp2_with fail
            go_roundw
            case rel => exact ⟨j + 1, by omega, by go_num, hid (HBD.out _)⟩
            case measure => simp [intOf]; omega
          · go_wp2_with fail
            go_ret
            exact ⟨rfl, HB7.out.trans (HBQ.out.mono HB7.out.size)⟩
end Go.Proofs.Ytlkefifffkhclaa
