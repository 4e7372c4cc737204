/-
  masses, Witness: an assignment in which a ticket has its least or its greatest mass.
-/
import Derived.Test.YtncnpodanlhdkaaWSetM
import Derived.Test.YtncnpodanlhdkaaWMinimal
namespace Go.Proofs.Ytncnpodanlhdkaa
set_option linter.all false
open Go.RowKit

theorem mss_next {L : List Arc} {k : Nat} {x : Arc} (h : L[k]? = some x) : (mss L).take (k + 1) = (mss L).take k ++ [x.mass] := by
  rw [List.take_add_one, mss_get h]
  rfl

set_option maxRecDepth 100000 in
set_option maxHeartbeats 8000000 in
theorem masses_any (base a g c n : Nat) (N : Net) (vs : List Value) (W : World) (hnet : NetIn base W a N (.slice (some ⟨g, 0, none⟩) N.arcs.length c) vs) (hn : n ≤ N.arcs.length) (h1 : N.arcs.length ≤ 1000) :
    Calls Try.prog 59 #[.pointer (some ⟨a, 0, none⟩), .int .i64 n] W (OwnPost W 3 1 n (((mss N.arcs).take n).map (Value.int .i64))) := by
  obtain ⟨i0, g0, g1, g2, g3⟩ := info_parts info_int9
  have HI : Hid (Try.prog.info? 3 = some i0 ∧ i0.zero = some (.int .i64 0) ∧ i0.size = 1 ∧ i0.bytes = 8) := hid ⟨g0, g1, g2, g3⟩
  have c0 : W.cell? ⟨a, 0, none⟩ = some (.slice (some ⟨g, 0, none⟩) N.arcs.length c) := hnet.blk.cell rfl
  have hcap : N.arcs.length ≤ c := by
    obtain ⟨_, h2⟩ := hnet.arcs
    rcases h2 with ⟨h2, _⟩ | ⟨_, _, _, h3, _, _, h6, _⟩
    · cases h2
    · injection h3 with _ _ h3; subst h3; exact h6
  have hcm : c ≤ 9223372036854775807 := by
    obtain ⟨_, h2⟩ := hnet.arcs
    rcases h2 with ⟨h2, _⟩ | ⟨_, _, _, h3, _, _, _, h7, _⟩
    · cases h2
    · injection h3 with _ _ h3; subst h3; unfold maxLen at h7; omega
  have HNET := hid hnet
  obtain ⟨na, hna⟩ : ∃ na, na = N.arcs.length := ⟨_, rfl⟩
  have HNA := hid hna
  rw [← hna] at c0 hn h1 hcap
  have hnc : n ≤ c := by omega
  clear hnet hna g0 g1 g2 g3
  go_enter Try.func59, Try.ntmps59
  go_wp2_with fail
  go_loopw [5, 15] (fun v u wr => ∃ k : Nat, k ≤ n ∧ u = .int .i64 k ∧ Hid (wr.ownsRow W.heap.size 3 1 v k (((mss N.arcs).take k).map (Value.int .i64)) ∧ Below W.heap.size W wr)) (fun _ u _ => n - (intOf u).toNat)
  case atStart => exact ⟨0, Nat.zero_le _, rfl, hid ⟨World.ownsRow_nil _ _ _ _, Below.refl _ _⟩⟩
  case round =>
    obtain ⟨k, hk, rfl, HR⟩ := hrel
    by_cases hlt : k < n
    · obtain ⟨x, hx⟩ : ∃ x, N.arcs[k]? = some x := ⟨_, List.getElem?_eq_getElem (by rw [← HNA.out]; omega)⟩
      obtain ⟨g9, c9, hv9, _, _, _, a0, a1, a2, a3, a4, _⟩ := (HNET.out.later HR.out.2).arcAt hx
      injection hv9 with e1 e2 e3
      injection e1 with e1
      injection e1 with e1 _ _
      subst e1
      have HNX : Hid ((((mss N.arcs).take (k + 1)).map (Value.int .i64)) = ((mss N.arcs).take k).map (Value.int .i64) ++ [.int .i64 x.mass]) := hid (by rw [mss_next hx, List.map_append]; rfl)
      obtain ⟨xl, xh, xs, xd, xm⟩ := x
      dsimp only at a0 a1 a2 a3 a4 HNX
      obtain ⟨w6, hw6⟩ : ∃ w6, w6 = wr.alloc (.cells #[.int .i64 xl, .int .i64 xh, .int .i64 xs, .int .i64 xd, .int .i64 xm] 115) := ⟨_, rfl⟩
      have hb6 : Below W.heap.size W w6 := by rw [hw6]; exact HR.out.2.alloc HR.out.2.size _
      have HB6 := hid hb6
      have HO6 := hid (show w6.ownsRow W.heap.size 3 1 u5 k (((mss N.arcs).take k).map (Value.int .i64)) by rw [hw6]; exact HR.out.1.alloc _)
      have hX : Blk w6 wr.heap.size #[.int .i64 xl, .int .i64 xh, .int .i64 xs, .int .i64 xd, .int .i64 xm] 115 := by rw [hw6]; exact Blk.new wr _ _
      have m4 := hX.cell (i := 4) rfl
      have HW6 := hid hw6
      have h6s := hb6.size
      clear hx e2 e3 hw6 hb6 hX
      go_wp2_with (first | (rw [← HW6.out]) | (at_builtin; refine wl_own rfl _ _ 36 3 i0 (.int .i64 0) 1 8 rfl (by kernel_rfl) HI.out.1 HI.out.2.1 HI.out.2.2.1 HI.out.2.2.2 rfl (by decide) rfl (HO6.out.alloc _) (by simp; omega) ⟨w6.heap.size, 0, none⟩ 1 1 [.int .i64 xm] rfl rfl (cells_new1 w6 [.int .i64 xm] 3) (by simp [Value.oneCell']) (by unfold maxLen; omega) (by omega) ?_; intro v7 w7 ho7 hg7 hv7; have HO7 := hid ho7; have HB7 : Hid (Below W.heap.size W w7) := hid ((HB6.out.alloc HB6.out.size _).trans (grown_base (HO6.out.alloc _) hg7 (by simp; omega))); clear ho7 hg7 hv7))
      go_roundw
      case rel => exact ⟨k + 1, by omega, by go_num, hid (by rw [HNX.out]; exact ⟨HO7.out, HB7.out⟩)⟩
      case measure => simp [intOf]; omega
    · have hkn : n = k := by omega
      subst hkn
      go_wp2_with fail
      go_ret
      exact ⟨_, rfl, HR.out.1, HR.out.2⟩
theorem nums_one (x : Int) (n : Nat) : numsErr [x] n = if x < 0 ∨ (n : Int) ≤ x then 10 else 0 := by
  unfold numsErr badN dupAt
  by_cases h1 : x < 0
  · simp [h1]
  · by_cases h2 : (n : Int) ≤ x
    · simp [h1, h2]
    · simp [h1, h2]
set_option maxRecDepth 100000 in
set_option maxHeartbeats 4000000 in
theorem wit_err1 (S : List (Int × Int)) (T : List Tk) (x y : Int) (hi : Bool) (v1 v2 : Value) (W : World) (hb : BookIn W v1 v2 S T) (hx : bookErr S T = y) (h0 : y ≠ 0) :
    Calls Try.prog 26 #[.agg #[v1, v2], .int .i64 x, .bool hi] W (Ret (.tuple #[.slice none 0 0, .int .i64 y]) W) := by
  obtain ⟨p1, c1, rfl, hm1⟩ := hb.stock.shape
  obtain ⟨p2, c2, rfl, hm2⟩ := hb.tickets.shape
  obtain ⟨nt, hnt⟩ : ∃ nt, nt = T.length := ⟨_, rfl⟩
  obtain ⟨w1, hw1⟩ : ∃ w1, w1 = W.alloc (.cells #[.slice p1 S.length c1, .slice p2 nt c2] 25) := ⟨_, rfl⟩
  have hb1 : Below W.heap.size W w1 := by rw [hw1]; exact below_new W _
  have hB1 : Blk w1 W.heap.size #[.slice p1 S.length c1, .slice p2 nt c2] 25 := by rw [hw1]; exact Blk.new W _ _
  have HC := hid (book_any S T _ _ w1 (hb.later hb1))
  have HN := hid (fun (w : World) h => nums_any [x] (T.length : Int) (.slice (some ⟨w.heap.size, 0, none⟩) 1 1) (w.alloc (.cells #[.int .i64 x] 3)) h)
  have HBK := hid (hb.later hb1)
  rw [hx] at HC
  rw [← hnt] at HC HBK ⊢
  have q0 := hB1.cell (i := 0) rfl
  have q1 := hB1.cell (i := 1) rfl
  have HB1 := hid hb1
  have HBL := hid hB1
  have HW1 := hid hw1
  have hge : W.heap.size < w1.heap.size := hB1.lt
  have hz : (y == 0) = false := by simpa using h0
  have hz2 : (y != 0) = true := by simpa using h0
  clear hb hw1 hb1 hB1 hm1 hm2 hx h0 hnt HN
  go_enter Try.func26, Try.ntmps26
  go_wp2_with (first | (rw [← HW1.out]) | (go_at_call 45; (with_reducible refine HC.out.mono ?_); rintro e w2 ⟨rfl, hb⟩; have HB2 := hid hb; have HBL2 := hid (HBL.out.later hb HBL.out.lt); have HB4 := hid (HB1.out.trans (hb.mono (by omega))); have HBK2 := hid (HBK.out.later hb); have d0 := HBL2.out.cell (i := 0) rfl; have d1 := HBL2.out.cell (i := 1) rfl; have d2 := (HBL2.out.alloc (.cells #[.int .i64 x] 3)).cell (i := 0) rfl; have d3 := (HBL2.out.alloc (.cells #[.int .i64 x] 3)).cell (i := 1) rfl; clear hb))
  go_ret2
  exact ⟨rfl, HB4.out⟩
set_option maxRecDepth 100000 in
set_option maxHeartbeats 4000000 in
theorem wit_err2 (S : List (Int × Int)) (T : List Tk) (x : Int) (hi : Bool) (v1 v2 : Value) (W : World) (hb : BookIn W v1 v2 S T) (hx : bookErr S T = 0) (h0 : x < 0 ∨ (T.length : Int) ≤ x) :
    Calls Try.prog 26 #[.agg #[v1, v2], .int .i64 x, .bool hi] W (Ret (.tuple #[.slice none 0 0, .int .i64 10]) W) := by
  obtain ⟨p1, c1, rfl, hm1⟩ := hb.stock.shape
  obtain ⟨p2, c2, rfl, hm2⟩ := hb.tickets.shape
  obtain ⟨nt, hnt⟩ : ∃ nt, nt = T.length := ⟨_, rfl⟩
  obtain ⟨w1, hw1⟩ : ∃ w1, w1 = W.alloc (.cells #[.slice p1 S.length c1, .slice p2 nt c2] 25) := ⟨_, rfl⟩
  have hb1 : Below W.heap.size W w1 := by rw [hw1]; exact below_new W _
  have hB1 : Blk w1 W.heap.size #[.slice p1 S.length c1, .slice p2 nt c2] 25 := by rw [hw1]; exact Blk.new W _ _
  have HC := hid (book_any S T _ _ w1 (hb.later hb1))
  have HN := hid (fun (w : World) h => nums_any [x] (T.length : Int) (.slice (some ⟨w.heap.size, 0, none⟩) 1 1) (w.alloc (.cells #[.int .i64 x] 3)) h)
  have HBK := hid (hb.later hb1)
  rw [hx] at HC
  rw [nums_one, if_pos h0] at HN
  rw [← hnt] at HC HBK HN ⊢
  have q0 := hB1.cell (i := 0) rfl
  have q1 := hB1.cell (i := 1) rfl
  have HB1 := hid hb1
  have HBL := hid hB1
  have HW1 := hid hw1
  have hge : W.heap.size < w1.heap.size := hB1.lt
  clear hb hw1 hb1 hB1 hm1 hm2 hx h0 hnt
  go_enter Try.func26, Try.ntmps26
  go_wp2_with (first | (rw [← HW1.out]) | (go_at_call 45; (with_reducible refine HC.out.mono ?_); rintro e w2 ⟨rfl, hb⟩; have HB2 := hid hb; have HBL2 := hid (HBL.out.later hb HBL.out.lt); have HB4 := hid (HB1.out.trans (hb.mono (by omega))); have HBK2 := hid (HBK.out.later hb); have d0 := HBL2.out.cell (i := 0) rfl; have d1 := HBL2.out.cell (i := 1) rfl; have d2 := (HBL2.out.alloc (.cells #[.int .i64 x] 3)).cell (i := 0) rfl; have d3 := (HBL2.out.alloc (.cells #[.int .i64 x] 3)).cell (i := 1) rfl; clear hb) | (go_at_call 54; (with_reducible refine (HN.out _ (slc_new w2 [.int .i64 x] 3 1 (by decide))).mono ?_); rintro e w3 ⟨rfl, rfl⟩; have HB5 := hid (HB4.out.trans ((below_new w2 (.cells #[.int .i64 x] 3)).mono HB4.out.size))))
  go_ret2
  exact ⟨rfl, HB5.out⟩
set_option maxRecDepth 100000 in
set_option maxHeartbeats 4000000 in
theorem wit_err3 (S : List (Int × Int)) (T : List Tk) (x : Int) (hi : Bool) (N' : Net) (v1 v2 : Value) (W : World) (hb : BookIn W v1 v2 S T) (hx : bookErr S T = 0) (h0 : ¬ (x < 0 ∨ (T.length : Int) ≤ x)) (hs : settleF (newF S T []) = some (N', false)) :
    Calls Try.prog 26 #[.agg #[v1, v2], .int .i64 x, .bool hi] W (Ret (.tuple #[.slice none 0 0, .int .i64 15]) W) := by
  obtain ⟨p1, c1, rfl, hm1⟩ := hb.stock.shape
  obtain ⟨p2, c2, rfl, hm2⟩ := hb.tickets.shape
  obtain ⟨nt, hnt⟩ : ∃ nt, nt = T.length := ⟨_, rfl⟩
  obtain ⟨w1, hw1⟩ : ∃ w1, w1 = W.alloc (.cells #[.slice p1 S.length c1, .slice p2 nt c2] 25) := ⟨_, rfl⟩
  have hb1 : Below W.heap.size W w1 := by rw [hw1]; exact below_new W _
  have hB1 : Blk w1 W.heap.size #[.slice p1 S.length c1, .slice p2 nt c2] 25 := by rw [hw1]; exact Blk.new W _ _
  have HC := hid (book_any S T _ _ w1 (hb.later hb1))
  have HN := hid (fun (w : World) h => nums_any [x] (T.length : Int) (.slice (some ⟨w.heap.size, 0, none⟩) 1 1) (w.alloc (.cells #[.int .i64 x] 3)) h)
  have HBK := hid (hb.later hb1)
  have HA := hid (fun w (h : BookIn w (.slice p1 S.length c1) (.slice p2 T.length c2) S T) => assigned_no S T [] N' _ _ (.slice none 0 0) w h (nil_slc w _) (book_ok hx).1 hs)
  rw [hx] at HC
  rw [nums_one, if_neg h0] at HN
  rw [← hnt] at HC HBK HN HA ⊢
  have q0 := hB1.cell (i := 0) rfl
  have q1 := hB1.cell (i := 1) rfl
  have HB1 := hid hb1
  have HBL := hid hB1
  have HW1 := hid hw1
  have hge : W.heap.size < w1.heap.size := hB1.lt
  clear hb hw1 hb1 hB1 hm1 hm2 hx h0 hnt hs
  go_enter Try.func26, Try.ntmps26
  go_wp2_with (first | (rw [← HW1.out]) | (go_at_call 45; (with_reducible refine HC.out.mono ?_); rintro e w2 ⟨rfl, hb⟩; have HB2 := hid hb; have HBL2 := hid (HBL.out.later hb HBL.out.lt); have HB4 := hid (HB1.out.trans (hb.mono (by omega))); have HBK2 := hid (HBK.out.later hb); have d0 := HBL2.out.cell (i := 0) rfl; have d1 := HBL2.out.cell (i := 1) rfl; have d2 := (HBL2.out.alloc (.cells #[.int .i64 x] 3)).cell (i := 0) rfl; have d3 := (HBL2.out.alloc (.cells #[.int .i64 x] 3)).cell (i := 1) rfl; clear hb) | (go_at_call 54; (with_reducible refine (HN.out _ (slc_new w2 [.int .i64 x] 3 1 (by decide))).mono ?_); rintro e w3 ⟨rfl, rfl⟩; have HB5 := hid (HB4.out.trans ((below_new w2 (.cells #[.int .i64 x] 3)).mono HB4.out.size))) | (go_at_call 47; (with_reducible refine (HA.out _ (HBK2.out.later (below_new w2 _))).mono ?_); rintro e w3 ⟨rfl, hb⟩; have HB6 := hid (HB5.out.trans (hb.mono HB5.out.size)); clear hb))
  go_ret2
  exact ⟨rfl, HB6.out⟩
def WitPost (W : World) (M : List Int) (e : Ending) (W' : World) : Prop := ∃ v, e = .returned (.tuple #[v, .int .i64 0]) ∧ W'.ownsRow W.heap.size 3 1 v M.length (M.map (Value.int .i64)) ∧ Below W.heap.size W W'
set_option maxRecDepth 100000 in
set_option maxHeartbeats 8000000 in
theorem wit_yes (S : List (Int × Int)) (T : List Tk) (i : Nat) (hi : Bool) (N' N3 : Net) (m : Int) (v1 v2 : Value) (W : World) (hb : BookIn W v1 v2 S T) (hx : bookErr S T = 0) (hil : i < T.length) (hs : settleF (newF S T []) = some (N', true)) (hok : N'.Ok) (hst : stretchF fuel N' i hi = some (N3, m)) (hl3 : N3.arcs.length = N'.arcs.length) (hnl : T.length ≤ N'.arcs.length) :
    Calls Try.prog 26 #[.agg #[v1, v2], .int .i64 i, .bool hi] W (WitPost W ((mss N3.arcs).take T.length)) := by
  obtain ⟨x, hxi⟩ : ∃ x : Int, x = (i : Int) := ⟨_, rfl⟩
  rw [← hxi]
  obtain ⟨p1, c1, rfl, hm1⟩ := hb.stock.shape
  obtain ⟨p2, c2, rfl, hm2⟩ := hb.tickets.shape
  obtain ⟨nt, hnt⟩ : ∃ nt, nt = T.length := ⟨_, rfl⟩
  obtain ⟨w1, hw1⟩ : ∃ w1, w1 = W.alloc (.cells #[.slice p1 S.length c1, .slice p2 nt c2] 25) := ⟨_, rfl⟩
  have hb1 : Below W.heap.size W w1 := by rw [hw1]; exact below_new W _
  have hB1 : Blk w1 W.heap.size #[.slice p1 S.length c1, .slice p2 nt c2] 25 := by rw [hw1]; exact Blk.new W _ _
  have HC := hid (book_any S T _ _ w1 (hb.later hb1))
  have HN := hid (fun (w : World) h => nums_any [x] (T.length : Int) (.slice (some ⟨w.heap.size, 0, none⟩) 1 1) (w.alloc (.cells #[.int .i64 x] 3)) h)
  have HBK := hid (hb.later hb1)
  have HA := hid (fun w (h : BookIn w (.slice p1 S.length c1) (.slice p2 T.length c2) S T) => assigned_yes S T [] N' _ _ (.slice none 0 0) w h (nil_slc w _) (book_ok hx).1 hs)
  have HST := hid (fun w base a g c vs (h : NetIn base w a N' (.slice (some ⟨g, 0, none⟩) N'.arcs.length c) vs) => stretch_any base a g c fuel N' N3 i hi m vs w h hok hst)
  have HMS := hid (fun w base a g c vs (h : NetIn base w a N3 (.slice (some ⟨g, 0, none⟩) N3.arcs.length c) vs) => masses_any base a g c T.length N3 vs w h (by rw [hl3]; exact hnl) (by rw [hl3]; exact hok.few))
  have HLM : Hid (((mss N3.arcs).take T.length).length = T.length) := hid (by rw [List.length_take, mss_len, hl3]; omega)
  rw [hx] at HC
  rw [nums_one, if_neg (by omega)] at HN
  rw [← hnt] at HC HBK HN HA HMS HLM ⊢
  rw [← hxi] at HST
  have HL3 := hid hl3
  have q0 := hB1.cell (i := 0) rfl
  have q1 := hB1.cell (i := 1) rfl
  have HB1 := hid hb1
  have HBL := hid hB1
  have HW1 := hid hw1
  have hge : W.heap.size < w1.heap.size := hB1.lt
  clear hb hw1 hb1 hB1 hm1 hm2 hx hil hnt hs hok hst hl3 hnl hxi
  go_enter Try.func26, Try.ntmps26
  go_wp2_with (first | (rw [← HW1.out]) | (go_at_call 45; (with_reducible refine HC.out.mono ?_); rintro e w2 ⟨rfl, hb⟩; have HB2 := hid hb; have HBL2 := hid (HBL.out.later hb HBL.out.lt); have HB4 := hid (HB1.out.trans (hb.mono (by omega))); have HBK2 := hid (HBK.out.later hb); have d0 := HBL2.out.cell (i := 0) rfl; have d1 := HBL2.out.cell (i := 1) rfl; have d2 := (HBL2.out.alloc (.cells #[.int .i64 x] 3)).cell (i := 0) rfl; have d3 := (HBL2.out.alloc (.cells #[.int .i64 x] 3)).cell (i := 1) rfl; clear hb) | (go_at_call 54; (with_reducible refine (HN.out _ (slc_new w2 [.int .i64 x] 3 1 (by decide))).mono ?_); rintro e w3 ⟨rfl, rfl⟩; have HB5 := hid (HB4.out.trans ((below_new w2 (.cells #[.int .i64 x] 3)).mono HB4.out.size))) | (go_at_call 47; (with_reducible refine (HA.out _ (HBK2.out.later (below_new w2 _))).mono ?_); rintro e w3 ⟨a, rfl, ⟨g, c, vs, hn⟩, hb⟩; have HN3 := hid hn; have HB6 := hid (HB5.out.trans (hb.mono HB5.out.size)); have HG6 : Hid (w2.heap.size + 1 ≤ g) := hid (by have h1 := (World.ownsRow.lt hn.arcs g rfl).1; rw [World.size_alloc] at h1; exact h1); have HBL6 := hid ((HBL2.out.alloc (.cells #[.int .i64 x] 3)).later hb (by rw [World.size_alloc]; have := HBL2.out.lt; omega)); clear hb hn) | (go_at_call 58; (with_reducible refine (HST.out _ _ _ _ _ _ HN3.out).mono ?_); rintro e w7 ⟨rfl, hn7, hg7⟩; have HN7 := hid (by have h := row_len hn7.arcs; have h2 := hn7; rw [h] at h2; exact h2); have HBL7 : Hid (Blk w7 W.heap.size #[.slice p1 S.length c1, .slice p2 nt c2] 25) := hid ((hg7.block _ HBL6.out.lt (fun e => by have := HG6.out; have := HBL2.out.lt; cases e; omega)).trans HBL6.out); have HB7 : Hid (Below W.heap.size W w7) := hid (HB6.out.trans (grown_low hg7 (by have := HG6.out; have := HBL2.out.lt; omega) HB6.out.size)); have f0 := HBL7.out.cell (i := 0) rfl; have f1 := HBL7.out.cell (i := 1) rfl; clear hn7 hg7) | (go_at_call 59; (with_reducible refine (HMS.out _ _ _ _ _ _ HN7.out).mono ?_); rintro e w8 ⟨v8, rfl, ho, hb⟩; have HO8 := hid ho; have HB8 := hid (HB7.out.trans (hb.mono HB7.out.size)); have h7s := HB7.out.size; clear ho hb))
  go_ret2
  exact ⟨v8, rfl, by rw [HLM.out]; exact HO8.out.mono h7s, HB8.out⟩
/-- What Witness answers of a consistent book: an assignment in which the ticket has its least or greatest mass. -/
theorem wit_cases {S : List (Int × Int)} {T : List Tk} (hx : bookErr S T = 0) (hc : Cons S T) {i : Nat} (hil : i < T.length) (up : Bool) :
    ∃ M m, Asg S T M ∧ M.getD i 0 = m ∧ (∀ A, Asg S T A → if up = true then A.getD i 0 ≤ m else m ≤ A.getD i 0) ∧ ∀ v1 v2 W, BookIn W v1 v2 S T → Calls Try.prog 26 #[.agg #[v1, v2], .int .i64 i, .bool up] W (WitPost W M) := by
  have hb := book_good hx
  obtain ⟨N', r, h1, h2, h3⟩ := book_settle hb []
  have hr := h2.2 hc
  subst hr
  have hg := h3 rfl
  have hlen := hg.len
  obtain ⟨N3, m, k1, k2, k3, k4⟩ := good_stretch hg (i := i) (by omega) up
  refine ⟨(mss N3.arcs).take T.length, m, (circ_asg hb k2.circ).1, by rw [take_get hil]; exact k3, fun A hA => ?_, fun v1 v2 W h => wit_yes S T i up N' N3 m v1 v2 W h hx hil h1 hg.ok k1 (by rw [k2.len, hlen]) (by omega)⟩
  obtain ⟨M, m1, m2, _⟩ := asg_circ hb [] hA
  have := k4 M m1
  rw [← take_get hil, m2] at this
  exact this
end Go.Proofs.Ytncnpodanlhdkaa
