/-
  Change, whole.
-/
import Derived.Test.YtncnpodanlhdkaaWAsg
import Derived.Test.YtncnpodanlhdkaaWChange
namespace Go.Proofs.Ytncnpodanlhdkaa
set_option linter.all false
open Go.RowKit

theorem tks_apart {n : Int} : ∀ {T : List Tk} {ids : List ByteArray}, tksErr n ids T = 0 → ∀ (i : Nat) (t : Tk), T[i]? = some t → t.src ≠ t.dst
  | [], _, _, i, t, ht => by simp at ht
  | x :: T, ids, h, i, t, ht => by
    unfold tksErr at h
    split at h
    · rename_i hne; exact absurd h hne
    · rename_i hne
      have h0 : tkErr ids n x = 0 := by simpa using hne
      cases i with
      | zero =>
        simp at ht
        subst ht
        obtain ⟨k, hk, hw⟩ := tk_ways ids n x
        rw [h0] at hk
        rcases hw with ⟨_, h⟩ | ⟨_, _, h⟩ | ⟨_, _, h, _⟩ | ⟨_, _, _, _, _, _, _, h⟩ | ⟨_, _, _, _, _, _, h, _⟩
        · omega
        · omega
        · omega
        · omega
        · exact h
      | succ i => exact tks_apart h i t (by simpa using ht)
theorem book_good {S : List (Int × Int)} {T : List Tk} (h : bookErr S T = 0) : BookOk S T := by
  obtain ⟨h1, h2⟩ := book_ok h
  unfold bookErr at h
  split at h
  · cases h
  · split at h
    · rename_i h3; exact absurd h h3
    · rename_i h3
      have h3 : eachErr rangeErr S = 0 := by simpa using h3
      split at h
      · cases h
      · refine ⟨h1, h2, tks_apart h, fun i r hr => ?_⟩
        have := range_ok (each_ok h3 i r hr)
        omega

set_option maxRecDepth 100000 in
set_option maxHeartbeats 4000000 in
theorem isc_err (S : List (Int × Int)) (T : List Tk) (x : Int) (v1 v2 : Value) (W : World) (hb : BookIn W v1 v2 S T) (hx : bookErr S T = x) (h0 : x ≠ 0) :
    Calls Try.prog 14 #[.agg #[v1, v2]] W (Ret (.tuple #[.bool false, .int .i64 x]) W) := by
  obtain ⟨p1, c1, rfl, hm1⟩ := hb.stock.shape
  obtain ⟨p2, c2, rfl, hm2⟩ := hb.tickets.shape
  obtain ⟨w1, hw1⟩ : ∃ w1, w1 = W.alloc (.cells #[.slice p1 S.length c1, .slice p2 T.length c2] 25) := ⟨_, rfl⟩
  have hb1 : Below W.heap.size W w1 := by rw [hw1]; exact below_new W _
  have hB1 : Blk w1 W.heap.size #[.slice p1 S.length c1, .slice p2 T.length c2] 25 := by rw [hw1]; exact Blk.new W _ _
  have HC := hid (book_any S T _ _ w1 (hb.later hb1))
  have q0 := hB1.cell (i := 0) rfl
  have q1 := hB1.cell (i := 1) rfl
  have HB1 := hid hb1
  have HW1 := hid hw1
  have hge : W.heap.size ≤ w1.heap.size := hb1.size
  rw [hx] at HC
  have hz : (x == 0) = false := by simpa using h0
  have hz2 : (x != 0) = true := by simpa using h0
  clear hb hw1 hb1 hB1 hm1 hm2 hx h0
  go_enter Try.func14, Try.ntmps14
  go_wp2_with (first | (rw [← HW1.out]) | (go_at_call 45; (with_reducible refine HC.out.mono ?_); rintro e w2 ⟨rfl, hb⟩; have HB4 := hid (HB1.out.trans (hb.mono hge)); clear hb))
  go_ret2
  exact ⟨rfl, HB4.out⟩
set_option maxRecDepth 100000 in
set_option maxHeartbeats 4000000 in
theorem isc_ok (S : List (Int × Int)) (T : List Tk) (N' : Net) (r : Bool) (v1 v2 : Value) (W : World) (hb : BookIn W v1 v2 S T) (hx : bookErr S T = 0) (hs : settleF (newF S T []) = some (N', r)) :
    Calls Try.prog 14 #[.agg #[v1, v2]] W (Ret (.tuple #[.bool r, .int .i64 0]) W) := by
  obtain ⟨p1, c1, rfl, hm1⟩ := hb.stock.shape
  obtain ⟨p2, c2, rfl, hm2⟩ := hb.tickets.shape
  obtain ⟨w1, hw1⟩ : ∃ w1, w1 = W.alloc (.cells #[.slice p1 S.length c1, .slice p2 T.length c2] 25) := ⟨_, rfl⟩
  have hb1 : Below W.heap.size W w1 := by rw [hw1]; exact below_new W _
  have hB1 : Blk w1 W.heap.size #[.slice p1 S.length c1, .slice p2 T.length c2] 25 := by rw [hw1]; exact Blk.new W _ _
  have HC := hid (book_any S T _ _ w1 (hb.later hb1))
  have HA := hid (fun w (h : BookIn w (.slice p1 S.length c1) (.slice p2 T.length c2) S T) => isCons_any S T N' r _ _ w h (book_ok hx).1 hs)
  have HBK := hid (hb.later hb1)
  have q0 := hB1.cell (i := 0) rfl
  have q1 := hB1.cell (i := 1) rfl
  have HB1 := hid hb1
  have HBL := hid hB1
  have HW1 := hid hw1
  have hge : W.heap.size ≤ w1.heap.size := hb1.size
  rw [hx] at HC
  clear hb hw1 hb1 hB1 hm1 hm2 hx hs
  go_enter Try.func14, Try.ntmps14
  go_wp2_with (first | (rw [← HW1.out]) | (go_at_call 45; (with_reducible refine HC.out.mono ?_); rintro e w2 ⟨rfl, hb⟩; have HB2 := hid hb; have HBL2 := HBL.out.later hb HBL.out.lt; have d0 := HBL2.cell (i := 0) rfl; have d1 := HBL2.cell (i := 1) rfl; clear hb HBL2) | (go_at_call 46; (with_reducible refine (HA.out _ (HBK.out.later HB2.out)).mono ?_); rintro e w3 ⟨rfl, hb⟩; have HB4 := hid (HB1.out.trans ((HB2.out.trans (hb.mono HB2.out.size)).mono hge)); clear hb))
  go_ret2
  exact ⟨rfl, HB4.out⟩

/-- The ranges of all tickets over all assignments. -/
structure TightL (S : List (Int × Int)) (T : List Tk) (L : List (Int × Int)) : Prop where
  len : L.length = T.length
  ends : ∀ (i : Nat) (r : Int × Int), L[i]? = some r → EndsOf S T (fun A => A.getD i 0) r
theorem tight_cases {S : List (Int × Int)} {T : List Tk} (hx : bookErr S T = 0) :
    (¬ Cons S T ∧ (∀ v1 v2 W, BookIn W v1 v2 S T → Calls Try.prog 15 #[.agg #[v1, v2]] W (Ret (.tuple #[.slice none 0 0, .int .i64 15]) W)) ∧ ∀ v1 v2 W, BookIn W v1 v2 S T → Calls Try.prog 14 #[.agg #[v1, v2]] W (Ret (.tuple #[.bool false, .int .i64 0]) W)) ∨
    (Cons S T ∧ (∃ L, TightL S T L ∧ ∀ v1 v2 W, BookIn W v1 v2 S T → Calls Try.prog 15 #[.agg #[v1, v2]] W (TightPost W L)) ∧ ∀ v1 v2 W, BookIn W v1 v2 S T → Calls Try.prog 14 #[.agg #[v1, v2]] W (Ret (.tuple #[.bool true, .int .i64 0]) W)) := by
  have hb := book_good hx
  obtain ⟨N', r, h1, h2, h3⟩ := book_settle hb []
  cases r
  · left
    refine ⟨fun hc => ?_, fun v1 v2 W h => tighten_no S T N' v1 v2 W h hx h1, fun v1 v2 W h => isc_ok S T N' false v1 v2 W h hx h1⟩
    have := h2.2 hc
    cases this
  · right
    obtain ⟨N2, L, k1, k2, k3, k4⟩ := book_tight hb (h3 rfl) T.length (Nat.le_refl _)
    exact ⟨h2.1 rfl, ⟨L, ⟨k3, k4⟩, fun v1 v2 W h => tighten_yes S T N' N2 L v1 v2 W h hx h1 k1⟩, fun v1 v2 W h => isc_ok S T N' true v1 v2 W h hx h1⟩

open Go.RowKit

theorem change_end {w6 : World} {s : Nat} {a b : Int} (h : Blk w6 s #[.int .i64 a, .int .i64 b] 38) (lo hi : Int) : (loadVar 38 ⟨s, 0, none⟩).run Try.prog ((w6.setCell ⟨s, 0, none⟩ (.int .i64 lo)).setCell ⟨s, 1, none⟩ (.int .i64 hi)) = .ok (.agg #[.int .i64 lo, .int .i64 hi]) ((w6.setCell ⟨s, 0, none⟩ (.int .i64 lo)).setCell ⟨s, 1, none⟩ (.int .i64 hi)) :=
  run_loadVar_row _ s 38 38 _ (0, 0) (.struct (Try.prog.fieldsOf 38)) ((h.set 0 (.int .i64 lo)).set 1 (.int .i64 hi)) (by kernel_rfl) rfl (by kernel_rfl)

set_option maxRecDepth 100000 in
set_option maxHeartbeats 4000000 in
theorem change_err1 (S : List (Int × Int)) (T : List Tk) (P : List Int) (x : Int) (v1 v2 v3 : Value) (W : World) (hb : BookIn W v1 v2 S T) (hj : SlcIn W v3 P.length (P.map (Value.int .i64))) (hx : bookErr S T = x) (h0 : x ≠ 0) :
    Calls Try.prog 20 #[.agg #[v1, v2], v3] W (Ret (.tuple #[.agg #[.int .i64 0, .int .i64 0], .int .i64 x]) W) := by
  obtain ⟨p1, c1, rfl, hm1⟩ := hb.stock.shape
  obtain ⟨p2, c2, rfl, hm2⟩ := hb.tickets.shape
  obtain ⟨ns, hns⟩ : ∃ ns, ns = S.length := ⟨_, rfl⟩
  obtain ⟨w1, hw1⟩ : ∃ w1, w1 = (W.alloc (.cells #[.slice p1 ns c1, .slice p2 T.length c2] 25)).alloc (.cells #[.int .i64 0, .int .i64 0] 38) := ⟨_, rfl⟩
  have hb1 : Below W.heap.size W w1 := by rw [hw1]; exact (below_new W _).alloc (by simp) _
  have hB1 : Blk w1 W.heap.size #[.slice p1 ns c1, .slice p2 T.length c2] 25 := by rw [hw1]; exact (Blk.new W _ _).alloc _
  have hR1 : Blk w1 (W.heap.size + 1) #[.int .i64 0, .int .i64 0] 38 := by rw [hw1]; exact Blk_newn _ _ _ (by simp)
  have HC := hid (book_any S T _ _ w1 (hb.later hb1))
  rw [hx] at HC
  have hz : (x == 0) = false := by simpa using h0
  have hz2 : (x != 0) = true := by simpa using h0
  have HBK := hid (hb.later hb1)
  have HJ := hid (hj.later hb1)
  rw [← hns] at HC HBK
  rw [← hns]
  have q0 := hB1.cell (i := 0) rfl
  have q1 := hB1.cell (i := 1) rfl
  have HB1 := hid hb1
  have HBL := hid hB1
  have HRL := hid hR1
  have HW1 := hid hw1
  have hge : W.heap.size + 1 < w1.heap.size := hR1.lt
  clear hb hj hw1 hb1 hB1 hR1 hm1 hm2 hx h0 hns
  go_enter Try.func20, Try.ntmps20
  go_wp2_with (first | (rw [← HW1.out]) | (go_at_call 45; (with_reducible refine HC.out.mono ?_); rintro e w2 ⟨rfl, hb⟩; have HB2 := hid hb; have HBL2 := HBL.out.later hb HBL.out.lt; have HRL2 := hid (HRL.out.later hb HRL.out.lt); have d0 := HBL2.cell (i := 0) rfl; have d1 := HBL2.cell (i := 1) rfl; have HRL6 := hid HRL2.out; have HB6 := hid (HB1.out.trans (hb.mono (by omega))); have r0 := HRL6.out.cell (i := 0) rfl; have r1 := HRL6.out.cell (i := 1) rfl; have k0 := HRL6.out.froz 0; have k1 := HRL6.out.froz 1; clear hb HBL2))
  have HF := hid ((HB6.out.setCell (p := ⟨W.heap.size + 1, 0, none⟩) (by simp) (.int .i64 0)).setCell (p := ⟨W.heap.size + 1, 1, none⟩) (by simp) (.int .i64 0))
  refine bodyPost_ret (v := .tuple #[.agg #[.int .i64 0, .int .i64 0], .int .i64 x]) ?_ rfl ⟨rfl, HF.out⟩
  have r1 := change_end HRL6.out 0 0
  simp [results, Try.results20, asAddr, Act.put, r1]

set_option maxRecDepth 100000 in
set_option maxHeartbeats 4000000 in
theorem change_err2 (S : List (Int × Int)) (T : List Tk) (P : List Int) (y : Int) (v1 v2 v3 : Value) (W : World) (hb : BookIn W v1 v2 S T) (hj : SlcIn W v3 P.length (P.map (Value.int .i64))) (hx : bookErr S T = 0) (hy : numsErr P S.length = y) (h0 : y ≠ 0) :
    Calls Try.prog 20 #[.agg #[v1, v2], v3] W (Ret (.tuple #[.agg #[.int .i64 0, .int .i64 0], .int .i64 y]) W) := by
  obtain ⟨p1, c1, rfl, hm1⟩ := hb.stock.shape
  obtain ⟨p2, c2, rfl, hm2⟩ := hb.tickets.shape
  obtain ⟨ns, hns⟩ : ∃ ns, ns = S.length := ⟨_, rfl⟩
  obtain ⟨w1, hw1⟩ : ∃ w1, w1 = (W.alloc (.cells #[.slice p1 ns c1, .slice p2 T.length c2] 25)).alloc (.cells #[.int .i64 0, .int .i64 0] 38) := ⟨_, rfl⟩
  have hb1 : Below W.heap.size W w1 := by rw [hw1]; exact (below_new W _).alloc (by simp) _
  have hB1 : Blk w1 W.heap.size #[.slice p1 ns c1, .slice p2 T.length c2] 25 := by rw [hw1]; exact (Blk.new W _ _).alloc _
  have hR1 : Blk w1 (W.heap.size + 1) #[.int .i64 0, .int .i64 0] 38 := by rw [hw1]; exact Blk_newn _ _ _ (by simp)
  have HC := hid (book_any S T _ _ w1 (hb.later hb1))
  have HN := hid (fun w h => nums_any P (S.length : Int) v3 w h)
  rw [hx] at HC
  rw [hy, ← hns] at HN
  have hz : (y == 0) = false := by simpa using h0
  have hz2 : (y != 0) = true := by simpa using h0
  have HBK := hid (hb.later hb1)
  have HJ := hid (hj.later hb1)
  rw [← hns] at HC HBK
  rw [← hns]
  have q0 := hB1.cell (i := 0) rfl
  have q1 := hB1.cell (i := 1) rfl
  have HB1 := hid hb1
  have HBL := hid hB1
  have HRL := hid hR1
  have HW1 := hid hw1
  have hge : W.heap.size + 1 < w1.heap.size := hR1.lt
  clear hb hj hw1 hb1 hB1 hR1 hm1 hm2 hx hy h0 hns
  go_enter Try.func20, Try.ntmps20
  go_wp2_with (first | (rw [← HW1.out]) | (go_at_call 45; (with_reducible refine HC.out.mono ?_); rintro e w2 ⟨rfl, hb⟩; have HB2 := hid hb; have HBL2 := HBL.out.later hb HBL.out.lt; have HRL2 := hid (HRL.out.later hb HRL.out.lt); have d0 := HBL2.cell (i := 0) rfl; have d1 := HBL2.cell (i := 1) rfl; clear hb HBL2) | (go_at_call 54; (with_reducible refine (HN.out _ (HJ.out.later HB2.out)).mono ?_); rintro e w3 ⟨rfl, rfl⟩; have HRL6 := hid HRL2.out; have HB6 := hid (HB1.out.trans (HB2.out.mono (by omega))); have r0 := HRL6.out.cell (i := 0) rfl; have r1 := HRL6.out.cell (i := 1) rfl; have k0 := HRL6.out.froz 0; have k1 := HRL6.out.froz 1))
  have HF := hid ((HB6.out.setCell (p := ⟨W.heap.size + 1, 0, none⟩) (by simp) (.int .i64 0)).setCell (p := ⟨W.heap.size + 1, 1, none⟩) (by simp) (.int .i64 0))
  refine bodyPost_ret (v := .tuple #[.agg #[.int .i64 0, .int .i64 0], .int .i64 y]) ?_ rfl ⟨rfl, HF.out⟩
  have r1 := change_end HRL6.out 0 0
  simp [results, Try.results20, asAddr, Act.put, r1]

set_option maxRecDepth 100000 in
set_option maxHeartbeats 4000000 in
theorem change_err3 (S : List (Int × Int)) (T : List Tk) (P : List Int) (N' : Net) (v1 v2 v3 : Value) (W : World) (hb : BookIn W v1 v2 S T) (hj : SlcIn W v3 P.length (P.map (Value.int .i64))) (hx : bookErr S T = 0) (hy : numsErr P S.length = 0) (hs : settleF (newF S T P) = some (N', false)) :
    Calls Try.prog 20 #[.agg #[v1, v2], v3] W (Ret (.tuple #[.agg #[.int .i64 0, .int .i64 0], .int .i64 15]) W) := by
  obtain ⟨p1, c1, rfl, hm1⟩ := hb.stock.shape
  obtain ⟨p2, c2, rfl, hm2⟩ := hb.tickets.shape
  obtain ⟨ns, hns⟩ : ∃ ns, ns = S.length := ⟨_, rfl⟩
  obtain ⟨w1, hw1⟩ : ∃ w1, w1 = (W.alloc (.cells #[.slice p1 ns c1, .slice p2 T.length c2] 25)).alloc (.cells #[.int .i64 0, .int .i64 0] 38) := ⟨_, rfl⟩
  have hb1 : Below W.heap.size W w1 := by rw [hw1]; exact (below_new W _).alloc (by simp) _
  have hB1 : Blk w1 W.heap.size #[.slice p1 ns c1, .slice p2 T.length c2] 25 := by rw [hw1]; exact (Blk.new W _ _).alloc _
  have hR1 : Blk w1 (W.heap.size + 1) #[.int .i64 0, .int .i64 0] 38 := by rw [hw1]; exact Blk_newn _ _ _ (by simp)
  have HC := hid (book_any S T _ _ w1 (hb.later hb1))
  have HA := hid (fun w (h : BookIn w (.slice p1 S.length c1) (.slice p2 T.length c2) S T) h' => assigned_no S T P N' _ _ v3 w h h' (book_ok hx).1 hs)
  have HN := hid (fun w h => nums_any P (S.length : Int) v3 w h)
  rw [hx] at HC
  rw [hy, ← hns] at HN
  rw [← hns] at HA
  have HBK := hid (hb.later hb1)
  have HJ := hid (hj.later hb1)
  rw [← hns] at HC HBK
  rw [← hns]
  have q0 := hB1.cell (i := 0) rfl
  have q1 := hB1.cell (i := 1) rfl
  have HB1 := hid hb1
  have HBL := hid hB1
  have HRL := hid hR1
  have HW1 := hid hw1
  have hge : W.heap.size + 1 < w1.heap.size := hR1.lt
  clear hb hj hw1 hb1 hB1 hR1 hm1 hm2 hx hy hs hns
  go_enter Try.func20, Try.ntmps20
  go_wp2_with (first | (rw [← HW1.out]) | (go_at_call 45; (with_reducible refine HC.out.mono ?_); rintro e w2 ⟨rfl, hb⟩; have HB2 := hid hb; have HBL2 := HBL.out.later hb HBL.out.lt; have HRL2 := hid (HRL.out.later hb HRL.out.lt); have d0 := HBL2.cell (i := 0) rfl; have d1 := HBL2.cell (i := 1) rfl; clear hb HBL2) | (go_at_call 54; (with_reducible refine (HN.out _ (HJ.out.later HB2.out)).mono ?_); rintro e w3 ⟨rfl, rfl⟩) | (go_at_call 47; (with_reducible refine (HA.out _ (HBK.out.later HB2.out) (HJ.out.later HB2.out)).mono ?_); rintro e w3 ⟨rfl, hb⟩; have HRL3 := hid (HRL2.out.later hb HRL2.out.lt); have HRL6 := hid HRL3.out; have HB6 := hid (HB1.out.trans ((HB2.out.trans (hb.mono HB2.out.size)).mono (by omega))); have r0 := HRL6.out.cell (i := 0) rfl; have r1 := HRL6.out.cell (i := 1) rfl; have k0 := HRL6.out.froz 0; have k1 := HRL6.out.froz 1; clear hb))
  have HF := hid ((HB6.out.setCell (p := ⟨W.heap.size + 1, 0, none⟩) (by simp) (.int .i64 0)).setCell (p := ⟨W.heap.size + 1, 1, none⟩) (by simp) (.int .i64 0))
  refine bodyPost_ret (v := .tuple #[.agg #[.int .i64 0, .int .i64 0], .int .i64 15]) ?_ rfl ⟨rfl, HF.out⟩
  have r1 := change_end HRL6.out 0 0
  simp [results, Try.results20, asAddr, Act.put, r1]

set_option maxRecDepth 100000 in
set_option maxHeartbeats 4000000 in
theorem change_err4 (S : List (Int × Int)) (T : List Tk) (P : List Int) (N' N2 : Net) (lo hi : Int) (v1 v2 v3 : Value) (W : World) (hb : BookIn W v1 v2 S T) (hj : SlcIn W v3 P.length (P.map (Value.int .i64))) (hx : bookErr S T = 0) (hy : numsErr P S.length = 0) (hs : settleF (newF S T P) = some (N', true)) (he : extF N' (N'.arcs.length - 1) = some (N2, lo, hi)) (h0 : N'.arcs.length ≠ 0) (hf : far lo = true ∨ far hi = true) :
    Calls Try.prog 20 #[.agg #[v1, v2], v3] W (Ret (.tuple #[.agg #[.int .i64 0, .int .i64 0], .int .i64 4]) W) := by
  obtain ⟨p1, c1, rfl, hm1⟩ := hb.stock.shape
  obtain ⟨p2, c2, rfl, hm2⟩ := hb.tickets.shape
  obtain ⟨ns, hns⟩ : ∃ ns, ns = S.length := ⟨_, rfl⟩
  obtain ⟨w1, hw1⟩ : ∃ w1, w1 = (W.alloc (.cells #[.slice p1 ns c1, .slice p2 T.length c2] 25)).alloc (.cells #[.int .i64 0, .int .i64 0] 38) := ⟨_, rfl⟩
  have hb1 : Below W.heap.size W w1 := by rw [hw1]; exact (below_new W _).alloc (by simp) _
  have hB1 : Blk w1 W.heap.size #[.slice p1 ns c1, .slice p2 T.length c2] 25 := by rw [hw1]; exact (Blk.new W _ _).alloc _
  have hR1 : Blk w1 (W.heap.size + 1) #[.int .i64 0, .int .i64 0] 38 := by rw [hw1]; exact Blk_newn _ _ _ (by simp)
  have HC := hid (book_any S T _ _ w1 (hb.later hb1))
  have HA := hid (fun w (h : BookIn w (.slice p1 S.length c1) (.slice p2 T.length c2) S T) h' => assigned_yes S T P N' _ _ v3 w h h' (book_ok hx).1 hs)
  have HN := hid (fun w h => nums_any P (S.length : Int) v3 w h)
  have HBO := hid (fun w => bounded_no lo hi w hf)
  have hok : N'.Ok := by
    obtain ⟨N1, h, _⟩ := ext_out he
    exact h
  have HJN := hid (fun w base a g c vs (h : NetIn base w a N' (.slice (some ⟨g, 0, none⟩) N'.arcs.length c) vs) => joined_net h h0 hok.few)
  have HEX := hid (fun w base a g c vs (h : NetIn base w a N' (.slice (some ⟨g, 0, none⟩) N'.arcs.length c) vs) => ext_net he h)
  rw [hx] at HC
  rw [hy, ← hns] at HN
  rw [← hns] at HA
  have HBK := hid (hb.later hb1)
  have HJ := hid (hj.later hb1)
  rw [← hns] at HC HBK
  rw [← hns]
  have q0 := hB1.cell (i := 0) rfl
  have q1 := hB1.cell (i := 1) rfl
  have HB1 := hid hb1
  have HBL := hid hB1
  have HRL := hid hR1
  have HW1 := hid hw1
  have hge : W.heap.size + 1 < w1.heap.size := hR1.lt
  clear hb hj hw1 hb1 hB1 hR1 hm1 hm2 hx hy hs he h0 hok hf hns
  go_enter Try.func20, Try.ntmps20
  go_wp2_with (first | (rw [← HW1.out]) | (go_at_call 45; (with_reducible refine HC.out.mono ?_); rintro e w2 ⟨rfl, hb⟩; have HB2 := hid hb; have HBL2 := HBL.out.later hb HBL.out.lt; have HRL2 := hid (HRL.out.later hb HRL.out.lt); have d0 := HBL2.cell (i := 0) rfl; have d1 := HBL2.cell (i := 1) rfl; clear hb HBL2) | (go_at_call 54; (with_reducible refine (HN.out _ (HJ.out.later HB2.out)).mono ?_); rintro e w3 ⟨rfl, rfl⟩) | (go_at_call 47; (with_reducible refine (HA.out _ (HBK.out.later HB2.out) (HJ.out.later HB2.out)).mono ?_); rintro e w3 ⟨a, rfl, ⟨g, c, vs, hn⟩, hb⟩; have HB3 := hid ((HB2.out.trans (hb.mono HB2.out.size))); have HRL3 := hid (HRL2.out.later hb HRL2.out.lt); have HN3 := hid hn; have HG := hid (show W.heap.size + 1 < g from by have h1 := (World.ownsRow.lt hn.arcs g rfl).1; have h2 := HB2.out.size; omega); clear hb hn) | (go_at_call 56; (with_reducible refine (HJN.out _ _ _ _ _ _ HN3.out).mono ?_); rintro e w4 ⟨rfl, rfl⟩) | (go_at_call 48; (with_reducible refine (HEX.out _ _ _ _ _ _ HN3.out).mono ?_); rintro e w5 ⟨rfl, hn5, hg5⟩; have HRL5 : Hid (Blk w5 (W.heap.size + 1) #[.int .i64 0, .int .i64 0] 38) := hid ((hg5.block _ HRL3.out.lt (fun e => by have := HG.out; cases e; omega)).trans HRL3.out); have HB5 : Hid (Below W.heap.size W w5) := hid (HB1.out.trans ((HB3.out.mono (by omega)).trans (grown_low hg5 (by have := HG.out; omega) (by have := HB3.out.size; omega)))); clear hn5 hg5) | (go_at_call 55; (with_reducible refine (HBO.out _).mono ?_); rintro e w6 ⟨rfl, hb6⟩; have HRL6 := hid (HRL5.out.later hb6 HRL5.out.lt); have HB6 := hid (HB5.out.trans (hb6.mono HB5.out.size)); have r0 := HRL6.out.cell (i := 0) rfl; have r1 := HRL6.out.cell (i := 1) rfl; have k0 := HRL6.out.froz 0; have k1 := HRL6.out.froz 1; clear hb6))
  have HF := hid ((HB6.out.setCell (p := ⟨W.heap.size + 1, 0, none⟩) (by simp) (.int .i64 0)).setCell (p := ⟨W.heap.size + 1, 1, none⟩) (by simp) (.int .i64 0))
  refine bodyPost_ret (v := .tuple #[.agg #[.int .i64 0, .int .i64 0], .int .i64 4]) ?_ rfl ⟨rfl, HF.out⟩
  have r1 := change_end HRL6.out 0 0
  simp [results, Try.results20, asAddr, Act.put, r1]

open Go.RowKit

theorem nums_in {P : List Int} {n : Int} (h : numsErr P n = 0) : ∀ x ∈ P, 0 ≤ x ∧ x < n := by
  intro x hx
  obtain ⟨i, hi⟩ := List.mem_iff_getElem?.1 hx
  exact nums_ok h i x hi
theorem EndsOf.cong {S : List (Int × Int)} {T : List Tk} {f g : List Int → Int} {r : Int × Int} (h : EndsOf S T f r) (e : ∀ A, Asg S T A → f A = g A) : EndsOf S T g r := by
  obtain ⟨⟨A, a1, a2⟩, ⟨B, b1, b2⟩, h3⟩ := h
  exact ⟨⟨A, a1, by rw [← e A a1]; exact a2⟩, ⟨B, b1, by rw [← e B b1]; exact b2⟩, fun C hC => by rw [← e C hC]; exact h3 C hC⟩
theorem change_cases {S : List (Int × Int)} {T : List Tk} {P : List Int} (hx : bookErr S T = 0) (hy : numsErr P S.length = 0) :
    (¬ Cons S T ∧ ∀ v1 v2 v3 W, BookIn W v1 v2 S T → SlcIn W v3 P.length (P.map (Value.int .i64)) → Calls Try.prog 20 #[.agg #[v1, v2], v3] W (Ret (.tuple #[.agg #[.int .i64 0, .int .i64 0], .int .i64 15]) W)) ∨
    (Cons S T ∧ ∃ lo hi, EndsOf S T (fun A => gainF T A P T.length) (lo, hi) ∧
      ((far lo = false ∧ far hi = false ∧ ∀ v1 v2 v3 W, BookIn W v1 v2 S T → SlcIn W v3 P.length (P.map (Value.int .i64)) → Calls Try.prog 20 #[.agg #[v1, v2], v3] W (Ret (.tuple #[.agg #[.int .i64 lo, .int .i64 hi], .int .i64 0]) W)) ∨
      ((far lo = true ∨ far hi = true) ∧ ∀ v1 v2 v3 W, BookIn W v1 v2 S T → SlcIn W v3 P.length (P.map (Value.int .i64)) → Calls Try.prog 20 #[.agg #[v1, v2], v3] W (Ret (.tuple #[.agg #[.int .i64 0, .int .i64 0], .int .i64 4]) W)))) := by
  have hb := book_good hx
  obtain ⟨N', r, h1, h2, h3⟩ := book_settle hb P
  cases r
  · left
    refine ⟨fun hc => ?_, fun v1 v2 v3 W h hj => change_err3 S T P N' v1 v2 v3 W h hj hx hy h1⟩
    have := h2.2 hc
    cases this
  · right
    obtain ⟨N2, lo, hi, k1, k2⟩ := book_change hb (h3 rfl)
    have h0 : N'.arcs.length ≠ 0 := by rw [(h3 rfl).len]; omega
    refine ⟨h2.1 rfl, lo, hi, k2.cong fun A hA => gainJ_gain hb (nums_in hy) hA.1, ?_⟩
    cases f1 : far lo
    · cases f2 : far hi
      · exact .inl ⟨rfl, rfl, fun v1 v2 v3 W h hj => change_yes S T P N' N2 lo hi v1 v2 v3 W h hj hx hy h1 k1 h0 f1 f2⟩
      · exact .inr ⟨.inr rfl, fun v1 v2 v3 W h hj => change_err4 S T P N' N2 lo hi v1 v2 v3 W h hj hx hy h1 k1 h0 (.inr f2)⟩
    · exact .inr ⟨.inl rfl, fun v1 v2 v3 W h hj => change_err4 S T P N' N2 lo hi v1 v2 v3 W h hj hx hy h1 k1 h0 (.inl f1)⟩
end Go.Proofs.Ytncnpodanlhdkaa
