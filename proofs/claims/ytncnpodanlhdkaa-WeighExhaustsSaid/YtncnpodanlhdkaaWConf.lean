/-
  CheckConflict, and what a book without an error keeps.
-/
import Derived.Test.YtncnpodanlhdkaaWShow
namespace Go.Proofs.Ytncnpodanlhdkaa
set_option linter.all false
open Go.RowKit

theorem range_ok {lo hi : Int} (h : rangeErr lo hi = 0) : -999999999 ≤ lo ∧ lo ≤ hi ∧ hi ≤ 999999999 := by
  rcases (range_ways lo hi).2 with ⟨h1, he⟩ | ⟨h1, h2, he⟩ | ⟨h1, h2, h3, he⟩ | ⟨h1, h2, h3, he⟩
  · omega
  · omega
  · omega
  · have a := (far_iff lo).1 h1
    have b := (far_iff hi).1 h2
    omega
theorem mass_ok {lo hi : Int} (h : massErr lo hi = 0) : 0 ≤ lo ∧ lo ≤ hi ∧ hi ≤ 999999999 := by
  rcases mass_ways lo hi with ⟨h1, he, _⟩ | ⟨h1, h2, he⟩ | ⟨h1, h2, he⟩
  · rw [he] at h; exact absurd h h1
  · omega
  · have := range_ok h1
    omega
theorem each_ok {E : Int → Int → Int} : ∀ {l : List (Int × Int)}, eachErr E l = 0 → ∀ (i : Nat) (r : Int × Int), l[i]? = some r → E r.1 r.2 = 0
  | [], _, i, r, hr => by simp at hr
  | x :: l, h, i, r, hr => by
    unfold eachErr at h
    split at h
    · rename_i hne; exact absurd h hne
    · rename_i hne
      cases i with
      | zero => simp at hr; subst hr; simpa using hne
      | succ i => exact each_ok h i r (by simpa using hr)
theorem tk_ok {ids : List ByteArray} {n : Int} {t : Tk} (h : tkErr ids n t = 0) : (-1 ≤ t.src ∧ t.src < n ∧ -1 ≤ t.dst ∧ t.dst < n) ∧ 0 ≤ t.low ∧ t.low ≤ t.high ∧ t.high ≤ 999999999 := by
  obtain ⟨k, hk, hw⟩ := tk_ways ids n t
  rw [hk] at h
  subst h
  rcases hw with ⟨_, h⟩ | ⟨_, _, h⟩ | ⟨_, _, h, _⟩ | ⟨_, _, _, _, _, _, _, h⟩ | ⟨_, _, h1, h2, h3, h4, _, h⟩
  · cases h
  · cases h
  · cases h
  · cases h
  · exact ⟨⟨h1, h2, h3, h4⟩, mass_ok h.symm⟩
theorem tks_ok {n : Int} : ∀ {T : List Tk} {ids : List ByteArray}, tksErr n ids T = 0 → ∀ (i : Nat) (t : Tk), T[i]? = some t → (-1 ≤ t.src ∧ t.src < n ∧ -1 ≤ t.dst ∧ t.dst < n) ∧ 0 ≤ t.low ∧ t.low ≤ t.high ∧ t.high ≤ 999999999
  | [], _, _, i, t, ht => by simp at ht
  | x :: T, ids, h, i, t, ht => by
    unfold tksErr at h
    split at h
    · rename_i hne; exact absurd h hne
    · rename_i hne
      cases i with
      | zero => simp at ht; subst ht; exact tk_ok (by simpa using hne)
      | succ i => exact tks_ok h i t (by simpa using ht)
theorem book_ok {S : List (Int × Int)} {T : List Tk} (h : bookErr S T = 0) : TksOk S T ∧ MassOk T := by
  unfold bookErr at h
  split at h
  · cases h
  · rename_i h1
    split at h
    · rename_i h2; exact absurd h h2
    · rename_i h2
      have h2 : eachErr rangeErr S = 0 := by simpa using h2
      split at h
      · cases h
      · rename_i h3
        refine ⟨⟨by omega, by omega, fun i t ht => (tks_ok h i t ht).1, fun i r hr => ?_⟩, ⟨fun i t ht => (tks_ok h i t ht).2⟩⟩
        have := range_ok (each_ok h2 i r hr)
        omega
theorem nums_ok {l : List Int} {n : Int} (h : numsErr l n = 0) : ∀ (i : Nat) (x : Int), l[i]? = some x → 0 ≤ x ∧ x < n := by
  unfold numsErr at h
  split at h
  · cases h
  · rename_i h1
    intro i x hx
    rw [Bool.not_eq_true, List.any_eq_false] at h1
    have := h1 x (List.mem_of_getElem? hx)
    unfold badN at this
    simp at this
    omega
def confErr (S : List (Int × Int)) (T : List Tk) (P : List Int) : Int := if bookErr S T ≠ 0 then bookErr S T else if numsErr P S.length ≠ 0 then numsErr P S.length else if showF S T P = true then 0 else 18

set_option maxRecDepth 100000 in
set_option maxHeartbeats 4000000 in
theorem conf_any (S : List (Int × Int)) (T : List Tk) (P : List Int) (v1 v2 v3 : Value) (W : World) (hb : BookIn W v1 v2 S T) (hj : SlcIn W v3 P.length (P.map (Value.int .i64))) (hP : P.length ≤ 100) :
    Calls Try.prog 29 #[.agg #[v1, v2], v3] W (Ret (.int .i64 (confErr S T P)) W) := by
  obtain ⟨p1, c1, rfl, hm1⟩ := hb.stock.shape
  obtain ⟨p2, c2, rfl, hm2⟩ := hb.tickets.shape
  obtain ⟨ns, hns⟩ : ∃ ns, ns = S.length := ⟨_, rfl⟩
  obtain ⟨w1, hw1⟩ : ∃ w1, w1 = W.alloc (.cells #[.slice p1 ns c1, .slice p2 T.length c2] 25) := ⟨_, rfl⟩
  have hb1 : Below W.heap.size W w1 := by rw [hw1]; exact below_new W _
  have hB1 : Blk w1 W.heap.size #[.slice p1 ns c1, .slice p2 T.length c2] 25 := by rw [hw1]; exact Blk.new W _ _
  have HC := hid (book_any S T _ _ w1 (hb.later hb1))
  have HBK := hid (hb.later hb1)
  have HJ := hid (hj.later hb1)
  have HN := hid (fun w h => nums_any P (S.length : Int) v3 w h)
  have HCE : Hid (confErr S T P = if bookErr S T ≠ 0 then bookErr S T else if numsErr P S.length ≠ 0 then numsErr P S.length else if showF S T P = true then 0 else 18) := hid rfl
  have HOK := hid (fun h => book_ok (S := S) (T := T) h)
  have HNO := hid (fun h => nums_ok (l := P) (n := (S.length : Int)) h)
  have q0 := hB1.cell (i := 0) rfl
  have q1 := hB1.cell (i := 1) rfl
  rw [← hns] at HC HBK HN HCE HNO ⊢
  have HBL := hid hB1
  have HB1 := hid hb1
  have HW1 := hid hw1
  have HNS := hid hns
  have hge : W.heap.size ≤ w1.heap.size := hb1.size
  clear hb hj hns hw1 hb1 hB1 hm1 hm2
  obtain ⟨x, hx⟩ : ∃ x, x = bookErr S T := ⟨_, rfl⟩
  obtain ⟨y, hy⟩ : ∃ y, y = numsErr P ns := ⟨_, rfl⟩
  rw [← hx] at HC HCE HOK
  rw [← hy] at HN HCE HNO
  clear hx hy
  by_cases h1 : x = 0
  · subst h1
    by_cases h2 : y = 0
    · subst h2
      have HSH := hid (fun w (h : BookIn w (.slice p1 ns c1) (.slice p2 T.length c2) S T) h' => show_any S T P _ _ v3 w h h' (HOK.out rfl).1 (HOK.out rfl).2 hP (by have h := HNO.out rfl; rw [HNS.out] at h; exact h))
      cases hs : showF S T P
      all_goals
        rw [hs] at HSH HCE
        clear hs
        go_enter Try.func29, Try.ntmps29
        go_wp2_with (first | (rw [← HW1.out]) | (go_at_call 45; (with_reducible refine HC.out.mono ?_); rintro e w2 ⟨rfl, hb⟩; have HB2 := hid hb; have HBL2 := HBL.out.later hb HBL.out.lt; have d0 := HBL2.cell (i := 0) rfl; have d1 := HBL2.cell (i := 1) rfl; clear hb HBL2) | (go_at_call 54; (with_reducible refine (HN.out _ (HJ.out.later HB2.out)).mono ?_); rintro e w3 ⟨rfl, rfl⟩) | (go_at_call 62; (with_reducible refine (HSH.out _ (HBK.out.later HB2.out) (HJ.out.later HB2.out)).mono ?_); rintro e w4 ⟨rfl, hb⟩; have HB4 := hid (HB1.out.trans ((HB2.out.trans (hb.mono HB2.out.size)).mono hge)); clear hb))
        go_ret
        exact ⟨by rw [HCE.out]; rfl, HB4.out⟩
    · have HE : Hid (confErr S T P = y) := hid (by rw [HCE.out, if_neg (by simp), if_pos h2])
      have hz : (y == 0) = false := by simpa using h2
      have hz2 : (y != 0) = true := by simpa using h2
      clear h2
      go_enter Try.func29, Try.ntmps29
      go_wp2_with (first | (rw [← HW1.out]) | (go_at_call 45; (with_reducible refine HC.out.mono ?_); rintro e w2 ⟨rfl, hb⟩; have HB2 := hid hb; have HB4 := hid (HB1.out.trans (hb.mono hge)); have HBL2 := HBL.out.later hb HBL.out.lt; have d0 := HBL2.cell (i := 0) rfl; have d1 := HBL2.cell (i := 1) rfl; clear hb HBL2) | (go_at_call 54; (with_reducible refine (HN.out _ (HJ.out.later HB2.out)).mono ?_); rintro e w3 ⟨rfl, rfl⟩))
      go_ret
      exact ⟨by rw [HE.out]; rfl, HB4.out⟩
  · have HE : Hid (confErr S T P = x) := hid (by rw [HCE.out, if_pos h1])
    have hz : (x == 0) = false := by simpa using h1
    have hz2 : (x != 0) = true := by simpa using h1
    clear h1
    go_enter Try.func29, Try.ntmps29
    go_wp2_with (first | (rw [← HW1.out]) | (go_at_call 45; (with_reducible refine HC.out.mono ?_); rintro e w2 ⟨rfl, hb⟩; have HB4 := hid (HB1.out.trans (hb.mono hge)); clear hb))
    go_ret
    exact ⟨by rw [HE.out]; rfl, HB4.out⟩
end Go.Proofs.Ytncnpodanlhdkaa
