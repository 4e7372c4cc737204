/-
  WeighBooks: the walk.
-/
import Derived.Test.YtlkefifffkhclaaWBooks
namespace Go.Proofs.Ytlkefifffkhclaa
set_option linter.all false
open Go.RowKit

theorem holds_far {S : List (Int × Int)} {T : List Tk} {M : List Int} (hx : bookErr S T = 0) (hlen : M.length = T.length) {k : Nat} {x : Int} (hk : M[k]? = some x) (h : x < -999999999 ∨ 999999999 < x) : holdsF S T M = false := by
  obtain ⟨hok, hm⟩ := book_ok hx
  have hkm := (List.getElem?_eq_some_iff.1 hk).1
  have ht := List.getElem?_eq_getElem (l := T) (i := k) (by omega)
  have h5 := hm.mass k _ ht
  unfold holdsF
  rw [all_false (p := tkIn T M) (k := k) (by omega) (by
    unfold tkIn inR
    rw [List.getD_eq_getElem?_getD, ht, List.getD_eq_getElem?_getD, hk]
    simp
    omega)]
  rfl

set_option maxRecDepth 100000 in
set_option maxHeartbeats 16000000 in
theorem books_any (S : List (Int × Int)) (T : List Tk) (M : List Int) (v1 v2 v3 : Value) (W : World) (hb : BookIn W v1 v2 S T) (hm : SlcIn W v3 M.length (M.map (Value.int .i64))) :
    Calls Try.prog 5 #[.agg #[v1, v2], v3] W (Ret (.bool true) W) := by
  obtain ⟨p1, c1, rfl, hm1⟩ := hb.stock.shape
  obtain ⟨p2, c2, rfl, hm2⟩ := hb.tickets.shape
  obtain ⟨p3, c3, rfl, hm3⟩ := hm.shape
  obtain ⟨ns, hns⟩ : ∃ n, n = S.length := ⟨_, rfl⟩
  obtain ⟨nt, hnt⟩ : ∃ n, n = T.length := ⟨_, rfl⟩
  obtain ⟨nm, hnm⟩ : ∃ n, n = M.length := ⟨_, rfl⟩
  have hm3' : nm ≤ 9223372036854775807 := by rw [hnm]; unfold maxLen at hm3; omega
  have hm2' : nt ≤ 9223372036854775807 := by rw [hnt]; unfold maxLen at hm2; omega
  obtain ⟨w0, hw0⟩ : ∃ w0, w0 = W.alloc (.cells #[.slice p1 ns c1, .slice p2 nt c2] 50) := ⟨_, rfl⟩
  have hb0 : Below W.heap.size W w0 := by rw [hw0]; exact below_new W _
  have hB0 : Blk w0 W.heap.size #[.slice p1 ns c1, .slice p2 nt c2] 50 := by rw [hw0]; exact Blk.new W _ _
  have HBK := hid (hb.later hb0)
  have HM := hid (hm.later hb0)
  have HB := hid hb0
  have HBL := hid hB0
  have HW0 := hid hw0
  have HNS := hid hns
  have HNT := hid hnt
  have HNM := hid hnm
  have HAW := hid (fun w => awake_any w)
  have HHV := hid (fun w h => heavy_any S T (.slice p1 S.length c1) (.slice p2 T.length c2) w h)
  have HRB := hid (fun w h hs => refBook_any S T (.slice p1 S.length c1) (.slice p2 T.length c2) w h hs)
  have HCB := hid (fun w h => book_any S T (.slice p1 S.length c1) (.slice p2 T.length c2) w h)
  have HH1 := hid (fun w h hx => holds_err1 S T (.slice p1 S.length c1) (.slice p2 T.length c2) (.slice p3 M.length c3) w h hx)
  have HH2 := hid (fun w h hx hn => holds_err2 S T p3 M.length c3 (.slice p1 S.length c1) (.slice p2 T.length c2) w h hx hn)
  have HH3 := hid (fun w h hj hx hn => holds_yes S T M (.slice p1 S.length c1) (.slice p2 T.length c2) (.slice p3 M.length c3) w h hj hx hn)
  have HRH := hid (fun w h hj hn h1 h2 hM => refHolds_any S T M (.slice p1 S.length c1) (.slice p2 T.length c2) (.slice p3 M.length c3) w h hj hn h1 h2 hM)
  obtain ⟨x, hx⟩ : ∃ x, x = bookErr S T := ⟨_, rfl⟩
  have HX := hid hx
  rw [← hx] at HRB HCB HH1 HH2 HH3
  clear hx
  rw [← hns, ← hnt] at HHV HRB HCB HBK
  rw [← hnm] at HM
  rw [← hns, ← hnt, ← hnm] at HH1 HH2 HH3 HRH
  rw [← hns, ← hnt, ← hnm]
  clear hb hm hw0 hb0 hB0 hns hnt hnm hm1 hm2 hm3
  have b0 := HBL.out.cell (i := 0) rfl
  have b1 := HBL.out.cell (i := 1) rfl
  go_enter Try.func5, Try.ntmps5
  go_wp2_with (rw [← HW0.out])
  refine (HAW.out _).mono ?_
  rintro e w1 ⟨rfl, hb⟩
  have HBK1 := hid (HBK.out.later hb)
  have HM1 := hid (HM.out.later hb)
  have HB1 := hid (HB.out.trans (hb.mono HB.out.size))
  have HBL1 := hid (HBL.out.later hb HBL.out.lt)
  clear hb b0 b1 HBK HM HB HBL
  have b0 := HBL1.out.cell (i := 0) rfl
  have b1 := HBL1.out.cell (i := 1) rfl
  go_wp2_with fail
  refine (HHV.out _ (by have h := HBK1.out; exact h)).mono ?_
  rintro e w2 ⟨h, rfl, hb, hids⟩
  have HBK2 := hid (HBK1.out.later hb)
  have HM2 := hid (HM1.out.later hb)
  have HB2 := hid (HB1.out.trans (hb.mono HB1.out.size))
  have HBL2 := hid (HBL1.out.later hb HBL1.out.lt)
  clear hb b0 b1 HBK1 HM1 HB1 HBL1
  have b0 := HBL2.out.cell (i := 0) rfl
  have b1 := HBL2.out.cell (i := 1) rfl
  have HIDS := hid hids
  clear hids
  cases h
  rotate_left 1
  · go_wp2_with fail
    refine (HAW.out _).mono ?_
    rintro e w3 ⟨rfl, hb⟩
    have HB3 := hid (HB2.out.trans (hb.mono HB2.out.size))
    clear hb
    go_wp2_with fail
    go_ret
    exact ⟨rfl, HB3.out⟩
  by_cases h140 : 140 < nm
  · go_wp2_with fail
    refine (HAW.out _).mono ?_
    rintro e w3 ⟨rfl, hb⟩
    have HB3 := hid (HB2.out.trans (hb.mono HB2.out.size))
    clear hb
    go_wp2_with fail
    go_ret
    exact ⟨rfl, HB3.out⟩
  have hxx : (x != x) = false := by simp
  go_wp2_with fail
  refine (HRB.out _ HBK2.out (HIDS.out (by trivial))).mono ?_
  rintro e w3 ⟨rfl, hb⟩
  have HBK3 := hid (HBK2.out.later hb)
  have HM3 := hid (HM2.out.later hb)
  have HB3 := hid (HB2.out.trans (hb.mono HB2.out.size))
  have HBL3 := hid (HBL2.out.later hb HBL2.out.lt)
  clear hb b0 b1 HBK2 HM2 HB2 HBL2
  have b0 := HBL3.out.cell (i := 0) rfl
  have b1 := HBL3.out.cell (i := 1) rfl
  go_wp2_with fail
  refine (HCB.out _ HBK3.out).mono ?_
  rintro e w4 ⟨rfl, hb⟩
  have HBK4 := hid (HBK3.out.later hb)
  have HM4 := hid (HM3.out.later hb)
  have HB4 := hid (HB3.out.trans (hb.mono HB3.out.size))
  have HBL4 := hid (HBL3.out.later hb HBL3.out.lt)
  clear hb b0 b1 HBK3 HM3 HB3 HBL3 HRB HCB HHV HAW
  have b0 := HBL4.out.cell (i := 0) rfl
  have b1 := HBL4.out.cell (i := 1) rfl
  go_wp2_with fail
  have hsplit : (∃ (b : Bool) (y bd : Int), ((nm : Int) != (nt : Int)) = b ∧ y = (if b = true then 2 else 0) ∧ firstF [x, y] = bd ∧ bd ≠ 0 ∧ ∀ w, BookIn w (.slice p1 ns c1) (.slice p2 nt c2) S T → Calls Try.prog 28 #[.agg #[.slice p1 ns c1, .slice p2 nt c2], .slice p3 nm c3] w (Ret (.tuple #[.bool false, .int .i64 bd]) w)) ∨ (x = 0 ∧ nm = nt) := by
    by_cases hx0 : x = 0
    · by_cases hn : nm = nt
      · exact .inr ⟨hx0, hn⟩
      · refine .inl ⟨true, 2, 2, by simp; omega, rfl, by rw [hx0]; rfl, by decide, fun w h => HH2.out w h hx0 hn⟩
    · refine .inl ⟨_, _, x, rfl, rfl, by unfold firstF; simp [hx0], hx0, fun w h => HH1.out w h hx0⟩
  rcases hsplit with ⟨b, y, bd, hq, hy, hf, hbd, hh⟩ | ⟨hx0, hnn⟩
  · have HHR := hid hh
    have HWH := hid (fun w => when_any b 2 w)
    rw [← hy] at HWH
    have HFI : Hid (∀ w : World, Calls Try.prog 13 #[.slice (some ⟨w.heap.size, 0, none⟩) 2 2] (w.alloc (.cells #[.int .i64 x, .int .i64 y] 3)) fun e w' => e = .returned (.int .i64 bd) ∧ (w.alloc (.cells #[.int .i64 x, .int .i64 y] 3)) = w') := hid (fun w => by
      have h := first_any [x, y] (.slice (some ⟨w.heap.size, 0, none⟩) 2 2) (w.alloc (.cells #[.int .i64 x, .int .i64 y] 3)) (slc_new w [.int .i64 x, .int .i64 y] 3 2 (by decide))
      rw [hf] at h
      exact h)
    have hz2 : (bd != 0) = true := by simpa using hbd
    have hz3 : (bd == bd) = true := by simp
    clear hy hf hbd hh HH1 HH2 HH3 HRH
    refine (HHR.out _ HBK4.out).mono ?_
    rintro e w5 ⟨rfl, hb⟩
    have HB5 := hid (HB4.out.trans (hb.mono HB4.out.size))
    have HBL5 := hid (HBL4.out.later hb HBL4.out.lt)
    clear b0 b1 hb
    have b0 := HBL5.out.cell (i := 0) rfl
    have b1 := HBL5.out.cell (i := 1) rfl
    go_wp2_with (first | (go_at_call 16; (with_reducible refine (HWH.out _).mono ?_); rintro e w' ⟨rfl, rfl⟩) | (go_at_call 13; (with_reducible refine (HFI.out _).mono ?_); rintro e w' ⟨rfl, rfl⟩))
    go_ret
    exact ⟨rfl, HB5.out.trans ((below_new _ _).mono HB5.out.size)⟩
  · subst hx0
    subst hnn
    have HWH := hid (fun w => when_any false 2 w)
    have HFI : Hid (∀ w : World, Calls Try.prog 13 #[.slice (some ⟨w.heap.size, 0, none⟩) 2 2] (w.alloc (.cells #[.int .i64 0, .int .i64 0] 3)) fun e w' => e = .returned (.int .i64 0) ∧ (w.alloc (.cells #[.int .i64 0, .int .i64 0] 3)) = w') := hid (fun w => first_any [0, 0] (.slice (some ⟨w.heap.size, 0, none⟩) 2 2) (w.alloc (.cells #[.int .i64 0, .int .i64 0] 3)) (slc_new w [.int .i64 0, .int .i64 0] 3 2 (by decide)))
    have hlen : M.length = T.length := by rw [← HNM.out, HNT.out]
    have HFAR := hid (fun (k : Nat) (m : Int) (hk : M[k]? = some m) (h : m < -999999999 ∨ 999999999 < m) => holds_far HX.out.symm hlen hk h)
    obtain ⟨hok, _⟩ := book_ok HX.out.symm
    have HSAME := hid (holds_same M hok)
    have HH := hid (HH3.out w4 HBK4.out HM4.out rfl rfl)
    have hfew : nm ≤ 128 := by rw [HNT.out]; exact hok.few
    have hplc : ns ≤ 32 := by rw [HNS.out]; exact hok.places
    rw [HSAME.out] at HRH
    obtain ⟨hf, hhf⟩ : ∃ hf, hf = holdsF S T M := ⟨_, rfl⟩
    rw [← hhf] at HH HFAR HRH
    have hq : ((nm : Int) != (nm : Int)) = false := by simp
    have hz3 : (hf == hf) = true := by simp
    clear hhf hok hlen HH1 HH2 HH3 HSAME
    refine HH.out.mono ?_
    rintro e w5 ⟨rfl, hb⟩
    have HBK5 := hid (HBK4.out.later hb)
    have HM5 := hid (HM4.out.later hb)
    have HB5 := hid (HB4.out.trans (hb.mono HB4.out.size))
    have HBL5 := hid (HBL4.out.later hb HBL4.out.lt)
    obtain ⟨w6, hw6⟩ : ∃ w6, w6 = w5.alloc (.cells #[.int .i64 0, .int .i64 0] 3) := ⟨_, rfl⟩
    have hb6 : Below w5.heap.size w5 w6 := by rw [hw6]; exact below_new w5 _
    have HBK6 := hid (HBK5.out.later hb6)
    have HM6 := hid (HM5.out.later hb6)
    have HB6 := hid (HB5.out.trans (hb6.mono HB5.out.size))
    have HBL6 := hid (HBL5.out.later hb6 HBL5.out.lt)
    have HW6 := hid hw6
    clear b0 b1 hb hb6 hw6
    have b0 := HBL5.out.cell (i := 0) rfl
    have b1 := HBL5.out.cell (i := 1) rfl
    go_wp2_with (first | (go_at_call 16; (with_reducible refine (HWH.out _).mono ?_); rintro e w' ⟨rfl, rfl⟩) | (go_at_call 13; (with_reducible refine (HFI.out _).mono ?_); rintro e w' ⟨rfl, rfl⟩))
    rw [← HW6.out]
    clear b0 b1 HBK5 HM5 HB5 HBL5 HBK4 HM4 HB4 HBL4 HH HW6
    have b0 := HBL6.out.cell (i := 0) rfl
    have b1 := HBL6.out.cell (i := 1) rfl
    go_loop [8] (fun u => ∃ k : Nat, k ≤ nm ∧ u = .int .i64 k ∧ Hid (∀ (j : Nat) (m : Int), j < k → M[j]? = some m → -999999999 ≤ m ∧ m ≤ 999999999)) (fun u => nm - (intOf u).toNat)
    case atStart => exact ⟨0, Nat.zero_le _, rfl, hid (fun j m hj _ => absurd hj (Nat.not_lt_zero _))⟩
    case round =>
      obtain ⟨k, hk, rfl, HZ⟩ := hrel
      by_cases hlt : k < nm
      · obtain ⟨m, hmm⟩ : ∃ m, M[k]? = some m := ⟨_, List.getElem?_eq_getElem (by rw [← HNM.out]; exact hlt)⟩
        obtain ⟨g, o, c', hv, r0, _⟩ := int_at (by have h := HM6.out; rw [HNM.out] at h; exact h) hmm
        injection hv with e1 e2 e3
        subst e1
        by_cases h1 : m < -999999999
        · have hff := HFAR.out k m hmm (.inl h1)
          subst hff
          clear hmm e2 e3
          go_wp2_with fail
          go_ret
          exact ⟨rfl, HB6.out⟩
        · by_cases h2 : 999999999 < m
          · have hff := HFAR.out k m hmm (.inr h2)
            subst hff
            clear hmm e2 e3
            go_wp2_with fail
            go_ret
            exact ⟨rfl, HB6.out⟩
          · have HZ2 : Hid (∀ (j : Nat) (m : Int), j < k + 1 → M[j]? = some m → -999999999 ≤ m ∧ m ≤ 999999999) := hid (fun j y hj hy => by
              by_cases e : j = k
              · subst e; rw [hmm] at hy; cases hy; omega
              · exact HZ.out j y (by omega) hy)
            clear hmm e2 e3
            go_wp2_with fail
            go_round
            case rel => exact ⟨k + 1, by omega, by go_num, HZ2⟩
            case measure => simp [intOf]; omega
      · have hkn : k = nm := by omega
        subst hkn
        have HR := hid (HRH.out w6 HBK6.out HM6.out (by trivial) hfew hplc (fun i m hi => HZ.out i m (by have := (List.getElem?_eq_some_iff.1 hi).1; have := HNM.out; omega) hi))
        go_wp2_with ((go_at_call 29; (with_reducible refine (HR.out).mono ?_); rintro e w7 ⟨rfl, hb⟩))
        go_ret
        exact ⟨rfl, HB6.out.trans (hb.mono HB6.out.size)⟩
end Go.Proofs.Ytlkefifffkhclaa
