/-
  tiny: a book of a few tickets with narrow masses.
-/
import Derived.Test.YtncnpodanlhdkaaWAllM
import Derived.Test.YtncnpodanlhdkaaWRefBk2
namespace Go.Proofs.Ytncnpodanlhdkaa
set_option linter.all false
open Go.RowKit

def tinyF (S : List (Int × Int)) (T : List Tk) : Bool := decide (bookErr S T = 0) && decide (S.length ≤ 4) && decide (T.length ≤ 4) && T.all (fun t => decide (t.high - t.low ≤ 4))
set_option maxRecDepth 100000 in
set_option maxHeartbeats 4000000 in
theorem tiny_any (S : List (Int × Int)) (T : List Tk) (v1 v2 : Value) (W : World) (hb : BookIn W v1 v2 S T) :
    Calls Try.prog 36 #[.agg #[v1, v2]] W (Ret (.bool (tinyF S T)) W) := by
  obtain ⟨p1, c1, rfl, hm1⟩ := hb.stock.shape
  obtain ⟨p2, c2, rfl, hm2⟩ := hb.tickets.shape
  obtain ⟨ns, hns⟩ : ∃ n, n = S.length := ⟨_, rfl⟩
  obtain ⟨nt, hnt⟩ : ∃ n, n = T.length := ⟨_, rfl⟩
  have hm1' : ns ≤ 9223372036854775807 := by rw [hns]; unfold maxLen at hm1; omega
  have hm2' : nt ≤ 9223372036854775807 := by rw [hnt]; unfold maxLen at hm2; omega
  obtain ⟨w1, hw1⟩ : ∃ w1, w1 = W.alloc (.cells #[.slice p1 ns c1, .slice p2 nt c2] 25) := ⟨_, rfl⟩
  have hb1 : Below W.heap.size W w1 := by rw [hw1]; exact below_new W _
  have hB1 : Blk w1 W.heap.size #[.slice p1 ns c1, .slice p2 nt c2] 25 := by rw [hw1]; exact Blk.new W _ _
  have HC := hid (refBook9 S T _ _ w1 (hb.later hb1))
  have HBK := hid (hb.later hb1)
  obtain ⟨x, hxe⟩ : ∃ x, x = bookErr S T := ⟨_, rfl⟩
  obtain ⟨r, hr⟩ : ∃ r, r = tinyF S T := ⟨_, rfl⟩
  have HR := hid hr
  have HX := hid hxe
  have HNS := hid hns
  have HNT := hid hnt
  rw [← hr]
  rw [← hxe, ← hns, ← hnt] at HC
  rw [← hns, ← hnt] at HBK
  rw [← hns, ← hnt]
  have q0 := hB1.cell (i := 0) rfl
  have q1 := hB1.cell (i := 1) rfl
  have HB1 := hid hb1
  have HBL := hid hB1
  have HW1 := hid hw1
  have hge : W.heap.size ≤ w1.heap.size := hb1.size
  clear hb hw1 hb1 hB1 hm1 hm2 hns hnt hxe hr
  by_cases h3 : x = 0
  rotate_left 1
  · have hz : (x != 0) = true := by simpa using h3
    have hF : r = false := by rw [HR.out]; unfold tinyF; rw [← HX.out]; simp [h3]
    rw [hF]
    clear h3 HR hF
    go_enter Try.func36, Try.ntmps36
    go_wp2_with (first | (rw [← HW1.out]) | (go_at_call 16; (with_reducible refine HC.out.mono ?_); rintro e w2 ⟨rfl, hb⟩; have HB4 := hid (HB1.out.trans (hb.mono hge)); clear hb))
    go_ret
    exact ⟨rfl, HB4.out⟩
  subst h3
  by_cases h1 : 4 < ns
  · have hF : r = false := by rw [HR.out]; unfold tinyF; rw [← HNS.out]; simp [h1]; intros; omega
    rw [hF]
    clear HR hF
    go_enter Try.func36, Try.ntmps36
    go_wp2_with (first | (rw [← HW1.out]) | (go_at_call 16; (with_reducible refine HC.out.mono ?_); rintro e w2 ⟨rfl, hb⟩; have HB4 := hid (HB1.out.trans (hb.mono hge)); have b0 := (HBL.out.later hb HBL.out.lt).cell (i := 0) rfl; have b1 := (HBL.out.later hb HBL.out.lt).cell (i := 1) rfl; clear hb))
    go_ret
    exact ⟨rfl, HB4.out⟩
  by_cases h2 : 4 < nt
  · have hF : r = false := by rw [HR.out]; unfold tinyF; rw [← HNT.out]; simp [h2]; intros; omega
    rw [hF]
    clear HR hF
    go_enter Try.func36, Try.ntmps36
    go_wp2_with (first | (rw [← HW1.out]) | (go_at_call 16; (with_reducible refine HC.out.mono ?_); rintro e w2 ⟨rfl, hb⟩; have HB4 := hid (HB1.out.trans (hb.mono hge)); have b0 := (HBL.out.later hb HBL.out.lt).cell (i := 0) rfl; have b1 := (HBL.out.later hb HBL.out.lt).cell (i := 1) rfl; clear hb))
    go_ret
    exact ⟨rfl, HB4.out⟩
  have hF : r = T.all (fun t => decide (t.high - t.low ≤ 4)) := by rw [HR.out]; unfold tinyF; rw [← HX.out, ← HNS.out, ← HNT.out]; simp [h1, h2]; intro _; omega
  have HF := hid hF
  have HTK : Hid (∀ (k : Nat) (t : Tk), T[k]? = some t → 0 ≤ t.low ∧ t.low ≤ t.high ∧ t.high ≤ 999999999) := hid (fun k t ht => (book_good HX.out.symm).mass.mass k t ht)
  clear hF HR
  go_enter Try.func36, Try.ntmps36
  go_wp2_with (first | (rw [← HW1.out]) | (go_at_call 16; (with_reducible refine HC.out.mono ?_); rintro e w2 ⟨rfl, hb⟩; have HB4 := hid (HB1.out.trans (hb.mono hge)); have HBL4 := hid (HBL.out.later hb HBL.out.lt); have HBK4 := hid (HBK.out.later hb); have b0 := HBL4.out.cell (i := 0) rfl; have b1 := HBL4.out.cell (i := 1) rfl; clear hb))
  clear b0 b1
  go_loopw [3] (fun u wr => ∃ k : Nat, k ≤ nt ∧ u = .int .i64 k ∧ Hid (∀ (j : Nat) (t : Tk), j < k → T[j]? = some t → t.high - t.low ≤ 4) ∧ Hid (Below w2.heap.size w2 wr)) (fun u _ => nt - (intOf u).toNat)
  case atStart => exact ⟨0, Nat.zero_le _, rfl, hid (fun j t hj => absurd hj (by omega)), hid (Below.refl _ _)⟩
  case round =>
    obtain ⟨k, hk, rfl, HALL, HBR⟩ := hrel
    have HBLr := hid (HBL4.out.later HBR.out HBL4.out.lt)
    have HBKr := hid (HBK4.out.later HBR.out)
    have HBr := hid (HB4.out.trans (HBR.out.mono HB4.out.size))
    have b0 := HBLr.out.cell (i := 0) rfl
    have b1 := HBLr.out.cell (i := 1) rfl
    by_cases hlt : k < nt
    · obtain ⟨t, ht⟩ : ∃ t, T[k]? = some t := ⟨_, List.getElem?_eq_getElem (by rw [← HNT.out]; exact hlt)⟩
      obtain ⟨g, o, c, hv, _, _, _, y3, y4⟩ := HBKr.out.tickets.tkAt ht
      injection hv with e1 e2 e3
      subst e1
      clear e2 e3
      obtain ⟨m1, m2, m3⟩ := HTK.out k t ht
      have HT := hid ht
      obtain ⟨id, src, dst, lo, hi⟩ := t
      dsimp only at y3 y4 m1 m2 m3
      clear ht
      by_cases hw : 4 < hi - lo
      · have hF : r = false := by
          rw [HF.out, Bool.eq_false_iff]
          intro h
          rw [List.all_eq_true] at h
          have h9 := h _ (List.mem_of_getElem? HT.out)
          simp at h9
          omega
        rw [hF]
        have h8 : ¬ (hi - lo ≤ 4) := by omega
        go_wp2_with fail
        go_quiet (fail)
        go_wp2_with fail
        go_ret
        refine ⟨rfl, HBr.out.trans ⟨rfl, rfl, rfl, ?_, ?_⟩⟩
        · exact Nat.le_refl _
        · exact fun _ _ => rfl
      · have HNEW : Hid (∀ (j : Nat) (t : Tk), j < k + 1 → T[j]? = some t → t.high - t.low ≤ 4) := hid (fun j t hj ht => by
          by_cases e : j = k
          · subst e
            rw [HT.out] at ht
            cases ht
            dsimp only
            omega
          · exact HALL.out j t (by omega) ht)
        go_wp2_with fail
        go_quiet (fail)
        obtain ⟨w8, hw8⟩ : ∃ w8, w8 = wr.drewN nq := ⟨_, rfl⟩
        have hb8 : Below wr.heap.size wr w8 := by rw [hw8]; exact ⟨rfl, rfl, rfl, Nat.le_refl _, fun _ _ => rfl⟩
        rw [← hw8]
        have HBR8 := hid (HBR.out.trans (hb8.mono HBR.out.size))
        clear hb8 hw8 y3 y4 b0 b1
        go_wp2_with fail
        go_roundw
        case rel => (first | exact ⟨k + 1, by omega, by go_num, HNEW, HBR8⟩ | ((repeat apply Exists.intro); exact ⟨⟨k + 1, by omega, by go_num, HNEW, HBR8⟩, rfl⟩))
        case measure => simp [intOf]; omega
    · have hkn : k = nt := by omega
      subst hkn
      have hF : r = true := by
        rw [HF.out, List.all_eq_true]
        intro t ht
        obtain ⟨j, hj⟩ := List.mem_iff_getElem?.1 ht
        have := HALL.out j t (by rw [HNT.out]; exact (List.getElem?_eq_some_iff.1 hj).1) hj
        simpa using this
      go_wp2_with fail
      go_ret
      exact ⟨by rw [hF]; rfl, HBr.out⟩
end Go.Proofs.Ytncnpodanlhdkaa
