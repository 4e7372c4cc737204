/-
  WeighEither: the walk.
-/
import Derived.Test.YtncnpodanlhdkaaWConfl
import Derived.Test.YtncnpodanlhdkaaWCkMin
import Derived.Test.YtncnpodanlhdkaaWWit
import Derived.Test.YtncnpodanlhdkaaWHolds
import Derived.Test.YtncnpodanlhdkaaWChd
import Derived.Test.YtncnpodanlhdkaaWAwk
namespace Go.Proofs.Ytncnpodanlhdkaa
set_option linter.all false
open Go.RowKit

theorem natC_intL (L : List Nat) : natC L = (intL L).map (Value.int .i64) := by
  unfold natC intL
  rw [List.map_map]
  rfl
theorem natC_at {w : World} {p : Option Addr} {c : Nat} {M : List Int} {n : Nat} (h : SlcIn w (.slice p n c) n (M.map (Value.int .i64))) (hM : M.length = n) {i : Nat} (hi : i < n) : ∃ g o, p = some ⟨g, o, none⟩ ∧ w.cell? ⟨g, o + i, none⟩ = some (.int .i64 (M.getD i 0)) := by
  have hx : M[i]? = some (M.getD i 0) := by rw [List.getD_eq_getElem?_getD, List.getElem?_eq_getElem (by omega)]; rfl
  subst hM
  obtain ⟨g, o, c', hv, h2, _⟩ := int_at h hx
  injection hv with e1 _ _
  exact ⟨g, o, e1, h2⟩

set_option maxRecDepth 100000 in
set_option maxHeartbeats 16000000 in
theorem either_any (S : List (Int × Int)) (T : List Tk) (v1 v2 : Value) (W : World) (hb : BookIn W v1 v2 S T) :
    Calls Try.prog 9 #[.agg #[v1, v2]] W (Ret (.bool true) W) := by
  obtain ⟨p1, c1, rfl, hm1⟩ := hb.stock.shape
  obtain ⟨p2, c2, rfl, hm2⟩ := hb.tickets.shape
  obtain ⟨ns, hns⟩ : ∃ n, n = S.length := ⟨_, rfl⟩
  obtain ⟨nt, hnt⟩ : ∃ n, n = T.length := ⟨_, rfl⟩
  have hm2' : nt ≤ 9223372036854775807 := by rw [hnt]; unfold maxLen at hm2; omega
  obtain ⟨w0, hw0⟩ : ∃ w0, w0 = W.alloc (.cells #[.slice p1 ns c1, .slice p2 nt c2] 25) := ⟨_, rfl⟩
  have hb0 : Below W.heap.size W w0 := by rw [hw0]; exact below_new W _
  have hB0 : Blk w0 W.heap.size #[.slice p1 ns c1, .slice p2 nt c2] 25 := by rw [hw0]; exact Blk.new W _ _
  have HBK := hid (hb.later hb0)
  have HB := hid hb0
  have HBL := hid hB0
  have HW0 := hid hw0
  have HNS := hid hns
  have HNT := hid hnt
  have HAW := hid (fun w => awake_any w)
  have HLI := hid (fun w h => light_any S T (.slice p1 S.length c1) (.slice p2 T.length c2) w h)
  obtain ⟨li, hli⟩ : ∃ li, li = lightF S T := ⟨_, rfl⟩
  rw [← hli] at HLI
  have HL9 := hid hli
  rw [← hns, ← hnt] at HLI HBK
  rw [← hns, ← hnt]
  clear hb hw0 hb0 hB0 hns hnt hm1 hm2 hli
  have b0 := HBL.out.cell (i := 0) rfl
  have b1 := HBL.out.cell (i := 1) rfl
  go_enter Try.func9, Try.ntmps9
  go_wp2_with (rw [← HW0.out])
  refine (HAW.out _).mono ?_
  rintro e w1 ⟨rfl, hb⟩
  have HBK1 := hid (HBK.out.later hb)
  have HB1 := hid (HB.out.trans (hb.mono HB.out.size))
  have HBL1 := hid (HBL.out.later hb HBL.out.lt)
  clear hb b0 b1 HBK HB HBL
  have b0 := HBL1.out.cell (i := 0) rfl
  have b1 := HBL1.out.cell (i := 1) rfl
  go_wp2_with fail
  refine (HLI.out _ (by have h := HBK1.out; exact h)).mono ?_
  rintro e w2 ⟨rfl, hb⟩
  have HBK2 := hid (HBK1.out.later hb)
  have HB2 := hid (HB1.out.trans (hb.mono HB1.out.size))
  have HBL2 := hid (HBL1.out.later hb HBL1.out.lt)
  clear hb b0 b1 HBK1 HB1 HBL1
  have b0 := HBL2.out.cell (i := 0) rfl
  have b1 := HBL2.out.cell (i := 1) rfl
  cases li
  · go_wp2_with fail
    refine (HAW.out _).mono ?_
    rintro e w3 ⟨rfl, hb⟩
    have HB3 := hid (HB2.out.trans (hb.mono HB2.out.size))
    clear hb
    go_wp2_with fail
    go_ret
    exact ⟨rfl, HB3.out⟩
  have hlt : lightF S T = true := HL9.out.symm
  have hx : bookErr S T = 0 := by unfold lightF at hlt; simp at hlt; exact hlt.2
  have hfew : S.length ≤ 6 ∧ T.length ≤ 8 := by unfold lightF at hlt; simp at hlt; exact hlt.1
  have HX := hid hx
  have hnt8 : nt ≤ 8 := by rw [HNT.out]; exact hfew.2
  have HFEW := hid hfew
  rcases tight_cases hx with ⟨hn, ht1, _⟩ | ⟨hcs, ⟨L, hL, ht1⟩, _⟩
  · rcases confl_cases hx with ⟨hcs, _⟩ | ⟨_, P, _, hP1, hP2, hcf⟩
    · exact absurd hcs hn
    rcases min_cases hx with ⟨hcs, _⟩ | ⟨_, M, hM1, hM2, hM3, hmi⟩
    · exact absurd hcs hn
    have hPn := nums_short hP1
    rw [List.length_map] at hPn
    have hcE : confErr S T (intL P) = 0 := by
      unfold confErr
      rw [if_neg (by rw [hx]; simp), if_neg (by show ¬ numsErr (intL P) S.length ≠ 0; rw [show numsErr (intL P) S.length = 0 from hP1]; simp), if_pos (show showF S T (intL P) = true from hP2)]
    have HCF := hid hcf
    have HMI := hid hmi
    have HT1 := hid ht1
    have HCC := hid (fun w v (h : BookIn w (.slice p1 S.length c1) (.slice p2 T.length c2) S T) h2 => conf_any S T (intL P) (.slice p1 S.length c1) (.slice p2 T.length c2) v w h h2 (by unfold intL; rw [List.length_map]; omega))
    rw [hcE] at HCC
    have hset : ∃ N, settleF (newF S (restr T (intL M) T.length) []) = some (N, false) := by
      obtain ⟨N, r, a1, a2, _⟩ := book_settle (book_good (restr_err (intL M) hx T.length (Nat.le_refl _))) []
      cases r
      · exact ⟨N, a1⟩
      · exact absurd (a2.1 rfl) hM2
    obtain ⟨f, hf, hfM⟩ : ∃ f : Nat → Bool, (∀ j, j < T.length → ∃ N, settleF (newF S (withoutF (restr T (intL M) T.length) j) []) = some (N, f j)) ∧ ∀ j ∈ M, j < T.length → f j = true := by
      have hh : ∀ j, j < T.length → ∃ r N, settleF (newF S (withoutF (restr T (intL M) T.length) j) []) = some (N, r) ∧ (r = true ↔ Cons S (withoutF (restr T (intL M) T.length) j)) := fun j hj => by
        obtain ⟨N, r, a1, a2, _⟩ := book_settle (book_good (without_err (i := j) (restr_err (intL M) hx T.length (Nat.le_refl _)) (by rw [restr_len]; exact hj))) []
        exact ⟨r, N, a1, a2⟩
      refine ⟨fun j => if h : j < T.length then Classical.choose (hh j h) else false, fun j hj => ?_, fun j hjM hj => ?_⟩
      · obtain ⟨N, a1, _⟩ := Classical.choose_spec (hh j hj)
        exact ⟨N, by dsimp only; rw [dif_pos hj]; exact a1⟩
      · obtain ⟨N, _, a2⟩ := Classical.choose_spec (hh j hj)
        dsimp only
        rw [dif_pos hj]
        exact a2.2 (hM3 j hjM)
    have hall : (intL M).all (fun x => f x.toNat) = true := by
      rw [List.all_eq_true]
      intro x hx9
      have hin := nums_in hM1 x hx9
      obtain ⟨j, hj, rfl⟩ := List.mem_map.1 hx9
      exact hfM j hj (by omega)
    have HCM := hid (fun w v (h : BookIn w (.slice p1 S.length c1) (.slice p2 T.length c2) S T) h2 => ckmin_any S T (intL M) false f (.slice p1 S.length c1) (.slice p2 T.length c2) v w h h2 hx hM1 hset hf)
    rw [if_neg (by simp), if_pos hall] at HCM
    rw [← HNS.out, ← HNT.out] at HCC HCM
    clear ht1 hn hx hlt hfew hcf hmi hP1 hP2 hM1 hM2 hM3 hcE hset hf hfM hall hPn
    go_wp2_with fail
    refine (HT1.out _ _ _ HBK2.out).mono ?_
    rintro e w3 ⟨rfl, hb⟩
    have HBK3 := hid (HBK2.out.later hb)
    have HB3 := hid (HB2.out.trans (hb.mono HB2.out.size))
    have HBL3 := hid (HBL2.out.later hb HBL2.out.lt)
    clear hb b0 b1
    have b0 := HBL3.out.cell (i := 0) rfl
    have b1 := HBL3.out.cell (i := 1) rfl
    go_wp2_with fail
    refine (HCF.out _ _ _ HBK3.out).mono ?_
    rintro e w4 ⟨v4, rfl, ho, hb⟩
    rw [natC_intL] at ho
    have HO4 := hid (SlcIn.own ho)
    have HBK4 := hid (HBK3.out.later hb)
    have HB4 := hid (HB3.out.trans (hb.mono HB3.out.size))
    have HBL4 := hid (HBL3.out.later hb HBL3.out.lt)
    clear hb b0 b1 ho
    have b0 := HBL4.out.cell (i := 0) rfl
    have b1 := HBL4.out.cell (i := 1) rfl
    go_wp2_with fail
    refine (HMI.out _ _ _ HBK4.out).mono ?_
    rintro e w5 ⟨v5, rfl, ho, hb⟩
    rw [natC_intL] at ho
    have HM5 := hid (SlcIn.own ho)
    have HO5 := hid (HO4.out.later hb)
    have HBK5 := hid (HBK4.out.later hb)
    have HB5 := hid (HB4.out.trans (hb.mono HB4.out.size))
    have HBL5 := hid (HBL4.out.later hb HBL4.out.lt)
    clear hb b0 b1 ho
    have b0 := HBL5.out.cell (i := 0) rfl
    have b1 := HBL5.out.cell (i := 1) rfl
    go_wp2_with fail
    refine (HCC.out _ _ (by have h := HBK5.out; exact h) (by have h := HO5.out; rw [show (intL P).length = P.length from List.length_map _]; exact h)).mono ?_
    rintro e w6 ⟨rfl, hb⟩
    have HBK6 := hid (HBK5.out.later hb)
    have HB6 := hid (HB5.out.trans (hb.mono HB5.out.size))
    have HBL6 := hid (HBL5.out.later hb HBL5.out.lt)
    have HM6 := hid (HM5.out.later hb)
    clear hb b0 b1
    have b0 := HBL6.out.cell (i := 0) rfl
    have b1 := HBL6.out.cell (i := 1) rfl
    go_wp2_with fail
    refine (HCM.out _ _ (by have h := HBK6.out; exact h) (by have h := HM6.out; rw [show (intL M).length = M.length from List.length_map _]; exact h)).mono ?_
    rintro e w7 ⟨rfl, hb⟩
    have HB7 := hid (HB6.out.trans (hb.mono HB6.out.size))
    clear hb
    go_wp2_with fail
    go_ret
    exact ⟨rfl, HB7.out⟩
  · rcases confl_cases hx with ⟨_, hcf⟩ | ⟨hn, _⟩
    rotate_left 1
    · exact absurd hcs hn
    rcases min_cases hx with ⟨_, hmi⟩ | ⟨hn, _⟩
    rotate_left 1
    · exact absurd hcs hn
    have HCF := hid hcf
    have HMI := hid hmi
    have HT1 := hid ht1
    have HL := hid hL
    have HWIT := hid (fun (i : Nat) (hi : i < T.length) up => wit_cases hx hcs hi up)
    have HHO := hid (fun M (hM : M.length = T.length) v w (h : BookIn w (.slice p1 S.length c1) (.slice p2 T.length c2) S T) h2 => holds_yes S T M (.slice p1 S.length c1) (.slice p2 T.length c2) v w h h2 hx hM)
    rw [← HNS.out, ← HNT.out] at HHO
    rw [← HNT.out] at HWIT
    clear ht1 hcf hmi hx hlt hfew hL hcs
    go_wp2_with fail
    refine (HT1.out _ _ _ HBK2.out).mono ?_
    rintro e w3 ⟨v3, rfl, ho, hb⟩
    have hLn : L.length = nt := by rw [HL.out.len, HNT.out]
    rw [hLn] at ho
    have HLN := hid hLn
    have HO3 := hid ho
    obtain ⟨p4, c4, rfl⟩ : ∃ p c, v3 = .slice p nt c := by
      obtain ⟨p, c, h, _⟩ := SlcIn.own ho
      exact ⟨p, c, h⟩
    have HBK3 := hid (HBK2.out.later hb)
    have HB3 := hid (HB2.out.trans (hb.mono HB2.out.size))
    have HBL3 := hid (HBL2.out.later hb HBL2.out.lt)
    clear hb b0 b1 ho hLn
    have b0 := HBL3.out.cell (i := 0) rfl
    have b1 := HBL3.out.cell (i := 1) rfl
    go_wp2_with fail
    refine (HCF.out _ _ _ HBK3.out).mono ?_
    rintro e w4 ⟨rfl, hb⟩
    have HO4 := hid (ownsRow_later HO3.out hb)
    have HBK4 := hid (HBK3.out.later hb)
    have HB4 := hid (HB3.out.trans (hb.mono HB3.out.size))
    have HBL4 := hid (HBL3.out.later hb HBL3.out.lt)
    clear hb b0 b1
    have b0 := HBL4.out.cell (i := 0) rfl
    have b1 := HBL4.out.cell (i := 1) rfl
    go_wp2_with fail
    refine (HMI.out _ _ _ HBK4.out).mono ?_
    rintro e w5 ⟨rfl, hb⟩
    have HO5 := hid (ownsRow_later HO4.out hb)
    have HBK5 := hid (HBK4.out.later hb)
    have HB5 := hid (HB4.out.trans (hb.mono HB4.out.size))
    have HBL5 := hid (HBL4.out.later hb HBL4.out.lt)
    clear hb b0 b1 HCF HMI HT1 HBK2 HBK3 HBK4 HB2 HB3 HB4 HBL2 HBL3 HBL4 HO3 HO4
    have b0 := HBL5.out.cell (i := 0) rfl
    have b1 := HBL5.out.cell (i := 1) rfl
    go_wp2_with fail
    clear b0 b1
    go_loopw [9] (fun u wr => ∃ k : Nat, k ≤ nt ∧ u = .int .i64 k ∧ Hid (Below w5.heap.size w5 wr)) (fun u _ => nt - (intOf u).toNat)
    case atStart => exact ⟨0, Nat.zero_le _, rfl, hid (Below.refl _ _)⟩
    case round =>
      obtain ⟨k, hk, rfl, HBR⟩ := hrel
      by_cases hlt : k < nt
      · obtain ⟨r, hr⟩ : ∃ r, L[k]? = some r := ⟨_, List.getElem?_eq_getElem (by rw [HLN.out]; exact hlt)⟩
        have hends := HL.out.ends k r hr
        obtain ⟨la, lb⟩ := r
        obtain ⟨M1, m1, a1, a2, a3, hw1⟩ := HWIT.out k hlt false
        obtain ⟨M2, m2, d1, d2, d3, hw2⟩ := HWIT.out k hlt true
        have hM1n : M1.length = nt := by rw [a1.1, HNT.out]
        have hM2n : M2.length = nt := by rw [d1.1, HNT.out]
        have hm1 : M1.getD k 0 = la := by
          obtain ⟨A, e1, e2⟩ := hends.low
          have e3 := hends.all M1 a1
          have e4 := a3 A e1
          rw [if_neg (by simp)] at e4
          dsimp only at e2 e3
          omega
        have hm2 : M2.getD k 0 = lb := by
          obtain ⟨A, e1, e2⟩ := hends.high
          have e3 := hends.all M2 d1
          have e4 := d3 A e1
          rw [if_pos rfl] at e4
          dsimp only at e2 e3
          omega
        have HR := hid hr
        have HW1 := hid hw1
        have HW2 := hid hw2
        have HH1 := hid (fun v w h h2 => HHO.out M1 hM1n v w h h2)
        have HH2 := hid (fun v w h h2 => HHO.out M2 hM2n v w h h2)
        rw [a1.2] at HH1
        rw [d1.2] at HH2
        have HN1 := hid hM1n
        have HN2 := hid hM2n
        have HE1 := hid hm1
        have HE2 := hid hm2
        have HBr := hid (HB5.out.trans (HBR.out.mono HB5.out.size))
        have HBKr := hid (HBK5.out.later HBR.out)
        have HBLr := hid (HBL5.out.later HBR.out HBL5.out.lt)
        have HOr := hid (ownsRow_later HO5.out HBR.out)
        have hrs := HBR.out.size
        clear hr hends a1 a2 a3 d1 d2 d3 hw1 hw2 hM1n hM2n hm1 hm2
        have b0 := HBLr.out.cell (i := 0) rfl
        have b1 := HBLr.out.cell (i := 1) rfl
        go_wp2_with fail
        refine (HW1.out _ _ _ HBKr.out).mono ?_
        rintro e w6 ⟨v6, rfl, ho, hb⟩
        rw [HN1.out] at ho
        have HS6 := hid (SlcIn.own ho)
        obtain ⟨p6, c6, rfl⟩ : ∃ p c, v6 = .slice p nt c := by
          obtain ⟨p, c, h, _⟩ := SlcIn.own ho
          exact ⟨p, c, h⟩
        have HBR6 := hid (HBR.out.trans (hb.mono HBR.out.size))
        have HBK6 := hid (HBKr.out.later hb)
        have HBL6 := hid (HBLr.out.later hb HBLr.out.lt)
        have HO6 := hid (ownsRow_later HOr.out hb)
        clear hb ho b0 b1
        have b0 := HBL6.out.cell (i := 0) rfl
        have b1 := HBL6.out.cell (i := 1) rfl
        go_wp2_with fail
        refine (HW2.out _ _ _ HBK6.out).mono ?_
        rintro e w7 ⟨v7, rfl, ho, hb⟩
        rw [HN2.out] at ho
        have HQ7 := hid (SlcIn.own ho)
        obtain ⟨p7, c7, rfl⟩ : ∃ p c, v7 = .slice p nt c := by
          obtain ⟨p, c, h, _⟩ := SlcIn.own ho
          exact ⟨p, c, h⟩
        have HS7 := hid (HS6.out.later hb)
        have HBR7 := hid (HBR6.out.trans (hb.mono HBR6.out.size))
        have HBK7 := hid (HBK6.out.later hb)
        have HBL7 := hid (HBL6.out.later hb HBL6.out.lt)
        have HO7 := hid (ownsRow_later HO6.out hb)
        clear hb ho b0 b1
        obtain ⟨g6, o6, rfl, y6⟩ := natC_at HS7.out HN1.out hlt
        obtain ⟨g7, o7, rfl, y7⟩ := natC_at HQ7.out HN2.out hlt
        rw [HE1.out] at y6
        rw [HE2.out] at y7
        obtain ⟨g4, cc4, hv4, _⟩ := row_some HO7.out (by omega)
        injection hv4 with f1 f2 f3
        subst f1
        obtain ⟨l0, l1⟩ : w7.cell? ⟨g4, k * 2, none⟩ = some (.int .i64 la) ∧ w7.cell? ⟨g4, k * 2 + 1, none⟩ = some (.int .i64 lb) := ⟨by rw [HO7.out.cellAt (k * 2) (by omega)]; exact rg_get L k _ HR.out 0 _ rfl, by rw [HO7.out.cellAt (k * 2 + 1) (by omega)]; exact rg_get L k _ HR.out 1 _ rfl⟩
        have hnn : ((nt : Int) != (nt : Int)) = false := by simp
        have hla9 : (la != la) = false := by simp
        have hlb9 : (lb != lb) = false := by simp
        clear f2 f3
        go_wp2_with fail
        go_quiet (fail)
        obtain ⟨w8, hw8⟩ : ∃ w8, w8 = w7.drewN nq := ⟨_, rfl⟩
        have hb8 : Below w7.heap.size w7 w8 := by rw [hw8]; exact ⟨rfl, rfl, rfl, Nat.le_refl _, fun _ _ => rfl⟩
        rw [← hw8]
        have HBR8 := hid (HBR7.out.trans (hb8.mono HBR7.out.size))
        have HBK8 := hid (HBK7.out.later hb8)
        have HBL8 := hid (HBL7.out.later hb8 HBL7.out.lt)
        have HS8 := hid (HS7.out.later hb8)
        have HQ8 := hid (HQ7.out.later hb8)
        clear hb8 hw8 y6 y7 l0 l1
        have b0 := HBL8.out.cell (i := 0) rfl
        have b1 := HBL8.out.cell (i := 1) rfl
        go_wp2_with fail
        refine (HH1.out _ _ (by have h := HBK8.out; exact h) (by have h := HS8.out; rw [HN1.out]; exact h)).mono ?_
        rintro e w9 ⟨rfl, hb⟩
        have HBR9 := hid (HBR8.out.trans (hb.mono HBR8.out.size))
        have HBK9 := hid (HBK8.out.later hb)
        have HBL9 := hid (HBL8.out.later hb HBL8.out.lt)
        have HQ9 := hid (HQ8.out.later hb)
        clear hb b0 b1
        have b0 := HBL9.out.cell (i := 0) rfl
        have b1 := HBL9.out.cell (i := 1) rfl
        go_wp2_with fail
        refine (HH2.out _ _ (by have h := HBK9.out; exact h) (by have h := HQ9.out; rw [HN2.out]; exact h)).mono ?_
        rintro e w10 ⟨rfl, hb⟩
        have HBR10 := hid (HBR9.out.trans (hb.mono HBR9.out.size))
        clear hb b0 b1
        go_wp2_with fail
        go_roundw
        case rel => exact ⟨k + 1, by omega, by go_num, HBR10⟩
        case measure => simp [intOf]; omega
      · have hkn : nt = k := by omega
        subst hkn
        go_wp2_with fail
        go_ret
        exact ⟨rfl, HB5.out.trans (HBR.out.mono HB5.out.size)⟩
end Go.Proofs.Ytncnpodanlhdkaa
