/-
  The reference's Holds.
-/
import Derived.Test.YtncnpodanlhdkaaWRefGain
namespace Go.Proofs.Ytncnpodanlhdkaa
set_option linter.all false
open Go.RowKit

theorem all_false {p : Nat → Bool} {n k : Nat} (h : k < n) (hp : p k = false) : (List.range n).all p = false := by
  rw [← Bool.not_eq_true, List.all_eq_true]
  intro ha
  rw [ha k (List.mem_range.2 h)] at hp
  cases hp
theorem all_true {p : Nat → Bool} {n : Nat} (h : ∀ k, k < n → p k = true) : (List.range n).all p = true := List.all_eq_true.2 fun k hk => h k (List.mem_range.1 hk)

set_option maxRecDepth 100000 in
set_option maxHeartbeats 8000000 in
theorem refHolds_any (S : List (Int × Int)) (T : List Tk) (M : List Int) (v1 v2 v3 : Value) (W : World) (hb : BookIn W v1 v2 S T) (hm : SlcIn W v3 M.length (M.map (Value.int .i64)))
    (hlen : M.length = T.length) (h128 : T.length ≤ 128) (h32 : S.length ≤ 32) (hM : ∀ (i : Nat) (x : Int), M[i]? = some x → -999999999 ≤ x ∧ x ≤ 999999999) :
    Calls Try.prog 27 #[.agg #[v1, v2], v3] W (Ret (.bool (holdsR S T M)) W) := by
  obtain ⟨p1, c1, rfl, _⟩ := hb.stock.shape
  obtain ⟨p2, c2, rfl, _⟩ := hb.tickets.shape
  obtain ⟨p3, c3, rfl, _⟩ := hm.shape
  obtain ⟨ns, hns⟩ : ∃ n, n = S.length := ⟨_, rfl⟩
  obtain ⟨nt, hnt⟩ : ∃ n, n = T.length := ⟨_, rfl⟩
  obtain ⟨w0, hw0⟩ : ∃ w0, w0 = W.alloc (.cells #[.slice p1 ns c1, .slice p2 nt c2] 25) := ⟨_, rfl⟩
  have hb0 : Below W.heap.size W w0 := by rw [hw0]; exact below_new W _
  have hB0 : Blk w0 W.heap.size #[.slice p1 ns c1, .slice p2 nt c2] 25 := by rw [hw0]; exact Blk.new W _ _
  have b0 := hB0.cell (i := 0) rfl
  have b1 := hB0.cell (i := 1) rfl
  have HBK := hid (hb.later hb0)
  have HM := hid (hm.later hb0)
  have HB := hid hb0
  have HBL := hid hB0
  have HW0 := hid hw0
  have HNT := hid hnt
  have HNS := hid hns
  have HLEN := hid hlen
  have HMB := hid hM
  have HGA := hid (fun (J : List Int) (v4 : Value) (w : World) (h1 : BookIn w (.slice p1 S.length c1) (.slice p2 T.length c2) S T) (h2 : SlcIn w (.slice p3 M.length c3) M.length (M.map (Value.int .i64))) (h3 : SlcIn w v4 J.length (J.map (Value.int .i64))) => refGain_any S T M J _ _ _ v4 w h1 h2 h3 hlen h128 hM)
  have HRF : Hid (∀ k, k < nt → tkIn T M k = false → holdsR S T M = false) := hid (fun k hk h => by
    unfold holdsR
    rw [← hnt, all_false hk h]
    rfl)
  have HRS : Hid (∀ p, p < ns → inR (S.getD p (0, 0)).1 (S.getD p (0, 0)).2 (gainF T M [(p : Int)] T.length) = false → holdsR S T M = false) := hid (fun k hk h => by
    unfold holdsR
    rw [← hns, all_false (p := fun p => inR (S.getD p (0, 0)).1 (S.getD p (0, 0)).2 (gainF T M [(p : Int)] T.length)) hk h, Bool.and_false])
  have HRT : Hid ((∀ k, k < nt → tkIn T M k = true) → (∀ p, p < ns → inR (S.getD p (0, 0)).1 (S.getD p (0, 0)).2 (gainF T M [(p : Int)] T.length) = true) → holdsR S T M = true) := hid (fun h1 h2 => by
    unfold holdsR
    rw [← hnt, ← hns, all_true h1, Bool.true_and]
    exact all_true fun p hp => by have h := h2 p hp; rw [← hnt] at h; exact h)
  obtain ⟨res, hres⟩ : ∃ res, res = holdsR S T M := ⟨_, rfl⟩
  rw [← hres] at HRF HRS HRT ⊢
  rw [← hns, ← hnt, hlen, ← hnt]
  rw [← hns] at h32
  rw [← hnt] at h128
  clear hb hm hw0 hb0 hB0 hns hnt hlen hM hres
  go_enter Try.func27, Try.ntmps27
  go_wp2_with (rw [← HW0.out])
  go_loopw [5] (fun u wr => ∃ k : Nat, k ≤ nt ∧ u = .int .i64 k ∧ Hid (∀ j, j < k → tkIn T M j = true) ∧ Hid (Below w0.heap.size w0 wr)) (fun u _ => nt - (intOf u).toNat)
  case atStart => exact ⟨0, Nat.zero_le _, rfl, hid (fun j hj => absurd hj (Nat.not_lt_zero _)), hid (Below.refl _ _)⟩
  case round =>
    clear b0 b1
    obtain ⟨k, hk, rfl, HZ, HBR⟩ := hrel
    have b0 := (HBL.out.later HBR.out HBL.out.lt).cell (i := 0) rfl
    have b1 := (HBL.out.later HBR.out HBL.out.lt).cell (i := 1) rfl
    by_cases hlt : k < nt
    · obtain ⟨t, ht⟩ : ∃ t, T[k]? = some t := ⟨_, List.getElem?_eq_getElem (by rw [← HNT.out]; exact hlt)⟩
      obtain ⟨x, hx⟩ : ∃ x, M[k]? = some x := ⟨_, List.getElem?_eq_getElem (by rw [HLEN.out, ← HNT.out]; exact hlt)⟩
      obtain ⟨g, o, c', hv, _, _, _, t3, t4⟩ := (HBK.out.later HBR.out).tickets.tkAt ht
      injection hv with e1 e2 e3
      subst e1
      obtain ⟨g3, o3, c3', hv3, m0, _⟩ := int_at (HM.out.later HBR.out) hx
      injection hv3 with e4 e5 e6
      subst e4
      have hti : tkIn T M k = inR t.low t.high x := by
        unfold tkIn
        rw [List.getD_eq_getElem?_getD, ht, List.getD_eq_getElem?_getD, hx]
        rfl
      have HBD : Hid (∀ q, Below w0.heap.size w0 (wr.drewN q)) := hid (fun q => ⟨HBR.out.os, HBR.out.tape, HBR.out.output, HBR.out.size, HBR.out.block⟩)
      have hkT : k < T.length := by have := HNT.out; omega
      have hkM : k < M.length := by have := HNT.out; have := HLEN.out; omega
      by_cases h1 : x < t.low
      · have hr := HRF.out k hlt (by rw [hti]; unfold inR; simp; omega)
        subst hr
        clear ht hx e2 e3 e5 e6 hti
        go_wp2_with fail
        go_quiet (fail)
        go_wp2_with fail
        go_ret
        exact ⟨rfl, HB.out.trans ((HBD.out _).mono HB.out.size)⟩
      · by_cases h2 : t.high < x
        · have hr := HRF.out k hlt (by rw [hti]; unfold inR; simp; omega)
          subst hr
          clear ht hx e2 e3 e5 e6 hti
          go_wp2_with fail
          go_quiet (fail)
          go_wp2_with fail
          go_ret
          exact ⟨rfl, HB.out.trans ((HBD.out _).mono HB.out.size)⟩
        · have HZ2 : Hid (∀ j, j < k + 1 → tkIn T M j = true) := hid (fun j hj => by
            by_cases e : j = k
            · subst e; rw [hti]; unfold inR; simp; omega
            · exact HZ.out j (by omega))
          clear ht hx e2 e3 e5 e6 hti
          go_wp2_with fail
          go_quiet (fail)
          go_wp2_with fail
          go_roundw
          case rel => exact ⟨k + 1, by omega, by go_num, HZ2, hid (HBD.out _)⟩
          case measure => simp [intOf]; omega
    · have hkn : k = nt := by omega
      subst hkn
      have HBKr := hid (HBK.out.later HBR.out)
      have HMr := hid (HM.out.later HBR.out)
      have HBLr := hid (HBL.out.later HBR.out HBL.out.lt)
      have HBW := hid (HB.out.trans (HBR.out.mono HB.out.size))
      clear HBK HM HBL HB HBR
      obtain ⟨wa, hwa⟩ : ∃ wa, wa = wr := ⟨_, rfl⟩
      go_wp2_with fail
      rw [← hwa] at HBW HBKr HBLr HMr b0 b1
      rw [← hwa]
      clear hwa
      go_loopw [6] (fun u wr => ∃ j : Nat, j ≤ ns ∧ u = .int .i64 j ∧ Hid (∀ p, p < j → inR (S.getD p (0, 0)).1 (S.getD p (0, 0)).2 (gainF T M [(p : Int)] T.length) = true) ∧ Hid (Below wa.heap.size wa wr)) (fun u _ => ns - (intOf u).toNat)
      case atStart => exact ⟨0, Nat.zero_le _, rfl, hid (fun j hj => absurd hj (Nat.not_lt_zero _)), hid (Below.refl _ _)⟩
      case round =>
        clear b0 b1
        obtain ⟨j, hj, rfl, HZS, HBR⟩ := hrel
        have b0 := (HBLr.out.later HBR.out HBLr.out.lt).cell (i := 0) rfl
        have b1 := (HBLr.out.later HBR.out HBLr.out.lt).cell (i := 1) rfl
        by_cases hjs : j < ns
        · obtain ⟨r, hr⟩ : ∃ r, S[j]? = some r := ⟨_, List.getElem?_eq_getElem (by rw [← HNS.out]; exact hjs)⟩
          obtain ⟨w5, hw5⟩ : ∃ w5, w5 = wr.alloc (.cells #[.int .i64 j] 3) := ⟨_, rfl⟩
          have hb5 : Below wr.heap.size wr w5 := by rw [hw5]; exact below_new wr _
          have hbr5 : Below wa.heap.size wa w5 := HBR.out.trans (hb5.mono HBR.out.size)
          have HG := hid (HGA.out [(j : Int)] (.slice (some ⟨wr.heap.size, 0, none⟩) 1 1) w5 (HBKr.out.later hbr5) (HMr.out.later hbr5) (by rw [hw5]; exact slc_new wr [.int .i64 j] 3 1 (by decide)))
          have hgr : S.getD j (0, 0) = r := by rw [List.getD_eq_getElem?_getD, hr]; rfl
          obtain ⟨G, hG⟩ : ∃ G, G = gainF T M [(j : Int)] T.length := ⟨_, rfl⟩
          have HRS2 := hid (HRS.out j hjs)
          have HZ3 : Hid (inR r.1 r.2 G = true → ∀ p, p < j + 1 → inR (S.getD p (0, 0)).1 (S.getD p (0, 0)).2 (gainF T M [(p : Int)] T.length) = true) := hid (fun h p hp => by
            by_cases e : p = j
            · subst e; rw [hgr, ← hG]; exact h
            · exact HZS.out p (by omega))
          rw [hgr] at HRS2
          rw [← hG] at HG HRS2
          rw [← HNS.out, ← HNT.out, HLEN.out, ← HNT.out] at HG
          have HW5 := hid hw5
          have HB5 := hid hbr5
          have HR := hid hr
          have HBKb := hid (HBKr.out.later hbr5)
          have HBLb := hid (HBLr.out.later hbr5 HBLr.out.lt)
          clear hw5 hb5 hbr5 hgr hG hr HBR
          go_wp2_with (rw [← HW5.out])
          refine HG.out.mono ?_
          rintro e w6 ⟨rfl, hb⟩
          have HB6 := hid (HB5.out.trans (hb.mono HB5.out.size))
          have d0 := (HBLb.out.later hb HBLb.out.lt).cell (i := 0) rfl
          have hw6 := (HBKb.out.later hb).stock
          obtain ⟨g, o, c', hv, r0, r1⟩ := hw6.rgAt HR.out
          injection hv with e1 e2 e3
          subst e1
          have hjS : j < S.length := by have := HNS.out; omega
          have HBD : Hid (∀ q, Below wa.heap.size wa (w6.drewN q)) := hid (fun q => ⟨HB6.out.os, HB6.out.tape, HB6.out.output, HB6.out.size, HB6.out.block⟩)
          clear hb hw6 e2 e3
          by_cases h1 : G < r.1
          · have hr2 := HRS2.out (by unfold inR; simp; omega)
            subst hr2
            go_wp2_with fail
            go_ret
            exact ⟨rfl, HBW.out.trans (HB6.out.mono HBW.out.size)⟩
          · by_cases h2 : r.2 < G
            · have hr2 := HRS2.out (by unfold inR; simp; omega)
              subst hr2
              go_wp2_with fail
              go_ret
              exact ⟨rfl, HBW.out.trans (HB6.out.mono HBW.out.size)⟩
            · have HZ4 := hid (HZ3.out (by unfold inR; simp; omega))
              go_wp2_with fail
              go_roundw
              case rel => exact ⟨j + 1, by omega, by go_num, HZ4, HB6⟩
              case measure => simp [intOf]; omega
        · have hjn : j = ns := by omega
          subst hjn
          have hr2 := HRT.out HZ.out HZS.out
          subst hr2
          have HBF := hid (HBW.out.trans (HBR.out.mono HBW.out.size))
          go_wp2_with fail
          go_ret
          exact ⟨rfl, HBF.out⟩
end Go.Proofs.Ytncnpodanlhdkaa
