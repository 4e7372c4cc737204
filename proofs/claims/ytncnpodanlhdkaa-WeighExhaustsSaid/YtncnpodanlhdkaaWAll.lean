/-
  all: every mass of a small book, and those that hold.
-/
import Derived.Test.YtncnpodanlhdkaaWAllM
import Derived.Test.YtncnpodanlhdkaaWRefHold
namespace Go.Proofs.Ytncnpodanlhdkaa
set_option linter.all false
open Go.RowKit

theorem row_made1 {base : Nat} (w : World) (x : Value) (e : TypeId) (hb : base ≤ w.heap.size) : (w.alloc (.cells #[x] e)).ownsRow base e 1 (.slice (some ⟨w.heap.size, 0, none⟩) 1 1) 1 [x] :=
  ⟨by simp, .inr ⟨w.heap.size, 1, #[x], rfl, hb, heap_alloc_new w _, by omega, by unfold maxLen; omega, by simp, by simp⟩⟩
theorem cells_new0 (w : World) (x : Value) (t : TypeId) : ∀ (j : Nat) (u : Value), [x][j]? = some u → (w.alloc (.cells #[x] t)).cell? ((⟨w.heap.size, 0, none⟩ : Addr).add j) = some u := fun j u hj => by
  rw [Addr.add_lit, Nat.zero_add]
  exact (Blk.new w #[x] t).cell (by simpa using hj)
theorem pts_first {base : Nat} (w : World) (hb : base ≤ w.heap.size) : PtsIn base (w.alloc (.cells #[.slice none 0 0] 36)) (.slice (some ⟨w.heap.size, 0, none⟩) 1 1) [[]] :=
  ⟨_, row_made1 w _ _ hb, fun i A hA => by
    cases i with
    | zero => simp at hA; subst hA; exact ⟨_, rfl, nil_slc0 _ [], fun h => absurd rfl h⟩
    | succ i => simp at hA⟩
theorem elem_more {wr w5 : World} {v x : Value} {A : List Int} {m : Int} (hv : ∀ k, v.ownBlock = some k → k < wr.heap.size) (ho : w5.ownsRow wr.heap.size 3 1 x (A.length + 1) (A.map (Value.int .i64) ++ [.int .i64 m])) : Elem w5 v.ownBlock x (A ++ [m]) :=
  elem_new (n := A.length + 1) hv (by simp) (by rw [List.map_append]; exact ho)
def AllPost (W : World) (PP : List (List Int)) (e : Ending) (W' : World) : Prop := ∃ v, e = .returned v ∧ PtsIn W.heap.size W' v PP ∧ Below W.heap.size W W'

set_option maxRecDepth 100000 in
set_option maxHeartbeats 16000000 in
theorem all_any (S : List (Int × Int)) (T : List Tk) (v1 v2 : Value) (W : World) (hb : BookIn W v1 v2 S T) (hx : bookErr S T = 0) (h4 : T.length ≤ 4) (hw5 : ∀ (i : Nat) (t : Tk), T[i]? = some t → wideN t ≤ 5) :
    Calls Try.prog 37 #[.agg #[v1, v2]] W (AllPost W (ptsL S T (allL T T.length).length)) := by
  obtain ⟨p1, c1, rfl, hm1⟩ := hb.stock.shape
  obtain ⟨p2, c2, rfl, hm2⟩ := hb.tickets.shape
  obtain ⟨ns, hns⟩ : ∃ n, n = S.length := ⟨_, rfl⟩
  obtain ⟨nt, hnt⟩ : ∃ n, n = T.length := ⟨_, rfl⟩
  obtain ⟨w0, hw0⟩ : ∃ w0, w0 = W.alloc (.cells #[.slice p1 ns c1, .slice p2 nt c2] 25) := ⟨_, rfl⟩
  have hb0 : Below W.heap.size W w0 := by rw [hw0]; exact below_new W _
  have hB0 : Blk w0 W.heap.size #[.slice p1 ns c1, .slice p2 nt c2] 25 := by rw [hw0]; exact Blk.new W _ _
  obtain ⟨w1, hw1⟩ : ∃ w1, w1 = w0.alloc (.cells #[.slice none 0 0] 36) := ⟨_, rfl⟩
  have hb1 : Below w0.heap.size w0 w1 := by rw [hw1]; exact below_new w0 _
  have HP1 : Hid (PtsIn W.heap.size w1 (.slice (some ⟨w0.heap.size, 0, none⟩) 1 1) (allL T 0)) := hid (by rw [hw1]; exact pts_first w0 hb0.size)
  have HBK := hid ((hb.later hb0).later hb1)
  have HB := hid (hb0.trans (hb1.mono hb0.size))
  have HBL := hid (hB0.later hb1 hB0.lt)
  have HW0 := hid hw0
  have HW1 := hid hw1
  have HNS := hid hns
  have HNT := hid hnt
  have HX := hid hx
  have HTK : Hid (∀ (k : Nat) (t : Tk), T[k]? = some t → 0 ≤ t.low ∧ t.low ≤ t.high ∧ t.high ≤ 999999999) := hid ((book_good hx).mass.mass)
  have HSM : Hid (∀ k, k ≤ nt → (allL T k).length ≤ 625) := hid (fun k hk => allL_small T hw5 h4 (by rw [← hnt]; exact hk))
  have HWD := hid hw5
  have HHO : Hid (∀ M v w, M ∈ allL T T.length → BookIn w (.slice p1 ns c1) (.slice p2 nt c2) S T → SlcIn w v M.length (M.map (Value.int .i64)) → Calls Try.prog 27 #[.agg #[.slice p1 ns c1, .slice p2 nt c2], v] w (Ret (.bool (holdsR S T M)) w)) := hid (fun M v w hM h h2 => by
    obtain ⟨hl, hall⟩ := (allL_mem T T.length M).1 hM
    refine refHolds_any S T M _ _ v w h h2 hl (by omega) (book_good hx).tks.places (fun i x hi => ?_)
    have hi9 := (List.getElem?_eq_some_iff.1 hi).1
    have h9 := hall i (by omega)
    have h10 := (book_good hx).mass.mass i _ (List.getElem?_eq_getElem (by omega))
    rw [List.getD_eq_getElem?_getD, List.getD_eq_getElem?_getD, hi, List.getElem?_eq_getElem (by omega)] at h9
    dsimp only [Option.getD_some] at h9
    omega)
  rw [← hns, ← hnt] at HBK
  rw [← hns, ← hnt]
  have hnt4 : nt ≤ 4 := by rw [hnt]; exact h4
  obtain ⟨i1, k0, k1, k2, k3⟩ := info_parts info_int9
  have HI1 : Hid (Try.prog.info? 3 = some i1 ∧ i1.zero = some (.int .i64 0) ∧ i1.size = 1 ∧ i1.bytes = 8) := hid ⟨k0, k1, k2, k3⟩
  obtain ⟨i2, l0, l1, l2, l3⟩ := info_parts info_row
  have HI2 : Hid (Try.prog.info? 36 = some i2 ∧ i2.zero = some (.slice none 0 0) ∧ i2.size = 1 ∧ i2.bytes = 24) := hid ⟨l0, l1, l2, l3⟩
  clear hb hw0 hb0 hB0 hw1 hb1 hns hnt hm1 hm2 hx h4 hw5 k0 k1 k2 k3 l0 l1 l2 l3
  go_enter Try.func37, Try.ntmps37
  go_wp2_with (first | (rw [← HW0.out]) | (rw [← HW1.out]))
  go_loopw [3, 4] (fun v u wr => ∃ k : Nat, k ≤ nt ∧ u = .int .i64 k ∧ Hid (PtsIn W.heap.size wr v (allL T k)) ∧ Hid (Below w1.heap.size w1 wr)) (fun _ u _ => nt - (intOf u).toNat)
  case atStart => exact ⟨0, Nat.zero_le _, rfl, HP1, hid (Below.refl _ _)⟩
  case round =>
    obtain ⟨k, hk, rfl, HP, HBR⟩ := hrel
    obtain ⟨LL, hLL⟩ : ∃ LL, LL = allL T k := ⟨_, rfl⟩
    obtain ⟨nl, hnl⟩ : ∃ n, n = LL.length := ⟨_, rfl⟩
    have hnl6 : nl ≤ 625 := by rw [hnl, hLL]; exact HSM.out k hk
    rw [← hLL] at HP
    obtain ⟨p3, c3, hv3⟩ := HP.out.shape
    rw [← hnl] at hv3
    subst hv3
    have HLL := hid hLL
    have HNL := hid hnl
    clear hLL hnl
    have HBLr := hid (HBL.out.later HBR.out HBL.out.lt)
    have HBKr := hid (HBK.out.later HBR.out)
    have HBr := hid (HB.out.trans (HBR.out.mono HB.out.size))
    have b0 := HBLr.out.cell (i := 0) rfl
    have b1 := HBLr.out.cell (i := 1) rfl
    by_cases hlt : k < nt
    · obtain ⟨t, ht⟩ : ∃ t, T[k]? = some t := ⟨_, List.getElem?_eq_getElem (by rw [← HNT.out]; exact hlt)⟩
      obtain ⟨m1, m2, m3⟩ := HTK.out k t ht
      have hwd := HWD.out k t ht
      obtain ⟨lo, hlo⟩ : ∃ x, x = t.low := ⟨_, rfl⟩
      obtain ⟨hiM, hhi⟩ : ∃ x, x = t.high := ⟨_, rfl⟩
      rw [← hlo] at m1 m2
      rw [← hhi] at m2 m3
      obtain ⟨g, o, c, hv, _, _, _, y3, y4⟩ := (show SlcIn wr (.slice p2 T.length c2) T.length (T.flatMap tkC) by have h := HBKr.out.tickets; rw [HNT.out] at h; exact h).tkAt ht
      injection hv with e1 e2 e3
      subst e1
      rw [← hlo] at y3
      rw [← hhi] at y4
      have hgl := World.block_lt_of_cell? wr _ y3
      have HY : Hid (∀ w, Below wr.heap.size wr w → w.cell? ⟨g, o + k * 5 + 3, none⟩ = some (.int .i64 lo) ∧ w.cell? ⟨g, o + k * 5 + 4, none⟩ = some (.int .i64 hiM)) := hid (fun w hb => ⟨(hb.cell (p := ⟨g, o + k * 5 + 3, none⟩) hgl).trans y3, (hb.cell (p := ⟨g, o + k * 5 + 4, none⟩) hgl).trans y4⟩)
      have HLO := hid hlo
      have HHI := hid hhi
      clear e2 e3 y3 y4 hgl
      have hnx : allL T (k + 1) = stepL t LL nl := by
        rw [HLL.out] at *
        show stepL (T.getD k noTk) _ _ = _
        rw [List.getD_eq_getElem?_getD, ht, HNL.out]; rfl
      have HNX := hid hnx
      have HT := hid ht
      have HWDk := hid hwd
      clear ht hwd hnx hlo hhi
      obtain ⟨wo, rfl⟩ : ∃ wo : World, wo = wr := ⟨_, rfl⟩
      go_wp2_with fail
      clear b0 b1
      go_loopw [5, 6] (fun v u wr => ∃ i : Nat, i ≤ nl ∧ u = .int .i64 i ∧ Hid (PtsIn wo.heap.size wr v (stepL t LL i)) ∧ Hid (Below wo.heap.size wo wr)) (fun _ u _ => nl - (intOf u).toNat)
      case atStart => exact ⟨0, Nat.zero_le _, rfl, hid (PtsIn.nil _ _), hid (Below.refl _ _)⟩
      case round =>
        obtain ⟨i, hi, rfl, HQ, HBS⟩ := hrel
        by_cases hil : i < nl
        · obtain ⟨A, hA⟩ : ∃ A, LL[i]? = some A := ⟨_, List.getElem?_eq_getElem (by rw [← HNL.out]; exact hil)⟩
          have HA := hid hA
          obtain ⟨na, hna⟩ : ∃ n, n = A.length := ⟨_, rfl⟩
          have HNA := hid hna
          have hna4 : na ≤ 4 := by
            rw [hna, ((allL_mem T k A).1 (by rw [← HLL.out]; exact List.mem_of_getElem? hA)).1]
            omega
          clear hA hna
          obtain ⟨wi, rfl⟩ : ∃ wi : World, wi = wr := ⟨_, rfl⟩
          have HBLi := hid (HBLr.out.later HBS.out HBLr.out.lt)
          have HBKi := hid (HBKr.out.later HBS.out)
          have b1 := HBLi.out.cell (i := 1) rfl
          obtain ⟨y3, y4⟩ := HY.out _ HBS.out
          go_wp2_with fail
          clear b1 y3 y4
          go_loopw [5, 7] (fun v u wr => ∃ (q : Nat) (m : Int), q ≤ wideN t ∧ Hid (m = lo + (q : Int)) ∧ u = .int .i64 m ∧ Hid (PtsIn wo.heap.size wr v (stepL t LL i ++ grow t A q)) ∧ Hid (Below wo.heap.size wo wr)) (fun _ u _ => (hiM + 1 - intOf u).toNat)
          case atStart => exact ⟨0, lo, Nat.zero_le _, hid (by simp), rfl, hid (by rw [show grow t A 0 = [] from rfl, List.append_nil]; exact HQ.out), HBS⟩
          case round =>
            obtain ⟨q, m, hq, HM, rfl, HR, HBT⟩ := hrel
            have hmb : lo ≤ m ∧ m ≤ 1000000010 := by have h1 := HM.out; have h2 := HWDk.out; omega
            have HBLt := hid (HBLr.out.later HBT.out HBLr.out.lt)
            have HBKt := hid (HBKr.out.later HBT.out)
            have b1 := HBLt.out.cell (i := 1) rfl
            obtain ⟨y3, y4⟩ := HY.out _ HBT.out
            by_cases hmh : m ≤ hiM
            · obtain ⟨g3, cc, p, cx, hv, ya, he⟩ := (HP.out.later HBT.out).at HA.out
              injection hv with e1 e2 e3
              subst e1
              clear e2 e3
              rw [← HNA.out] at ya he
              have hg3 := World.block_lt_of_cell? wr _ ya
              have HOW : Hid ((wr.alloc (.cells #[] 3)).ownsRow wr.heap.size 3 1 (.slice (some ⟨wr.heap.size, 0, none⟩) 0 0) 0 []) := hid (World.ownsRow_made wr #[] 0 (Nat.le_refl _) (Nat.zero_le _) rfl)
              have HSL : Hid (SlcIn (wr.alloc (.cells #[] 3)) (.slice p na cx) A.length (A.map (Value.int .i64))) := hid (he.1.later (below_new wr _))
              have yb : (wr.alloc (.cells #[] 3)).cell? ⟨g3, i, none⟩ = some (.slice p na cx) := ((below_new wr _).cell (p := ⟨g3, i, none⟩) hg3).trans ya
              obtain ⟨vs, hv1, hv2⟩ := HR.out
              obtain ⟨nP, hnP⟩ : ∃ n, n = (stepL t LL i ++ grow t A q).length := ⟨_, rfl⟩
              have hnP4 : nP ≤ 4000 := by
                have h1 := stepL_len t LL i HWDk.out (by have := HNL.out; omega)
                have h2 := HWDk.out
                rw [hnP, List.length_append, grow_len]
                omega
              have HVL : Hid (vs.length = (stepL t LL i ++ grow t A q).length) := hid (by have := hv1.1; rw [Nat.mul_one] at this; exact this)
              have HV5 : Hid (∀ j, u5.ownBlock = some j → j < wr.heap.size) := hid (fun j hj => (hv1.lt j hj).2)
              rw [← hnP] at hv1
              have HV1 := hid hv1
              have HV2 := hid hv2
              have HNP := hid hnP
              have hna9 : A.length ≤ 1000 := by rw [← HNA.out]; omega
              clear hv1 hv2 hnP he
              go_wp2_with (first
                | (rw [← HW3.out])
                | (rw [← HW5.out])
                | (at_builtin
                   refine wpList_ints (base := wr.heap.size) (g0 := wr.heap.size) (A := A) (vx := .slice p na cx) rfl _ _ (by rfl) (by rfl) HOW.out (by simp) (by rfl) HSL.out hna9 ?_
                   intro p2' c2' w2 ho2 hb2 hs2
                   have HB2 : Hid (Below wr.heap.size wr w2) := hid ((below_new wr _).trans hb2)
                   have hsz2 : wr.heap.size ≤ w2.heap.size := HB2.out.size
                   obtain ⟨w3, hw3⟩ : ∃ w3, w3 = w2.alloc (.cells #[.int .i64 m] 3) := ⟨_, rfl⟩
                   have hb3 : Below w2.heap.size w2 w3 := by rw [hw3]; exact below_new w2 _
                   have HO3 : Hid (w3.ownsRow wr.heap.size 3 1 (.slice p2' A.length c2') A.length (A.map (Value.int .i64))) := hid (ownsRow_later ho2 hb3)
                   have HC3 : Hid (∀ (j : Nat) (u : Value), [Value.int .i64 m][j]? = some u → w3.cell? ((⟨w2.heap.size, 0, none⟩ : Addr).add j) = some u) := hid (by rw [hw3]; exact cells_new0 w2 _ _)
                   have HB3 : Hid (Below wr.heap.size wr w3) := hid (HB2.out.trans (hb3.mono hsz2))
                   have HW3 := hid hw3
                   have hsz3 : wr.heap.size ≤ w3.heap.size := HB3.out.size
                   clear ho2 hb2 hs2 hw3 hb3 ya yb b1 y3 y4)
                | (at_builtin
                   refine wpList_own (base := wr.heap.size) rfl _ _ 36 3 i1 _ 1 8 (by rfl) (by kernel_rfl) HI1.out.1 HI1.out.2.1 HI1.out.2.2.1 HI1.out.2.2.2 rfl (by decide) (by rfl) HO3.out hsz3 ⟨w2.heap.size, 0, none⟩ 1 1 [.int .i64 m] (by rfl) rfl HC3.out (by simp [Value.oneCell']) (by unfold maxLen; omega) (by omega) ?_
                   intro x4 w4 ho4 hg4 hv4
                   obtain ⟨p4, c4, rfl, _, _, _⟩ := SlcIn.own ho4
                   have HB4 : Hid (Below wr.heap.size wr w4) := hid (HB3.out.trans (grown_base HO3.out hg4 hsz3))
                   have hsz4 : wr.heap.size ≤ w4.heap.size := HB4.out.size
                   obtain ⟨w5, hw5⟩ : ∃ w5, w5 = w4.alloc (.cells #[.slice p4 (A.length + 1) c4] 36) := ⟨_, rfl⟩
                   have hb5 : Below w4.heap.size w4 w5 := by rw [hw5]; exact below_new w4 _
                   have HB5 : Hid (Below wr.heap.size wr w5) := hid (HB4.out.trans (hb5.mono hsz4))
                   have HE5 : Hid (Elem w5 u5.ownBlock (.slice p4 (A.length + 1) c4) (A ++ [m])) := hid (elem_more HV5.out (ownsRow_later ho4 hb5))
                   have HC5 : Hid (∀ (j : Nat) (u : Value), [Value.slice p4 (A.length + 1) c4][j]? = some u → w5.cell? ((⟨w4.heap.size, 0, none⟩ : Addr).add j) = some u) := hid (by rw [hw5]; exact cells_new0 w4 _ _)
                   have HV15 : Hid (w5.ownsRow wo.heap.size 36 1 u5 nP vs) := hid (ownsRow_later HV1.out HB5.out)
                   have HW5 := hid hw5
                   have hszo : wo.heap.size ≤ w5.heap.size := Nat.le_trans HBT.out.size HB5.out.size
                   clear ho4 hg4 hv4 hw5 hb5)
                | (at_builtin
                   refine wpList_own (base := wo.heap.size) rfl _ _ 54 36 i2 _ 1 24 (by rfl) (by kernel_rfl) HI2.out.1 HI2.out.2.1 HI2.out.2.2.1 HI2.out.2.2.2 rfl (by decide) (by rfl) HV15.out hszo ⟨w4.heap.size, 0, none⟩ 1 1 [.slice p4 (A.length + 1) c4] (by rfl) rfl HC5.out (by intro u hu; rw [List.mem_singleton.1 hu]; rfl) (by unfold maxLen; omega) (by omega) ?_
                   intro x6 w6 ho6 hg6 hv6
                   have HEND : Hid (PtsIn wo.heap.size w6 x6 (stepL t LL i ++ grow t A (q + 1))) := hid (by
                     rw [grow_succ, ← List.append_assoc, ← HLO.out, ← HM.out]
                     exact pts_add HVL.out (elems_later HV2.out HB5.out) HE5.out (by rw [← HNP.out]; exact ho6) hg6 hv6)
                   have HBE : Hid (Below wo.heap.size wo w6) := hid ((HBT.out.trans (HB5.out.mono HBT.out.size)).trans (grown_base HV15.out hg6 hszo))
                   have HME : Hid (m + 1 = lo + ((q + 1 : Nat) : Int)) := hid (by have := HM.out; omega)
                   have hq1 : q + 1 ≤ wideN t := by have h1 := HM.out; have h2 := HLO.out; have h3 := HHI.out; unfold wideN; omega
                   clear ho6 hg6 hv6))
              go_roundw
              case rel => exact ⟨q + 1, m + 1, hq1, HME, rfl, HEND, HBE⟩
              case measure => simp [intOf]; omega
            · have hqw : q = wideN t := by have h1 := HM.out; have h2 := HLO.out; have h3 := HHI.out; unfold wideN at *; omega
              have HEND : Hid (PtsIn wo.heap.size wr u5 (stepL t LL (i + 1))) := hid (by rw [stepL_succ HA.out, ← hqw]; exact HR.out)
              clear hqw
              go_wp2_with fail
              go_roundw
              case rel => exact ⟨i + 1, by omega, by go_num, HEND, HBT⟩
              case measure => simp [intOf]; omega
        · have hin : i = nl := by omega
          subst hin
          have HEND : Hid (PtsIn W.heap.size wr u5 (allL T (k + 1))) := hid (by rw [HNX.out]; exact HQ.out.mono HBr.out.size)
          have HBE := hid (HBR.out.trans (HBS.out.mono HBR.out.size))
          go_wp2_with fail
          go_roundw
          case rel => exact ⟨k + 1, by omega, by go_num, HEND, HBE⟩
          case measure => simp [intOf]; omega
    · have hkn : nt = k := by omega
      subst hkn
      obtain ⟨wf, rfl⟩ : ∃ wf : World, wf = wr := ⟨_, rfl⟩
      have hLT : allL T T.length = LL := by rw [HLL.out, HNT.out]
      have HLT := hid hLT
      rw [hLT] at HHO
      clear hLT
      go_wp2_with fail
      clear b0 b1
      go_loopw [8, 9] (fun v u wr => ∃ i : Nat, i ≤ nl ∧ u = .int .i64 i ∧ Hid (PtsIn wf.heap.size wr v (ptsL S T i)) ∧ Hid (Below wf.heap.size wf wr)) (fun _ u _ => nl - (intOf u).toNat)
      case atStart => exact ⟨0, Nat.zero_le _, rfl, hid (PtsIn.nil _ _), hid (Below.refl _ _)⟩
      case round =>
        obtain ⟨i, hi, rfl, HQ, HBS⟩ := hrel
        have HBE := hid (HBr.out.trans (HBS.out.mono HBr.out.size))
        by_cases hil : i < nl
        · obtain ⟨A, hA⟩ : ∃ A, LL[i]? = some A := ⟨_, List.getElem?_eq_getElem (by rw [← HNL.out]; exact hil)⟩
          obtain ⟨g3, cc, p, cx, hv, ya, he⟩ := HP.out.at hA
          injection hv with e1 e2 e3
          subst e1
          clear e2 e3
          have hg3 := World.block_lt_of_cell? wf _ ya
          have HYA : Hid (∀ w, Below wf.heap.size wf w → w.cell? ⟨g3, i, none⟩ = some (.slice p A.length cx)) := hid (fun w hb => (hb.cell (p := ⟨g3, i, none⟩) hg3).trans ya)
          have HE := hid he
          have HPS := hid (ptsL_succ (S := S) (T := T) (by rw [HLT.out]; exact hA))
          have HBD : Hid (Below wf.heap.size wf wr.drew) := hid HBS.out.drew
          have HH := hid (HHO.out A (.slice p A.length cx) wr.drew (List.mem_of_getElem? hA) (HBKr.out.later HBD.out) (he.1.later HBD.out))
          have y0 := HYA.out wr HBS.out
          have HBLs := hid (HBLr.out.later HBS.out HBLr.out.lt)
          have b0 := HBLs.out.cell (i := 0) rfl
          have b1 := HBLs.out.cell (i := 1) rfl
          obtain ⟨r, hr⟩ : ∃ r, r = holdsR S T A := ⟨_, rfl⟩
          rw [← hr] at HPS HH
          clear hA ya he hr hg3
          go_wp2_with fail
          refine region_tail 5 (by kernel_rfl) (by kernel_rfl) ?_
          simp only [List.take_succ_cons, List.take_zero, List.drop_succ_cons, List.drop_zero]
          repeat still_step
          try refine wpStill_nil ?_
          go_wp2_with fail
          refine HH.out.mono ?_
          rintro e w6 ⟨rfl, hb⟩
          have HB6 : Hid (Below wf.heap.size wf w6) := hid (HBD.out.trans (hb.mono HBD.out.size))
          have HQ6 : Hid (PtsIn wf.heap.size w6 u8 (ptsL S T i)) := hid ((HQ.out.later (Below.refl _ _).drew).later hb)
          have y6 := HYA.out w6 HB6.out
          clear hb y0 b0 b1
          cases r
          · have HEND : Hid (PtsIn wf.heap.size w6 u8 (ptsL S T (i + 1))) := hid (by rw [HPS.out, if_neg (by simp), List.append_nil]; exact HQ6.out)
            go_wp2_with fail
            go_roundw
            case rel => exact ⟨i + 1, by omega, by go_num, HEND, HB6⟩
            case measure => simp [intOf]; omega
          · have hps : ptsL S T (i + 1) = ptsL S T i ++ [A] := by rw [HPS.out]; simp
            have HPT := hid hps
            clear hps HPS
            obtain ⟨vs, hv1, hv2⟩ := HQ6.out
            obtain ⟨nP, hnP⟩ : ∃ n, n = (ptsL S T i).length := ⟨_, rfl⟩
            have hnP4 : nP ≤ 4000 := by
              have h1 : (ptsL S T i).length ≤ i := by unfold ptsL; exact Nat.le_trans (List.length_filter_le _ _) (by rw [List.length_take]; omega)
              omega
            have HVL : Hid (vs.length = (ptsL S T i).length) := hid (by have := hv1.1; rw [Nat.mul_one] at this; exact this)
            obtain ⟨w7, hw7⟩ : ∃ w7, w7 = w6.alloc (.cells #[.slice p A.length cx] 36) := ⟨_, rfl⟩
            have hb7 : Below w6.heap.size w6 w7 := by rw [hw7]; exact below_new w6 _
            have HB7 : Hid (Below wf.heap.size wf w7) := hid (HB6.out.trans (hb7.mono HB6.out.size))
            have HE7 : Hid (Elem w7 u8.ownBlock (.slice p A.length cx) A) := hid (HE.out.kept (fun k hk _ => HB7.out.block k hk) (fun k hk => .inr (hv1.lt k hk).1))
            have HC7 : Hid (∀ (j : Nat) (u : Value), [Value.slice p A.length cx][j]? = some u → w7.cell? ((⟨w6.heap.size, 0, none⟩ : Addr).add j) = some u) := hid (by rw [hw7]; exact cells_new0 w6 _ _)
            have HV7 : Hid (w7.ownsRow wf.heap.size 36 1 u8 nP vs) := hid (by rw [hnP]; exact ownsRow_later hv1 hb7)
            have HV2 := hid (elems_later hv2 hb7)
            have HNP := hid hnP
            have HW7 := hid hw7
            have hsz7 : wf.heap.size ≤ w7.heap.size := HB7.out.size
            clear hv1 hv2 hnP hw7 hb7
            go_wp2_with (first
              | (rw [← HW7.out])
              | (at_builtin
                 refine wpList_own (base := wf.heap.size) rfl _ _ 54 36 i2 _ 1 24 (by rfl) (by kernel_rfl) HI2.out.1 HI2.out.2.1 HI2.out.2.2.1 HI2.out.2.2.2 rfl (by decide) (by rfl) HV7.out hsz7 ⟨w6.heap.size, 0, none⟩ 1 1 [.slice p A.length cx] (by rfl) rfl HC7.out (by intro u hu; rw [List.mem_singleton.1 hu]; rfl) (by unfold maxLen; omega) (by omega) ?_
                 intro x8 w8 ho8 hg8 hv8
                 have HEND : Hid (PtsIn wf.heap.size w8 x8 (ptsL S T (i + 1))) := hid (by
                   rw [HPT.out]
                   exact pts_add HVL.out HV2.out HE7.out (by rw [← HNP.out]; exact ho8) hg8 hv8)
                 have HB8 : Hid (Below wf.heap.size wf w8) := hid (HB7.out.trans (grown_base HV7.out hg8 hsz7))
                 clear ho8 hg8 hv8))
            go_roundw
            case rel => exact ⟨i + 1, by omega, by go_num, HEND, HB8⟩
            case measure => simp [intOf]; omega
        · have hin : i = nl := by omega
          subst hin
          go_wp2_with fail
          go_ret
          exact ⟨_, rfl, by rw [← HLL.out, ← HNL.out]; exact HQ.out.mono HBr.out.size, HBE.out⟩
end Go.Proofs.Ytncnpodanlhdkaa
