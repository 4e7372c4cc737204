/-
  Agree: the masses that several weighings have in common.
-/
import Derived.Test.YtlkefifffkhclaaWRef3
namespace Go.Proofs.Ytlkefifffkhclaa
set_option linter.all false
open Go.RowKit

theorem agree_ways (l : List (Int × Int)) : (massesErr l ≠ 0 ∧ agreeErr l = massesErr l ∧ agreeRg l = (0, 0)) ∨ (massesErr l = 0 ∧ (agrR l l.length).2 < (agrR l l.length).1 ∧ agreeErr l = 15 ∧ agreeRg l = (0, 0)) ∨ (massesErr l = 0 ∧ ¬ (agrR l l.length).2 < (agrR l l.length).1 ∧ agreeErr l = 0 ∧ agreeRg l = agrR l l.length) := by
  by_cases h : massesErr l = 0
  · by_cases h2 : (agrR l l.length).2 < (agrR l l.length).1
    · right; left
      have e : agreeErr l = 15 := by unfold agreeErr; simp [h, h2]
      exact ⟨h, h2, e, by unfold agreeRg; simp [e]⟩
    · right; right
      have e : agreeErr l = 0 := by unfold agreeErr; simp [h]; omega
      exact ⟨h, h2, e, by unfold agreeRg; simp [e]⟩
  · left
    have e : agreeErr l = massesErr l := by unfold agreeErr; simp [h]
    exact ⟨h, e, by unfold agreeRg; simp [e, h]⟩
set_option maxRecDepth 100000 in
set_option maxHeartbeats 8000000 in
theorem agree_any (l : List (Int × Int)) (v : Value) (W : World) (hl : SlcIn W v l.length (l.flatMap rgC)) : Calls Try.prog 10 #[v] W (Ret (.tuple #[.agg #[.int .i64 (agreeRg l).1, .int .i64 (agreeRg l).2], .int .i64 (agreeErr l)]) W) := by
  obtain ⟨w1, hw1⟩ : ∃ w1, w1 = W.alloc (.cells #[.int .i64 0, .int .i64 0] 23) := ⟨_, rfl⟩
  have hb1 : Below W.heap.size W w1 := by rw [hw1]; exact below_new W _
  have hR : Blk w1 W.heap.size #[.int .i64 0, .int .i64 0] 23 := by rw [hw1]; exact Blk.new W _ _
  have HC := hid (massesW_any l v w1 (hl.later hb1))
  have HMO := hid (fun h => masses_ok (l := l) h)
  have hww := agree_ways l
  obtain ⟨p, c, rfl, _⟩ := hl.shape
  obtain ⟨n, hn⟩ : ∃ n, n = l.length := ⟨_, rfl⟩
  rw [← hn] at hl HC hww
  rw [← hn]
  obtain ⟨m, hmm⟩ : ∃ m, m = massesErr l := ⟨_, rfl⟩
  rw [← hmm] at HC HMO hww
  have HL := hid (hl.later hb1)
  have HN := hid hn
  have HB1 := hid hb1
  have HR := hid hR
  have HW1 := hid hw1
  have HGE : Hid (W.heap.size < w1.heap.size) := hid hR.lt
  clear hl hn hw1 hb1 hR hmm
  have fin : ∀ (a b e : Int) (w5 : World), Blk w5 W.heap.size #[.int .i64 0, .int .i64 0] 23 → Below W.heap.size W w5 → Blk ((w5.setCell ⟨W.heap.size, 0, none⟩ (.int .i64 a)).setCell ⟨W.heap.size, 1, none⟩ (.int .i64 b)) W.heap.size #[.int .i64 a, .int .i64 b] 23 ∧ Below W.heap.size W ((w5.setCell ⟨W.heap.size, 0, none⟩ (.int .i64 a)).setCell ⟨W.heap.size, 1, none⟩ (.int .i64 b)) := fun a b e w5 h1 h2 => ⟨(h1.set 0 _).set 1 _, (h2.setCell (p := ⟨W.heap.size, 0, none⟩) (Nat.le_refl _) _).setCell (p := ⟨W.heap.size, 1, none⟩) (Nat.le_refl _) _⟩
  have FIN := hid fin
  clear fin
  rcases hww with ⟨h1, he, hr⟩ | ⟨h1, h2, he, hr⟩ | ⟨h1, h2, he, hr⟩
  · rw [he, hr]
    have hz : (m == 0) = false := by simpa using h1
    have hz2 : (m != 0) = true := by simpa using h1
    clear he hr h1
    go_enter Try.func10, Try.ntmps10
    go_wp2_with (first | (rw [← HW1.out]) | (go_at_call 38; (with_reducible refine (HC.out).mono ?_); rintro e w2 ⟨rfl, hb⟩; have HR2 := hid (HR.out.later hb HR.out.lt); have HB2 := hid (HB1.out.trans (hb.mono HB1.out.size)); have t0 := HR2.out.cell (i := 0) rfl; have t1 := HR2.out.cell (i := 1) rfl; have f0 := HR2.out.froz 0; have f1 := HR2.out.froz 1; clear hb))
    have HF := hid (FIN.out 0 0 m w2 HR2.out HB2.out)
    refine bodyPost_ret (v := .tuple #[.agg #[.int .i64 0, .int .i64 0], .int .i64 m]) ?_ rfl ⟨rfl, HF.out.2⟩
    have r1 := run_rg _ HF.out.1
    simp [results, Try.results10, asAddr, Act.put, r1]
  all_goals
    subst h1
    obtain ⟨h0, h256, hb⟩ := HMO.out rfl
    have HBD := hid hb
    rw [he, hr]
    have HFAR := hid h2
    rw [← HN.out] at h0 h256
    have h0' : 0 < n := by omega
    obtain ⟨ra, hra⟩ : ∃ r, l[0]? = some r := ⟨_, List.getElem?_eq_getElem (by rw [← HN.out]; exact h0')⟩
    have HGA : Hid (agrR l 0 = ra) := hid (by unfold agrR; rw [List.getD_eq_getElem?_getD, hra]; rfl)
    have hlw := HL.out
    rw [HN.out] at hlw
    obtain ⟨g, o, c', hv, r0, r1⟩ := hlw.rgAt hra
    injection hv with e1 e2 e3
    subst e1
    rw [Nat.zero_mul, Nat.add_zero] at r0 r1
    have HRA : Hid (w1.cell? ⟨g, o, none⟩ = some (.int .i64 ra.1) ∧ w1.cell? ⟨g, o + 1, none⟩ = some (.int .i64 ra.2)) := hid ⟨r0, r1⟩
    clear he hr h2 hb hra hlw e2 e3 r0 r1
    go_enter Try.func10, Try.ntmps10
    go_wp2_with (first | (rw [← HW1.out]) | (go_at_call 38; (with_reducible refine (HC.out).mono ?_); rintro e w2 ⟨rfl, hb⟩; have HR2 := hid (HR.out.later hb HR.out.lt); have HB2 := hid (HB1.out.trans (hb.mono HB1.out.size)); have HL2 := hid (HL.out.later hb); have HG2 : Hid (W.heap.size < w2.heap.size) := hid (Nat.lt_of_lt_of_le HGE.out hb.size); have y0 : w2.cell? ⟨g, o, none⟩ = some (.int .i64 ra.1) := (hb.cell (p := ⟨g, o, none⟩) (World.block_lt_of_cell? w1 _ HRA.out.1)).trans HRA.out.1; have y1 : w2.cell? ⟨g, o + 1, none⟩ = some (.int .i64 ra.2) := (hb.cell (p := ⟨g, o + 1, none⟩) (World.block_lt_of_cell? w1 _ HRA.out.2)).trans HRA.out.2; clear hb))
    have HST : Hid (SumAt w2 w2.heap.size (agrR l 0) (w2.alloc (.cells #[.int .i64 ra.1, .int .i64 ra.2] 23))) := hid (by rw [HGA.out]; exact ⟨Blk.new w2 _ _, below_new w2 _⟩)
    go_loopw [19] (fun u wr => ∃ k : Nat, k ≤ n ∧ u = .int .i64 k ∧ Hid (SumAt w2 w2.heap.size (agrR l k) wr)) (fun u _ => n - (intOf u).toNat)
    case atStart => exact ⟨0, Nat.zero_le _, rfl, HST⟩
    clear HST y0 y1
    obtain ⟨k, hk, rfl, HA⟩ := hrel
    obtain ⟨x, hx⟩ : ∃ x, x = agrR l k := ⟨_, rfl⟩
    by_cases hlt : k < n
    · obtain ⟨r, hr⟩ : ∃ r, l[k]? = some r := ⟨_, List.getElem?_eq_getElem (by rw [← HN.out]; exact hlt)⟩
      have hw := HL2.out.later HA.out.old
      rw [HN.out] at hw
      obtain ⟨g9, o9, c', hv, r0, r1⟩ := hw.rgAt hr
      injection hv with e1 e2 e3
      injection e1 with e1
      injection e1 with e1 e4 e5
      subst e1
      subst e4
      have hgr : l.getD k (0, 0) = r := by rw [List.getD_eq_getElem?_getD, hr]; rfl
      have HNX : Hid (agrR l (k + 1) = (max x.1 r.1, min x.2 r.2)) := hid (by
        conv => lhs; unfold agrR
        rw [hgr, ← hx])
      rw [← hx] at HA
      obtain ⟨w3, hw3⟩ : ∃ w3, w3 = wr.alloc (.cells #[.int .i64 r.1, .int .i64 r.2] 23) := ⟨_, rfl⟩
      have HA3 := hid (HA.out.later (show Below wr.heap.size wr w3 by rw [hw3]; exact below_new wr _))
      have hB3 : Blk w3 wr.heap.size #[.int .i64 r.1, .int .i64 r.2] 23 := by rw [hw3]; exact Blk.new wr _ _
      have s0 := HA3.out.blk.cell (i := 0) rfl
      have s1 := HA3.out.blk.cell (i := 1) rfl
      have f0 := HA3.out.blk.froz 0
      have f1 := HA3.out.blk.froz 1
      have q0 := hB3.cell (i := 0) rfl
      have q1 := hB3.cell (i := 1) rfl
      have HW3 := hid hw3
      clear hw e2 e3 e5 hr hgr hx hw3 hB3
      go_wp2_with (rw [← HW3.out])
      have HEND : Hid (SumAt w2 w2.heap.size (agrR l (k + 1)) ((w3.setCell ⟨w2.heap.size, 0, none⟩ (.int .i64 (max x.1 r.1))).setCell ⟨w2.heap.size, 1, none⟩ (.int .i64 (min x.2 r.2)))) := hid (by rw [HNX.out]; exact HA3.out.put (max x.1 r.1, min x.2 r.2))
      go_roundw
      case rel => exact ⟨k + 1, by omega, by go_num, HEND⟩
      case measure => simp [intOf]; omega
    have hkn : k = n := by omega
    subst hkn
    have HX := hid hx
    rw [← hx] at HA HFAR
    have s0 := HA.out.blk.cell (i := 0) rfl
    have s1 := HA.out.blk.cell (i := 1) rfl
    have HR3 := hid (HR2.out.later HA.out.old HG2.out)
    have HB3 := hid (HB2.out.trans (HA.out.old.mono HB2.out.size))
    have t0 := HR3.out.cell (i := 0) rfl
    have t1 := HR3.out.cell (i := 1) rfl
    have f0 := HR3.out.froz 0
    have f1 := HR3.out.froz 1
    have hfar := HFAR.out
    clear hx
  · go_wp2_with fail
    have HF := hid (FIN.out 0 0 15 wr HR3.out HB3.out)
    refine bodyPost_ret (v := .tuple #[.agg #[.int .i64 0, .int .i64 0], .int .i64 15]) ?_ rfl ⟨rfl, HF.out.2⟩
    have r1 := run_rg _ HF.out.1
    simp [results, Try.results10, asAddr, Act.put, r1]
  · go_wp2_with fail
    have HF := hid (FIN.out x.1 x.2 0 wr HR3.out HB3.out)
    refine bodyPost_ret (v := .tuple #[.agg #[.int .i64 x.1, .int .i64 x.2], .int .i64 0]) ?_ rfl ⟨by rw [HX.out], HF.out.2⟩
    have r1 := run_rg _ HF.out.1
    simp [results, Try.results10, asAddr, Act.put, r1]
end Go.Proofs.Ytlkefifffkhclaa
