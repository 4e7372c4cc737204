/-
  Drafts and Agree: the program's and the reference's.
-/
import Derived.Test.YtlkefifffkhclaaWRef2
namespace Go.Proofs.Ytlkefifffkhclaa
set_option linter.all false
open Go.RowKit

def far2 (r : Int × Int) : Bool := far r.1 || far r.2
def draftsErr (l : List (Int × Int)) : Int := if massesErr l ≠ 0 then massesErr l else if far2 (sumR l l.length) = true then 4 else 0
def draftsRg (l : List (Int × Int)) : Int × Int := if draftsErr l ≠ 0 then (0, 0) else sumR l l.length
def agreeErr (l : List (Int × Int)) : Int := if massesErr l ≠ 0 then massesErr l else if (agrR l l.length).2 < (agrR l l.length).1 then 15 else 0
def agreeRg (l : List (Int × Int)) : Int × Int := if agreeErr l ≠ 0 then (0, 0) else agrR l l.length
structure SumAt (w2 : World) (s : Nat) (x : Int × Int) (wr : World) : Prop where
  blk : Blk wr s #[.int .i64 x.1, .int .i64 x.2] 23
  old : Below s w2 wr
theorem SumAt.later {w2 wr w3 : World} {s : Nat} {x : Int × Int} (h : SumAt w2 s x wr) (hb : Below wr.heap.size wr w3) : SumAt w2 s x w3 := ⟨h.blk.later hb h.blk.lt, h.old.trans (hb.mono (Nat.le_of_lt h.blk.lt))⟩
theorem SumAt.put {w2 wr : World} {s : Nat} {x : Int × Int} (h : SumAt w2 s x wr) (y : Int × Int) : SumAt w2 s y ((wr.setCell ⟨s, 0, none⟩ (.int .i64 y.1)).setCell ⟨s, 1, none⟩ (.int .i64 y.2)) :=
  ⟨(h.blk.set 0 _).set 1 _, (h.old.setCell (p := ⟨s, 0, none⟩) (Nat.le_refl _) _).setCell (p := ⟨s, 1, none⟩) (Nat.le_refl _) _⟩

set_option maxRecDepth 100000 in
set_option maxHeartbeats 4000000 in
theorem refDrafts_any (l : List (Int × Int)) (v : Value) (W : World) (hl : SlcIn W v l.length (l.flatMap rgC)) (hm : massesErr l = 0) : Calls Try.prog 19 #[v] W (Ret (.agg #[.int .i64 (sumR l l.length).1, .int .i64 (sumR l l.length).2]) W) := by
  obtain ⟨h0, h256, hb⟩ := masses_ok hm
  obtain ⟨p, c, rfl, _⟩ := hl.shape
  obtain ⟨n, hn⟩ : ∃ n, n = l.length := ⟨_, rfl⟩
  rw [← hn] at hl h0 h256 ⊢
  obtain ⟨w1, hw1⟩ : ∃ w1, w1 = W.alloc (.cells #[.int .i64 0, .int .i64 0] 23) := ⟨_, rfl⟩
  have hb1 : Below W.heap.size W w1 := by rw [hw1]; exact below_new W _
  have hR : Blk w1 W.heap.size #[.int .i64 0, .int .i64 0] 23 := by rw [hw1]; exact Blk.new W _ _
  have HST : Hid (SumAt w1 w1.heap.size (sumR l 0) (w1.alloc (.cells #[.int .i64 0, .int .i64 0] 23))) := hid ⟨Blk.new w1 _ _, below_new w1 _⟩
  have HL := hid (hl.later hb1)
  have HN := hid hn
  have HBD := hid hb
  have HB1 := hid hb1
  have HR := hid hR
  have HW1 := hid hw1
  clear hl hn hb hw1 hb1 hR hm
  go_enter Try.func19, Try.ntmps19
  go_wp2_with (rw [← HW1.out])
  go_loopw [4] (fun u wr => ∃ k : Nat, k ≤ n ∧ u = .int .i64 k ∧ Hid (SumAt w1 w1.heap.size (sumR l k) wr)) (fun u _ => n - (intOf u).toNat)
  case atStart => exact ⟨0, Nat.zero_le _, rfl, HST⟩
  case round =>
    clear HST
    obtain ⟨k, hk, rfl, HA⟩ := hrel
    have hbd := sum_bd HBD.out k (by rw [← HN.out]; exact hk)
    obtain ⟨x, hx⟩ : ∃ x, x = sumR l k := ⟨_, rfl⟩
    by_cases hlt : k < n
    · obtain ⟨r, hr⟩ : ∃ r, l[k]? = some r := ⟨_, List.getElem?_eq_getElem (by rw [← HN.out]; exact hlt)⟩
      have hw := HL.out.later HA.out.old
      rw [HN.out] at hw
      obtain ⟨g, o, c', hv, r0, r1⟩ := hw.rgAt hr
      injection hv with e1 e2 e3
      subst e1
      have hbr := HBD.out k r hr
      have hgr : l.getD k (0, 0) = r := by rw [List.getD_eq_getElem?_getD, hr]; rfl
      have HNX : Hid (sumR l (k + 1) = (x.1 + r.1, x.2 + r.2)) := hid (by
        conv => lhs; unfold sumR
        rw [hgr, ← hx]
        rfl)
      rw [← hx] at HA hbd
      have s0 := HA.out.blk.cell (i := 0) rfl
      have s1 := HA.out.blk.cell (i := 1) rfl
      have f0 := HA.out.blk.froz 0
      have f1 := HA.out.blk.froz 1
      have m1 : -1000000000000 ≤ x.1 := by omega
      have m2 : x.1 ≤ 1000000000000 := by omega
      have m3 : -1000000000000 ≤ x.2 := by omega
      have m4 : x.2 ≤ 1000000000000 := by omega
      obtain ⟨m5, m6, m7⟩ := hbr
      clear hw e2 e3 hr hgr hx hbd
      go_wp2_with fail
      refine region_tail 17 (by kernel_rfl) (by kernel_rfl) ?_
      simp only [List.take_succ_cons, List.take_zero, List.drop_succ_cons, List.drop_zero]
      repeat still_step
      try refine wpStill_nil ?_
      have HA2 : Hid (SumAt w1 w1.heap.size x wr.drew) := hid ⟨HA.out.blk, HA.out.old.drew⟩
      go_wp2_with fail
      have HEND : Hid (SumAt w1 w1.heap.size (sumR l (k + 1)) (((wr.drew).setCell ⟨w1.heap.size, 0, none⟩ (.int .i64 (x.1 + r.1))).setCell ⟨w1.heap.size, 1, none⟩ (.int .i64 (x.2 + r.2)))) := hid (by rw [HNX.out]; exact HA2.out.put (x.1 + r.1, x.2 + r.2))
      go_roundw
      case rel => exact ⟨k + 1, by omega, by go_num, HEND⟩
      case measure => simp [intOf]; omega
    · have hkn : k = n := by omega
      subst hkn
      have HX := hid hx
      rw [← hx] at HA
      have s0 := HA.out.blk.cell (i := 0) rfl
      have s1 := HA.out.blk.cell (i := 1) rfl
      have HR2 := hid (HR.out.later HA.out.old HR.out.lt)
      have t0 := HR2.out.cell (i := 0) rfl
      have t1 := HR2.out.cell (i := 1) rfl
      have f0 := HR2.out.froz 0
      have f1 := HR2.out.froz 1
      have HF := hid (((HB1.out.trans (HA.out.old.mono HB1.out.size)).setCell (p := ⟨W.heap.size, 0, none⟩) (Nat.le_refl _) (.int .i64 x.1)).setCell (p := ⟨W.heap.size, 1, none⟩) (Nat.le_refl _) (.int .i64 x.2))
      have HRF := hid ((HR2.out.set 0 (.int .i64 x.1)).set 1 (.int .i64 x.2))
      clear hx hbd
      go_wp2_with fail
      refine bodyPost_ret (v := .agg #[.int .i64 x.1, .int .i64 x.2]) ?_ rfl ⟨by rw [HX.out], HF.out⟩
      have r1 := run_rg _ HRF.out
      simp [results, Try.results19, asAddr, Act.put, r1]

theorem agr_first {l : List (Int × Int)} : agrR l 1 = l.getD 0 (0, 0) := by
  unfold agrR agrR
  simp
theorem leq_all (a b : Int) : decide (a ≤ b) = !decide (b < a) := by by_cases h : b < a <;> simp [h] <;> omega
set_option maxRecDepth 100000 in
set_option maxHeartbeats 4000000 in
theorem refAgree_any (l : List (Int × Int)) (v : Value) (W : World) (hl : SlcIn W v l.length (l.flatMap rgC)) (hm : massesErr l = 0) : Calls Try.prog 20 #[v] W (Ret (.tuple #[.agg #[.int .i64 (agrR l l.length).1, .int .i64 (agrR l l.length).2], .bool (decide ((agrR l l.length).1 ≤ (agrR l l.length).2))]) W) := by
  obtain ⟨h0, h256, hb⟩ := masses_ok hm
  obtain ⟨p, c, rfl, _⟩ := hl.shape
  obtain ⟨n, hn⟩ : ∃ n, n = l.length := ⟨_, rfl⟩
  rw [← hn] at hl h0 h256 ⊢
  obtain ⟨w1, hw1⟩ : ∃ w1, w1 = W.alloc (.cells #[.int .i64 0, .int .i64 0] 23) := ⟨_, rfl⟩
  have hb1 : Below W.heap.size W w1 := by rw [hw1]; exact below_new W _
  have hR : Blk w1 W.heap.size #[.int .i64 0, .int .i64 0] 23 := by rw [hw1]; exact Blk.new W _ _
  obtain ⟨ra, hra⟩ : ∃ r, l[0]? = some r := ⟨_, List.getElem?_eq_getElem (by rw [← hn]; omega)⟩
  have hga : agrR l 1 = ra := by rw [agr_first, List.getD_eq_getElem?_getD, hra]; rfl
  have HST : Hid (SumAt w1 w1.heap.size (agrR l 1) (w1.alloc (.cells #[.int .i64 ra.1, .int .i64 ra.2] 23))) := hid (by rw [hga]; exact ⟨Blk.new w1 _ _, below_new w1 _⟩)
  have hlw := hl.later hb1
  rw [hn] at hlw
  obtain ⟨g, o, c', hv, r0, r1⟩ := hlw.rgAt hra
  injection hv with e1 e2 e3
  subst e1
  rw [Nat.zero_mul, Nat.add_zero] at r0 r1
  have HL := hid (hl.later hb1)
  have HN := hid hn
  have HBD := hid hb
  have HB1 := hid hb1
  have HR := hid hR
  have HW1 := hid hw1
  have h0' : 0 < n := by omega
  clear hl hn hb hw1 hb1 hR hm e2 e3 hlw hra hga
  go_enter Try.func20, Try.ntmps20
  go_wp2_with (rw [← HW1.out])
  go_loopw [5] (fun u wr => ∃ k : Nat, 1 ≤ k ∧ k ≤ n ∧ u = .int .i64 k ∧ Hid (SumAt w1 w1.heap.size (agrR l k) wr)) (fun u _ => n - (intOf u).toNat)
  case atStart => exact ⟨1, Nat.le_refl _, by omega, rfl, HST⟩
  case round =>
    clear HST r0 r1
    obtain ⟨k, hk1, hk, rfl, HA⟩ := hrel
    obtain ⟨x, hx⟩ : ∃ x, x = agrR l k := ⟨_, rfl⟩
    by_cases hlt : k < n
    · obtain ⟨r, hr⟩ : ∃ r, l[k]? = some r := ⟨_, List.getElem?_eq_getElem (by rw [← HN.out]; exact hlt)⟩
      have hw := HL.out.later HA.out.old
      rw [HN.out] at hw
      obtain ⟨g9, o9, c', hv, r0, r1⟩ := hw.rgAt hr
      injection hv with e1 e2 e3
      injection e1 with e1
      injection e1 with e1 e4 e5
      subst e1
      subst e4
      have hgr : l.getD k (0, 0) = r := by rw [List.getD_eq_getElem?_getD, hr]; rfl
      have HNX : Hid (agrR l (k + 1) = (max x.1 r.1, min x.2 r.2)) := hid (by
        conv => lhs; unfold agrR
        rw [hgr, ← hx])
      rw [← hx] at HA
      have s0 := HA.out.blk.cell (i := 0) rfl
      have s1 := HA.out.blk.cell (i := 1) rfl
      have f0 := HA.out.blk.froz 0
      have f1 := HA.out.blk.froz 1
      clear hw e2 e3 e5 hr hgr hx
      go_wp2_with fail
      refine region_tail 17 (by kernel_rfl) (by kernel_rfl) ?_
      simp only [List.take_succ_cons, List.take_zero, List.drop_succ_cons, List.drop_zero]
      repeat still_step
      try refine wpStill_nil ?_
      have HA2 : Hid (SumAt w1 w1.heap.size x wr.drew) := hid ⟨HA.out.blk, HA.out.old.drew⟩
      go_wp2_with fail
      have HEND : Hid (SumAt w1 w1.heap.size (agrR l (k + 1)) (((wr.drew).setCell ⟨w1.heap.size, 0, none⟩ (.int .i64 (max x.1 r.1))).setCell ⟨w1.heap.size, 1, none⟩ (.int .i64 (min x.2 r.2)))) := hid (by rw [HNX.out]; exact HA2.out.put (max x.1 r.1, min x.2 r.2))
      go_roundw
      case rel => exact ⟨k + 1, by omega, by omega, by go_num, HEND⟩
      case measure => simp [intOf]; omega
    · have hkn : k = n := by omega
      subst hkn
      have HX := hid hx
      rw [← hx] at HA
      have HR2 : Hid (Blk wr.drew W.heap.size #[.int .i64 0, .int .i64 0] 23) := hid (HR.out.later HA.out.old.drew HR.out.lt)
      have HD : Hid (Blk wr.drew w1.heap.size #[.int .i64 x.1, .int .i64 x.2] 23) := hid HA.out.blk
      have t0 := HR2.out.cell (i := 0) rfl
      have t1 := HR2.out.cell (i := 1) rfl
      have f0 := HR2.out.froz 0
      have f1 := HR2.out.froz 1
      obtain ⟨wz, hwz⟩ : ∃ wz, wz = wr.drew := ⟨_, rfl⟩
      rw [← hwz] at HR2 HD t0 t1 f0 f1
      have HF : Hid (Below W.heap.size W ((wz.setCell ⟨W.heap.size, 0, none⟩ (.int .i64 x.1)).setCell ⟨W.heap.size, 1, none⟩ (.int .i64 x.2))) := hid (by rw [hwz]; exact (((HB1.out.trans (HA.out.old.mono HB1.out.size)).drew).setCell (p := ⟨W.heap.size, 0, none⟩) (Nat.le_refl _) (.int .i64 x.1)).setCell (p := ⟨W.heap.size, 1, none⟩) (Nat.le_refl _) (.int .i64 x.2))
      have HRF := hid ((HR2.out.set 0 (.int .i64 x.1)).set 1 (.int .i64 x.2))
      have HNE : Hid (w1.heap.size ≠ W.heap.size) := hid (by have := HR.out.lt; omega)
      have HWZ := hid hwz
      clear hx hwz
      go_wp2_with fail
      refine region_held (fun w' => Blk w' w1.heap.size #[.int .i64 x.1, .int .i64 x.2] 23) (by kernel_rfl) ?_
      rw [← HWZ.out]
      refine' tkw 0 (v := .agg #[.int .i64 x.1, .int .i64 x.2]) rfl (by kernel_rfl) (by kernel_rfl) HD.out (fun _ _ _ h => h) (fun w' hS => yield_ld 23 _ rfl rfl (run_rg w' hS)) ?_
      refine' tkw 1 (v := .pointer (some ⟨w1.heap.size, 0, none⟩)) rfl (by kernel_rfl) (by kernel_rfl) HD.out (fun _ _ _ h => h) (fun w' hS => by clear hS; go_simp; (try with_reducible rfl)) ?_
      refine' tkw 2 (v := .int .i64 x.1) rfl (by kernel_rfl) (by kernel_rfl) HD.out (fun _ _ _ h => h) (fun w' hS => by have h1 := hS.cell (i := 0) rfl; clear hS; go_simp; (try with_reducible rfl)) ?_
      refine' tkw 3 (v := .pointer (some ⟨w1.heap.size, 1, none⟩)) rfl (by kernel_rfl) (by kernel_rfl) HD.out (fun _ _ _ h => h) (fun w' hS => by clear hS; go_simp; (try with_reducible rfl)) ?_
      refine' tkw 4 (v := .int .i64 x.2) rfl (by kernel_rfl) (by kernel_rfl) HD.out (fun _ _ _ h => h) (fun w' hS => by have h1 := hS.cell (i := 1) rfl; clear hS; go_simp; (try with_reducible rfl)) ?_
      refine' tkw 5 (v := .bool (decide (x.1 ≤ x.2))) rfl (by kernel_rfl) (by kernel_rfl) HD.out (fun _ _ _ h => h) (fun w' hS => by clear hS; go_simp; (try with_reducible rfl)) ?_
      try simp only [Act.put, List.setIfInBounds_toArray, List.set_cons_zero, List.set_cons_succ]
      refine wpAnyH_ready (rs := [6]) (by kernel_rfl) (by simp) ?_
      refine AllReadyH.cons rfl (fun K hK => ?_) AllReadyH.nil
      go_simp
      refine hK.out _ _ ((HD.out.setOther _ _ HNE.out).setOther _ _ HNE.out) (fun hHeld => ?_)
      clear hK
      refine' tkw 7 (v := .bool (decide (x.1 ≤ x.2))) rfl (by kernel_rfl) (by kernel_rfl) hHeld (fun _ _ _ h => h) (fun w' hS => by clear hS; go_simp; (try with_reducible rfl)) ?_
      clear hHeld
      try simp only [Act.put, List.setIfInBounds_toArray, List.set_cons_zero, List.set_cons_succ]
      refine wpAnyH_done (by kernel_rfl) ?_ _
      go_wp2_with fail
      refine bodyPost_ret (v := .tuple #[.agg #[.int .i64 x.1, .int .i64 x.2], .bool (decide (x.1 ≤ x.2))]) ?_ rfl ⟨by rw [HX.out], HF.out⟩
      have r1 := run_rg _ HRF.out
      simp [results, Try.results20, asAddr, Act.put, r1]

theorem drafts_ways (l : List (Int × Int)) : (massesErr l ≠ 0 ∧ draftsErr l = massesErr l ∧ draftsRg l = (0, 0)) ∨ (massesErr l = 0 ∧ far2 (sumR l l.length) = true ∧ draftsErr l = 4 ∧ draftsRg l = (0, 0)) ∨ (massesErr l = 0 ∧ far2 (sumR l l.length) = false ∧ draftsErr l = 0 ∧ draftsRg l = sumR l l.length) := by
  by_cases h : massesErr l = 0
  · cases h2 : far2 (sumR l l.length)
    · right; right
      have e : draftsErr l = 0 := by unfold draftsErr; simp [h, h2]
      exact ⟨h, rfl, e, by unfold draftsRg; simp [e]⟩
    · right; left
      have e : draftsErr l = 4 := by unfold draftsErr; simp [h, h2]
      exact ⟨h, rfl, e, by unfold draftsRg; simp [e]⟩
  · left
    have e : draftsErr l = massesErr l := by unfold draftsErr; simp [h]
    exact ⟨h, e, by unfold draftsRg; simp [e, h]⟩
set_option maxRecDepth 100000 in
set_option maxHeartbeats 8000000 in
theorem drafts_any (l : List (Int × Int)) (v : Value) (W : World) (hl : SlcIn W v l.length (l.flatMap rgC)) : Calls Try.prog 9 #[v] W (Ret (.tuple #[.agg #[.int .i64 (draftsRg l).1, .int .i64 (draftsRg l).2], .int .i64 (draftsErr l)]) W) := by
  obtain ⟨w1, hw1⟩ : ∃ w1, w1 = W.alloc (.cells #[.int .i64 0, .int .i64 0] 23) := ⟨_, rfl⟩
  have hb1 : Below W.heap.size W w1 := by rw [hw1]; exact below_new W _
  have hR : Blk w1 W.heap.size #[.int .i64 0, .int .i64 0] 23 := by rw [hw1]; exact Blk.new W _ _
  have HC := hid (massesW_any l v w1 (hl.later hb1))
  have HMO := hid (fun h => masses_ok (l := l) h)
  have hww := drafts_ways l
  obtain ⟨p, c, rfl, _⟩ := hl.shape
  obtain ⟨n, hn⟩ : ∃ n, n = l.length := ⟨_, rfl⟩
  rw [← hn] at hl HC hww
  rw [← hn]
  obtain ⟨m, hmm⟩ : ∃ m, m = massesErr l := ⟨_, rfl⟩
  rw [← hmm] at HC HMO hww
  have HL := hid (hl.later hb1)
  have HN := hid hn
  have HB1 := hid hb1
  have HR := hid hR
  have HW1 := hid hw1
  have HGE : Hid (W.heap.size < w1.heap.size) := hid hR.lt
  clear hl hn hw1 hb1 hR hmm
  have fin : ∀ (a b e : Int) (w5 : World), Blk w5 W.heap.size #[.int .i64 0, .int .i64 0] 23 → Below W.heap.size W w5 → Blk ((w5.setCell ⟨W.heap.size, 0, none⟩ (.int .i64 a)).setCell ⟨W.heap.size, 1, none⟩ (.int .i64 b)) W.heap.size #[.int .i64 a, .int .i64 b] 23 ∧ Below W.heap.size W ((w5.setCell ⟨W.heap.size, 0, none⟩ (.int .i64 a)).setCell ⟨W.heap.size, 1, none⟩ (.int .i64 b)) := fun a b e w5 h1 h2 => ⟨(h1.set 0 _).set 1 _, (h2.setCell (p := ⟨W.heap.size, 0, none⟩) (Nat.le_refl _) _).setCell (p := ⟨W.heap.size, 1, none⟩) (Nat.le_refl _) _⟩
  have FIN := hid fin
  clear fin
  rcases hww with ⟨h1, he, hr⟩ | ⟨h1, h2, he, hr⟩ | ⟨h1, h2, he, hr⟩
  · rw [he, hr]
    have hz : (m == 0) = false := by simpa using h1
    have hz2 : (m != 0) = true := by simpa using h1
    clear he hr h1
    go_enter Try.func9, Try.ntmps9
    go_wp2_with (first | (rw [← HW1.out]) | (go_at_call 38; (with_reducible refine (HC.out).mono ?_); rintro e w2 ⟨rfl, hb⟩; have HR2 := hid (HR.out.later hb HR.out.lt); have HB2 := hid (HB1.out.trans (hb.mono HB1.out.size)); have t0 := HR2.out.cell (i := 0) rfl; have t1 := HR2.out.cell (i := 1) rfl; have f0 := HR2.out.froz 0; have f1 := HR2.out.froz 1; clear hb))
    have HF := hid (FIN.out 0 0 m w2 HR2.out HB2.out)
    refine bodyPost_ret (v := .tuple #[.agg #[.int .i64 0, .int .i64 0], .int .i64 m]) ?_ rfl ⟨rfl, HF.out.2⟩
    have r1 := run_rg _ HF.out.1
    simp [results, Try.results9, asAddr, Act.put, r1]
  all_goals
    subst h1
    obtain ⟨h0, h256, hb⟩ := HMO.out rfl
    have HBD := hid hb
    rw [he, hr]
    have HFAR := hid h2
    rw [← HN.out] at h0 h256
    clear he hr h2 hb
    go_enter Try.func9, Try.ntmps9
    go_wp2_with (first | (rw [← HW1.out]) | (go_at_call 38; (with_reducible refine (HC.out).mono ?_); rintro e w2 ⟨rfl, hb⟩; have HR2 := hid (HR.out.later hb HR.out.lt); have HB2 := hid (HB1.out.trans (hb.mono HB1.out.size)); have HL2 := hid (HL.out.later hb); have HG2 : Hid (W.heap.size < w2.heap.size) := hid (Nat.lt_of_lt_of_le HGE.out hb.size); clear hb))
    have HST : Hid (SumAt w2 w2.heap.size (sumR l 0) (w2.alloc (.cells #[.int .i64 0, .int .i64 0] 23))) := hid ⟨Blk.new w2 _ _, below_new w2 _⟩
    go_loopw [17] (fun u wr => ∃ k : Nat, k ≤ n ∧ u = .int .i64 k ∧ Hid (SumAt w2 w2.heap.size (sumR l k) wr)) (fun u _ => n - (intOf u).toNat)
    case atStart => exact ⟨0, Nat.zero_le _, rfl, HST⟩
    clear HST
    obtain ⟨k, hk, rfl, HA⟩ := hrel
    have hbd := sum_bd HBD.out k (by rw [← HN.out]; exact hk)
    obtain ⟨x, hx⟩ : ∃ x, x = sumR l k := ⟨_, rfl⟩
    by_cases hlt : k < n
    · obtain ⟨r, hr⟩ : ∃ r, l[k]? = some r := ⟨_, List.getElem?_eq_getElem (by rw [← HN.out]; exact hlt)⟩
      have hw := HL2.out.later HA.out.old
      rw [HN.out] at hw
      obtain ⟨g, o, c', hv, r0, r1⟩ := hw.rgAt hr
      injection hv with e1 e2 e3
      subst e1
      have hbr := HBD.out k r hr
      have hgr : l.getD k (0, 0) = r := by rw [List.getD_eq_getElem?_getD, hr]; rfl
      have HNX : Hid (sumR l (k + 1) = (x.1 + r.1, x.2 + r.2)) := hid (by
        conv => lhs; unfold sumR
        rw [hgr, ← hx]
        rfl)
      rw [← hx] at HA hbd
      have HPL := hid (fun w => plus_any x.1 x.2 r.1 r.2 w (by omega) (by omega) (by omega) (by omega))
      obtain ⟨w3, hw3⟩ : ∃ w3, w3 = wr.alloc (.cells #[.int .i64 r.1, .int .i64 r.2] 23) := ⟨_, rfl⟩
      have HA3 := hid (HA.out.later (show Below wr.heap.size wr w3 by rw [hw3]; exact below_new wr _))
      have hB3 : Blk w3 wr.heap.size #[.int .i64 r.1, .int .i64 r.2] 23 := by rw [hw3]; exact Blk.new wr _ _
      have s0 := HA3.out.blk.cell (i := 0) rfl
      have s1 := HA3.out.blk.cell (i := 1) rfl
      have q0 := hB3.cell (i := 0) rfl
      have q1 := hB3.cell (i := 1) rfl
      have HW3 := hid hw3
      clear hw e2 e3 hr hgr hx hbd hbr hw3 hB3
      go_wp2_with (first | (rw [← HW3.out]) | (go_at_call 39; (with_reducible refine (HPL.out _).mono ?_); rintro e w4 ⟨rfl, hb⟩; have HA4 := hid (HA3.out.later hb); have t0 := HA4.out.blk.cell (i := 0) rfl; have t1 := HA4.out.blk.cell (i := 1) rfl; have f0 := HA4.out.blk.froz 0; have f1 := HA4.out.blk.froz 1; clear hb))
      have HEND : Hid (SumAt w2 w2.heap.size (sumR l (k + 1)) ((w4.setCell ⟨w2.heap.size, 0, none⟩ (.int .i64 (x.1 + r.1))).setCell ⟨w2.heap.size, 1, none⟩ (.int .i64 (x.2 + r.2)))) := hid (by rw [HNX.out]; exact HA4.out.put (x.1 + r.1, x.2 + r.2))
      go_roundw
      case rel => exact ⟨k + 1, by omega, by go_num, HEND⟩
      case measure => simp [intOf]; omega
    have hkn : k = n := by omega
    subst hkn
    have HX := hid hx
    rw [← hx] at HA HFAR
    have s0 := HA.out.blk.cell (i := 0) rfl
    have s1 := HA.out.blk.cell (i := 1) rfl
    have HR3 := hid (HR2.out.later HA.out.old HG2.out)
    have HB3 := hid (HB2.out.trans (HA.out.old.mono HB2.out.size))
    clear hx hbd
  · have HBO := hid (fun w => bounded_no x.1 x.2 w (by have h := HFAR.out; unfold far2 at h; simpa using h))
    go_wp2_with (go_at_call 40; (with_reducible refine (HBO.out _).mono ?_); rintro e w5 ⟨rfl, hb⟩; have HR5 := hid (HR3.out.later hb HR3.out.lt); have HB5 := hid (HB3.out.trans (hb.mono HB3.out.size)); have t0 := HR5.out.cell (i := 0) rfl; have t1 := HR5.out.cell (i := 1) rfl; have f0 := HR5.out.froz 0; have f1 := HR5.out.froz 1; clear hb)
    have HF := hid (FIN.out 0 0 4 w5 HR5.out HB5.out)
    refine bodyPost_ret (v := .tuple #[.agg #[.int .i64 0, .int .i64 0], .int .i64 4]) ?_ rfl ⟨rfl, HF.out.2⟩
    have r1 := run_rg _ HF.out.1
    simp [results, Try.results9, asAddr, Act.put, r1]
  · have HBO := hid (fun w => bounded_yes x.1 x.2 w (by have h := HFAR.out; unfold far2 at h; exact (Bool.or_eq_false_iff.1 h).1) (by have h := HFAR.out; unfold far2 at h; exact (Bool.or_eq_false_iff.1 h).2))
    go_wp2_with (go_at_call 40; (with_reducible refine (HBO.out _).mono ?_); rintro e w5 ⟨rfl, hb⟩; have HR5 := hid (HR3.out.later hb HR3.out.lt); have HB5 := hid (HB3.out.trans (hb.mono HB3.out.size)); have t0 := HR5.out.cell (i := 0) rfl; have t1 := HR5.out.cell (i := 1) rfl; have f0 := HR5.out.froz 0; have f1 := HR5.out.froz 1; clear hb)
    have HF := hid (FIN.out x.1 x.2 0 w5 HR5.out HB5.out)
    refine bodyPost_ret (v := .tuple #[.agg #[.int .i64 x.1, .int .i64 x.2], .int .i64 0]) ?_ rfl ⟨by rw [HX.out], HF.out.2⟩
    have r1 := run_rg _ HF.out.1
    simp [results, Try.results9, asAddr, Act.put, r1]
end Go.Proofs.Ytlkefifffkhclaa
