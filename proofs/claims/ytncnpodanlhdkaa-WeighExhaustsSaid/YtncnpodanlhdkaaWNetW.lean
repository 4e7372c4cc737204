/-
  Net: the range of the net mass.
-/
import Derived.Test.YtncnpodanlhdkaaWConf
namespace Go.Proofs.Ytncnpodanlhdkaa
set_option linter.all false
open Go.RowKit

def netErr (g t : Int × Int) : Int := if eachErr massErr [g, t] ≠ 0 then eachErr massErr [g, t] else if g.2 < t.1 then 15 else 0
def netRg (g t : Int × Int) : Int × Int := if netErr g t ≠ 0 then (0, 0) else (max 0 (g.1 - t.2), g.2 - t.1)
theorem slc_new (w : World) (cs : List Value) (t : TypeId) (n : Nat) (hn : n ≤ maxLen) : SlcIn (w.alloc (.cells cs.toArray t)) (.slice (some ⟨w.heap.size, 0, none⟩) n n) n cs :=
  ⟨_, n, rfl, Nat.le_refl _, hn, .inr ⟨_, 0, rfl, fun j u hu => by rw [Nat.zero_add]; exact (Blk.new w cs.toArray t).cell (by simpa using hu)⟩⟩
set_option maxRecDepth 100000 in
set_option maxHeartbeats 4000000 in
theorem net_any (g t : Int × Int) (W : World) : Calls Try.prog 42 #[.agg #[.int .i64 g.1, .int .i64 g.2], .agg #[.int .i64 t.1, .int .i64 t.2]] W (Ret (.tuple #[.agg #[.int .i64 (netRg g t).1, .int .i64 (netRg g t).2], .int .i64 (netErr g t)]) W) := by
  obtain ⟨a, b⟩ := g
  obtain ⟨c, d⟩ := t
  obtain ⟨w1, hw1⟩ : ∃ w1, w1 = ((W.alloc (.cells #[.int .i64 a, .int .i64 b] 38)).alloc (.cells #[.int .i64 c, .int .i64 d] 38)).alloc (.cells #[.int .i64 0, .int .i64 0] 38) := ⟨_, rfl⟩
  have hb1 : Below W.heap.size W w1 := by rw [hw1]; exact ((below_new W _).alloc (by simp) _).alloc (by simp; omega) _
  have hA : Blk w1 W.heap.size #[.int .i64 a, .int .i64 b] 38 := by rw [hw1]; exact ((Blk.new W _ _).alloc _).alloc _
  have hB : Blk w1 (W.heap.size + 1) #[.int .i64 c, .int .i64 d] 38 := by rw [hw1]; exact (Blk_newn _ _ _ (by simp)).alloc _
  have hC : Blk w1 (W.heap.size + 1 + 1) #[.int .i64 0, .int .i64 0] 38 := by rw [hw1]; exact Blk_newn _ _ _ (by simp)
  obtain ⟨w2, hw2⟩ : ∃ w2, w2 = w1.alloc (.cells #[.int .i64 a, .int .i64 b, .int .i64 c, .int .i64 d] 38) := ⟨_, rfl⟩
  have hb2 : Below w1.heap.size w1 w2 := by rw [hw2]; exact below_new w1 _
  have HC := hid (each_mass [(a, b), (c, d)] (.slice (some ⟨w1.heap.size, 0, none⟩) 2 2) w2 (by rw [hw2]; exact slc_new w1 [.int .i64 a, .int .i64 b, .int .i64 c, .int .i64 d] _ 2 (by decide)))
  have a0 := hA.cell (i := 0) rfl
  have a1 := hA.cell (i := 1) rfl
  have b0 := hB.cell (i := 0) rfl
  have b1 := hB.cell (i := 1) rfl
  have HA2 := hid (hA.later hb2 hA.lt)
  have HBB2 := hid (hB.later hb2 hB.lt)
  have HC2 := hid (hC.later hb2 hC.lt)
  have HB2 := hid (hb1.trans (hb2.mono hb1.size))
  have HW1 := hid hw1
  have HW2 := hid hw2
  obtain ⟨x, hx⟩ : ∃ x, x = eachErr massErr [(a, b), (c, d)] := ⟨_, rfl⟩
  have HNE : Hid (netErr (a, b) (c, d) = if x ≠ 0 then x else if b < c then 15 else 0) := hid (by rw [hx]; rfl)
  have HNR : Hid (netRg (a, b) (c, d) = if netErr (a, b) (c, d) ≠ 0 then (0, 0) else (max 0 (a - d), b - c)) := hid rfl
  have HOK : Hid (x = 0 → (0 ≤ a ∧ a ≤ b ∧ b ≤ 999999999) ∧ (0 ≤ c ∧ c ≤ d ∧ d ≤ 999999999)) := hid (fun h => by
    rw [hx] at h
    exact ⟨mass_ok (each_ok h 0 _ rfl), mass_ok (each_ok h 1 _ rfl)⟩)
  rw [← hx] at HC
  clear hw1 hw2 hb1 hb2 hA hB hC hx
  by_cases h1 : x = 0
  · subst h1
    obtain ⟨⟨m1, m2, m3⟩, m4, m5, m6⟩ := HOK.out rfl
    by_cases h2 : b < c
    · have HE : Hid (netErr (a, b) (c, d) = 15) := hid (by rw [HNE.out, if_neg (by simp), if_pos h2])
      have HR : Hid (netRg (a, b) (c, d) = (0, 0)) := hid (by rw [HNR.out, HE.out]; rfl)
      rw [HE.out, HR.out]
      go_enter Try.func42, Try.ntmps42
      go_wp2_with (first | (rw [← HW1.out]) | (rw [← HW2.out]) | (go_at_call 69; (with_reducible refine HC.out.mono ?_); rintro e w3 ⟨rfl, hb⟩; have HB3 := hid (HB2.out.trans (hb.mono HB2.out.size)); have HA3 := hid (HA2.out.later hb HA2.out.lt); have HBB3 := hid (HBB2.out.later hb HBB2.out.lt); have HC3 := hid (HC2.out.later hb HC2.out.lt); have r0 := HA3.out.cell (i := 0) rfl; have r1 := HA3.out.cell (i := 1) rfl; have s0 := HBB3.out.cell (i := 0) rfl; have s1 := HBB3.out.cell (i := 1) rfl; have t0 := HC3.out.cell (i := 0) rfl; have t1 := HC3.out.cell (i := 1) rfl; have z0 := HC3.out.froz 0; have z1 := HC3.out.froz 1; clear hb))
      have HF := hid ((HB3.out.setCell (p := ⟨W.heap.size + 1 + 1, 0, none⟩) (by simp; omega) (.int .i64 (0))).setCell (p := ⟨W.heap.size + 1 + 1, 1, none⟩) (by simp; omega) (.int .i64 (0)))
      have HRF := hid ((HC3.out.set 0 (.int .i64 (0))).set 1 (.int .i64 (0)))
      refine bodyPost_ret (v := .tuple #[.agg #[.int .i64 (0), .int .i64 (0)], .int .i64 (15)]) ?_ rfl ⟨rfl, HF.out⟩
      have r1 : (loadVar 38 ⟨W.heap.size + 1 + 1, 0, none⟩).run Try.prog ((w3.setCell ⟨W.heap.size + 1 + 1, 0, none⟩ (.int .i64 (0))).setCell ⟨W.heap.size + 1 + 1, 1, none⟩ (.int .i64 (0))) = .ok (.agg #[.int .i64 (0), .int .i64 (0)]) _ :=
        run_loadVar_row _ (W.heap.size + 1 + 1) 38 38 _ (0, 0) (.struct (Try.prog.fieldsOf 38)) HRF.out (by kernel_rfl) rfl (by kernel_rfl)
      simp [results, Try.results42, asAddr, Act.put, r1]
    · have HE : Hid (netErr (a, b) (c, d) = 0) := hid (by rw [HNE.out, if_neg (by simp), if_neg h2])
      have HR : Hid (netRg (a, b) (c, d) = (max 0 (a - d), b - c)) := hid (by rw [HNR.out, HE.out]; rfl)
      rw [HE.out, HR.out]
      go_enter Try.func42, Try.ntmps42
      go_wp2_with (first | (rw [← HW1.out]) | (rw [← HW2.out]) | (go_at_call 69; (with_reducible refine HC.out.mono ?_); rintro e w3 ⟨rfl, hb⟩; have HB3 := hid (HB2.out.trans (hb.mono HB2.out.size)); have HA3 := hid (HA2.out.later hb HA2.out.lt); have HBB3 := hid (HBB2.out.later hb HBB2.out.lt); have HC3 := hid (HC2.out.later hb HC2.out.lt); have r0 := HA3.out.cell (i := 0) rfl; have r1 := HA3.out.cell (i := 1) rfl; have s0 := HBB3.out.cell (i := 0) rfl; have s1 := HBB3.out.cell (i := 1) rfl; have t0 := HC3.out.cell (i := 0) rfl; have t1 := HC3.out.cell (i := 1) rfl; have z0 := HC3.out.froz 0; have z1 := HC3.out.froz 1; clear hb))
      have HF := hid ((HB3.out.setCell (p := ⟨W.heap.size + 1 + 1, 0, none⟩) (by simp; omega) (.int .i64 (max 0 (a - d)))).setCell (p := ⟨W.heap.size + 1 + 1, 1, none⟩) (by simp; omega) (.int .i64 (b - c)))
      have HRF := hid ((HC3.out.set 0 (.int .i64 (max 0 (a - d)))).set 1 (.int .i64 (b - c)))
      refine bodyPost_ret (v := .tuple #[.agg #[.int .i64 (max 0 (a - d)), .int .i64 (b - c)], .int .i64 (0)]) ?_ rfl ⟨rfl, HF.out⟩
      have r1 : (loadVar 38 ⟨W.heap.size + 1 + 1, 0, none⟩).run Try.prog ((w3.setCell ⟨W.heap.size + 1 + 1, 0, none⟩ (.int .i64 (max 0 (a - d)))).setCell ⟨W.heap.size + 1 + 1, 1, none⟩ (.int .i64 (b - c))) = .ok (.agg #[.int .i64 (max 0 (a - d)), .int .i64 (b - c)]) _ :=
        run_loadVar_row _ (W.heap.size + 1 + 1) 38 38 _ (0, 0) (.struct (Try.prog.fieldsOf 38)) HRF.out (by kernel_rfl) rfl (by kernel_rfl)
      simp [results, Try.results42, asAddr, Act.put, r1]
  · have HE : Hid (netErr (a, b) (c, d) = x) := hid (by rw [HNE.out, if_pos h1])
    have HR : Hid (netRg (a, b) (c, d) = (0, 0)) := hid (by rw [HNR.out, HE.out, if_pos h1])
    have hz : (x == 0) = false := by simpa using h1
    have hz2 : (x != 0) = true := by simpa using h1
    clear h1
    rw [HE.out, HR.out]
    go_enter Try.func42, Try.ntmps42
    go_wp2_with (first | (rw [← HW1.out]) | (rw [← HW2.out]) | (go_at_call 69; (with_reducible refine HC.out.mono ?_); rintro e w3 ⟨rfl, hb⟩; have HB3 := hid (HB2.out.trans (hb.mono HB2.out.size)); have HA3 := hid (HA2.out.later hb HA2.out.lt); have HBB3 := hid (HBB2.out.later hb HBB2.out.lt); have HC3 := hid (HC2.out.later hb HC2.out.lt); have r0 := HA3.out.cell (i := 0) rfl; have r1 := HA3.out.cell (i := 1) rfl; have s0 := HBB3.out.cell (i := 0) rfl; have s1 := HBB3.out.cell (i := 1) rfl; have t0 := HC3.out.cell (i := 0) rfl; have t1 := HC3.out.cell (i := 1) rfl; have z0 := HC3.out.froz 0; have z1 := HC3.out.froz 1; clear hb))
    have HF := hid ((HB3.out.setCell (p := ⟨W.heap.size + 1 + 1, 0, none⟩) (by simp; omega) (.int .i64 (0))).setCell (p := ⟨W.heap.size + 1 + 1, 1, none⟩) (by simp; omega) (.int .i64 (0)))
    have HRF := hid ((HC3.out.set 0 (.int .i64 (0))).set 1 (.int .i64 (0)))
    refine bodyPost_ret (v := .tuple #[.agg #[.int .i64 (0), .int .i64 (0)], .int .i64 (x)]) ?_ rfl ⟨rfl, HF.out⟩
    have r1 : (loadVar 38 ⟨W.heap.size + 1 + 1, 0, none⟩).run Try.prog ((w3.setCell ⟨W.heap.size + 1 + 1, 0, none⟩ (.int .i64 (0))).setCell ⟨W.heap.size + 1 + 1, 1, none⟩ (.int .i64 (0))) = .ok (.agg #[.int .i64 (0), .int .i64 (0)]) _ :=
      run_loadVar_row _ (W.heap.size + 1 + 1) 38 38 _ (0, 0) (.struct (Try.prog.fieldsOf 38)) HRF.out (by kernel_rfl) rfl (by kernel_rfl)
    simp [results, Try.results42, asAddr, Act.put, r1]
end Go.Proofs.Ytncnpodanlhdkaa
