/-
  readMoisture, where it has no error.
-/
import Derived.Test.YtocoghnopmjceaaGreatDoorMMean
import Derived.Test.YtocoghnopmjceaaGreatDoorMRound
import Derived.Test.YtocoghnopmjceaaGreatDoorMSpans
import Derived.Test.YtocoghnopmjceaaGreatDoorMEachLayer
namespace Go.Proofs.YtocoghnopmjceaaGreatDoor
open Go.RowKit

theorem al3 {W : World} {g : Nat} {x : NV} (o : Obj) (h : W.cell? ⟨g, 0, none⟩ = some (.bool x.b) ∧ W.cell? ⟨g, 1, none⟩ = some (.slice x.p x.k x.c) ∧ W.cell? ⟨g, 2, none⟩ = some (.slice x.q x.j x.d)) : (W.alloc o).cell? ⟨g, 0, none⟩ = some (.bool x.b) ∧ (W.alloc o).cell? ⟨g, 1, none⟩ = some (.slice x.p x.k x.c) ∧ (W.alloc o).cell? ⟨g, 2, none⟩ = some (.slice x.q x.j x.d) := by
  obtain ⟨h0, h1, h2⟩ := h
  refine ⟨?_, ?_, ?_⟩
  · rw [((Below.refl _ _).alloc (Nat.le_refl _) o).cell (World.block_lt_of_cell? W _ h0)]; exact h0
  · rw [((Below.refl _ _).alloc (Nat.le_refl _) o).cell (World.block_lt_of_cell? W _ h1)]; exact h1
  · rw [((Below.refl _ _).alloc (Nat.le_refl _) o).cell (World.block_lt_of_cell? W _ h2)]; exact h2

theorem st3 {W : World} {g g' : Nat} {x : NV} (h : W.cell? ⟨g, 0, none⟩ = some (.bool x.b) ∧ W.cell? ⟨g, 1, none⟩ = some (.slice x.p x.k x.c) ∧ W.cell? ⟨g, 2, none⟩ = some (.slice x.q x.j x.d)) (hne : g' ≠ g) (a b c : Value) : (((W.setCell ⟨g', 0, none⟩ a).setCell ⟨g', 1, none⟩ b).setCell ⟨g', 2, none⟩ c).cell? ⟨g, 0, none⟩ = some (.bool x.b) ∧ (((W.setCell ⟨g', 0, none⟩ a).setCell ⟨g', 1, none⟩ b).setCell ⟨g', 2, none⟩ c).cell? ⟨g, 1, none⟩ = some (.slice x.p x.k x.c) ∧ (((W.setCell ⟨g', 0, none⟩ a).setCell ⟨g', 1, none⟩ b).setCell ⟨g', 2, none⟩ c).cell? ⟨g, 2, none⟩ = some (.slice x.q x.j x.d) := by
  have k : ∀ (V : World) (i o : Nat) (y : Value), (V.setCell ⟨g', i, none⟩ y).cell? ⟨g, o, none⟩ = V.cell? ⟨g, o, none⟩ := fun V i o y => World.cell?_setCell_other _ _ _ _ (by intro e; injection e with e; exact hne e)
  simp only [k]
  exact h

theorem below_al {w W W' : World} {o : Obj} (h : Below w.heap.size w W) (hb : Below (W.alloc o).heap.size (W.alloc o) W') : Below w.heap.size w W' :=
  (h.alloc h.size o).trans (hb.mono (by rw [World.size_alloc]; exact Nat.le_succ_of_le h.size))

theorem below_ald {w W W' : World} {o : Obj} (h : Below w.heap.size w W) (hb : Below (W.alloc o).drew.heap.size (W.alloc o).drew W') : Below w.heap.size w W' :=
  (h.alloc h.size o).drew.trans (hb.mono (h.alloc h.size o).size)

theorem one_ald {W W' : World} {x : NV} (hb : Below (W.alloc (.cells #[.bool x.b, .slice x.p x.k x.c, .slice x.q x.j x.d] 75)).drew.heap.size (W.alloc (.cells #[.bool x.b, .slice x.p x.k x.c, .slice x.q x.j x.d] 75)).drew W') : One W' W.heap.size x := ((one_new W x).later ((Below.refl _ _).drew)).later (hb.mono (by show W.heap.size + 1 ≤ (W.alloc _).heap.size; rw [World.size_alloc]; exact Nat.le_refl _))

theorem one_al {W W' : World} {x : NV} (hb : Below (W.alloc (.cells #[.bool x.b, .slice x.p x.k x.c, .slice x.q x.j x.d] 75)).heap.size (W.alloc (.cells #[.bool x.b, .slice x.p x.k x.c, .slice x.q x.j x.d] 75)) W') : One W' W.heap.size x := (one_new W x).later (hb.mono (by rw [World.size_alloc]; exact Nat.le_refl _))

theorem first_nv {W W' : World} {v : Value} {q : Rat} (h : NumV W v q) (hb : Below W.heap.size W W') : NumV W' v q := h.later hb

/-- What the walk knows behind the difference. -/
def MoistAt (w : World) (r g n : Nat) (x z : NV) (q d : Rat) (W : World) : Prop := One W n z ∧ One W r ⟨false, none, 0, 0, none, 0, 0⟩ ∧ One W g x ∧ NumV W (.agg #[.bool x.b, .slice x.p x.k x.c, .slice x.q x.j x.d]) q ∧ NumV W (.agg #[.bool z.b, .slice z.p z.k z.c, .slice z.q z.j z.d]) d ∧ Below w.heap.size w W

theorem MoistAt.later {w W W' : World} {r g n : Nat} {x z : NV} {q d : Rat} (h : MoistAt w r g n x z q d W) (hb : Below W.heap.size W W') : MoistAt w r g n x z q d W' := by
  obtain ⟨h1, h2, h3, h4, h5, h6⟩ := h
  exact ⟨Own.later h1 (hb.mono h1.1), Own.later h2 (hb.mono h2.1), Own.later h3 (hb.mono h3.1), h4.later hb, h5.later hb, h6.trans (hb.mono h6.size)⟩

theorem moist_put {w W : World} {r g n : Nat} {m x z : NV} {q d : Rat} (hm : One W n m) (hr : One W r ⟨false, none, 0, 0, none, 0, 0⟩) (hg : One W g x) (hx : NumV W (.agg #[.bool x.b, .slice x.p x.k x.c, .slice x.q x.j x.d]) q) (hz : NumV W (.agg #[.bool z.b, .slice z.p z.k z.c, .slice z.q z.j z.d]) d) (hb : Below w.heap.size w W) (h1 : r ≠ n) (h2 : g ≠ n) (h3 : w.heap.size ≤ n) :
    MoistAt w r g n x z q d (((W.setCell ⟨n, 0, none⟩ (.bool z.b)).setCell ⟨n, 1, none⟩ (.slice z.p z.k z.c)).setCell ⟨n, 2, none⟩ (.slice z.q z.j z.d)) := by
  obtain ⟨a, b, c, d⟩ := hm.put (x := z)
  exact ⟨a, d _ _ _ h1 hr, d _ _ _ h2 hg, b _ _ hx, b _ _ hz, c _ _ h3 hb⟩

theorem moist_new {w W : World} {r g : Nat} {x z : NV} {q d : Rat} (hr : One W r ⟨false, none, 0, 0, none, 0, 0⟩) (hg : One W g x) (hx : NumV W (.agg #[.bool x.b, .slice x.p x.k x.c, .slice x.q x.j x.d]) q) (hz : NumV W (.agg #[.bool z.b, .slice z.p z.k z.c, .slice z.q z.j z.d]) d) (hb : Below w.heap.size w W) :
    MoistAt w r g W.heap.size x z q d (W.alloc (.cells #[.bool z.b, .slice z.p z.k z.c, .slice z.q z.j z.d] 75)) := by
  have hal : Below W.heap.size W (W.alloc (.cells #[.bool z.b, .slice z.p z.k z.c, .slice z.q z.j z.d] 75)) := (Below.refl _ _).alloc (Nat.le_refl _) _
  exact ⟨one_new W z, Own.later hr (hal.mono hr.1), Own.later hg (hal.mono hg.1), hx.later hal, hz.later hal, hb.trans (hal.mono hb.size)⟩

/-- The percentage of dry matter. -/
def dryQ (q : Rat) : Rat := ((100 : Int) : Rat) - q

set_option maxRecDepth 100000 in
set_option maxHeartbeats 8000000 in
theorem moist_good (s : ByteArray) (w : World) (hg : GW w) (hs : s.size ≤ 1073741824) (hc : checkR s.data.toList = 0) (h0 : 0 ≤ sgn (numQ s.data.toList)) (h1 : 0 < sgn (dryQ (numQ s.data.toList))) :
    Calls Tryz.prog 49 #[.string s] w fun e w' => (∃ z : NV, e = .returned (.tuple #[.agg #[.bool z.b, .slice z.p z.k z.c, .slice z.q z.j z.d], .int .i64 0]) ∧ NumV w' (.agg #[.bool z.b, .slice z.p z.k z.c, .slice z.q z.j z.d]) (dryQ (numQ s.data.toList))) ∧ Below w.heap.size w w' := by
  have hal : Below w.heap.size w (w.alloc (.cells #[.bool false, .slice none 0 0, .slice none 0 0] 75)) := (Below.refl _ _).alloc (Nat.le_refl _) _
  have HAL := hid hal
  have HO0 := hid (one_new w ⟨false, none, 0, 0, none, 0, 0⟩)
  have HRD := hid (readNum_ok s _ (hg.later hal) hs hc)
  have bq := (bd_num hc).rs
  have b1 := (bd_int 100 (by omega) (by omega)).rs
  have HCAP : Hid (rs ((100 : Int) : Rat) + rs (numQ s.data.toList) + 2 ≤ Cap) := hid (by unfold Cap; omega)
  clear hal hc hg bq b1
  have hn0 : ¬ sgn (numQ s.data.toList) < 0 := by omega
  have hn1 : ¬ sgn (dryQ (numQ s.data.toList)) ≤ 0 := by omega
  clear h0 h1
  generalize numQ s.data.toList = q at *
  go_enter Tryz.func49, Tryz.ntmps49
  go_wp2_with fail
  refine HRD.out.mono ?_
  rintro e w1 ⟨⟨v, rfl, hv⟩, hb⟩
  obtain ⟨x, rfl⟩ := hv.nv
  have hal2 : Below w1.heap.size w1 (w1.alloc (.cells #[.bool x.b, .slice x.p x.k x.c, .slice x.q x.j x.d] 75)) := (Below.refl _ _).alloc (Nat.le_refl _) _
  have hb2 := hb.trans (hal2.mono hb.size)
  have HB := hid (HAL.out.trans (hb2.mono HAL.out.size))
  have HR := hid (HO0.out.later (hb2.mono HO0.out.1))
  have HX := hid (hv.later hal2)
  have HW := hid (one_new w1 x)
  clear hv hb hal2 hb2 HRD
  go_wp2_with fail
  have HBX : Hid (Below (w1.alloc (.cells #[.bool x.b, .slice x.p x.k x.c, .slice x.q x.j x.d] 75)).heap.size (w1.alloc (.cells #[.bool x.b, .slice x.p x.k x.c, .slice x.q x.j x.d] 75)) (w1.alloc (.cells #[.bool x.b, .slice x.p x.k x.c, .slice x.q x.j x.d] 75)).drew) := hid ((Below.refl _ _).drew)
  have hsz : (w1.alloc (.cells #[.bool x.b, .slice x.p x.k x.c, .slice x.q x.j x.d] 75)).heap.size = w1.heap.size + 1 := World.size_alloc _ _
  have HSZ := hid hsz
  clear hsz
  generalize w1.alloc (.cells #[.bool x.b, .slice x.p x.k x.c, .slice x.q x.j x.d] 75) = w2 at *
  have e0 : w2.cell? ⟨w1.heap.size, 0, none⟩ = some (.bool x.b) ∧ w2.cell? ⟨w1.heap.size, 1, none⟩ = some (.slice x.p x.k x.c) ∧ w2.cell? ⟨w1.heap.size, 2, none⟩ = some (.slice x.q x.j x.d) := (One.cells HW.out).1
  have e0d : (w2.alloc (.cells #[.bool false, .slice none 0 0, .slice none 0 0] 75)).drew.cell? ⟨w1.heap.size, 0, none⟩ = some (.bool x.b) ∧ (w2.alloc (.cells #[.bool false, .slice none 0 0, .slice none 0 0] 75)).drew.cell? ⟨w1.heap.size, 1, none⟩ = some (.slice x.p x.k x.c) ∧ (w2.alloc (.cells #[.bool false, .slice none 0 0, .slice none 0 0] 75)).drew.cell? ⟨w1.heap.size, 2, none⟩ = some (.slice x.q x.j x.d) := al3 _ e0
  go_region_held3 (fun W => W.cell? ⟨w1.heap.size, 0, none⟩ = some (.bool x.b) ∧ W.cell? ⟨w1.heap.size, 1, none⟩ = some (.slice x.p x.k x.c) ∧ W.cell? ⟨w1.heap.size, 2, none⟩ = some (.slice x.q x.j x.d)) (first | with_reducible exact eA | with_reducible exact eB | with_reducible exact al3 _ eA | with_reducible exact al3 _ eB | with_reducible exact e0d | with_reducible exact al3 _ e0 | with_reducible exact st3 eB hneq _ _ _ | exact e0)
    (first
      | (go_at_call 66; ((with_reducible refine (call_nv (minus_any _ _ _ _ _ (first_nv HV1.out (by (first | exact Below.refl _ _ | exact (Below.refl _ _).alloc (Nat.le_refl _) _))) (HX.out.later (by (first | exact HBA.out | exact HBA.out.alloc HBA.out.size _))) HCAP.out)).mono ?_); rintro e wB ⟨⟨t2, rfl, hn⟩, hb⟩; have HV2 : Hid (NumV wB (.agg #[.bool t2.b, .slice t2.p t2.k t2.c, .slice t2.q t2.j t2.d]) (dryQ q)) := hid hn; have HBB : Hid (Below w2.heap.size w2 wB) := (by (first | exact hid (HBA.out.trans (hb.mono HBA.out.size)) | exact hid (below_al HBA.out hb) | exact hid (below_ald HBA.out hb))); have eB : wB.cell? ⟨w1.heap.size, 0, none⟩ = some (.bool x.b) ∧ wB.cell? ⟨w1.heap.size, 1, none⟩ = some (.slice x.p x.k x.c) ∧ wB.cell? ⟨w1.heap.size, 2, none⟩ = some (.slice x.q x.j x.d) := (One.cells (HW.out.later (HBB.out.mono HW.out.1))).1; (first | (have HNB := hid (HNA.out.later (hb.mono HNA.out.1)); have hneq : w2.heap.size ≠ w1.heap.size := (by have := HSZ.out; omega); obtain ⟨⟨n0, n1, n2⟩, f0, f1, f2⟩ := One.cells HNB.out) | (have HNB : Hid (One wB wA.heap.size ⟨false, none, 0, 0, none, 0, 0⟩) := (by first | exact hid (one_al hb) | exact hid (one_ald hb)); have hneq : wA.heap.size ≠ w1.heap.size := (by have := HSZ.out; have := HBA.out.size; omega); obtain ⟨⟨n0, n1, n2⟩, f0, f1, f2⟩ := One.cells HNB.out) | skip); clear hn hb))
      | (go_at_call 39; ((with_reducible refine (call_nv (whole_any 100 _ (by omega) (by omega))).mono ?_); rintro e wA ⟨⟨t1, rfl, hn⟩, hb⟩; have HV1 := hid hn; have HBA : Hid (Below w2.heap.size w2 wA) := (by (first | exact hid (HBX.out.trans hb) | exact hid (below_al (Below.refl _ _) hb) | exact hid (below_ald (Below.refl _ _) hb) | exact hid (below_al HBX.out hb))); have eA : wA.cell? ⟨w1.heap.size, 0, none⟩ = some (.bool x.b) ∧ wA.cell? ⟨w1.heap.size, 1, none⟩ = some (.slice x.p x.k x.c) ∧ wA.cell? ⟨w1.heap.size, 2, none⟩ = some (.slice x.q x.j x.d) := (One.cells (HW.out.later (HBA.out.mono HW.out.1))).1; (first | have HNA : Hid (One wA w2.heap.size ⟨false, none, 0, 0, none, 0, 0⟩) := hid (one_al hb) | have HNA : Hid (One wA w2.heap.size ⟨false, none, 0, 0, none, 0, 0⟩) := hid (one_ald hb) | skip); clear hn hb)))
  · have HM := hid (moist_new (w := w) (HR.out.later (HBB.out.mono HR.out.1)) (HW.out.later (HBB.out.mono HW.out.1)) (HX.out.later HBB.out) HV2.out (HB.out.trans (HBB.out.mono HB.out.size)))
    generalize wB.alloc (.cells #[.bool t2.b, .slice t2.p t2.k t2.c, .slice t2.q t2.j t2.d] 75) = w5 at *
    generalize wB.heap.size = n5 at *
    clear e0 e0d eA eB HBX HX HW HR HAL HO0 HBA HBB HV1 HV2
    try clear HNA
    try clear HNB n0 n1 n2 f0 f1 f2 hneq
    obtain ⟨⟨m0, m1, m2⟩, _⟩ := One.cells HM.out.1
    obtain ⟨⟨x0, x1, x2⟩, _⟩ := One.cells HM.out.2.2.1
    have HS1 := hid (sign_any _ _ _ HM.out.2.2.2.1)
    go_wp2_with fail
    refine HS1.out.mono ?_
    rintro e w6 ⟨rfl, hb⟩
    have HM6 := hid (HM.out.later hb)
    clear m0 m1 m2 x0 x1 x2 hb HM HS1
    obtain ⟨⟨m0, m1, m2⟩, _⟩ := One.cells HM6.out.1
    have HS2 := hid (sign_any _ _ _ HM6.out.2.2.2.2.1)
    go_wp2_with fail
    refine HS2.out.mono ?_
    rintro e w7 ⟨rfl, hb⟩
    have HM7 := hid (HM6.out.later hb)
    clear m0 m1 m2 hb HM6 HS2
    obtain ⟨⟨m0, m1, m2⟩, _⟩ := One.cells HM7.out.1
    obtain ⟨⟨r0, r1, r2⟩, g0, g1, g2⟩ := One.cells HM7.out.2.1
    have HP := hid (One.put (x := t2) HM7.out.2.1)
    go_wp2_with fail
    refine bodyPost_ret (v := .tuple #[.agg #[.bool t2.b, .slice t2.p t2.k t2.c, .slice t2.q t2.j t2.d], .int .i64 0]) ?_ rfl ?_
    · simp [results, Tryz.results49, go_sem, r0, r1, r2]
    · exact ⟨⟨t2, rfl, HP.out.2.1 _ _ HM7.out.2.2.2.2.1⟩, HP.out.2.2.1 _ _ (Nat.le_refl _) HM7.out.2.2.2.2.2⟩
  · have HM := hid (moist_put (z := t2) (w := w) HNB.out (HR.out.later (HBB.out.mono HR.out.1)) (HW.out.later (HBB.out.mono HW.out.1)) (HX.out.later HBB.out) HV2.out (HB.out.trans (HBB.out.mono HB.out.size)) (by have := HR.out.1; have := HBA.out.size; omega) (Ne.symm hneq) (by have := HB.out.size; have := HBA.out.size; omega))
    generalize ((wB.setCell ⟨wA.heap.size, 0, none⟩ (.bool t2.b)).setCell ⟨wA.heap.size, 1, none⟩ (.slice t2.p t2.k t2.c)).setCell ⟨wA.heap.size, 2, none⟩ (.slice t2.q t2.j t2.d) = w5 at *
    generalize wA.heap.size = n5 at *
    clear e0 e0d eA eB HBX HX HW HR HAL HO0 HBA HBB HV1 HV2
    try clear HNA
    try clear HNB n0 n1 n2 f0 f1 f2 hneq
    obtain ⟨⟨m0, m1, m2⟩, _⟩ := One.cells HM.out.1
    obtain ⟨⟨x0, x1, x2⟩, _⟩ := One.cells HM.out.2.2.1
    have HS1 := hid (sign_any _ _ _ HM.out.2.2.2.1)
    go_wp2_with fail
    refine HS1.out.mono ?_
    rintro e w6 ⟨rfl, hb⟩
    have HM6 := hid (HM.out.later hb)
    clear m0 m1 m2 x0 x1 x2 hb HM HS1
    obtain ⟨⟨m0, m1, m2⟩, _⟩ := One.cells HM6.out.1
    have HS2 := hid (sign_any _ _ _ HM6.out.2.2.2.2.1)
    go_wp2_with fail
    refine HS2.out.mono ?_
    rintro e w7 ⟨rfl, hb⟩
    have HM7 := hid (HM6.out.later hb)
    clear m0 m1 m2 hb HM6 HS2
    obtain ⟨⟨m0, m1, m2⟩, _⟩ := One.cells HM7.out.1
    obtain ⟨⟨r0, r1, r2⟩, g0, g1, g2⟩ := One.cells HM7.out.2.1
    have HP := hid (One.put (x := t2) HM7.out.2.1)
    go_wp2_with fail
    refine bodyPost_ret (v := .tuple #[.agg #[.bool t2.b, .slice t2.p t2.k t2.c, .slice t2.q t2.j t2.d], .int .i64 0]) ?_ rfl ?_
    · simp [results, Tryz.results49, go_sem, r0, r1, r2]
    · exact ⟨⟨t2, rfl, HP.out.2.1 _ _ HM7.out.2.2.2.2.1⟩, HP.out.2.2.1 _ _ (Nat.le_refl _) HM7.out.2.2.2.2.2⟩
  · have HM := hid (moist_put (m := ⟨false, none, 0, 0, none, 0, 0⟩) (z := t2) (w := w) HNB.out (HR.out.later (HBB.out.mono HR.out.1)) (HW.out.later (HBB.out.mono HW.out.1)) (HX.out.later HBB.out) HV2.out (HB.out.trans (HBB.out.mono HB.out.size)) (by have := HR.out.1; omega) (Ne.symm hneq) (by have := HB.out.size; omega))
    generalize ((wB.setCell ⟨w2.heap.size, 0, none⟩ (.bool t2.b)).setCell ⟨w2.heap.size, 1, none⟩ (.slice t2.p t2.k t2.c)).setCell ⟨w2.heap.size, 2, none⟩ (.slice t2.q t2.j t2.d) = w5 at *
    generalize w2.heap.size = n5 at *
    clear e0 e0d eA eB HBX HX HW HR HAL HO0 HBA HBB HV1 HV2
    try clear HNA
    try clear HNB n0 n1 n2 f0 f1 f2 hneq
    obtain ⟨⟨m0, m1, m2⟩, _⟩ := One.cells HM.out.1
    obtain ⟨⟨x0, x1, x2⟩, _⟩ := One.cells HM.out.2.2.1
    have HS1 := hid (sign_any _ _ _ HM.out.2.2.2.1)
    go_wp2_with fail
    refine HS1.out.mono ?_
    rintro e w6 ⟨rfl, hb⟩
    have HM6 := hid (HM.out.later hb)
    clear m0 m1 m2 x0 x1 x2 hb HM HS1
    obtain ⟨⟨m0, m1, m2⟩, _⟩ := One.cells HM6.out.1
    have HS2 := hid (sign_any _ _ _ HM6.out.2.2.2.2.1)
    go_wp2_with fail
    refine HS2.out.mono ?_
    rintro e w7 ⟨rfl, hb⟩
    have HM7 := hid (HM6.out.later hb)
    clear m0 m1 m2 hb HM6 HS2
    obtain ⟨⟨m0, m1, m2⟩, _⟩ := One.cells HM7.out.1
    obtain ⟨⟨r0, r1, r2⟩, g0, g1, g2⟩ := One.cells HM7.out.2.1
    have HP := hid (One.put (x := t2) HM7.out.2.1)
    go_wp2_with fail
    refine bodyPost_ret (v := .tuple #[.agg #[.bool t2.b, .slice t2.p t2.k t2.c, .slice t2.q t2.j t2.d], .int .i64 0]) ?_ rfl ?_
    · simp [results, Tryz.results49, go_sem, r0, r1, r2]
    · exact ⟨⟨t2, rfl, HP.out.2.1 _ _ HM7.out.2.2.2.2.1⟩, HP.out.2.2.1 _ _ (Nat.le_refl _) HM7.out.2.2.2.2.2⟩
end Go.Proofs.YtocoghnopmjceaaGreatDoor

/-
  Wet, where it has no error of its own.
-/
namespace Go.Proofs.YtocoghnopmjceaaGreatDoor
open Go.RowKit

set_option maxRecDepth 100000 in
set_option maxHeartbeats 2000000 in
theorem each_moist (l : List ByteArray) (b o c : Nat) (w : World) (hg : GW w) (hrow : ∀ i s, l[i]? = some s → w.cell? ⟨b, o + i, none⟩ = some (.string s)) (hl : l.length ≤ 1048576) (hs : ∀ s ∈ l, s.size ≤ 1073741824 ∧ checkR s.data.toList = 0 ∧ 0 ≤ sgn ((numQ s.data.toList)) ∧ 0 < sgn (dryQ (numQ s.data.toList))) :
    Calls Tryz.prog 48 #[.slice (some ⟨b, o, none⟩) l.length c, .func (.func 49) #[] #[]] w
      (fun e w' => (∃ g, w.heap.size ≤ g ∧ e = .returned (.tuple #[.slice (some ⟨g, 0, none⟩) l.length l.length, .int .i64 0]) ∧ Nums w' g l.length (l.map fun s => dryQ (numQ s.data.toList))) ∧ Below w.heap.size w w') := by
  have HG := hid hg
  have HROW := hid hrow
  have HS := hid hs
  have hmk := make_nums l.length hl
  obtain ⟨i0, hi, hz0, hz1, hz2⟩ := info_parts (show (Tryz.prog.info? 75).map (fun i => (i.zero, i.size, i.bytes)) = some (some (.agg #[.bool false, .slice none 0 0, .slice none 0 0]), 3, 56) by kernel_rfl)
  have HI := hid hi
  clear hg hrow hs hi hz0 hz2
  go_enter Tryz.func48, Tryz.ntmps48
  go_wp2_with fail
  clear hmk
  have HN0 := hid (nums_start w l.length)
  have HB0 : Hid (Below w.heap.size w (w.alloc (.cells (madeCells #[.bool false, .slice none 0 0, .slice none 0 0] (l.length * 3)) 75))) := hid ((Below.refl _ _).alloc (Nat.le_refl _) _)
  generalize w.alloc (.cells (madeCells #[.bool false, .slice none 0 0, .slice none 0 0] (l.length * 3)) 75) = w0 at *
  go_loopw [6, 16] (fun r i wr => ∃ k : Nat, k ≤ l.length ∧ i = .int .i64 k ∧ r = .slice (some ⟨w.heap.size, 0, none⟩) k l.length ∧ Hid (Nums wr w.heap.size l.length ((l.take k).map fun s => dryQ (numQ s.data.toList))) ∧ Hid (Below w.heap.size w wr)) (fun _ i _ => l.length - (intOf i).toNat)
  case atStart => exact ⟨0, Nat.zero_le _, rfl, rfl, HN0, HB0⟩
  case round =>
    obtain ⟨k, hk, rfl, rfl, HN, HB⟩ := hrel
    clear HN0 HB0
    by_cases hkl : k < l.length
    · obtain ⟨s, hsk⟩ : ∃ s, l[k]? = some s := ⟨l[k], List.getElem?_eq_getElem hkl⟩
      have hcell0 := HROW.out k s hsk
      have hcell : wr.cell? ⟨b, o + k, none⟩ = some (.string s) := by
        rw [HB.out.cell (World.block_lt_of_cell? w _ hcell0)]; exact hcell0
      obtain ⟨hs1, hs2, hs3, hs4⟩ := HS.out s (List.mem_of_getElem? hsk)
      have HRD2 := hid (moist_good s wr (HG.out.later HB.out) hs1 hs2 hs3 hs4)
      have HSK := hid hsk
      clear hcell0 hsk hs1 hs2 hs3 hs4
      · skip
        go_wp2_with fail
        refine HRD2.out.mono ?_
        rintro e w1 ⟨⟨x, rfl, hv⟩, hb⟩
        obtain ⟨sg, p1, k1, c1, p2, k2, c2⟩ := x
        have hqs : ((l.take k).map fun s => dryQ (numQ s.data.toList)) ++ [dryQ (numQ s.data.toList)] = (l.take (k + 1)).map fun s => dryQ (numQ s.data.toList) := by
          rw [take_next HSK.out, List.map_append]; rfl
        have HQS := hid hqs
        have hql : ((l.take k).map fun s => dryQ (numQ s.data.toList)).length = k := by rw [List.length_map, List.length_take]; omega
        have HN1 := hid (HN.out.later hb)
        have HV1 := hid hv
        have HB1 := hid (HB.out.trans (hb.mono HB.out.size))
        clear hqs hv hb HN HB HRD2 hcell
        generalize dryQ (numQ s.data.toList) = q at *
        generalize ((l.take k).map fun s => dryQ (numQ s.data.toList)) = qs at *
        obtain ⟨hal, hbx⟩ := num_box w1 sg (.slice p1 k1 c1) (.slice p2 k2 c2)
        have HN2 := hid (HN1.out.later hal)
        have HV2 := hid (HV1.out.later hal)
        have hbs : w.heap.size ≤ w1.heap.size := HB1.out.size
        have HB2 := hid (HB1.out.trans (hal.mono hbs))
        obtain ⟨x0, x1, x2⟩ := box_cells hbx
        have hal2 : Below (w1.alloc (.cells #[.bool sg, .slice p1 k1 c1, .slice p2 k2 c2] 75)).heap.size (w1.alloc (.cells #[.bool sg, .slice p1 k1 c1, .slice p2 k2 c2] 75)) ((w1.alloc (.cells #[.bool sg, .slice p1 k1 c1, .slice p2 k2 c2] 75)).alloc (.cells #[.bool sg, .slice p1 k1 c1, .slice p2 k2 c2] 75)) := (Below.refl _ _).alloc (Nat.le_refl _) _
        obtain ⟨cur, hcur, hfit, hnew, hbel⟩ := (HN2.out.later hal2).push (by rw [hql]; exact hkl) (HV2.out.later hal2)
        have hnb := heap_alloc_new (w1.alloc (.cells #[.bool sg, .slice p1 k1 c1, .slice p2 k2 c2] 75)) (.cells #[.bool sg, .slice p1 k1 c1, .slice p2 k2 c2] 75)
        rw [World.size_alloc] at hnb
        rw [hql] at hfit hnew hbel
        simp only [List.append_assoc, List.cons_append, List.nil_append] at hnew hbel
        have HNEW := hid hnew
        have HBEL := hid (HB2.out.trans ((hal2.mono (by rw [World.size_alloc]; omega)).trans (hbel w.heap.size (Nat.le_refl _))))
        have HCUR := hid hcur
        have HNB := hid hnb
        have HFIT := hid hfit
        clear hal hbx hal2 hbs hcur hfit hnew hbel hnb HN1 HV1 HB1 HN2 HV2 HB2 hql
        go_wp2_with (at_builtin; refine wpList_append_exact _ rfl _ _ 101 rfl 75 i0 3 Tryz.underlying101 HI.out hz1 w.heap.size k l.length cur rfl HCUR.out ⟨w1.heap.size + 1, 0, none⟩ 1 1 [.bool sg, .slice p1 k1 c1, .slice p2 k2 c2] rfl rfl (World.news_of_block HNB.out) ?qc1 (by omega) HFIT.out ?_)
        case qc1 =>
          intro u hu
          simp only [List.mem_cons, List.not_mem_nil, or_false] at hu
          rcases hu with rfl | rfl | rfl <;> rfl
        clear x0 x1 x2
        go_wp2_with fail
        go_roundw
        case rel => exact ⟨k + 1, hkl, by go_num, rfl, hid (by rw [← HQS.out]; exact HNEW.out), HBEL⟩
        case measure => simp [intOf]; omega
    · obtain rfl : k = l.length := by omega
      have hN := HN.out
      rw [List.take_length] at hN
      have HN' := hid hN
      clear hN HN
      go_wp2_with fail
      go_ret2
      exact ⟨⟨w.heap.size, Nat.le_refl _, rfl, HN'.out⟩, HB.out⟩

def wetQ (ms : Int) (a b : ByteArray) : Rat := ((ms : Int) : Rat) * dryQ (numQ a.data.toList) / dryQ (numQ b.data.toList)
def MoistOk (s : ByteArray) : Prop := s.size ≤ 1073741824 ∧ checkR s.data.toList = 0 ∧ 0 ≤ sgn (numQ s.data.toList) ∧ 0 < sgn (dryQ (numQ s.data.toList))

theorem sgn_ne {q : Rat} (h : 0 < sgn q) : q.num ≠ 0 := by
  intro h0
  unfold sgn at h
  rw [h0] at h
  exact absurd h (by decide)

set_option maxRecDepth 100000 in
set_option maxHeartbeats 4000000 in
theorem wet_good (ms : Int) (a b : ByteArray) (w : World) (hg : GW w) (h0 : 0 ≤ ms) (h1 : ms ≤ 999999999) (ha : MoistOk a) (hb : MoistOk b) :
    Calls Tryz.prog 19 #[.int .i64 ms, .string a, .string b] w fun e w' => e = .returned (.tuple #[.string (wtext (wetQ ms a b)), .int .i64 (werr (wetQ ms a b) : Nat)]) ∧ Below w.heap.size w w' := by
  have hal : Below w.heap.size w (w.alloc (.cells #[.string a, .string b] 37)) := (Below.refl _ _).alloc (Nat.le_refl _) _
  have HAL := hid hal
  have HEM := hid (each_moist [a, b] w.heap.size 0 2 (w.alloc (.cells #[.string a, .string b] 37)) (hg.later hal) (fun i s hi => by
    match i, hi with
    | 0, hi => cases hi; simp
    | 1, hi => cases hi; simp) (by show 2 ≤ 1048576; omega) (fun s hs => by
    simp only [List.mem_cons, List.not_mem_nil, or_false] at hs
    rcases hs with rfl | rfl
    · exact ha
    · exact hb))
  have bm := bd_int ms h0 h1
  have ba := bd_sub (bd_int 100 (by omega) (by omega)) (bd_num ha.2.1)
  have bb := bd_sub (bd_int 100 (by omega) (by omega)) (bd_num hb.2.1)
  have HCAP : Hid (rs ((ms : Int) : Rat) + rs (dryQ (numQ a.data.toList)) ≤ Cap ∧ rs (((ms : Int) : Rat) * dryQ (numQ a.data.toList)) + rs (dryQ (numQ b.data.toList)) ≤ Cap ∧ rs (wetQ ms a b) ≤ Cap) := hid (by
    have a1 := bm.rs; have a2 := ba.rs; have a3 := bb.rs; have a4 := (bd_mul bm ba).rs; have a5 := (bd_div (bd_mul bm ba) bb).rs
    unfold wetQ dryQ Cap; omega)
  have HNZ := hid (sgn_ne hb.2.2.2)
  have hn0 : ¬ ms < 0 := by omega
  have hn1 : ¬ 999999999 < ms := by omega
  have HWQ : Hid (wetQ ms a b = ((ms : Int) : Rat) * dryQ (numQ a.data.toList) / dryQ (numQ b.data.toList)) := hid rfl
  have hm1 : -9223372036854775808 ≤ ms ∧ ms ≤ 9223372036854775807 := by omega
  have HM1 := hid hm1
  clear hm1 hal ha hb hg bm ba bb
  simp only [List.map_cons, List.map_nil, List.length_cons, List.length_nil, Nat.zero_add, Nat.reduceAdd] at HEM
  generalize wetQ ms a b = wq at *
  generalize dryQ (numQ a.data.toList) = da at *
  generalize dryQ (numQ b.data.toList) = db at *
  go_enter Tryz.func19, Tryz.ntmps19
  go_wp2_with fail
  refine HEM.out.mono ?_
  rintro e w1 ⟨⟨g, hgg, rfl, hn⟩, hb⟩
  have HB := hid (HAL.out.trans (hb.mono HAL.out.size))
  obtain ⟨x, ⟨e0, e1, e2⟩, hx⟩ := (Nums.at hn).nv 0 da rfl
  obtain ⟨y, ⟨e3, e4, e5⟩, hy⟩ := (Nums.at hn).nv 1 db rfl
  simp only [Nat.zero_mul, Nat.zero_add, Nat.one_mul, Nat.reduceAdd] at e0 e1 e2 e3 e4 e5
  have HXY : Hid (NumV w1 (.agg #[.bool x.b, .slice x.p x.k x.c, .slice x.q x.j x.d]) da ∧ NumV w1 (.agg #[.bool y.b, .slice y.p y.k y.c, .slice y.q y.j y.d]) db) := hid ⟨hx, hy⟩
  have eZ : w1.cell? ⟨g, 0, none⟩ = some (.bool x.b) ∧ w1.cell? ⟨g, 1, none⟩ = some (.slice x.p x.k x.c) ∧ w1.cell? ⟨g, 2, none⟩ = some (.slice x.q x.j x.d) ∧ w1.cell? ⟨g, 3, none⟩ = some (.bool y.b) ∧ w1.cell? ⟨g, 4, none⟩ = some (.slice y.p y.k y.c) ∧ w1.cell? ⟨g, 5, none⟩ = some (.slice y.q y.j y.d) := ⟨e0, e1, e2, e3, e4, e5⟩
  have HC : Hid (∀ W, Below w1.heap.size w1 W → W.cell? ⟨g, 0, none⟩ = some (.bool x.b) ∧ W.cell? ⟨g, 1, none⟩ = some (.slice x.p x.k x.c) ∧ W.cell? ⟨g, 2, none⟩ = some (.slice x.q x.j x.d) ∧ W.cell? ⟨g, 3, none⟩ = some (.bool y.b) ∧ W.cell? ⟨g, 4, none⟩ = some (.slice y.p y.k y.c) ∧ W.cell? ⟨g, 5, none⟩ = some (.slice y.q y.j y.d)) := hid fun W hW => by
    obtain ⟨h0, h1, h2, h3, h4, h5⟩ := eZ
    refine ⟨?_, ?_, ?_, ?_, ?_, ?_⟩
    · rw [hW.cell (World.block_lt_of_cell? w1 _ h0)]; exact h0
    · rw [hW.cell (World.block_lt_of_cell? w1 _ h1)]; exact h1
    · rw [hW.cell (World.block_lt_of_cell? w1 _ h2)]; exact h2
    · rw [hW.cell (World.block_lt_of_cell? w1 _ h3)]; exact h3
    · rw [hW.cell (World.block_lt_of_cell? w1 _ h4)]; exact h4
    · rw [hW.cell (World.block_lt_of_cell? w1 _ h5)]; exact h5
  clear hx hy hn hgg hb HEM e0 e1 e2 e3 e4 e5
  go_wp2_with fail
  have HBX : Hid (Below w1.heap.size w1 w1.drew) := hid ((Below.refl _ _).drew)
  go_region_held3 (fun W => W.cell? ⟨g, 0, none⟩ = some (.bool x.b) ∧ W.cell? ⟨g, 1, none⟩ = some (.slice x.p x.k x.c) ∧ W.cell? ⟨g, 2, none⟩ = some (.slice x.q x.j x.d) ∧ W.cell? ⟨g, 3, none⟩ = some (.bool y.b) ∧ W.cell? ⟨g, 4, none⟩ = some (.slice y.p y.k y.c) ∧ W.cell? ⟨g, 5, none⟩ = some (.slice y.q y.j y.d)) (first | with_reducible exact eA | with_reducible exact eB | with_reducible exact eC | with_reducible exact eD | exact eZ)
    (first
      | (go_at_call 39; ((with_reducible refine (call_nv (whole_any ms _ HM1.out.1 HM1.out.2)).mono ?_); rintro e wA ⟨⟨t1, rfl, hn⟩, hb⟩; have HV1 := hid hn; have HBA : Hid (Below w1.heap.size w1 wA) := hid (HBX.out.trans hb); have eA := HC.out _ HBA.out; clear hn hb))
      | (go_at_call 41; ((with_reducible refine (call_nv (times_any _ _ _ _ wA HV1.out (HXY.out.1.later HBA.out) HCAP.out.1)).mono ?_); rintro e wB ⟨⟨t2, rfl, hn⟩, hb⟩; have HV2 := hid hn; have HBB := hid (HBA.out.trans (hb.mono HBA.out.size)); have eB := HC.out _ HBB.out; clear hn hb))
      | (go_at_call 43; ((with_reducible refine (call_nv (over_some _ _ _ _ wB HV2.out (HXY.out.2.later HBB.out) HNZ.out HCAP.out.2.1)).mono ?_); rintro e wC ⟨⟨t3, rfl, hn⟩, hb⟩; rw [← HWQ.out] at hn; have HV3 := hid hn; have HBC := hid (HBB.out.trans (hb.mono HBB.out.size)); have eC := HC.out _ HBC.out; clear hn hb))
      | (go_at_call 31; ((with_reducible refine (write_any _ _ wC HV3.out HCAP.out.2.2).mono ?_); rintro e wD h; obtain ⟨rfl, hb⟩ := ratOf_w h; have HBD := hid (HBC.out.trans (hb.mono HBC.out.size)); have eD := HC.out _ HBD.out; clear hb h)))
  all_goals
    go_wp2_with fail
    go_ret2
    exact ⟨rfl, HB.out.trans (HBD.out.mono HB.out.size)⟩
end Go.Proofs.YtocoghnopmjceaaGreatDoor

