/-
  rounded: a number that is rounded by a rule.
-/
import Derived.Test.YtocoghnopmjceaaGreatDoorMReadRuleB
namespace Go.Proofs.YtocoghnopmjceaaGreatDoor
open Go.RowKit

/-- The lesser multiple's number, or the next one. -/
def roundN (f : Nat) (q : Rat) : Rat :=
  if goesUpOf f (cmpQ (q - (q.floor : Rat)) (1 / 2)) (!decide (((q.floor : Rat) / 2).den = 1)) then (q.floor : Rat) + 1 else (q.floor : Rat)

/-- A number rounded by a rule. -/
def roundQ (f : Nat) (a s : Rat) : Rat := if (a / s).den = 1 then a else roundN f (a / s) * s

theorem ruleFn_four {k : ByteArray} {f : Nat} (h : ruleFn k = some f) : f = 100 ∨ f = 101 ∨ f = 102 ∨ f = 103 := by
  unfold ruleFn at h
  split at h
  · cases h; exact .inl rfl
  split at h
  · cases h; exact .inr (.inl rfl)
  split at h
  · cases h; exact .inr (.inr (.inl rfl))
  split at h
  · cases h; exact .inr (.inr (.inr rfl))
  · cases h

/-- The state inside rounded. -/
def RndIn (w : World) (rf : Value) (rb : Bool) (rt rbo : Value) (na : Bool) (ta ba : Value) (W : World) : Prop :=
  Below w.heap.size w W ∧ Own W w.heap.size 4 (four rf (.bool rb) rt rbo) ∧ Own W (w.heap.size + 1) 3 (numCell na ta ba) ∧ Own W (w.heap.size + 1 + 1) 3 (numCell false (.slice none 0 0) (.slice none 0 0))

section
variable {w W W' : World} {rf : Value} {rb : Bool} {rt rbo : Value} {na : Bool} {ta ba : Value}

theorem RndIn.later (h : RndIn w rf rb rt rbo na ta ba W) (hb : Below W.heap.size W W') : RndIn w rf rb rt rbo na ta ba W' := by
  obtain ⟨h1, h2, h3, h4⟩ := h
  exact ⟨h1.trans (hb.mono h1.size), h2.later (hb.mono h2.1), h3.later (hb.mono h3.1), h4.later (hb.mono h4.1)⟩

theorem RndIn.set (h : RndIn w rf rb rt rbo na ta ba W) {g : Nat} (hg : w.heap.size + 1 + 1 < g) (o : Nat) (x : Value) : RndIn w rf rb rt rbo na ta ba (W.setCell ⟨g, o, none⟩ x) := by
  obtain ⟨h1, h2, h3, h4⟩ := h
  have hb : Below (w.heap.size + 1 + 1 + 1) W (W.setCell ⟨g, o, none⟩ x) := (Below.refl _ _).setCell hg x
  exact ⟨h1.setCell (by show w.heap.size ≤ g; omega) x, h2.later (hb.mono (by omega)), h3.later (hb.mono (by omega)), h4.later hb⟩

theorem rnd_start (w : World) (rf : Value) (rb : Bool) (rt rbo : Value) (na : Bool) (ta ba : Value) :
    RndIn w rf rb rt rbo na ta ba (((w.alloc (.cells #[rf, .bool rb, rt, rbo] 83)).alloc (.cells #[.bool na, ta, ba] 75)).alloc (.cells #[.bool false, .slice none 0 0, .slice none 0 0] 75)) := by
  have h1 := own_four w 83 rf (.bool rb) rt rbo
  have h2 := own3 (w.alloc (.cells #[rf, .bool rb, rt, rbo] 83)) na ta ba
  have h3 := own3 ((w.alloc (.cells #[rf, .bool rb, rt, rbo] 83)).alloc (.cells #[.bool na, ta, ba] 75)) false (.slice none 0 0) (.slice none 0 0)
  simp only [World.size_alloc] at h2 h3
  have al : ∀ (V : World) (o : Obj), Below V.heap.size V (V.alloc o) := fun V o => (Below.refl _ _).alloc (Nat.le_refl _) _
  refine ⟨((al w _).trans ((al _ _).mono (by rw [World.size_alloc]; omega))).trans ((al _ _).mono (by rw [World.size_alloc, World.size_alloc]; omega)), ?_, ?_, h3⟩
  · exact (h1.later ((al _ _).mono (by rw [World.size_alloc]; omega))).later ((al _ _).mono (by rw [World.size_alloc, World.size_alloc]; omega))
  · exact h2.later ((al _ _).mono (by rw [World.size_alloc, World.size_alloc]; omega))

theorem rnd_cells (h : RndIn w rf rb rt rbo na ta ba W) : W.cell? ⟨w.heap.size, 0, none⟩ = some rf ∧ W.cell? ⟨w.heap.size, 1, none⟩ = some (.bool rb) ∧ W.cell? ⟨w.heap.size, 2, none⟩ = some rt ∧ W.cell? ⟨w.heap.size, 3, none⟩ = some rbo ∧
    W.cell? ⟨w.heap.size + 1, 0, none⟩ = some (.bool na) ∧ W.cell? ⟨w.heap.size + 1, 1, none⟩ = some ta ∧ W.cell? ⟨w.heap.size + 1, 2, none⟩ = some ba :=
  ⟨(h.2.1.2 0 (by omega)).1, (h.2.1.2 1 (by omega)).1, (h.2.1.2 2 (by omega)).1, (h.2.1.2 3 (by omega)).1, (h.2.2.1.2 0 (by omega)).1, (h.2.2.1.2 1 (by omega)).1, (h.2.2.1.2 2 (by omega)).1⟩

theorem rnd_out (h : RndIn w rf rb rt rbo na ta ba W) :
    (W.cell? ⟨w.heap.size + 1 + 1, 0, none⟩ = some (.bool false) ∧ W.frozen? ⟨w.heap.size + 1 + 1, 0, none⟩ = false) ∧
    (W.cell? ⟨w.heap.size + 1 + 1, 1, none⟩ = some (.slice none 0 0) ∧ W.frozen? ⟨w.heap.size + 1 + 1, 1, none⟩ = false) ∧
    (W.cell? ⟨w.heap.size + 1 + 1, 2, none⟩ = some (.slice none 0 0) ∧ W.frozen? ⟨w.heap.size + 1 + 1, 2, none⟩ = false) :=
  ⟨h.2.2.2.2 0 (by omega), h.2.2.2.2 1 (by omega), h.2.2.2.2 2 (by omega)⟩

theorem rnd_call {f : FuncId} {args : Array Value} {P : Ending → World → Prop} (hW : RndIn w rf rb rt rbo na ta ba W)
    (h : Calls Tryz.prog f args W fun e w' => P e w' ∧ Below W.heap.size W w') : Calls Tryz.prog f args W fun e w' => P e w' ∧ RndIn w rf rb rt rbo na ta ba w' ∧ Below W.heap.size W w' :=
  h.mono fun _ _ ⟨h1, h2⟩ => ⟨h1, hW.later h2, h2⟩
end

/-- A box that is made for a number. -/
theorem box_new (W : World) (sg : Bool) (t b : Value) : Below W.heap.size W (W.alloc (.cells #[.bool sg, t, b] 75)) ∧ Own (W.alloc (.cells #[.bool sg, t, b] 75)) W.heap.size 3 (numCell sg t b) :=
  ⟨(Below.refl _ _).alloc (Nat.le_refl _) _, own3 _ _ _ _⟩

set_option maxRecDepth 100000 in
set_option maxHeartbeats 4000000 in
theorem rounded_whole (f : Nat) (rb : Bool) (rt rbo : Value) (va : Value) (a s : Rat) (w : World) (hs : NumV w (.agg #[.bool rb, rt, rbo]) s) (ha : NumV w va a) (hs0 : s.num ≠ 0) (m : Nat) (hma : bd a m) (hms : bd s m) (hm1 : 1 ≤ m) (hc : m ≤ 1048576) (hw : (a / s).den = 1) :
    Calls Tryz.prog 34 #[.agg #[.func (.func f) #[] #[], .bool rb, rt, rbo], va] w fun e w' => (∃ v', e = .returned v' ∧ NumV w' v' a) ∧ Below w.heap.size w w' := by
  have HA := hid ha
  obtain ⟨pa1, ka1, ca1, pa2, ka2, ca2, rfl, ha1, ha2⟩ := ha.parts
  obtain ⟨ps1, ks1, cs1, ps2, ks2, cs2, he, hs1, hs2⟩ := hs.parts
  simp only [Value.agg.injEq, Array.mk.injEq, List.cons.injEq, and_true, Value.bool.injEq] at he
  obtain ⟨hrb, hrt, hrbo⟩ := he
  have HS := hid hs
  have HW0 := hid (rnd_start w (.func (.func f) #[] #[]) rb rt rbo (decide (a.num < 0)) (.slice pa1 ka1 ca1) (.slice pa2 ka2 ca2))
  have hq := bd_div hma hms
  have HOV : Hid (∀ W, RndIn w (.func (.func f) #[] #[]) rb rt rbo (decide (a.num < 0)) (.slice pa1 ka1 ca1) (.slice pa2 ka2 ca2) W → Calls Tryz.prog 43 #[.agg #[.bool (decide (a.num < 0)), .slice pa1 ka1 ca1, .slice pa2 ka2 ca2], .agg #[.bool rb, rt, rbo]] W fun e w' => (∃ v', e = .returned v' ∧ NumV w' v' (a / s)) ∧ RndIn w (.func (.func f) #[] #[]) rb rt rbo (decide (a.num < 0)) (.slice pa1 ka1 ca1) (.slice pa2 ka2 ca2) w' ∧ Below W.heap.size W w') := hid fun W hW => rnd_call hW (over_some _ _ a s W (HA.out.later hW.1) (HS.out.later hW.1) hs0 (by have := hma.rs; have := hms.rs; unfold Cap; omega))
  have HIW : Hid (∀ W v, RndIn w (.func (.func f) #[] #[]) rb rt rbo (decide (a.num < 0)) (.slice pa1 ka1 ca1) (.slice pa2 ka2 ca2) W → NumV W v (a / s) → Calls Tryz.prog 64 #[v] W fun e w' => e = .returned (.bool (decide ((a / s).den = 1))) ∧ RndIn w (.func (.func f) #[] #[]) rb rt rbo (decide (a.num < 0)) (.slice pa1 ka1 ca1) (.slice pa2 ka2 ca2) w' ∧ Below W.heap.size W w') := hid fun W v hW hv => rnd_call hW (isWhole_any v _ W hv)
  rw [decide_eq_true hw] at HIW
  subst hrb hrt hrbo
  clear ha ha1 ha2 hs hs1 hs2 hma hms hm1 hc hs0 hq
  generalize decide (a.num < 0) = na at *
  generalize decide (s.num < 0) = rb at *
  go_enter Tryz.func34, Tryz.ntmps34
  go_wp2_with fail
  generalize ((w.alloc (.cells #[.func (.func f) #[] #[], .bool rb, .slice ps1 ks1 cs1, .slice ps2 ks2 cs2] 83)).alloc (.cells #[.bool na, .slice pa1 ka1 ca1, .slice pa2 ka2 ca2] 75)).alloc (.cells #[.bool false, .slice none 0 0, .slice none 0 0] 75) = w0 at *
  obtain ⟨c0, c1, c2, c3, c4, c5, c6⟩ := rnd_cells HW0.out
  go_wp2_with fail
  refine (HOV.out _ HW0.out).mono ?_
  clear c0 c1 c2 c3 c4 c5 c6
  rintro e w1 ⟨⟨v1, rfl, hv⟩, hr, hb⟩
  obtain ⟨p1, k1, l1, p2, k2, l2, rfl, hp1, hp2⟩ := hv.parts
  clear hp1 hp2
  obtain ⟨hal, hbx⟩ := box_new w1 (decide ((a / s).num < 0)) (.slice p1 k1 l1) (.slice p2 k2 l2)
  have HR := hid (hr.later hal)
  have HV := hid (hv.later hal)
  have HX := hid hbx
  have hlt1 : w.heap.size + 1 + 1 < w1.heap.size := hr.2.2.2.1
  clear hr hv hb hal hbx HOV HW0
  generalize decide ((a / s).num < 0) = s1 at *
  go_wp2_with fail
  refine (HIW.out _ _ HR.out HV.out).mono ?_
  rintro e w2 ⟨rfl, hr, hb⟩
  have HR2 := hid hr
  have HV2 := hid (HV.out.later hb)
  have HX2 := hid (HX.out.later (hb.mono HX.out.1))
  clear hr hb HR HV HX HIW
  generalize w1.heap.size = B5 at *
  obtain ⟨c0, c1, c2, c3, c4, c5, c6⟩ := rnd_cells HR2.out
  obtain ⟨⟨r0, g0⟩, ⟨r1, g1⟩, ⟨r2, g2⟩⟩ := rnd_out HR2.out
  have HFIN := hid (num_stored (HA.out.later HR2.out.1) r0 r1 r2)
  have HBEL := hid (below_stored HR2.out.1 (show w.heap.size ≤ w.heap.size + 1 + 1 by omega) (.bool na) (.slice pa1 ka1 ca1) (.slice pa2 ka2 ca2))
  clear HR2 HV2 HX2
  go_wp2_with fail
  refine bodyPost_ret (v := .agg #[.bool na, .slice pa1 ka1 ca1, .slice pa2 ka2 ca2]) ?_ rfl ?_
  · simp [results, Tryz.results34, go_sem, r0, r1, r2]
  · exact ⟨⟨_, rfl, HFIN.out⟩, HBEL.out⟩

set_option maxRecDepth 100000 in
set_option maxHeartbeats 8000000 in
theorem rounded_step1 (rb : Bool) (rt rbo : Value) (va : Value) (a s : Rat) (w : World) (hs : NumV w (.agg #[.bool rb, rt, rbo]) s) (ha : NumV w va a) (hs0 : s.num ≠ 0) (m : Nat) (hma : bd a m) (hms : bd s m) (hm1 : 1 ≤ m) (hc : m ≤ 1048576) (kk : ByteArray) (hff : ruleFn kk = some 100) (hw : ¬ (a / s).den = 1) :
    Calls Tryz.prog 34 #[.agg #[.func (.func 100) #[] #[], .bool rb, rt, rbo], va] w fun e w' => (∃ v', e = .returned v' ∧ NumV w' v' (roundN 100 (a / s) * s)) ∧ Below w.heap.size w w' := by
  have HA := hid ha
  obtain ⟨pa1, ka1, ca1, pa2, ka2, ca2, rfl, ha1, ha2⟩ := ha.parts
  obtain ⟨ps1, ks1, cs1, ps2, ks2, cs2, he, hs1, hs2⟩ := hs.parts
  simp only [Value.agg.injEq, Array.mk.injEq, List.cons.injEq, and_true, Value.bool.injEq] at he
  obtain ⟨hrb, hrt, hrbo⟩ := he
  have HS := hid hs
  have HW0 := hid (rnd_start w (.func (.func 100) #[] #[]) rb rt rbo (decide (a.num < 0)) (.slice pa1 ka1 ca1) (.slice pa2 ka2 ca2))
  have hq := bd_div hma hms
  have HOV : Hid (∀ W, RndIn w (.func (.func 100) #[] #[]) rb rt rbo (decide (a.num < 0)) (.slice pa1 ka1 ca1) (.slice pa2 ka2 ca2) W → Calls Tryz.prog 43 #[.agg #[.bool (decide (a.num < 0)), .slice pa1 ka1 ca1, .slice pa2 ka2 ca2], .agg #[.bool rb, rt, rbo]] W fun e w' => (∃ v', e = .returned v' ∧ NumV w' v' (a / s)) ∧ RndIn w (.func (.func 100) #[] #[]) rb rt rbo (decide (a.num < 0)) (.slice pa1 ka1 ca1) (.slice pa2 ka2 ca2) w' ∧ Below W.heap.size W w') := hid fun W hW => rnd_call hW (over_some _ _ a s W (HA.out.later hW.1) (HS.out.later hW.1) hs0 (by have := hma.rs; have := hms.rs; unfold Cap; omega))
  have HIW : Hid (∀ W v, RndIn w (.func (.func 100) #[] #[]) rb rt rbo (decide (a.num < 0)) (.slice pa1 ka1 ca1) (.slice pa2 ka2 ca2) W → NumV W v (a / s) → Calls Tryz.prog 64 #[v] W fun e w' => e = .returned (.bool (decide ((a / s).den = 1))) ∧ RndIn w (.func (.func 100) #[] #[]) rb rt rbo (decide (a.num < 0)) (.slice pa1 ka1 ca1) (.slice pa2 ka2 ca2) w' ∧ Below W.heap.size W w') := hid fun W v hW hv => rnd_call hW (isWhole_any v _ W hv)
  have hfl := bd_floor hq (by omega)
  have HFL : Hid (∀ W v, RndIn w (.func (.func 100) #[] #[]) rb rt rbo (decide (a.num < 0)) (.slice pa1 ka1 ca1) (.slice pa2 ka2 ca2) W → NumV W v (a / s) → Calls Tryz.prog 65 #[v] W fun e w' => (∃ v', e = .returned v' ∧ NumV w' v' ((a / s).floor : Rat)) ∧ RndIn w (.func (.func 100) #[] #[]) rb rt rbo (decide (a.num < 0)) (.slice pa1 ka1 ca1) (.slice pa2 ka2 ca2) w' ∧ Below W.heap.size W w') := hid fun W v hW hv => rnd_call hW (floor_any v _ W hv (by have := hq.rs; unfold Cap; omega))
  have HMI : Hid (∀ W v v', RndIn w (.func (.func 100) #[] #[]) rb rt rbo (decide (a.num < 0)) (.slice pa1 ka1 ca1) (.slice pa2 ka2 ca2) W → NumV W v (a / s) → NumV W v' ((a / s).floor : Rat) → Calls Tryz.prog 66 #[v, v'] W fun e w' => (∃ v', e = .returned v' ∧ NumV w' v' (a / s - ((a / s).floor : Rat))) ∧ RndIn w (.func (.func 100) #[] #[]) rb rt rbo (decide (a.num < 0)) (.slice pa1 ka1 ca1) (.slice pa2 ka2 ca2) w' ∧ Below W.heap.size W w') := hid fun W v v' hW hv hv' => rnd_call hW (minus_any v v' _ _ W hv hv' (by have := hq.rs; have := hfl.rs; unfold Cap; omega))
  have HW1 : Hid (∀ W, RndIn w (.func (.func 100) #[] #[]) rb rt rbo (decide (a.num < 0)) (.slice pa1 ka1 ca1) (.slice pa2 ka2 ca2) W → Calls Tryz.prog 39 #[.int .i64 1] W fun e w' => (∃ v', e = .returned v' ∧ NumV w' v' 1) ∧ RndIn w (.func (.func 100) #[] #[]) rb rt rbo (decide (a.num < 0)) (.slice pa1 ka1 ca1) (.slice pa2 ka2 ca2) w' ∧ Below W.heap.size W w') := hid fun W hW => rnd_call hW (whole_any 1 W (by omega) (by omega))
  have HH1 : Hid (∀ W v, RndIn w (.func (.func 100) #[] #[]) rb rt rbo (decide (a.num < 0)) (.slice pa1 ka1 ca1) (.slice pa2 ka2 ca2) W → NumV W v 1 → Calls Tryz.prog 67 #[v] W fun e w' => (∃ v', e = .returned v' ∧ NumV w' v' (1 / 2)) ∧ RndIn w (.func (.func 100) #[] #[]) rb rt rbo (decide (a.num < 0)) (.slice pa1 ka1 ca1) (.slice pa2 ka2 ca2) w' ∧ Below W.heap.size W w') := hid fun W v hW hv => rnd_call hW (half_any v 1 W hv 1 (bd_whole 1 (by omega) (by omega)) (by omega))
  have HCM : Hid (∀ W v v', RndIn w (.func (.func 100) #[] #[]) rb rt rbo (decide (a.num < 0)) (.slice pa1 ka1 ca1) (.slice pa2 ka2 ca2) W → NumV W v (a / s - ((a / s).floor : Rat)) → NumV W v' (1 / 2) → Calls Tryz.prog 38 #[v, v'] W fun e w' => e = .returned (.int .i64 (cmpQ (a / s - ((a / s).floor : Rat)) (1 / 2))) ∧ RndIn w (.func (.func 100) #[] #[]) rb rt rbo (decide (a.num < 0)) (.slice pa1 ka1 ca1) (.slice pa2 ka2 ca2) w' ∧ Below W.heap.size W w') := hid fun W v v' hW hv hv' => rnd_call hW (compareQ_any v v' _ _ W hv hv' (by have := (bd_sub hq hfl).rs; have := (bd_div (bd_whole 1 (by omega) (by omega)) (bd_whole 2 (by omega) (by omega))).rs; have h3 : rs (1 / 2 : Rat) ≤ 6 := this; unfold Cap; omega))
  have HH2 : Hid (∀ W v, RndIn w (.func (.func 100) #[] #[]) rb rt rbo (decide (a.num < 0)) (.slice pa1 ka1 ca1) (.slice pa2 ka2 ca2) W → NumV W v ((a / s).floor : Rat) → Calls Tryz.prog 67 #[v] W fun e w' => (∃ v', e = .returned v' ∧ NumV w' v' (((a / s).floor : Rat) / 2)) ∧ RndIn w (.func (.func 100) #[] #[]) rb rt rbo (decide (a.num < 0)) (.slice pa1 ka1 ca1) (.slice pa2 ka2 ca2) w' ∧ Below W.heap.size W w') := hid fun W v hW hv => rnd_call hW (half_any v _ W hv _ hfl (by omega))
  have HI2 : Hid (∀ W v, RndIn w (.func (.func 100) #[] #[]) rb rt rbo (decide (a.num < 0)) (.slice pa1 ka1 ca1) (.slice pa2 ka2 ca2) W → NumV W v (((a / s).floor : Rat) / 2) → Calls Tryz.prog 64 #[v] W fun e w' => e = .returned (.bool (decide ((((a / s).floor : Rat) / 2).den = 1))) ∧ RndIn w (.func (.func 100) #[] #[]) rb rt rbo (decide (a.num < 0)) (.slice pa1 ka1 ca1) (.slice pa2 ka2 ca2) w' ∧ Below W.heap.size W w') := hid fun W v hW hv => rnd_call hW (isWhole_any v _ W hv)
  have HGU : Hid (∀ W side o, RndIn w (.func (.func 100) #[] #[]) rb rt rbo (decide (a.num < 0)) (.slice pa1 ka1 ca1) (.slice pa2 ka2 ca2) W → Calls Tryz.prog 100 #[.int .i64 side, .bool o] W fun e w' => e = .returned (.bool (goesUpOf 100 side o)) ∧ w' = W) := hid fun W side o _ => goesUp_any kk 100 hff side o W
  have HP1 : Hid (∀ W v v', RndIn w (.func (.func 100) #[] #[]) rb rt rbo (decide (a.num < 0)) (.slice pa1 ka1 ca1) (.slice pa2 ka2 ca2) W → NumV W v ((a / s).floor : Rat) → NumV W v' 1 → Calls Tryz.prog 68 #[v, v'] W fun e w' => (∃ v', e = .returned v' ∧ NumV w' v' (((a / s).floor : Rat) + 1)) ∧ RndIn w (.func (.func 100) #[] #[]) rb rt rbo (decide (a.num < 0)) (.slice pa1 ka1 ca1) (.slice pa2 ka2 ca2) w' ∧ Below W.heap.size W w') := hid fun W v v' hW hv hv' => rnd_call hW (plus_any v v' _ _ W hv hv' (by have := hfl.rs; have h3 : rs (1 : Rat) ≤ 2 := (bd_whole 1 (by omega) (by omega)).rs; unfold Cap; omega))
  have hl1 : ∀ l, l = ((a / s).floor : Rat) ∨ l = ((a / s).floor : Rat) + 1 → bd l (m + m + 1 + 1 + 1 + 1) := by
    rintro l (rfl | rfl)
    · exact hfl.mono (by omega)
    · exact (bd_add hfl (bd_whole 1 (by omega) (by omega))).mono (by omega)
  have HTM : Hid (∀ W v l, l = ((a / s).floor : Rat) ∨ l = ((a / s).floor : Rat) + 1 → RndIn w (.func (.func 100) #[] #[]) rb rt rbo (decide (a.num < 0)) (.slice pa1 ka1 ca1) (.slice pa2 ka2 ca2) W → NumV W v l → Calls Tryz.prog 41 #[v, .agg #[.bool rb, rt, rbo]] W fun e w' => (∃ v', e = .returned v' ∧ NumV w' v' (l * s)) ∧ RndIn w (.func (.func 100) #[] #[]) rb rt rbo (decide (a.num < 0)) (.slice pa1 ka1 ca1) (.slice pa2 ka2 ca2) w' ∧ Below W.heap.size W w') := hid fun W v l hl hW hv => rnd_call hW (times_any v _ _ _ W hv (HS.out.later hW.1) (by have := (hl1 l hl).rs; have := hms.rs; unfold Cap; omega))
  rw [decide_eq_false hw] at HIW
  have HRN : Hid (roundN 100 (a / s) = if goesUpOf 100 (cmpQ (a / s - ((a / s).floor : Rat)) (1 / 2)) (!decide ((((a / s).floor : Rat) / 2).den = 1)) then ((a / s).floor : Rat) + 1 else ((a / s).floor : Rat)) := hid rfl
  clear hl1 hfl
  generalize ((a / s).floor : Rat) = fl at *
  generalize a / s - fl = dq at *
  generalize cmpQ dq (1 / 2) = side at *
  generalize decide ((fl / 2).den = 1) = ev at *
  clear hff
  subst hrb hrt hrbo
  clear ha ha1 ha2 hs hs1 hs2 hma hms hm1 hc hs0 hq
  generalize decide (a.num < 0) = na at *
  generalize decide (s.num < 0) = rb at *
  go_enter Tryz.func34, Tryz.ntmps34
  go_wp2_with fail
  generalize ((w.alloc (.cells #[.func (.func 100) #[] #[], .bool rb, .slice ps1 ks1 cs1, .slice ps2 ks2 cs2] 83)).alloc (.cells #[.bool na, .slice pa1 ka1 ca1, .slice pa2 ka2 ca2] 75)).alloc (.cells #[.bool false, .slice none 0 0, .slice none 0 0] 75) = w0 at *
  obtain ⟨c0, c1, c2, c3, c4, c5, c6⟩ := rnd_cells HW0.out
  go_wp2_with fail
  refine (HOV.out _ HW0.out).mono ?_
  clear c0 c1 c2 c3 c4 c5 c6
  rintro e w1 ⟨⟨v1, rfl, hv⟩, hr, hb⟩
  obtain ⟨p1, k1, l1, p2, k2, l2, rfl, hp1, hp2⟩ := hv.parts
  clear hp1 hp2
  obtain ⟨hal, hbx⟩ := box_new w1 (decide ((a / s).num < 0)) (.slice p1 k1 l1) (.slice p2 k2 l2)
  have HR := hid (hr.later hal)
  have HV := hid (hv.later hal)
  have HX := hid hbx
  have hlt1 : w.heap.size + 1 + 1 < w1.heap.size := hr.2.2.2.1
  clear hr hv hb hal hbx HOV HW0
  generalize decide ((a / s).num < 0) = s1 at *
  go_wp2_with fail
  refine (HIW.out _ _ HR.out HV.out).mono ?_
  rintro e w2 ⟨rfl, hr, hb⟩
  have HR2 := hid hr
  have HV2 := hid (HV.out.later hb)
  have HX2 := hid (HX.out.later (hb.mono HX.out.1))
  clear hr hb HR HV HX HIW
  generalize w1.heap.size = B5 at *
  obtain ⟨x0, x1, x2⟩ := box_cells HX2.out
  go_wp2_with fail
  refine (HFL.out _ _ HR2.out HV2.out).mono ?_
  clear x0 x1 x2
  rintro e w3 ⟨⟨v3, rfl, hv⟩, hr, hb⟩
  obtain ⟨p3, k3, l3, p4, k4, l4, rfl, hp1, hp2⟩ := hv.parts
  clear hp1 hp2
  obtain ⟨hal, hbx⟩ := box_new w3 (decide (fl.num < 0)) (.slice p3 k3 l3) (.slice p4 k4 l4)
  have HR3 := hid (hr.later hal)
  have HF3 := hid (hv.later hal)
  have HV3 := hid ((HV2.out.later hb).later hal)
  have HX3 := hid ((HX2.out.later (hb.mono HX2.out.1)).later (hal.mono (by have := HX2.out.1; have := hb.size; omega)))
  have HY3 := hid hbx
  have hlt3 : w.heap.size + 1 + 1 < w3.heap.size := hr.2.2.2.1
  clear hr hv hb hal hbx HR2 HV2 HX2 HFL
  generalize decide (fl.num < 0) = s3 at *
  obtain ⟨x0, x1, x2⟩ := box_cells HX3.out
  go_wp2_with fail
  refine (HMI.out _ _ _ HR3.out HV3.out HF3.out).mono ?_
  clear x0 x1 x2
  rintro e w4 ⟨⟨v4, rfl, hv⟩, hr, hb⟩
  have HD4 := hid hv
  have HR4 := hid hr
  have HF4 := hid (HF3.out.later hb)
  have HY4 := hid (HY3.out.later (hb.mono HY3.out.1))
  clear hv hr hb HR3 HV3 HF3 HX3 HY3 HMI
  go_wp2_with fail
  refine (HW1.out _ HR4.out).mono ?_
  rintro e w5 ⟨⟨v5, rfl, hv⟩, hr, hb⟩
  have HO5 := hid hv
  have HR5 := hid hr
  have HD5 := hid (HD4.out.later hb)
  have HF5 := hid (HF4.out.later hb)
  have HY5 := hid (HY4.out.later (hb.mono HY4.out.1))
  clear hv hr hb HR4 HD4 HF4 HY4
  go_wp2_with fail
  refine (HH1.out _ _ HR5.out HO5.out).mono ?_
  rintro e w6 ⟨⟨v6, rfl, hv⟩, hr, hb⟩
  have HH6 := hid hv
  have HR6 := hid hr
  have HD6 := hid (HD5.out.later hb)
  have HF6 := hid (HF5.out.later hb)
  have HY6 := hid (HY5.out.later (hb.mono HY5.out.1))
  clear hv hr hb HR5 HD5 HF5 HY5 HO5 HH1
  go_wp2_with fail
  refine (HCM.out _ _ _ HR6.out HD6.out HH6.out).mono ?_
  rintro e w7 ⟨rfl, hr, hb⟩
  have HR7 := hid (hr.later ((Below.refl _ _).drew))
  have HF7 := hid ((HF6.out.later hb).later ((Below.refl _ _).drew))
  have HY7 := hid ((HY6.out.later (hb.mono HY6.out.1)).later ((Below.refl _ _).drew))
  clear hr hb HR6 HD6 HF6 HY6 HH6 HCM
  generalize w3.heap.size = B6 at *
  go_wp2_with fail
  have cA := rnd_cells HR7.out
  have xA := box_cells HY7.out
  go_region_held3 (fun W => (W.cell? ⟨w.heap.size, 0, none⟩ = some (.func (.func 100) #[] #[])) ∧ (W.cell? ⟨B6, 0, none⟩ = some (.bool s3) ∧ W.cell? ⟨B6, 1, none⟩ = some (.slice p3 k3 l3) ∧ W.cell? ⟨B6, 2, none⟩ = some (.slice p4 k4 l4))) (first | with_reducible exact ⟨cA.1, xA⟩ | with_reducible exact ⟨cB.1, xB⟩ | with_reducible exact ⟨cC.1, xC⟩)
    (first
      | (go_at_call 67; ((with_reducible refine (HH2.out _ _ HR7.out HF7.out).mono ?_); rintro e wX ⟨⟨vX, rfl, hn⟩, ht, hb⟩; have HVX := hid hn; have HRX := hid ht; have HFX := hid (HF7.out.later hb); have HYX := hid (HY7.out.later (hb.mono HY7.out.1)); have cB := rnd_cells ht; have xB := box_cells HYX.out; clear hn ht hb))
      | (go_at_call 64; ((with_reducible refine (HI2.out _ _ HRX.out HVX.out).mono ?_); rintro e wY ⟨rfl, ht, hb⟩; have HRY := hid ht; have HFY := hid (HFX.out.later hb); have HYY := hid (HYX.out.later (hb.mono HYX.out.1)); have cC := rnd_cells ht; have xC := box_cells HYY.out; clear ht hb))
       | (go_at_call 100; ((refine (HGU.out _ _ _ HRY.out).mono ?_); rintro e wZ ⟨rfl, hwz⟩; rw [hwz]; clear hwz))
      | (go_at_call 101; ((refine (HGU.out _ _ _ HRY.out).mono ?_); rintro e wZ ⟨rfl, hwz⟩; rw [hwz]; clear hwz))
      | (go_at_call 102; ((refine (HGU.out _ _ _ HRY.out).mono ?_); rintro e wZ ⟨rfl, hwz⟩; rw [hwz]; clear hwz))
      | (go_at_call 103; ((refine (HGU.out _ _ _ HRY.out).mono ?_); rintro e wZ ⟨rfl, hwz⟩; rw [hwz]; clear hwz)))
  have HFZ := hid HFY.out
  clear cA xA cB xB cC xC HR7 HF7 HY7 HRX HFX HYX HVX HH2 HI2 HGU
  generalize goesUpOf 100 side (!ev) = gu at *
  cases gu
  · have HE : Hid (roundN 100 (a / s) = fl) := hid HRN.out
    obtain ⟨c0, c1, c2, c3, c4, c5, c6⟩ := rnd_cells HRY.out
    obtain ⟨x0, x1, x2⟩ := box_cells HYY.out
    go_wp2_with fail
    refine (HTM.out _ _ fl (.inl rfl) HRY.out HFY.out).mono ?_
    clear c0 c1 c2 c3 c4 c5 c6 x0 x1 x2
    rintro e wT ⟨⟨vT, rfl, hv⟩, hr, hb⟩
    obtain ⟨pt, kt, ct, pf, kf, cf, rfl, hp1, hp2⟩ := hv.parts
    generalize decide ((fl * s).num < 0) = sg at *
    obtain ⟨⟨r0, g0⟩, ⟨r1, g1⟩, ⟨r2, g2⟩⟩ := rnd_out hr
    have HFIN := hid (num_stored hv r0 r1 r2)
    have HBEL := hid (below_stored hr.1 (show w.heap.size ≤ w.heap.size + 1 + 1 by omega) (.bool sg) (.slice pt kt ct) (.slice pf kf cf))
    clear hp1 hp2 hv hr hb HRY HFY HYY HFZ
    go_wp2_with fail
    refine bodyPost_ret (v := .agg #[.bool sg, .slice pt kt ct, .slice pf kf cf]) ?_ rfl ?_
    · simp [results, Tryz.results34, go_sem, r0, r1, r2]
    · exact ⟨⟨_, rfl, by rw [HE.out]; exact HFIN.out⟩, HBEL.out⟩
  · have HE : Hid (roundN 100 (a / s) = fl + 1) := hid HRN.out
    go_wp2_with fail
    have HRD := hid (HRY.out.later ((Below.refl _ _).drew))
    have HFD := hid (HFY.out.later ((Below.refl _ _).drew))
    have HYD : Hid (Own wY.drew B6 3 (numCell s3 (.slice p3 k3 l3) (.slice p4 k4 l4))) := hid (HYY.out.later ((Below.refl _ _).drew))
    obtain ⟨x0, x1, x2⟩ := box_cells HYD.out
    go_region_with (first
      | (go_at_call 39; ((with_reducible refine (HW1.out _ HRD.out).mono ?_); rintro e wU ⟨⟨vU, rfl, hn⟩, ht, hb⟩; have HVU := hid hn; have HRU := hid ht; have HFU := hid (HFD.out.later hb); have HYU := hid (HYD.out.later (hb.mono HYD.out.1)); clear x0 x1 x2; obtain ⟨x0, x1, x2⟩ := box_cells HYU.out; clear hn ht hb))
      | (go_at_call 68; ((with_reducible refine (HP1.out _ _ _ HRU.out HFU.out HVU.out).mono ?_); rintro e wV ⟨⟨vV, rfl, hn⟩, ht, hb⟩; have HVV := hid hn; have HRV := hid ht; have HYV := hid (HYU.out.later (hb.mono HYU.out.1)); obtain ⟨pt, kt, ct, pf, kf, cf, rfl, hp1, hp2⟩ := hn.parts; generalize decide ((fl + 1).num < 0) = sv at *; clear x0 x1 x2; obtain ⟨x0, x1, x2⟩ := box_cells HYV.out; have y0 := (HYV.out.2 0 (by omega)).2; have y1 := (HYV.out.2 1 (by omega)).2; have y2 := (HYV.out.2 2 (by omega)).2; clear hn ht hb hp1 hp2)))
    all_goals
     have hrs := ((HRV.out.set hlt3 0 (.bool sv)).set hlt3 1 (.slice pt kt ct)).set hlt3 2 (.slice pf kf cf)
     have h1 := numV_set HVV.out HYV.out 0 (by omega) (by intro k z h; cases h) (.bool sv)
     have h2 := numV_set h1 (HYV.out.set 0 (by omega) (.bool sv)) 1 (by omega) (by intro k z h; cases h) (.slice pt kt ct)
     have h3 := numV_set h2 ((HYV.out.set 0 (by omega) (.bool sv)).set 1 (by omega) (.slice pt kt ct)) 2 (by omega) (by intro k z h; cases h) (.slice pf kf cf)
     have ho := (((HYV.out.set 0 (by omega) (.bool sv)).set 1 (by omega) (.slice pt kt ct)).set 2 (by omega) (.slice pf kf cf)).congr (f' := numCell sv (.slice pt kt ct) (.slice pf kf cf)) (fun i hi => by
       match i, hi with
       | 0, _ => rfl
       | 1, _ => rfl
       | 2, _ => rfl)
     clear h1 h2 x0 x1 x2 y0 y1 y2 HYV HRV HVV HRU HFU HYU HVU HRD HFD HYD HRY HFY HYY HFZ HW1 HP1
     generalize ((wV.setCell ⟨B6, 0, none⟩ (.bool sv)).setCell ⟨B6, 1, none⟩ (.slice pt kt ct)).setCell ⟨B6, 2, none⟩ (.slice pf kf cf) = wW at *
     have HRW := hid hrs
     have HFW := hid h3
     obtain ⟨c0, c1, c2, c3, c4, c5, c6⟩ := rnd_cells hrs
     obtain ⟨x0, x1, x2⟩ := box_cells ho
     clear hrs h3 ho
     go_wp2_with fail
     refine (HTM.out _ _ (fl + 1) (.inr rfl) HRW.out HFW.out).mono ?_
     clear c0 c1 c2 c3 c4 c5 c6 x0 x1 x2
     rintro e wT ⟨⟨vT, rfl, hv⟩, hr, hb⟩
     obtain ⟨pu, ku, cu, pg, kg, cg, rfl, hp1, hp2⟩ := hv.parts
     generalize decide (((fl + 1) * s).num < 0) = sg at *
     obtain ⟨⟨r0, g0⟩, ⟨r1, g1⟩, ⟨r2, g2⟩⟩ := rnd_out hr
     have HFIN := hid (num_stored hv r0 r1 r2)
     have HBEL := hid (below_stored hr.1 (show w.heap.size ≤ w.heap.size + 1 + 1 by omega) (.bool sg) (.slice pu ku cu) (.slice pg kg cg))
     clear hp1 hp2 hv hr hb HRW HFW
     go_wp2_with fail
     refine bodyPost_ret (v := .agg #[.bool sg, .slice pu ku cu, .slice pg kg cg]) ?_ rfl ?_
     · simp [results, Tryz.results34, go_sem, r0, r1, r2]
     · exact ⟨⟨_, rfl, by rw [HE.out]; exact HFIN.out⟩, HBEL.out⟩

set_option maxRecDepth 100000 in
set_option maxHeartbeats 8000000 in
theorem rounded_step2 (rb : Bool) (rt rbo : Value) (va : Value) (a s : Rat) (w : World) (hs : NumV w (.agg #[.bool rb, rt, rbo]) s) (ha : NumV w va a) (hs0 : s.num ≠ 0) (m : Nat) (hma : bd a m) (hms : bd s m) (hm1 : 1 ≤ m) (hc : m ≤ 1048576) (kk : ByteArray) (hff : ruleFn kk = some 101) (hw : ¬ (a / s).den = 1) :
    Calls Tryz.prog 34 #[.agg #[.func (.func 101) #[] #[], .bool rb, rt, rbo], va] w fun e w' => (∃ v', e = .returned v' ∧ NumV w' v' (roundN 101 (a / s) * s)) ∧ Below w.heap.size w w' := by
  have HA := hid ha
  obtain ⟨pa1, ka1, ca1, pa2, ka2, ca2, rfl, ha1, ha2⟩ := ha.parts
  obtain ⟨ps1, ks1, cs1, ps2, ks2, cs2, he, hs1, hs2⟩ := hs.parts
  simp only [Value.agg.injEq, Array.mk.injEq, List.cons.injEq, and_true, Value.bool.injEq] at he
  obtain ⟨hrb, hrt, hrbo⟩ := he
  have HS := hid hs
  have HW0 := hid (rnd_start w (.func (.func 101) #[] #[]) rb rt rbo (decide (a.num < 0)) (.slice pa1 ka1 ca1) (.slice pa2 ka2 ca2))
  have hq := bd_div hma hms
  have HOV : Hid (∀ W, RndIn w (.func (.func 101) #[] #[]) rb rt rbo (decide (a.num < 0)) (.slice pa1 ka1 ca1) (.slice pa2 ka2 ca2) W → Calls Tryz.prog 43 #[.agg #[.bool (decide (a.num < 0)), .slice pa1 ka1 ca1, .slice pa2 ka2 ca2], .agg #[.bool rb, rt, rbo]] W fun e w' => (∃ v', e = .returned v' ∧ NumV w' v' (a / s)) ∧ RndIn w (.func (.func 101) #[] #[]) rb rt rbo (decide (a.num < 0)) (.slice pa1 ka1 ca1) (.slice pa2 ka2 ca2) w' ∧ Below W.heap.size W w') := hid fun W hW => rnd_call hW (over_some _ _ a s W (HA.out.later hW.1) (HS.out.later hW.1) hs0 (by have := hma.rs; have := hms.rs; unfold Cap; omega))
  have HIW : Hid (∀ W v, RndIn w (.func (.func 101) #[] #[]) rb rt rbo (decide (a.num < 0)) (.slice pa1 ka1 ca1) (.slice pa2 ka2 ca2) W → NumV W v (a / s) → Calls Tryz.prog 64 #[v] W fun e w' => e = .returned (.bool (decide ((a / s).den = 1))) ∧ RndIn w (.func (.func 101) #[] #[]) rb rt rbo (decide (a.num < 0)) (.slice pa1 ka1 ca1) (.slice pa2 ka2 ca2) w' ∧ Below W.heap.size W w') := hid fun W v hW hv => rnd_call hW (isWhole_any v _ W hv)
  have hfl := bd_floor hq (by omega)
  have HFL : Hid (∀ W v, RndIn w (.func (.func 101) #[] #[]) rb rt rbo (decide (a.num < 0)) (.slice pa1 ka1 ca1) (.slice pa2 ka2 ca2) W → NumV W v (a / s) → Calls Tryz.prog 65 #[v] W fun e w' => (∃ v', e = .returned v' ∧ NumV w' v' ((a / s).floor : Rat)) ∧ RndIn w (.func (.func 101) #[] #[]) rb rt rbo (decide (a.num < 0)) (.slice pa1 ka1 ca1) (.slice pa2 ka2 ca2) w' ∧ Below W.heap.size W w') := hid fun W v hW hv => rnd_call hW (floor_any v _ W hv (by have := hq.rs; unfold Cap; omega))
  have HMI : Hid (∀ W v v', RndIn w (.func (.func 101) #[] #[]) rb rt rbo (decide (a.num < 0)) (.slice pa1 ka1 ca1) (.slice pa2 ka2 ca2) W → NumV W v (a / s) → NumV W v' ((a / s).floor : Rat) → Calls Tryz.prog 66 #[v, v'] W fun e w' => (∃ v', e = .returned v' ∧ NumV w' v' (a / s - ((a / s).floor : Rat))) ∧ RndIn w (.func (.func 101) #[] #[]) rb rt rbo (decide (a.num < 0)) (.slice pa1 ka1 ca1) (.slice pa2 ka2 ca2) w' ∧ Below W.heap.size W w') := hid fun W v v' hW hv hv' => rnd_call hW (minus_any v v' _ _ W hv hv' (by have := hq.rs; have := hfl.rs; unfold Cap; omega))
  have HW1 : Hid (∀ W, RndIn w (.func (.func 101) #[] #[]) rb rt rbo (decide (a.num < 0)) (.slice pa1 ka1 ca1) (.slice pa2 ka2 ca2) W → Calls Tryz.prog 39 #[.int .i64 1] W fun e w' => (∃ v', e = .returned v' ∧ NumV w' v' 1) ∧ RndIn w (.func (.func 101) #[] #[]) rb rt rbo (decide (a.num < 0)) (.slice pa1 ka1 ca1) (.slice pa2 ka2 ca2) w' ∧ Below W.heap.size W w') := hid fun W hW => rnd_call hW (whole_any 1 W (by omega) (by omega))
  have HH1 : Hid (∀ W v, RndIn w (.func (.func 101) #[] #[]) rb rt rbo (decide (a.num < 0)) (.slice pa1 ka1 ca1) (.slice pa2 ka2 ca2) W → NumV W v 1 → Calls Tryz.prog 67 #[v] W fun e w' => (∃ v', e = .returned v' ∧ NumV w' v' (1 / 2)) ∧ RndIn w (.func (.func 101) #[] #[]) rb rt rbo (decide (a.num < 0)) (.slice pa1 ka1 ca1) (.slice pa2 ka2 ca2) w' ∧ Below W.heap.size W w') := hid fun W v hW hv => rnd_call hW (half_any v 1 W hv 1 (bd_whole 1 (by omega) (by omega)) (by omega))
  have HCM : Hid (∀ W v v', RndIn w (.func (.func 101) #[] #[]) rb rt rbo (decide (a.num < 0)) (.slice pa1 ka1 ca1) (.slice pa2 ka2 ca2) W → NumV W v (a / s - ((a / s).floor : Rat)) → NumV W v' (1 / 2) → Calls Tryz.prog 38 #[v, v'] W fun e w' => e = .returned (.int .i64 (cmpQ (a / s - ((a / s).floor : Rat)) (1 / 2))) ∧ RndIn w (.func (.func 101) #[] #[]) rb rt rbo (decide (a.num < 0)) (.slice pa1 ka1 ca1) (.slice pa2 ka2 ca2) w' ∧ Below W.heap.size W w') := hid fun W v v' hW hv hv' => rnd_call hW (compareQ_any v v' _ _ W hv hv' (by have := (bd_sub hq hfl).rs; have := (bd_div (bd_whole 1 (by omega) (by omega)) (bd_whole 2 (by omega) (by omega))).rs; have h3 : rs (1 / 2 : Rat) ≤ 6 := this; unfold Cap; omega))
  have HH2 : Hid (∀ W v, RndIn w (.func (.func 101) #[] #[]) rb rt rbo (decide (a.num < 0)) (.slice pa1 ka1 ca1) (.slice pa2 ka2 ca2) W → NumV W v ((a / s).floor : Rat) → Calls Tryz.prog 67 #[v] W fun e w' => (∃ v', e = .returned v' ∧ NumV w' v' (((a / s).floor : Rat) / 2)) ∧ RndIn w (.func (.func 101) #[] #[]) rb rt rbo (decide (a.num < 0)) (.slice pa1 ka1 ca1) (.slice pa2 ka2 ca2) w' ∧ Below W.heap.size W w') := hid fun W v hW hv => rnd_call hW (half_any v _ W hv _ hfl (by omega))
  have HI2 : Hid (∀ W v, RndIn w (.func (.func 101) #[] #[]) rb rt rbo (decide (a.num < 0)) (.slice pa1 ka1 ca1) (.slice pa2 ka2 ca2) W → NumV W v (((a / s).floor : Rat) / 2) → Calls Tryz.prog 64 #[v] W fun e w' => e = .returned (.bool (decide ((((a / s).floor : Rat) / 2).den = 1))) ∧ RndIn w (.func (.func 101) #[] #[]) rb rt rbo (decide (a.num < 0)) (.slice pa1 ka1 ca1) (.slice pa2 ka2 ca2) w' ∧ Below W.heap.size W w') := hid fun W v hW hv => rnd_call hW (isWhole_any v _ W hv)
  have HGU : Hid (∀ W side o, RndIn w (.func (.func 101) #[] #[]) rb rt rbo (decide (a.num < 0)) (.slice pa1 ka1 ca1) (.slice pa2 ka2 ca2) W → Calls Tryz.prog 101 #[.int .i64 side, .bool o] W fun e w' => e = .returned (.bool (goesUpOf 101 side o)) ∧ w' = W) := hid fun W side o _ => goesUp_any kk 101 hff side o W
  have HP1 : Hid (∀ W v v', RndIn w (.func (.func 101) #[] #[]) rb rt rbo (decide (a.num < 0)) (.slice pa1 ka1 ca1) (.slice pa2 ka2 ca2) W → NumV W v ((a / s).floor : Rat) → NumV W v' 1 → Calls Tryz.prog 68 #[v, v'] W fun e w' => (∃ v', e = .returned v' ∧ NumV w' v' (((a / s).floor : Rat) + 1)) ∧ RndIn w (.func (.func 101) #[] #[]) rb rt rbo (decide (a.num < 0)) (.slice pa1 ka1 ca1) (.slice pa2 ka2 ca2) w' ∧ Below W.heap.size W w') := hid fun W v v' hW hv hv' => rnd_call hW (plus_any v v' _ _ W hv hv' (by have := hfl.rs; have h3 : rs (1 : Rat) ≤ 2 := (bd_whole 1 (by omega) (by omega)).rs; unfold Cap; omega))
  have hl1 : ∀ l, l = ((a / s).floor : Rat) ∨ l = ((a / s).floor : Rat) + 1 → bd l (m + m + 1 + 1 + 1 + 1) := by
    rintro l (rfl | rfl)
    · exact hfl.mono (by omega)
    · exact (bd_add hfl (bd_whole 1 (by omega) (by omega))).mono (by omega)
  have HTM : Hid (∀ W v l, l = ((a / s).floor : Rat) ∨ l = ((a / s).floor : Rat) + 1 → RndIn w (.func (.func 101) #[] #[]) rb rt rbo (decide (a.num < 0)) (.slice pa1 ka1 ca1) (.slice pa2 ka2 ca2) W → NumV W v l → Calls Tryz.prog 41 #[v, .agg #[.bool rb, rt, rbo]] W fun e w' => (∃ v', e = .returned v' ∧ NumV w' v' (l * s)) ∧ RndIn w (.func (.func 101) #[] #[]) rb rt rbo (decide (a.num < 0)) (.slice pa1 ka1 ca1) (.slice pa2 ka2 ca2) w' ∧ Below W.heap.size W w') := hid fun W v l hl hW hv => rnd_call hW (times_any v _ _ _ W hv (HS.out.later hW.1) (by have := (hl1 l hl).rs; have := hms.rs; unfold Cap; omega))
  rw [decide_eq_false hw] at HIW
  have HRN : Hid (roundN 101 (a / s) = if goesUpOf 101 (cmpQ (a / s - ((a / s).floor : Rat)) (1 / 2)) (!decide ((((a / s).floor : Rat) / 2).den = 1)) then ((a / s).floor : Rat) + 1 else ((a / s).floor : Rat)) := hid rfl
  clear hl1 hfl
  generalize ((a / s).floor : Rat) = fl at *
  generalize a / s - fl = dq at *
  generalize cmpQ dq (1 / 2) = side at *
  generalize decide ((fl / 2).den = 1) = ev at *
  clear hff
  subst hrb hrt hrbo
  clear ha ha1 ha2 hs hs1 hs2 hma hms hm1 hc hs0 hq
  generalize decide (a.num < 0) = na at *
  generalize decide (s.num < 0) = rb at *
  go_enter Tryz.func34, Tryz.ntmps34
  go_wp2_with fail
  generalize ((w.alloc (.cells #[.func (.func 101) #[] #[], .bool rb, .slice ps1 ks1 cs1, .slice ps2 ks2 cs2] 83)).alloc (.cells #[.bool na, .slice pa1 ka1 ca1, .slice pa2 ka2 ca2] 75)).alloc (.cells #[.bool false, .slice none 0 0, .slice none 0 0] 75) = w0 at *
  obtain ⟨c0, c1, c2, c3, c4, c5, c6⟩ := rnd_cells HW0.out
  go_wp2_with fail
  refine (HOV.out _ HW0.out).mono ?_
  clear c0 c1 c2 c3 c4 c5 c6
  rintro e w1 ⟨⟨v1, rfl, hv⟩, hr, hb⟩
  obtain ⟨p1, k1, l1, p2, k2, l2, rfl, hp1, hp2⟩ := hv.parts
  clear hp1 hp2
  obtain ⟨hal, hbx⟩ := box_new w1 (decide ((a / s).num < 0)) (.slice p1 k1 l1) (.slice p2 k2 l2)
  have HR := hid (hr.later hal)
  have HV := hid (hv.later hal)
  have HX := hid hbx
  have hlt1 : w.heap.size + 1 + 1 < w1.heap.size := hr.2.2.2.1
  clear hr hv hb hal hbx HOV HW0
  generalize decide ((a / s).num < 0) = s1 at *
  go_wp2_with fail
  refine (HIW.out _ _ HR.out HV.out).mono ?_
  rintro e w2 ⟨rfl, hr, hb⟩
  have HR2 := hid hr
  have HV2 := hid (HV.out.later hb)
  have HX2 := hid (HX.out.later (hb.mono HX.out.1))
  clear hr hb HR HV HX HIW
  generalize w1.heap.size = B5 at *
  obtain ⟨x0, x1, x2⟩ := box_cells HX2.out
  go_wp2_with fail
  refine (HFL.out _ _ HR2.out HV2.out).mono ?_
  clear x0 x1 x2
  rintro e w3 ⟨⟨v3, rfl, hv⟩, hr, hb⟩
  obtain ⟨p3, k3, l3, p4, k4, l4, rfl, hp1, hp2⟩ := hv.parts
  clear hp1 hp2
  obtain ⟨hal, hbx⟩ := box_new w3 (decide (fl.num < 0)) (.slice p3 k3 l3) (.slice p4 k4 l4)
  have HR3 := hid (hr.later hal)
  have HF3 := hid (hv.later hal)
  have HV3 := hid ((HV2.out.later hb).later hal)
  have HX3 := hid ((HX2.out.later (hb.mono HX2.out.1)).later (hal.mono (by have := HX2.out.1; have := hb.size; omega)))
  have HY3 := hid hbx
  have hlt3 : w.heap.size + 1 + 1 < w3.heap.size := hr.2.2.2.1
  clear hr hv hb hal hbx HR2 HV2 HX2 HFL
  generalize decide (fl.num < 0) = s3 at *
  obtain ⟨x0, x1, x2⟩ := box_cells HX3.out
  go_wp2_with fail
  refine (HMI.out _ _ _ HR3.out HV3.out HF3.out).mono ?_
  clear x0 x1 x2
  rintro e w4 ⟨⟨v4, rfl, hv⟩, hr, hb⟩
  have HD4 := hid hv
  have HR4 := hid hr
  have HF4 := hid (HF3.out.later hb)
  have HY4 := hid (HY3.out.later (hb.mono HY3.out.1))
  clear hv hr hb HR3 HV3 HF3 HX3 HY3 HMI
  go_wp2_with fail
  refine (HW1.out _ HR4.out).mono ?_
  rintro e w5 ⟨⟨v5, rfl, hv⟩, hr, hb⟩
  have HO5 := hid hv
  have HR5 := hid hr
  have HD5 := hid (HD4.out.later hb)
  have HF5 := hid (HF4.out.later hb)
  have HY5 := hid (HY4.out.later (hb.mono HY4.out.1))
  clear hv hr hb HR4 HD4 HF4 HY4
  go_wp2_with fail
  refine (HH1.out _ _ HR5.out HO5.out).mono ?_
  rintro e w6 ⟨⟨v6, rfl, hv⟩, hr, hb⟩
  have HH6 := hid hv
  have HR6 := hid hr
  have HD6 := hid (HD5.out.later hb)
  have HF6 := hid (HF5.out.later hb)
  have HY6 := hid (HY5.out.later (hb.mono HY5.out.1))
  clear hv hr hb HR5 HD5 HF5 HY5 HO5 HH1
  go_wp2_with fail
  refine (HCM.out _ _ _ HR6.out HD6.out HH6.out).mono ?_
  rintro e w7 ⟨rfl, hr, hb⟩
  have HR7 := hid (hr.later ((Below.refl _ _).drew))
  have HF7 := hid ((HF6.out.later hb).later ((Below.refl _ _).drew))
  have HY7 := hid ((HY6.out.later (hb.mono HY6.out.1)).later ((Below.refl _ _).drew))
  clear hr hb HR6 HD6 HF6 HY6 HH6 HCM
  generalize w3.heap.size = B6 at *
  go_wp2_with fail
  have cA := rnd_cells HR7.out
  have xA := box_cells HY7.out
  go_region_held3 (fun W => (W.cell? ⟨w.heap.size, 0, none⟩ = some (.func (.func 101) #[] #[])) ∧ (W.cell? ⟨B6, 0, none⟩ = some (.bool s3) ∧ W.cell? ⟨B6, 1, none⟩ = some (.slice p3 k3 l3) ∧ W.cell? ⟨B6, 2, none⟩ = some (.slice p4 k4 l4))) (first | with_reducible exact ⟨cA.1, xA⟩ | with_reducible exact ⟨cB.1, xB⟩ | with_reducible exact ⟨cC.1, xC⟩)
    (first
      | (go_at_call 67; ((with_reducible refine (HH2.out _ _ HR7.out HF7.out).mono ?_); rintro e wX ⟨⟨vX, rfl, hn⟩, ht, hb⟩; have HVX := hid hn; have HRX := hid ht; have HFX := hid (HF7.out.later hb); have HYX := hid (HY7.out.later (hb.mono HY7.out.1)); have cB := rnd_cells ht; have xB := box_cells HYX.out; clear hn ht hb))
      | (go_at_call 64; ((with_reducible refine (HI2.out _ _ HRX.out HVX.out).mono ?_); rintro e wY ⟨rfl, ht, hb⟩; have HRY := hid ht; have HFY := hid (HFX.out.later hb); have HYY := hid (HYX.out.later (hb.mono HYX.out.1)); have cC := rnd_cells ht; have xC := box_cells HYY.out; clear ht hb))
       | (go_at_call 100; ((refine (HGU.out _ _ _ HRY.out).mono ?_); rintro e wZ ⟨rfl, hwz⟩; rw [hwz]; clear hwz))
      | (go_at_call 101; ((refine (HGU.out _ _ _ HRY.out).mono ?_); rintro e wZ ⟨rfl, hwz⟩; rw [hwz]; clear hwz))
      | (go_at_call 102; ((refine (HGU.out _ _ _ HRY.out).mono ?_); rintro e wZ ⟨rfl, hwz⟩; rw [hwz]; clear hwz))
      | (go_at_call 103; ((refine (HGU.out _ _ _ HRY.out).mono ?_); rintro e wZ ⟨rfl, hwz⟩; rw [hwz]; clear hwz)))
  have HFZ := hid HFY.out
  clear cA xA cB xB cC xC HR7 HF7 HY7 HRX HFX HYX HVX HH2 HI2 HGU
  generalize goesUpOf 101 side (!ev) = gu at *
  cases gu
  · have HE : Hid (roundN 101 (a / s) = fl) := hid HRN.out
    obtain ⟨c0, c1, c2, c3, c4, c5, c6⟩ := rnd_cells HRY.out
    obtain ⟨x0, x1, x2⟩ := box_cells HYY.out
    go_wp2_with fail
    refine (HTM.out _ _ fl (.inl rfl) HRY.out HFY.out).mono ?_
    clear c0 c1 c2 c3 c4 c5 c6 x0 x1 x2
    rintro e wT ⟨⟨vT, rfl, hv⟩, hr, hb⟩
    obtain ⟨pt, kt, ct, pf, kf, cf, rfl, hp1, hp2⟩ := hv.parts
    generalize decide ((fl * s).num < 0) = sg at *
    obtain ⟨⟨r0, g0⟩, ⟨r1, g1⟩, ⟨r2, g2⟩⟩ := rnd_out hr
    have HFIN := hid (num_stored hv r0 r1 r2)
    have HBEL := hid (below_stored hr.1 (show w.heap.size ≤ w.heap.size + 1 + 1 by omega) (.bool sg) (.slice pt kt ct) (.slice pf kf cf))
    clear hp1 hp2 hv hr hb HRY HFY HYY HFZ
    go_wp2_with fail
    refine bodyPost_ret (v := .agg #[.bool sg, .slice pt kt ct, .slice pf kf cf]) ?_ rfl ?_
    · simp [results, Tryz.results34, go_sem, r0, r1, r2]
    · exact ⟨⟨_, rfl, by rw [HE.out]; exact HFIN.out⟩, HBEL.out⟩
  · have HE : Hid (roundN 101 (a / s) = fl + 1) := hid HRN.out
    go_wp2_with fail
    have HRD := hid (HRY.out.later ((Below.refl _ _).drew))
    have HFD := hid (HFY.out.later ((Below.refl _ _).drew))
    have HYD : Hid (Own wY.drew B6 3 (numCell s3 (.slice p3 k3 l3) (.slice p4 k4 l4))) := hid (HYY.out.later ((Below.refl _ _).drew))
    obtain ⟨x0, x1, x2⟩ := box_cells HYD.out
    go_region_with (first
      | (go_at_call 39; ((with_reducible refine (HW1.out _ HRD.out).mono ?_); rintro e wU ⟨⟨vU, rfl, hn⟩, ht, hb⟩; have HVU := hid hn; have HRU := hid ht; have HFU := hid (HFD.out.later hb); have HYU := hid (HYD.out.later (hb.mono HYD.out.1)); clear x0 x1 x2; obtain ⟨x0, x1, x2⟩ := box_cells HYU.out; clear hn ht hb))
      | (go_at_call 68; ((with_reducible refine (HP1.out _ _ _ HRU.out HFU.out HVU.out).mono ?_); rintro e wV ⟨⟨vV, rfl, hn⟩, ht, hb⟩; have HVV := hid hn; have HRV := hid ht; have HYV := hid (HYU.out.later (hb.mono HYU.out.1)); obtain ⟨pt, kt, ct, pf, kf, cf, rfl, hp1, hp2⟩ := hn.parts; generalize decide ((fl + 1).num < 0) = sv at *; clear x0 x1 x2; obtain ⟨x0, x1, x2⟩ := box_cells HYV.out; have y0 := (HYV.out.2 0 (by omega)).2; have y1 := (HYV.out.2 1 (by omega)).2; have y2 := (HYV.out.2 2 (by omega)).2; clear hn ht hb hp1 hp2)))
    all_goals
     have hrs := ((HRV.out.set hlt3 0 (.bool sv)).set hlt3 1 (.slice pt kt ct)).set hlt3 2 (.slice pf kf cf)
     have h1 := numV_set HVV.out HYV.out 0 (by omega) (by intro k z h; cases h) (.bool sv)
     have h2 := numV_set h1 (HYV.out.set 0 (by omega) (.bool sv)) 1 (by omega) (by intro k z h; cases h) (.slice pt kt ct)
     have h3 := numV_set h2 ((HYV.out.set 0 (by omega) (.bool sv)).set 1 (by omega) (.slice pt kt ct)) 2 (by omega) (by intro k z h; cases h) (.slice pf kf cf)
     have ho := (((HYV.out.set 0 (by omega) (.bool sv)).set 1 (by omega) (.slice pt kt ct)).set 2 (by omega) (.slice pf kf cf)).congr (f' := numCell sv (.slice pt kt ct) (.slice pf kf cf)) (fun i hi => by
       match i, hi with
       | 0, _ => rfl
       | 1, _ => rfl
       | 2, _ => rfl)
     clear h1 h2 x0 x1 x2 y0 y1 y2 HYV HRV HVV HRU HFU HYU HVU HRD HFD HYD HRY HFY HYY HFZ HW1 HP1
     generalize ((wV.setCell ⟨B6, 0, none⟩ (.bool sv)).setCell ⟨B6, 1, none⟩ (.slice pt kt ct)).setCell ⟨B6, 2, none⟩ (.slice pf kf cf) = wW at *
     have HRW := hid hrs
     have HFW := hid h3
     obtain ⟨c0, c1, c2, c3, c4, c5, c6⟩ := rnd_cells hrs
     obtain ⟨x0, x1, x2⟩ := box_cells ho
     clear hrs h3 ho
     go_wp2_with fail
     refine (HTM.out _ _ (fl + 1) (.inr rfl) HRW.out HFW.out).mono ?_
     clear c0 c1 c2 c3 c4 c5 c6 x0 x1 x2
     rintro e wT ⟨⟨vT, rfl, hv⟩, hr, hb⟩
     obtain ⟨pu, ku, cu, pg, kg, cg, rfl, hp1, hp2⟩ := hv.parts
     generalize decide (((fl + 1) * s).num < 0) = sg at *
     obtain ⟨⟨r0, g0⟩, ⟨r1, g1⟩, ⟨r2, g2⟩⟩ := rnd_out hr
     have HFIN := hid (num_stored hv r0 r1 r2)
     have HBEL := hid (below_stored hr.1 (show w.heap.size ≤ w.heap.size + 1 + 1 by omega) (.bool sg) (.slice pu ku cu) (.slice pg kg cg))
     clear hp1 hp2 hv hr hb HRW HFW
     go_wp2_with fail
     refine bodyPost_ret (v := .agg #[.bool sg, .slice pu ku cu, .slice pg kg cg]) ?_ rfl ?_
     · simp [results, Tryz.results34, go_sem, r0, r1, r2]
     · exact ⟨⟨_, rfl, by rw [HE.out]; exact HFIN.out⟩, HBEL.out⟩

set_option maxRecDepth 100000 in
set_option maxHeartbeats 8000000 in
theorem rounded_step3 (rb : Bool) (rt rbo : Value) (va : Value) (a s : Rat) (w : World) (hs : NumV w (.agg #[.bool rb, rt, rbo]) s) (ha : NumV w va a) (hs0 : s.num ≠ 0) (m : Nat) (hma : bd a m) (hms : bd s m) (hm1 : 1 ≤ m) (hc : m ≤ 1048576) (kk : ByteArray) (hff : ruleFn kk = some 102) (hw : ¬ (a / s).den = 1) :
    Calls Tryz.prog 34 #[.agg #[.func (.func 102) #[] #[], .bool rb, rt, rbo], va] w fun e w' => (∃ v', e = .returned v' ∧ NumV w' v' (roundN 102 (a / s) * s)) ∧ Below w.heap.size w w' := by
  have HA := hid ha
  obtain ⟨pa1, ka1, ca1, pa2, ka2, ca2, rfl, ha1, ha2⟩ := ha.parts
  obtain ⟨ps1, ks1, cs1, ps2, ks2, cs2, he, hs1, hs2⟩ := hs.parts
  simp only [Value.agg.injEq, Array.mk.injEq, List.cons.injEq, and_true, Value.bool.injEq] at he
  obtain ⟨hrb, hrt, hrbo⟩ := he
  have HS := hid hs
  have HW0 := hid (rnd_start w (.func (.func 102) #[] #[]) rb rt rbo (decide (a.num < 0)) (.slice pa1 ka1 ca1) (.slice pa2 ka2 ca2))
  have hq := bd_div hma hms
  have HOV : Hid (∀ W, RndIn w (.func (.func 102) #[] #[]) rb rt rbo (decide (a.num < 0)) (.slice pa1 ka1 ca1) (.slice pa2 ka2 ca2) W → Calls Tryz.prog 43 #[.agg #[.bool (decide (a.num < 0)), .slice pa1 ka1 ca1, .slice pa2 ka2 ca2], .agg #[.bool rb, rt, rbo]] W fun e w' => (∃ v', e = .returned v' ∧ NumV w' v' (a / s)) ∧ RndIn w (.func (.func 102) #[] #[]) rb rt rbo (decide (a.num < 0)) (.slice pa1 ka1 ca1) (.slice pa2 ka2 ca2) w' ∧ Below W.heap.size W w') := hid fun W hW => rnd_call hW (over_some _ _ a s W (HA.out.later hW.1) (HS.out.later hW.1) hs0 (by have := hma.rs; have := hms.rs; unfold Cap; omega))
  have HIW : Hid (∀ W v, RndIn w (.func (.func 102) #[] #[]) rb rt rbo (decide (a.num < 0)) (.slice pa1 ka1 ca1) (.slice pa2 ka2 ca2) W → NumV W v (a / s) → Calls Tryz.prog 64 #[v] W fun e w' => e = .returned (.bool (decide ((a / s).den = 1))) ∧ RndIn w (.func (.func 102) #[] #[]) rb rt rbo (decide (a.num < 0)) (.slice pa1 ka1 ca1) (.slice pa2 ka2 ca2) w' ∧ Below W.heap.size W w') := hid fun W v hW hv => rnd_call hW (isWhole_any v _ W hv)
  have hfl := bd_floor hq (by omega)
  have HFL : Hid (∀ W v, RndIn w (.func (.func 102) #[] #[]) rb rt rbo (decide (a.num < 0)) (.slice pa1 ka1 ca1) (.slice pa2 ka2 ca2) W → NumV W v (a / s) → Calls Tryz.prog 65 #[v] W fun e w' => (∃ v', e = .returned v' ∧ NumV w' v' ((a / s).floor : Rat)) ∧ RndIn w (.func (.func 102) #[] #[]) rb rt rbo (decide (a.num < 0)) (.slice pa1 ka1 ca1) (.slice pa2 ka2 ca2) w' ∧ Below W.heap.size W w') := hid fun W v hW hv => rnd_call hW (floor_any v _ W hv (by have := hq.rs; unfold Cap; omega))
  have HMI : Hid (∀ W v v', RndIn w (.func (.func 102) #[] #[]) rb rt rbo (decide (a.num < 0)) (.slice pa1 ka1 ca1) (.slice pa2 ka2 ca2) W → NumV W v (a / s) → NumV W v' ((a / s).floor : Rat) → Calls Tryz.prog 66 #[v, v'] W fun e w' => (∃ v', e = .returned v' ∧ NumV w' v' (a / s - ((a / s).floor : Rat))) ∧ RndIn w (.func (.func 102) #[] #[]) rb rt rbo (decide (a.num < 0)) (.slice pa1 ka1 ca1) (.slice pa2 ka2 ca2) w' ∧ Below W.heap.size W w') := hid fun W v v' hW hv hv' => rnd_call hW (minus_any v v' _ _ W hv hv' (by have := hq.rs; have := hfl.rs; unfold Cap; omega))
  have HW1 : Hid (∀ W, RndIn w (.func (.func 102) #[] #[]) rb rt rbo (decide (a.num < 0)) (.slice pa1 ka1 ca1) (.slice pa2 ka2 ca2) W → Calls Tryz.prog 39 #[.int .i64 1] W fun e w' => (∃ v', e = .returned v' ∧ NumV w' v' 1) ∧ RndIn w (.func (.func 102) #[] #[]) rb rt rbo (decide (a.num < 0)) (.slice pa1 ka1 ca1) (.slice pa2 ka2 ca2) w' ∧ Below W.heap.size W w') := hid fun W hW => rnd_call hW (whole_any 1 W (by omega) (by omega))
  have HH1 : Hid (∀ W v, RndIn w (.func (.func 102) #[] #[]) rb rt rbo (decide (a.num < 0)) (.slice pa1 ka1 ca1) (.slice pa2 ka2 ca2) W → NumV W v 1 → Calls Tryz.prog 67 #[v] W fun e w' => (∃ v', e = .returned v' ∧ NumV w' v' (1 / 2)) ∧ RndIn w (.func (.func 102) #[] #[]) rb rt rbo (decide (a.num < 0)) (.slice pa1 ka1 ca1) (.slice pa2 ka2 ca2) w' ∧ Below W.heap.size W w') := hid fun W v hW hv => rnd_call hW (half_any v 1 W hv 1 (bd_whole 1 (by omega) (by omega)) (by omega))
  have HCM : Hid (∀ W v v', RndIn w (.func (.func 102) #[] #[]) rb rt rbo (decide (a.num < 0)) (.slice pa1 ka1 ca1) (.slice pa2 ka2 ca2) W → NumV W v (a / s - ((a / s).floor : Rat)) → NumV W v' (1 / 2) → Calls Tryz.prog 38 #[v, v'] W fun e w' => e = .returned (.int .i64 (cmpQ (a / s - ((a / s).floor : Rat)) (1 / 2))) ∧ RndIn w (.func (.func 102) #[] #[]) rb rt rbo (decide (a.num < 0)) (.slice pa1 ka1 ca1) (.slice pa2 ka2 ca2) w' ∧ Below W.heap.size W w') := hid fun W v v' hW hv hv' => rnd_call hW (compareQ_any v v' _ _ W hv hv' (by have := (bd_sub hq hfl).rs; have := (bd_div (bd_whole 1 (by omega) (by omega)) (bd_whole 2 (by omega) (by omega))).rs; have h3 : rs (1 / 2 : Rat) ≤ 6 := this; unfold Cap; omega))
  have HH2 : Hid (∀ W v, RndIn w (.func (.func 102) #[] #[]) rb rt rbo (decide (a.num < 0)) (.slice pa1 ka1 ca1) (.slice pa2 ka2 ca2) W → NumV W v ((a / s).floor : Rat) → Calls Tryz.prog 67 #[v] W fun e w' => (∃ v', e = .returned v' ∧ NumV w' v' (((a / s).floor : Rat) / 2)) ∧ RndIn w (.func (.func 102) #[] #[]) rb rt rbo (decide (a.num < 0)) (.slice pa1 ka1 ca1) (.slice pa2 ka2 ca2) w' ∧ Below W.heap.size W w') := hid fun W v hW hv => rnd_call hW (half_any v _ W hv _ hfl (by omega))
  have HI2 : Hid (∀ W v, RndIn w (.func (.func 102) #[] #[]) rb rt rbo (decide (a.num < 0)) (.slice pa1 ka1 ca1) (.slice pa2 ka2 ca2) W → NumV W v (((a / s).floor : Rat) / 2) → Calls Tryz.prog 64 #[v] W fun e w' => e = .returned (.bool (decide ((((a / s).floor : Rat) / 2).den = 1))) ∧ RndIn w (.func (.func 102) #[] #[]) rb rt rbo (decide (a.num < 0)) (.slice pa1 ka1 ca1) (.slice pa2 ka2 ca2) w' ∧ Below W.heap.size W w') := hid fun W v hW hv => rnd_call hW (isWhole_any v _ W hv)
  have HGU : Hid (∀ W side o, RndIn w (.func (.func 102) #[] #[]) rb rt rbo (decide (a.num < 0)) (.slice pa1 ka1 ca1) (.slice pa2 ka2 ca2) W → Calls Tryz.prog 102 #[.int .i64 side, .bool o] W fun e w' => e = .returned (.bool (goesUpOf 102 side o)) ∧ w' = W) := hid fun W side o _ => goesUp_any kk 102 hff side o W
  have HP1 : Hid (∀ W v v', RndIn w (.func (.func 102) #[] #[]) rb rt rbo (decide (a.num < 0)) (.slice pa1 ka1 ca1) (.slice pa2 ka2 ca2) W → NumV W v ((a / s).floor : Rat) → NumV W v' 1 → Calls Tryz.prog 68 #[v, v'] W fun e w' => (∃ v', e = .returned v' ∧ NumV w' v' (((a / s).floor : Rat) + 1)) ∧ RndIn w (.func (.func 102) #[] #[]) rb rt rbo (decide (a.num < 0)) (.slice pa1 ka1 ca1) (.slice pa2 ka2 ca2) w' ∧ Below W.heap.size W w') := hid fun W v v' hW hv hv' => rnd_call hW (plus_any v v' _ _ W hv hv' (by have := hfl.rs; have h3 : rs (1 : Rat) ≤ 2 := (bd_whole 1 (by omega) (by omega)).rs; unfold Cap; omega))
  have hl1 : ∀ l, l = ((a / s).floor : Rat) ∨ l = ((a / s).floor : Rat) + 1 → bd l (m + m + 1 + 1 + 1 + 1) := by
    rintro l (rfl | rfl)
    · exact hfl.mono (by omega)
    · exact (bd_add hfl (bd_whole 1 (by omega) (by omega))).mono (by omega)
  have HTM : Hid (∀ W v l, l = ((a / s).floor : Rat) ∨ l = ((a / s).floor : Rat) + 1 → RndIn w (.func (.func 102) #[] #[]) rb rt rbo (decide (a.num < 0)) (.slice pa1 ka1 ca1) (.slice pa2 ka2 ca2) W → NumV W v l → Calls Tryz.prog 41 #[v, .agg #[.bool rb, rt, rbo]] W fun e w' => (∃ v', e = .returned v' ∧ NumV w' v' (l * s)) ∧ RndIn w (.func (.func 102) #[] #[]) rb rt rbo (decide (a.num < 0)) (.slice pa1 ka1 ca1) (.slice pa2 ka2 ca2) w' ∧ Below W.heap.size W w') := hid fun W v l hl hW hv => rnd_call hW (times_any v _ _ _ W hv (HS.out.later hW.1) (by have := (hl1 l hl).rs; have := hms.rs; unfold Cap; omega))
  rw [decide_eq_false hw] at HIW
  have HRN : Hid (roundN 102 (a / s) = if goesUpOf 102 (cmpQ (a / s - ((a / s).floor : Rat)) (1 / 2)) (!decide ((((a / s).floor : Rat) / 2).den = 1)) then ((a / s).floor : Rat) + 1 else ((a / s).floor : Rat)) := hid rfl
  clear hl1 hfl
  generalize ((a / s).floor : Rat) = fl at *
  generalize a / s - fl = dq at *
  generalize cmpQ dq (1 / 2) = side at *
  generalize decide ((fl / 2).den = 1) = ev at *
  clear hff
  subst hrb hrt hrbo
  clear ha ha1 ha2 hs hs1 hs2 hma hms hm1 hc hs0 hq
  generalize decide (a.num < 0) = na at *
  generalize decide (s.num < 0) = rb at *
  go_enter Tryz.func34, Tryz.ntmps34
  go_wp2_with fail
  generalize ((w.alloc (.cells #[.func (.func 102) #[] #[], .bool rb, .slice ps1 ks1 cs1, .slice ps2 ks2 cs2] 83)).alloc (.cells #[.bool na, .slice pa1 ka1 ca1, .slice pa2 ka2 ca2] 75)).alloc (.cells #[.bool false, .slice none 0 0, .slice none 0 0] 75) = w0 at *
  obtain ⟨c0, c1, c2, c3, c4, c5, c6⟩ := rnd_cells HW0.out
  go_wp2_with fail
  refine (HOV.out _ HW0.out).mono ?_
  clear c0 c1 c2 c3 c4 c5 c6
  rintro e w1 ⟨⟨v1, rfl, hv⟩, hr, hb⟩
  obtain ⟨p1, k1, l1, p2, k2, l2, rfl, hp1, hp2⟩ := hv.parts
  clear hp1 hp2
  obtain ⟨hal, hbx⟩ := box_new w1 (decide ((a / s).num < 0)) (.slice p1 k1 l1) (.slice p2 k2 l2)
  have HR := hid (hr.later hal)
  have HV := hid (hv.later hal)
  have HX := hid hbx
  have hlt1 : w.heap.size + 1 + 1 < w1.heap.size := hr.2.2.2.1
  clear hr hv hb hal hbx HOV HW0
  generalize decide ((a / s).num < 0) = s1 at *
  go_wp2_with fail
  refine (HIW.out _ _ HR.out HV.out).mono ?_
  rintro e w2 ⟨rfl, hr, hb⟩
  have HR2 := hid hr
  have HV2 := hid (HV.out.later hb)
  have HX2 := hid (HX.out.later (hb.mono HX.out.1))
  clear hr hb HR HV HX HIW
  generalize w1.heap.size = B5 at *
  obtain ⟨x0, x1, x2⟩ := box_cells HX2.out
  go_wp2_with fail
  refine (HFL.out _ _ HR2.out HV2.out).mono ?_
  clear x0 x1 x2
  rintro e w3 ⟨⟨v3, rfl, hv⟩, hr, hb⟩
  obtain ⟨p3, k3, l3, p4, k4, l4, rfl, hp1, hp2⟩ := hv.parts
  clear hp1 hp2
  obtain ⟨hal, hbx⟩ := box_new w3 (decide (fl.num < 0)) (.slice p3 k3 l3) (.slice p4 k4 l4)
  have HR3 := hid (hr.later hal)
  have HF3 := hid (hv.later hal)
  have HV3 := hid ((HV2.out.later hb).later hal)
  have HX3 := hid ((HX2.out.later (hb.mono HX2.out.1)).later (hal.mono (by have := HX2.out.1; have := hb.size; omega)))
  have HY3 := hid hbx
  have hlt3 : w.heap.size + 1 + 1 < w3.heap.size := hr.2.2.2.1
  clear hr hv hb hal hbx HR2 HV2 HX2 HFL
  generalize decide (fl.num < 0) = s3 at *
  obtain ⟨x0, x1, x2⟩ := box_cells HX3.out
  go_wp2_with fail
  refine (HMI.out _ _ _ HR3.out HV3.out HF3.out).mono ?_
  clear x0 x1 x2
  rintro e w4 ⟨⟨v4, rfl, hv⟩, hr, hb⟩
  have HD4 := hid hv
  have HR4 := hid hr
  have HF4 := hid (HF3.out.later hb)
  have HY4 := hid (HY3.out.later (hb.mono HY3.out.1))
  clear hv hr hb HR3 HV3 HF3 HX3 HY3 HMI
  go_wp2_with fail
  refine (HW1.out _ HR4.out).mono ?_
  rintro e w5 ⟨⟨v5, rfl, hv⟩, hr, hb⟩
  have HO5 := hid hv
  have HR5 := hid hr
  have HD5 := hid (HD4.out.later hb)
  have HF5 := hid (HF4.out.later hb)
  have HY5 := hid (HY4.out.later (hb.mono HY4.out.1))
  clear hv hr hb HR4 HD4 HF4 HY4
  go_wp2_with fail
  refine (HH1.out _ _ HR5.out HO5.out).mono ?_
  rintro e w6 ⟨⟨v6, rfl, hv⟩, hr, hb⟩
  have HH6 := hid hv
  have HR6 := hid hr
  have HD6 := hid (HD5.out.later hb)
  have HF6 := hid (HF5.out.later hb)
  have HY6 := hid (HY5.out.later (hb.mono HY5.out.1))
  clear hv hr hb HR5 HD5 HF5 HY5 HO5 HH1
  go_wp2_with fail
  refine (HCM.out _ _ _ HR6.out HD6.out HH6.out).mono ?_
  rintro e w7 ⟨rfl, hr, hb⟩
  have HR7 := hid (hr.later ((Below.refl _ _).drew))
  have HF7 := hid ((HF6.out.later hb).later ((Below.refl _ _).drew))
  have HY7 := hid ((HY6.out.later (hb.mono HY6.out.1)).later ((Below.refl _ _).drew))
  clear hr hb HR6 HD6 HF6 HY6 HH6 HCM
  generalize w3.heap.size = B6 at *
  go_wp2_with fail
  have cA := rnd_cells HR7.out
  have xA := box_cells HY7.out
  go_region_held3 (fun W => (W.cell? ⟨w.heap.size, 0, none⟩ = some (.func (.func 102) #[] #[])) ∧ (W.cell? ⟨B6, 0, none⟩ = some (.bool s3) ∧ W.cell? ⟨B6, 1, none⟩ = some (.slice p3 k3 l3) ∧ W.cell? ⟨B6, 2, none⟩ = some (.slice p4 k4 l4))) (first | with_reducible exact ⟨cA.1, xA⟩ | with_reducible exact ⟨cB.1, xB⟩ | with_reducible exact ⟨cC.1, xC⟩)
    (first
      | (go_at_call 67; ((with_reducible refine (HH2.out _ _ HR7.out HF7.out).mono ?_); rintro e wX ⟨⟨vX, rfl, hn⟩, ht, hb⟩; have HVX := hid hn; have HRX := hid ht; have HFX := hid (HF7.out.later hb); have HYX := hid (HY7.out.later (hb.mono HY7.out.1)); have cB := rnd_cells ht; have xB := box_cells HYX.out; clear hn ht hb))
      | (go_at_call 64; ((with_reducible refine (HI2.out _ _ HRX.out HVX.out).mono ?_); rintro e wY ⟨rfl, ht, hb⟩; have HRY := hid ht; have HFY := hid (HFX.out.later hb); have HYY := hid (HYX.out.later (hb.mono HYX.out.1)); have cC := rnd_cells ht; have xC := box_cells HYY.out; clear ht hb))
       | (go_at_call 100; ((refine (HGU.out _ _ _ HRY.out).mono ?_); rintro e wZ ⟨rfl, hwz⟩; rw [hwz]; clear hwz))
      | (go_at_call 101; ((refine (HGU.out _ _ _ HRY.out).mono ?_); rintro e wZ ⟨rfl, hwz⟩; rw [hwz]; clear hwz))
      | (go_at_call 102; ((refine (HGU.out _ _ _ HRY.out).mono ?_); rintro e wZ ⟨rfl, hwz⟩; rw [hwz]; clear hwz))
      | (go_at_call 103; ((refine (HGU.out _ _ _ HRY.out).mono ?_); rintro e wZ ⟨rfl, hwz⟩; rw [hwz]; clear hwz)))
  have HFZ := hid HFY.out
  clear cA xA cB xB cC xC HR7 HF7 HY7 HRX HFX HYX HVX HH2 HI2 HGU
  generalize goesUpOf 102 side (!ev) = gu at *
  cases gu
  · have HE : Hid (roundN 102 (a / s) = fl) := hid HRN.out
    obtain ⟨c0, c1, c2, c3, c4, c5, c6⟩ := rnd_cells HRY.out
    obtain ⟨x0, x1, x2⟩ := box_cells HYY.out
    go_wp2_with fail
    refine (HTM.out _ _ fl (.inl rfl) HRY.out HFY.out).mono ?_
    clear c0 c1 c2 c3 c4 c5 c6 x0 x1 x2
    rintro e wT ⟨⟨vT, rfl, hv⟩, hr, hb⟩
    obtain ⟨pt, kt, ct, pf, kf, cf, rfl, hp1, hp2⟩ := hv.parts
    generalize decide ((fl * s).num < 0) = sg at *
    obtain ⟨⟨r0, g0⟩, ⟨r1, g1⟩, ⟨r2, g2⟩⟩ := rnd_out hr
    have HFIN := hid (num_stored hv r0 r1 r2)
    have HBEL := hid (below_stored hr.1 (show w.heap.size ≤ w.heap.size + 1 + 1 by omega) (.bool sg) (.slice pt kt ct) (.slice pf kf cf))
    clear hp1 hp2 hv hr hb HRY HFY HYY HFZ
    go_wp2_with fail
    refine bodyPost_ret (v := .agg #[.bool sg, .slice pt kt ct, .slice pf kf cf]) ?_ rfl ?_
    · simp [results, Tryz.results34, go_sem, r0, r1, r2]
    · exact ⟨⟨_, rfl, by rw [HE.out]; exact HFIN.out⟩, HBEL.out⟩
  · have HE : Hid (roundN 102 (a / s) = fl + 1) := hid HRN.out
    go_wp2_with fail
    have HRD := hid (HRY.out.later ((Below.refl _ _).drew))
    have HFD := hid (HFY.out.later ((Below.refl _ _).drew))
    have HYD : Hid (Own wY.drew B6 3 (numCell s3 (.slice p3 k3 l3) (.slice p4 k4 l4))) := hid (HYY.out.later ((Below.refl _ _).drew))
    obtain ⟨x0, x1, x2⟩ := box_cells HYD.out
    go_region_with (first
      | (go_at_call 39; ((with_reducible refine (HW1.out _ HRD.out).mono ?_); rintro e wU ⟨⟨vU, rfl, hn⟩, ht, hb⟩; have HVU := hid hn; have HRU := hid ht; have HFU := hid (HFD.out.later hb); have HYU := hid (HYD.out.later (hb.mono HYD.out.1)); clear x0 x1 x2; obtain ⟨x0, x1, x2⟩ := box_cells HYU.out; clear hn ht hb))
      | (go_at_call 68; ((with_reducible refine (HP1.out _ _ _ HRU.out HFU.out HVU.out).mono ?_); rintro e wV ⟨⟨vV, rfl, hn⟩, ht, hb⟩; have HVV := hid hn; have HRV := hid ht; have HYV := hid (HYU.out.later (hb.mono HYU.out.1)); obtain ⟨pt, kt, ct, pf, kf, cf, rfl, hp1, hp2⟩ := hn.parts; generalize decide ((fl + 1).num < 0) = sv at *; clear x0 x1 x2; obtain ⟨x0, x1, x2⟩ := box_cells HYV.out; have y0 := (HYV.out.2 0 (by omega)).2; have y1 := (HYV.out.2 1 (by omega)).2; have y2 := (HYV.out.2 2 (by omega)).2; clear hn ht hb hp1 hp2)))
    all_goals
     have hrs := ((HRV.out.set hlt3 0 (.bool sv)).set hlt3 1 (.slice pt kt ct)).set hlt3 2 (.slice pf kf cf)
     have h1 := numV_set HVV.out HYV.out 0 (by omega) (by intro k z h; cases h) (.bool sv)
     have h2 := numV_set h1 (HYV.out.set 0 (by omega) (.bool sv)) 1 (by omega) (by intro k z h; cases h) (.slice pt kt ct)
     have h3 := numV_set h2 ((HYV.out.set 0 (by omega) (.bool sv)).set 1 (by omega) (.slice pt kt ct)) 2 (by omega) (by intro k z h; cases h) (.slice pf kf cf)
     have ho := (((HYV.out.set 0 (by omega) (.bool sv)).set 1 (by omega) (.slice pt kt ct)).set 2 (by omega) (.slice pf kf cf)).congr (f' := numCell sv (.slice pt kt ct) (.slice pf kf cf)) (fun i hi => by
       match i, hi with
       | 0, _ => rfl
       | 1, _ => rfl
       | 2, _ => rfl)
     clear h1 h2 x0 x1 x2 y0 y1 y2 HYV HRV HVV HRU HFU HYU HVU HRD HFD HYD HRY HFY HYY HFZ HW1 HP1
     generalize ((wV.setCell ⟨B6, 0, none⟩ (.bool sv)).setCell ⟨B6, 1, none⟩ (.slice pt kt ct)).setCell ⟨B6, 2, none⟩ (.slice pf kf cf) = wW at *
     have HRW := hid hrs
     have HFW := hid h3
     obtain ⟨c0, c1, c2, c3, c4, c5, c6⟩ := rnd_cells hrs
     obtain ⟨x0, x1, x2⟩ := box_cells ho
     clear hrs h3 ho
     go_wp2_with fail
     refine (HTM.out _ _ (fl + 1) (.inr rfl) HRW.out HFW.out).mono ?_
     clear c0 c1 c2 c3 c4 c5 c6 x0 x1 x2
     rintro e wT ⟨⟨vT, rfl, hv⟩, hr, hb⟩
     obtain ⟨pu, ku, cu, pg, kg, cg, rfl, hp1, hp2⟩ := hv.parts
     generalize decide (((fl + 1) * s).num < 0) = sg at *
     obtain ⟨⟨r0, g0⟩, ⟨r1, g1⟩, ⟨r2, g2⟩⟩ := rnd_out hr
     have HFIN := hid (num_stored hv r0 r1 r2)
     have HBEL := hid (below_stored hr.1 (show w.heap.size ≤ w.heap.size + 1 + 1 by omega) (.bool sg) (.slice pu ku cu) (.slice pg kg cg))
     clear hp1 hp2 hv hr hb HRW HFW
     go_wp2_with fail
     refine bodyPost_ret (v := .agg #[.bool sg, .slice pu ku cu, .slice pg kg cg]) ?_ rfl ?_
     · simp [results, Tryz.results34, go_sem, r0, r1, r2]
     · exact ⟨⟨_, rfl, by rw [HE.out]; exact HFIN.out⟩, HBEL.out⟩

set_option maxRecDepth 100000 in
set_option maxHeartbeats 8000000 in
theorem rounded_step4 (rb : Bool) (rt rbo : Value) (va : Value) (a s : Rat) (w : World) (hs : NumV w (.agg #[.bool rb, rt, rbo]) s) (ha : NumV w va a) (hs0 : s.num ≠ 0) (m : Nat) (hma : bd a m) (hms : bd s m) (hm1 : 1 ≤ m) (hc : m ≤ 1048576) (kk : ByteArray) (hff : ruleFn kk = some 103) (hw : ¬ (a / s).den = 1) :
    Calls Tryz.prog 34 #[.agg #[.func (.func 103) #[] #[], .bool rb, rt, rbo], va] w fun e w' => (∃ v', e = .returned v' ∧ NumV w' v' (roundN 103 (a / s) * s)) ∧ Below w.heap.size w w' := by
  have HA := hid ha
  obtain ⟨pa1, ka1, ca1, pa2, ka2, ca2, rfl, ha1, ha2⟩ := ha.parts
  obtain ⟨ps1, ks1, cs1, ps2, ks2, cs2, he, hs1, hs2⟩ := hs.parts
  simp only [Value.agg.injEq, Array.mk.injEq, List.cons.injEq, and_true, Value.bool.injEq] at he
  obtain ⟨hrb, hrt, hrbo⟩ := he
  have HS := hid hs
  have HW0 := hid (rnd_start w (.func (.func 103) #[] #[]) rb rt rbo (decide (a.num < 0)) (.slice pa1 ka1 ca1) (.slice pa2 ka2 ca2))
  have hq := bd_div hma hms
  have HOV : Hid (∀ W, RndIn w (.func (.func 103) #[] #[]) rb rt rbo (decide (a.num < 0)) (.slice pa1 ka1 ca1) (.slice pa2 ka2 ca2) W → Calls Tryz.prog 43 #[.agg #[.bool (decide (a.num < 0)), .slice pa1 ka1 ca1, .slice pa2 ka2 ca2], .agg #[.bool rb, rt, rbo]] W fun e w' => (∃ v', e = .returned v' ∧ NumV w' v' (a / s)) ∧ RndIn w (.func (.func 103) #[] #[]) rb rt rbo (decide (a.num < 0)) (.slice pa1 ka1 ca1) (.slice pa2 ka2 ca2) w' ∧ Below W.heap.size W w') := hid fun W hW => rnd_call hW (over_some _ _ a s W (HA.out.later hW.1) (HS.out.later hW.1) hs0 (by have := hma.rs; have := hms.rs; unfold Cap; omega))
  have HIW : Hid (∀ W v, RndIn w (.func (.func 103) #[] #[]) rb rt rbo (decide (a.num < 0)) (.slice pa1 ka1 ca1) (.slice pa2 ka2 ca2) W → NumV W v (a / s) → Calls Tryz.prog 64 #[v] W fun e w' => e = .returned (.bool (decide ((a / s).den = 1))) ∧ RndIn w (.func (.func 103) #[] #[]) rb rt rbo (decide (a.num < 0)) (.slice pa1 ka1 ca1) (.slice pa2 ka2 ca2) w' ∧ Below W.heap.size W w') := hid fun W v hW hv => rnd_call hW (isWhole_any v _ W hv)
  have hfl := bd_floor hq (by omega)
  have HFL : Hid (∀ W v, RndIn w (.func (.func 103) #[] #[]) rb rt rbo (decide (a.num < 0)) (.slice pa1 ka1 ca1) (.slice pa2 ka2 ca2) W → NumV W v (a / s) → Calls Tryz.prog 65 #[v] W fun e w' => (∃ v', e = .returned v' ∧ NumV w' v' ((a / s).floor : Rat)) ∧ RndIn w (.func (.func 103) #[] #[]) rb rt rbo (decide (a.num < 0)) (.slice pa1 ka1 ca1) (.slice pa2 ka2 ca2) w' ∧ Below W.heap.size W w') := hid fun W v hW hv => rnd_call hW (floor_any v _ W hv (by have := hq.rs; unfold Cap; omega))
  have HMI : Hid (∀ W v v', RndIn w (.func (.func 103) #[] #[]) rb rt rbo (decide (a.num < 0)) (.slice pa1 ka1 ca1) (.slice pa2 ka2 ca2) W → NumV W v (a / s) → NumV W v' ((a / s).floor : Rat) → Calls Tryz.prog 66 #[v, v'] W fun e w' => (∃ v', e = .returned v' ∧ NumV w' v' (a / s - ((a / s).floor : Rat))) ∧ RndIn w (.func (.func 103) #[] #[]) rb rt rbo (decide (a.num < 0)) (.slice pa1 ka1 ca1) (.slice pa2 ka2 ca2) w' ∧ Below W.heap.size W w') := hid fun W v v' hW hv hv' => rnd_call hW (minus_any v v' _ _ W hv hv' (by have := hq.rs; have := hfl.rs; unfold Cap; omega))
  have HW1 : Hid (∀ W, RndIn w (.func (.func 103) #[] #[]) rb rt rbo (decide (a.num < 0)) (.slice pa1 ka1 ca1) (.slice pa2 ka2 ca2) W → Calls Tryz.prog 39 #[.int .i64 1] W fun e w' => (∃ v', e = .returned v' ∧ NumV w' v' 1) ∧ RndIn w (.func (.func 103) #[] #[]) rb rt rbo (decide (a.num < 0)) (.slice pa1 ka1 ca1) (.slice pa2 ka2 ca2) w' ∧ Below W.heap.size W w') := hid fun W hW => rnd_call hW (whole_any 1 W (by omega) (by omega))
  have HH1 : Hid (∀ W v, RndIn w (.func (.func 103) #[] #[]) rb rt rbo (decide (a.num < 0)) (.slice pa1 ka1 ca1) (.slice pa2 ka2 ca2) W → NumV W v 1 → Calls Tryz.prog 67 #[v] W fun e w' => (∃ v', e = .returned v' ∧ NumV w' v' (1 / 2)) ∧ RndIn w (.func (.func 103) #[] #[]) rb rt rbo (decide (a.num < 0)) (.slice pa1 ka1 ca1) (.slice pa2 ka2 ca2) w' ∧ Below W.heap.size W w') := hid fun W v hW hv => rnd_call hW (half_any v 1 W hv 1 (bd_whole 1 (by omega) (by omega)) (by omega))
  have HCM : Hid (∀ W v v', RndIn w (.func (.func 103) #[] #[]) rb rt rbo (decide (a.num < 0)) (.slice pa1 ka1 ca1) (.slice pa2 ka2 ca2) W → NumV W v (a / s - ((a / s).floor : Rat)) → NumV W v' (1 / 2) → Calls Tryz.prog 38 #[v, v'] W fun e w' => e = .returned (.int .i64 (cmpQ (a / s - ((a / s).floor : Rat)) (1 / 2))) ∧ RndIn w (.func (.func 103) #[] #[]) rb rt rbo (decide (a.num < 0)) (.slice pa1 ka1 ca1) (.slice pa2 ka2 ca2) w' ∧ Below W.heap.size W w') := hid fun W v v' hW hv hv' => rnd_call hW (compareQ_any v v' _ _ W hv hv' (by have := (bd_sub hq hfl).rs; have := (bd_div (bd_whole 1 (by omega) (by omega)) (bd_whole 2 (by omega) (by omega))).rs; have h3 : rs (1 / 2 : Rat) ≤ 6 := this; unfold Cap; omega))
  have HH2 : Hid (∀ W v, RndIn w (.func (.func 103) #[] #[]) rb rt rbo (decide (a.num < 0)) (.slice pa1 ka1 ca1) (.slice pa2 ka2 ca2) W → NumV W v ((a / s).floor : Rat) → Calls Tryz.prog 67 #[v] W fun e w' => (∃ v', e = .returned v' ∧ NumV w' v' (((a / s).floor : Rat) / 2)) ∧ RndIn w (.func (.func 103) #[] #[]) rb rt rbo (decide (a.num < 0)) (.slice pa1 ka1 ca1) (.slice pa2 ka2 ca2) w' ∧ Below W.heap.size W w') := hid fun W v hW hv => rnd_call hW (half_any v _ W hv _ hfl (by omega))
  have HI2 : Hid (∀ W v, RndIn w (.func (.func 103) #[] #[]) rb rt rbo (decide (a.num < 0)) (.slice pa1 ka1 ca1) (.slice pa2 ka2 ca2) W → NumV W v (((a / s).floor : Rat) / 2) → Calls Tryz.prog 64 #[v] W fun e w' => e = .returned (.bool (decide ((((a / s).floor : Rat) / 2).den = 1))) ∧ RndIn w (.func (.func 103) #[] #[]) rb rt rbo (decide (a.num < 0)) (.slice pa1 ka1 ca1) (.slice pa2 ka2 ca2) w' ∧ Below W.heap.size W w') := hid fun W v hW hv => rnd_call hW (isWhole_any v _ W hv)
  have HGU : Hid (∀ W side o, RndIn w (.func (.func 103) #[] #[]) rb rt rbo (decide (a.num < 0)) (.slice pa1 ka1 ca1) (.slice pa2 ka2 ca2) W → Calls Tryz.prog 103 #[.int .i64 side, .bool o] W fun e w' => e = .returned (.bool (goesUpOf 103 side o)) ∧ w' = W) := hid fun W side o _ => goesUp_any kk 103 hff side o W
  have HP1 : Hid (∀ W v v', RndIn w (.func (.func 103) #[] #[]) rb rt rbo (decide (a.num < 0)) (.slice pa1 ka1 ca1) (.slice pa2 ka2 ca2) W → NumV W v ((a / s).floor : Rat) → NumV W v' 1 → Calls Tryz.prog 68 #[v, v'] W fun e w' => (∃ v', e = .returned v' ∧ NumV w' v' (((a / s).floor : Rat) + 1)) ∧ RndIn w (.func (.func 103) #[] #[]) rb rt rbo (decide (a.num < 0)) (.slice pa1 ka1 ca1) (.slice pa2 ka2 ca2) w' ∧ Below W.heap.size W w') := hid fun W v v' hW hv hv' => rnd_call hW (plus_any v v' _ _ W hv hv' (by have := hfl.rs; have h3 : rs (1 : Rat) ≤ 2 := (bd_whole 1 (by omega) (by omega)).rs; unfold Cap; omega))
  have hl1 : ∀ l, l = ((a / s).floor : Rat) ∨ l = ((a / s).floor : Rat) + 1 → bd l (m + m + 1 + 1 + 1 + 1) := by
    rintro l (rfl | rfl)
    · exact hfl.mono (by omega)
    · exact (bd_add hfl (bd_whole 1 (by omega) (by omega))).mono (by omega)
  have HTM : Hid (∀ W v l, l = ((a / s).floor : Rat) ∨ l = ((a / s).floor : Rat) + 1 → RndIn w (.func (.func 103) #[] #[]) rb rt rbo (decide (a.num < 0)) (.slice pa1 ka1 ca1) (.slice pa2 ka2 ca2) W → NumV W v l → Calls Tryz.prog 41 #[v, .agg #[.bool rb, rt, rbo]] W fun e w' => (∃ v', e = .returned v' ∧ NumV w' v' (l * s)) ∧ RndIn w (.func (.func 103) #[] #[]) rb rt rbo (decide (a.num < 0)) (.slice pa1 ka1 ca1) (.slice pa2 ka2 ca2) w' ∧ Below W.heap.size W w') := hid fun W v l hl hW hv => rnd_call hW (times_any v _ _ _ W hv (HS.out.later hW.1) (by have := (hl1 l hl).rs; have := hms.rs; unfold Cap; omega))
  rw [decide_eq_false hw] at HIW
  have HRN : Hid (roundN 103 (a / s) = if goesUpOf 103 (cmpQ (a / s - ((a / s).floor : Rat)) (1 / 2)) (!decide ((((a / s).floor : Rat) / 2).den = 1)) then ((a / s).floor : Rat) + 1 else ((a / s).floor : Rat)) := hid rfl
  clear hl1 hfl
  generalize ((a / s).floor : Rat) = fl at *
  generalize a / s - fl = dq at *
  generalize cmpQ dq (1 / 2) = side at *
  generalize decide ((fl / 2).den = 1) = ev at *
  clear hff
  subst hrb hrt hrbo
  clear ha ha1 ha2 hs hs1 hs2 hma hms hm1 hc hs0 hq
  generalize decide (a.num < 0) = na at *
  generalize decide (s.num < 0) = rb at *
  go_enter Tryz.func34, Tryz.ntmps34
  go_wp2_with fail
  generalize ((w.alloc (.cells #[.func (.func 103) #[] #[], .bool rb, .slice ps1 ks1 cs1, .slice ps2 ks2 cs2] 83)).alloc (.cells #[.bool na, .slice pa1 ka1 ca1, .slice pa2 ka2 ca2] 75)).alloc (.cells #[.bool false, .slice none 0 0, .slice none 0 0] 75) = w0 at *
  obtain ⟨c0, c1, c2, c3, c4, c5, c6⟩ := rnd_cells HW0.out
  go_wp2_with fail
  refine (HOV.out _ HW0.out).mono ?_
  clear c0 c1 c2 c3 c4 c5 c6
  rintro e w1 ⟨⟨v1, rfl, hv⟩, hr, hb⟩
  obtain ⟨p1, k1, l1, p2, k2, l2, rfl, hp1, hp2⟩ := hv.parts
  clear hp1 hp2
  obtain ⟨hal, hbx⟩ := box_new w1 (decide ((a / s).num < 0)) (.slice p1 k1 l1) (.slice p2 k2 l2)
  have HR := hid (hr.later hal)
  have HV := hid (hv.later hal)
  have HX := hid hbx
  have hlt1 : w.heap.size + 1 + 1 < w1.heap.size := hr.2.2.2.1
  clear hr hv hb hal hbx HOV HW0
  generalize decide ((a / s).num < 0) = s1 at *
  go_wp2_with fail
  refine (HIW.out _ _ HR.out HV.out).mono ?_
  rintro e w2 ⟨rfl, hr, hb⟩
  have HR2 := hid hr
  have HV2 := hid (HV.out.later hb)
  have HX2 := hid (HX.out.later (hb.mono HX.out.1))
  clear hr hb HR HV HX HIW
  generalize w1.heap.size = B5 at *
  obtain ⟨x0, x1, x2⟩ := box_cells HX2.out
  go_wp2_with fail
  refine (HFL.out _ _ HR2.out HV2.out).mono ?_
  clear x0 x1 x2
  rintro e w3 ⟨⟨v3, rfl, hv⟩, hr, hb⟩
  obtain ⟨p3, k3, l3, p4, k4, l4, rfl, hp1, hp2⟩ := hv.parts
  clear hp1 hp2
  obtain ⟨hal, hbx⟩ := box_new w3 (decide (fl.num < 0)) (.slice p3 k3 l3) (.slice p4 k4 l4)
  have HR3 := hid (hr.later hal)
  have HF3 := hid (hv.later hal)
  have HV3 := hid ((HV2.out.later hb).later hal)
  have HX3 := hid ((HX2.out.later (hb.mono HX2.out.1)).later (hal.mono (by have := HX2.out.1; have := hb.size; omega)))
  have HY3 := hid hbx
  have hlt3 : w.heap.size + 1 + 1 < w3.heap.size := hr.2.2.2.1
  clear hr hv hb hal hbx HR2 HV2 HX2 HFL
  generalize decide (fl.num < 0) = s3 at *
  obtain ⟨x0, x1, x2⟩ := box_cells HX3.out
  go_wp2_with fail
  refine (HMI.out _ _ _ HR3.out HV3.out HF3.out).mono ?_
  clear x0 x1 x2
  rintro e w4 ⟨⟨v4, rfl, hv⟩, hr, hb⟩
  have HD4 := hid hv
  have HR4 := hid hr
  have HF4 := hid (HF3.out.later hb)
  have HY4 := hid (HY3.out.later (hb.mono HY3.out.1))
  clear hv hr hb HR3 HV3 HF3 HX3 HY3 HMI
  go_wp2_with fail
  refine (HW1.out _ HR4.out).mono ?_
  rintro e w5 ⟨⟨v5, rfl, hv⟩, hr, hb⟩
  have HO5 := hid hv
  have HR5 := hid hr
  have HD5 := hid (HD4.out.later hb)
  have HF5 := hid (HF4.out.later hb)
  have HY5 := hid (HY4.out.later (hb.mono HY4.out.1))
  clear hv hr hb HR4 HD4 HF4 HY4
  go_wp2_with fail
  refine (HH1.out _ _ HR5.out HO5.out).mono ?_
  rintro e w6 ⟨⟨v6, rfl, hv⟩, hr, hb⟩
  have HH6 := hid hv
  have HR6 := hid hr
  have HD6 := hid (HD5.out.later hb)
  have HF6 := hid (HF5.out.later hb)
  have HY6 := hid (HY5.out.later (hb.mono HY5.out.1))
  clear hv hr hb HR5 HD5 HF5 HY5 HO5 HH1
  go_wp2_with fail
  refine (HCM.out _ _ _ HR6.out HD6.out HH6.out).mono ?_
  rintro e w7 ⟨rfl, hr, hb⟩
  have HR7 := hid (hr.later ((Below.refl _ _).drew))
  have HF7 := hid ((HF6.out.later hb).later ((Below.refl _ _).drew))
  have HY7 := hid ((HY6.out.later (hb.mono HY6.out.1)).later ((Below.refl _ _).drew))
  clear hr hb HR6 HD6 HF6 HY6 HH6 HCM
  generalize w3.heap.size = B6 at *
  go_wp2_with fail
  have cA := rnd_cells HR7.out
  have xA := box_cells HY7.out
  go_region_held3 (fun W => (W.cell? ⟨w.heap.size, 0, none⟩ = some (.func (.func 103) #[] #[])) ∧ (W.cell? ⟨B6, 0, none⟩ = some (.bool s3) ∧ W.cell? ⟨B6, 1, none⟩ = some (.slice p3 k3 l3) ∧ W.cell? ⟨B6, 2, none⟩ = some (.slice p4 k4 l4))) (first | with_reducible exact ⟨cA.1, xA⟩ | with_reducible exact ⟨cB.1, xB⟩ | with_reducible exact ⟨cC.1, xC⟩)
    (first
      | (go_at_call 67; ((with_reducible refine (HH2.out _ _ HR7.out HF7.out).mono ?_); rintro e wX ⟨⟨vX, rfl, hn⟩, ht, hb⟩; have HVX := hid hn; have HRX := hid ht; have HFX := hid (HF7.out.later hb); have HYX := hid (HY7.out.later (hb.mono HY7.out.1)); have cB := rnd_cells ht; have xB := box_cells HYX.out; clear hn ht hb))
      | (go_at_call 64; ((with_reducible refine (HI2.out _ _ HRX.out HVX.out).mono ?_); rintro e wY ⟨rfl, ht, hb⟩; have HRY := hid ht; have HFY := hid (HFX.out.later hb); have HYY := hid (HYX.out.later (hb.mono HYX.out.1)); have cC := rnd_cells ht; have xC := box_cells HYY.out; clear ht hb))
       | (go_at_call 100; ((refine (HGU.out _ _ _ HRY.out).mono ?_); rintro e wZ ⟨rfl, hwz⟩; rw [hwz]; clear hwz))
      | (go_at_call 101; ((refine (HGU.out _ _ _ HRY.out).mono ?_); rintro e wZ ⟨rfl, hwz⟩; rw [hwz]; clear hwz))
      | (go_at_call 102; ((refine (HGU.out _ _ _ HRY.out).mono ?_); rintro e wZ ⟨rfl, hwz⟩; rw [hwz]; clear hwz))
      | (go_at_call 103; ((refine (HGU.out _ _ _ HRY.out).mono ?_); rintro e wZ ⟨rfl, hwz⟩; rw [hwz]; clear hwz)))
  have HFZ := hid HFY.out
  clear cA xA cB xB cC xC HR7 HF7 HY7 HRX HFX HYX HVX HH2 HI2 HGU
  generalize goesUpOf 103 side (!ev) = gu at *
  cases gu
  · have HE : Hid (roundN 103 (a / s) = fl) := hid HRN.out
    obtain ⟨c0, c1, c2, c3, c4, c5, c6⟩ := rnd_cells HRY.out
    obtain ⟨x0, x1, x2⟩ := box_cells HYY.out
    go_wp2_with fail
    refine (HTM.out _ _ fl (.inl rfl) HRY.out HFY.out).mono ?_
    clear c0 c1 c2 c3 c4 c5 c6 x0 x1 x2
    rintro e wT ⟨⟨vT, rfl, hv⟩, hr, hb⟩
    obtain ⟨pt, kt, ct, pf, kf, cf, rfl, hp1, hp2⟩ := hv.parts
    generalize decide ((fl * s).num < 0) = sg at *
    obtain ⟨⟨r0, g0⟩, ⟨r1, g1⟩, ⟨r2, g2⟩⟩ := rnd_out hr
    have HFIN := hid (num_stored hv r0 r1 r2)
    have HBEL := hid (below_stored hr.1 (show w.heap.size ≤ w.heap.size + 1 + 1 by omega) (.bool sg) (.slice pt kt ct) (.slice pf kf cf))
    clear hp1 hp2 hv hr hb HRY HFY HYY HFZ
    go_wp2_with fail
    refine bodyPost_ret (v := .agg #[.bool sg, .slice pt kt ct, .slice pf kf cf]) ?_ rfl ?_
    · simp [results, Tryz.results34, go_sem, r0, r1, r2]
    · exact ⟨⟨_, rfl, by rw [HE.out]; exact HFIN.out⟩, HBEL.out⟩
  · have HE : Hid (roundN 103 (a / s) = fl + 1) := hid HRN.out
    go_wp2_with fail
    have HRD := hid (HRY.out.later ((Below.refl _ _).drew))
    have HFD := hid (HFY.out.later ((Below.refl _ _).drew))
    have HYD : Hid (Own wY.drew B6 3 (numCell s3 (.slice p3 k3 l3) (.slice p4 k4 l4))) := hid (HYY.out.later ((Below.refl _ _).drew))
    obtain ⟨x0, x1, x2⟩ := box_cells HYD.out
    go_region_with (first
      | (go_at_call 39; ((with_reducible refine (HW1.out _ HRD.out).mono ?_); rintro e wU ⟨⟨vU, rfl, hn⟩, ht, hb⟩; have HVU := hid hn; have HRU := hid ht; have HFU := hid (HFD.out.later hb); have HYU := hid (HYD.out.later (hb.mono HYD.out.1)); clear x0 x1 x2; obtain ⟨x0, x1, x2⟩ := box_cells HYU.out; clear hn ht hb))
      | (go_at_call 68; ((with_reducible refine (HP1.out _ _ _ HRU.out HFU.out HVU.out).mono ?_); rintro e wV ⟨⟨vV, rfl, hn⟩, ht, hb⟩; have HVV := hid hn; have HRV := hid ht; have HYV := hid (HYU.out.later (hb.mono HYU.out.1)); obtain ⟨pt, kt, ct, pf, kf, cf, rfl, hp1, hp2⟩ := hn.parts; generalize decide ((fl + 1).num < 0) = sv at *; clear x0 x1 x2; obtain ⟨x0, x1, x2⟩ := box_cells HYV.out; have y0 := (HYV.out.2 0 (by omega)).2; have y1 := (HYV.out.2 1 (by omega)).2; have y2 := (HYV.out.2 2 (by omega)).2; clear hn ht hb hp1 hp2)))
    all_goals
     have hrs := ((HRV.out.set hlt3 0 (.bool sv)).set hlt3 1 (.slice pt kt ct)).set hlt3 2 (.slice pf kf cf)
     have h1 := numV_set HVV.out HYV.out 0 (by omega) (by intro k z h; cases h) (.bool sv)
     have h2 := numV_set h1 (HYV.out.set 0 (by omega) (.bool sv)) 1 (by omega) (by intro k z h; cases h) (.slice pt kt ct)
     have h3 := numV_set h2 ((HYV.out.set 0 (by omega) (.bool sv)).set 1 (by omega) (.slice pt kt ct)) 2 (by omega) (by intro k z h; cases h) (.slice pf kf cf)
     have ho := (((HYV.out.set 0 (by omega) (.bool sv)).set 1 (by omega) (.slice pt kt ct)).set 2 (by omega) (.slice pf kf cf)).congr (f' := numCell sv (.slice pt kt ct) (.slice pf kf cf)) (fun i hi => by
       match i, hi with
       | 0, _ => rfl
       | 1, _ => rfl
       | 2, _ => rfl)
     clear h1 h2 x0 x1 x2 y0 y1 y2 HYV HRV HVV HRU HFU HYU HVU HRD HFD HYD HRY HFY HYY HFZ HW1 HP1
     generalize ((wV.setCell ⟨B6, 0, none⟩ (.bool sv)).setCell ⟨B6, 1, none⟩ (.slice pt kt ct)).setCell ⟨B6, 2, none⟩ (.slice pf kf cf) = wW at *
     have HRW := hid hrs
     have HFW := hid h3
     obtain ⟨c0, c1, c2, c3, c4, c5, c6⟩ := rnd_cells hrs
     obtain ⟨x0, x1, x2⟩ := box_cells ho
     clear hrs h3 ho
     go_wp2_with fail
     refine (HTM.out _ _ (fl + 1) (.inr rfl) HRW.out HFW.out).mono ?_
     clear c0 c1 c2 c3 c4 c5 c6 x0 x1 x2
     rintro e wT ⟨⟨vT, rfl, hv⟩, hr, hb⟩
     obtain ⟨pu, ku, cu, pg, kg, cg, rfl, hp1, hp2⟩ := hv.parts
     generalize decide (((fl + 1) * s).num < 0) = sg at *
     obtain ⟨⟨r0, g0⟩, ⟨r1, g1⟩, ⟨r2, g2⟩⟩ := rnd_out hr
     have HFIN := hid (num_stored hv r0 r1 r2)
     have HBEL := hid (below_stored hr.1 (show w.heap.size ≤ w.heap.size + 1 + 1 by omega) (.bool sg) (.slice pu ku cu) (.slice pg kg cg))
     clear hp1 hp2 hv hr hb HRW HFW
     go_wp2_with fail
     refine bodyPost_ret (v := .agg #[.bool sg, .slice pu ku cu, .slice pg kg cg]) ?_ rfl ?_
     · simp [results, Tryz.results34, go_sem, r0, r1, r2]
     · exact ⟨⟨_, rfl, by rw [HE.out]; exact HFIN.out⟩, HBEL.out⟩

/-- rounded returns the number that is rounded by the rule. -/
theorem rounded_any (f : Nat) (rb : Bool) (rt rbo : Value) (va : Value) (a s : Rat) (w : World) (hs : NumV w (.agg #[.bool rb, rt, rbo]) s) (ha : NumV w va a) (hs0 : s.num ≠ 0) (m : Nat) (hma : bd a m) (hms : bd s m) (hm1 : 1 ≤ m) (hc : m ≤ 1048576) (kk : ByteArray) (hff : ruleFn kk = some f) :
    Calls Tryz.prog 34 #[.agg #[.func (.func f) #[] #[], .bool rb, rt, rbo], va] w fun e w' => (∃ v', e = .returned v' ∧ NumV w' v' (roundQ f a s)) ∧ Below w.heap.size w w' := by
  by_cases hw : (a / s).den = 1
  · have e1 : roundQ f a s = a := if_pos hw
    rw [e1]
    exact rounded_whole f rb rt rbo va a s w hs ha hs0 m hma hms hm1 hc hw
  · have e1 : roundQ f a s = roundN f (a / s) * s := if_neg hw
    rw [e1]
    rcases ruleFn_four hff with rfl | rfl | rfl | rfl
    · exact rounded_step1 rb rt rbo va a s w hs ha hs0 m hma hms hm1 hc kk hff hw
    · exact rounded_step2 rb rt rbo va a s w hs ha hs0 m hma hms hm1 hc kk hff hw
    · exact rounded_step3 rb rt rbo va a s w hs ha hs0 m hma hms hm1 hc kk hff hw
    · exact rounded_step4 rb rt rbo va a s w hs ha hs0 m hma hms hm1 hc kk hff hw
end Go.Proofs.YtocoghnopmjceaaGreatDoor

