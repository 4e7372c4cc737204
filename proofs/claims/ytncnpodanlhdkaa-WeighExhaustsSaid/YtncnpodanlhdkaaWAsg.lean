/-
  Books: the masses that flow through the network are the assignments.
-/
import Derived.Test.YtncnpodanlhdkaaWGraph
import Derived.Test.YtncnpodanlhdkaaWTight
import Derived.Test.YtncnpodanlhdkaaWRefGain
namespace Go.Proofs.Ytncnpodanlhdkaa
set_option linter.all false
open Go.RowKit

theorem set_get {α : Type} {L : List α} {i j : Nat} {x y : α} (h : (L.set i x)[j]? = some y) : (j = i ∧ y = x) ∨ (j ≠ i ∧ L[j]? = some y) := by
  by_cases e : j = i
  · subst e
    rw [List.getElem?_set_self'] at h
    rcases hq : L[j]? with _ | q
    · rw [hq] at h; cases h
    · rw [hq] at h; cases h; exact .inl ⟨rfl, rfl⟩
  · rw [List.getElem?_set_ne (Ne.symm e)] at h
    exact .inr ⟨e, h⟩
theorem bal_what : ∀ (L : List Arc) (b : List Int) (c : Int), b.length = 34 → 0 ≤ c → (∀ x ∈ L, x.src < 34 ∧ x.dst < 34 ∧ -1099511627776 ≤ x.mass ∧ x.mass ≤ 1099511627776) → (∀ v : Nat, -c ≤ b.getD v 0 ∧ b.getD v 0 ≤ c) → c + (L.length : Int) * 1099511627776 ≤ 4503599627370496 →
    ∃ r, balF L b = some r ∧ r.length = 34 ∧ r.all small = true ∧ ∀ v : Nat, r.getD v 0 = b.getD v 0 + flow (one v) (geo L) (mss L)
  | [], b, c, hb, h0, _, hv, hc => ⟨b, rfl, hb, all_of fun v _ => small_iff.2 (by have := hv v; rw [List.length_nil] at hc; omega), fun v => by show _ = _ + (0 : Int); omega⟩
  | x :: L, b, c, hb, h0, hL, hv, hc => by
    obtain ⟨hs, hd, hm1, hm2⟩ := hL x (List.mem_cons_self ..)
    rw [List.length_cons] at hc
    obtain ⟨b1, hb1⟩ : ∃ b1, b1 = b.set x.src (b.getD x.src 0 - x.mass) := ⟨_, rfl⟩
    obtain ⟨b2, hb2⟩ : ∃ b2, b2 = b1.set x.dst (b1.getD x.dst 0 + x.mass) := ⟨_, rfl⟩
    have len1 : b1.length = 34 := by rw [hb1, List.length_set]; exact hb
    have len2 : b2.length = 34 := by rw [hb2, List.length_set]; exact len1
    have g1 : ∀ v, b1.getD v 0 = if v = x.src then b.getD x.src 0 - x.mass else b.getD v 0 := fun v => by rw [hb1]; exact getD_set (by rw [hb]; exact hs)
    have g2 : ∀ v, b2.getD v 0 = if v = x.dst then b1.getD x.dst 0 + x.mass else b1.getD v 0 := fun v => by rw [hb2]; exact getD_set (by rw [len1]; exact hd)
    have e1 : ∀ v, -(c + 1099511627776) ≤ b1.getD v 0 ∧ b1.getD v 0 ≤ c + 1099511627776 := fun v => by
      rw [g1]
      have h1 := hv v
      have h2 := hv x.src
      split <;> omega
    have e2 : ∀ v, -(c + 1099511627776) ≤ b2.getD v 0 ∧ b2.getD v 0 ≤ c + 1099511627776 := fun v => by
      rw [g2, g1, g1]
      have h1 := hv v
      have h2 := hv x.src
      have h3 := hv x.dst
      split <;> split <;> omega
    obtain ⟨r, r1, r2, r3, r4⟩ := bal_what L b2 (c + 1099511627776) len2 (by omega) (fun y hy => hL y (List.mem_cons_of_mem _ hy)) e2 (by omega)
    refine ⟨r, ?_, r2, r3, fun v => ?_⟩
    · unfold balF
      dsimp only
      have s1 : small (b.getD x.src 0 - x.mass) = true := small_iff.2 (by have := hv x.src; omega)
      have s2 : small (b1.getD x.dst 0 + x.mass) = true := small_iff.2 (by have := e2 x.dst; rw [g2, if_pos rfl] at this; omega)
      rw [← hb1, s1, s2, ← hb2]
      exact r1
    · rw [r4, g2, g1, g1]
      show _ = _ + (ind (one v x.dst) x.mass - ind (one v x.src) x.mass + flow (one v) (geo L) (mss L))
      unfold one ind
      by_cases c1 : v = x.dst <;> by_cases c2 : v = x.src
      · rw [if_pos c1, ← c1, if_pos c2, c2, decide_eq_true rfl, if_pos rfl]; omega
      · rw [if_pos c1, ← c1, if_neg c2, decide_eq_true rfl, decide_eq_false (fun e => c2 e.symm), if_pos rfl, if_neg (by decide)]; omega
      · rw [if_neg c1, if_pos c2, c2, decide_eq_true rfl, decide_eq_false (fun e => c1 (c2.trans e.symm)), if_pos rfl, if_neg (by decide)]; omega
      · rw [if_neg c1, if_neg c2, decide_eq_false (fun e => c1 e.symm), decide_eq_false (fun e => c2 e.symm), if_neg (by decide)]; omega
theorem noB_get (v : Nat) : noB.getD v 0 = 0 := by
  unfold noB
  rw [List.getD_eq_getElem?_getD, List.getElem?_replicate]
  split <;> rfl
theorem ind_true (m : Int) : ind true m = m := rfl
theorem ind_false (m : Int) : ind false m = 0 := rfl
theorem nil_iff {l : List Int} : nil l = true ↔ ∀ v, v < 34 → l.getD v 0 = 0 := by
  unfold nil
  rw [List.all_eq_true]
  constructor
  · intro h v hv
    have := h v (List.mem_range.2 hv)
    rw [noB_get] at this
    exact eq_of_beq this
  · intro h v hv
    rw [noB_get, h v (List.mem_range.1 hv)]
    rfl
theorem settle_core {N : Net} (hN : N.Ok) (hw : Wired N) : ∃ b N' l' mk, balF N.arcs noB = some b ∧ evenF fuel N b = some (N', l', mk) ∧ N'.Ok ∧ Alike N N' ∧ (∀ v : Nat, v < 34 → flow (one v) (geo N'.arcs) (mss N'.arcs) = l'.getD v 0) ∧ Cut N' l' mk := by
  obtain ⟨b, h1, h2, h3, h4⟩ := bal_what N.arcs noB 0 rfl (Int.le_refl _) (fun x hx => by
    obtain ⟨i, hi⟩ := List.mem_iff_getElem?.1 hx
    have := hN.arc i x hi
    omega) (fun v => by rw [noB_get]; decide) (by have := hN.few; omega)
  have hmu := mu_bound h3
  rw [h2] at hmu
  obtain ⟨N', l', mk, r1, r2, r3, _, _, r5, _, _, r8⟩ := even_what (k := fuel) hN hw h2 h3 (by unfold fuel; omega)
  refine ⟨b, N', l', mk, h1, r1, r2, r3, fun v _ => ?_, r8⟩
  rw [r3.geo, r5, h4, noB_get]
  omega
/-- What settle answers: masses that flow through, or there are none. -/
theorem settle_what {N : Net} (hN : N.Ok) (hw : Wired N) : ∃ N' r, settleF N = some (N', r) ∧ N'.Ok ∧ Alike N N' ∧ (r = true → Circ N (mss N'.arcs)) ∧ (r = false → ∀ M, ¬ Circ N M) := by
  obtain ⟨b, N', l', mk, h1, h2, h3, h4, h5, h6⟩ := settle_core hN hw
  refine ⟨N', nil l', ?_, h3, h4, fun h => ?_, fun h M hM => ?_⟩
  · unfold settleF
    rw [h1]
    dsimp only
    rw [h2]
  · refine ⟨by rw [← h4.rgs]; exact h3.fits, fun v hv => ?_⟩
    rw [← h4.geo, h5 v hv]
    exact nil_iff.1 h v hv
  · have := cut_sum h3.nodes h5 h6 (hM.alike h4)
    rw [nil_iff.2 this] at h
    cases h
theorem sumN_two (f : Nat → Int) {a b n : Nat} (ha : a < n) (hb : b < n) (hab : a ≠ b) (h : ∀ v, v < n → v ≠ a → v ≠ b → f v = 0) : sumN n f = f a + f b := by
  have e : sumN n f = sumN n (fun v => (if v = a then f a else 0) + (if v = b then f b else 0)) := sumN_eq fun v hv => by
    by_cases c1 : v = a
    · rw [if_pos c1, if_neg (fun e => hab (c1.symm.trans e)), c1]; omega
    · by_cases c2 : v = b
      · rw [if_neg c1, if_pos c2, c2]; omega
      · rw [if_neg c1, if_neg c2, h v hv c1 c2]; omega
  rw [e, sumN_add, sumN_one _ a ha fun v _ c => if_neg c, sumN_one _ b hb fun v _ c => if_neg c, if_pos rfl, if_pos rfl]
theorem stretch_what {N : Net} (hN : N.Ok) (hw : Wired N) (hc : Circ N (mss N.arcs)) {i : Nat} {x : Arc} (hx : N.arcs[i]? = some x) (hi : Bool) :
    ∃ N3 m, stretchF fuel N i hi = some (N3, m) ∧ N3.Ok ∧ Alike N N3 ∧ Circ N (mss N3.arcs) ∧ (mss N3.arcs)[i]? = some m ∧ ∀ M, Circ N M → if hi = true then M.getD i 0 ≤ m else m ≤ M.getD i 0 := by
  have hil := (List.getElem?_eq_some_iff.1 hx).1
  obtain ⟨a1, a2, a3, a4, a5, a6⟩ := hN.arc i x hx
  have hsd := (hw.arc i x hx).1
  obtain ⟨N0, hN0⟩ : ∃ N0, N0 = N.put i { x with low := x.mass, high := x.mass } := ⟨_, rfl⟩
  have arcs0 : N0.arcs = N.arcs.set i { x with low := x.mass, high := x.mass } := by rw [hN0]; rfl
  have ends0 : N0.ends = N.ends := by rw [hN0]; rfl
  have geo0 : geo N0.arcs = geo N.arcs := by
    rw [arcs0]
    unfold geo
    rw [List.map_set]
    have h := set_same (geo_get hx)
    unfold geo at h
    exact h
  have mss0 : mss N0.arcs = mss N.arcs := by
    rw [arcs0]
    unfold mss
    rw [List.map_set]
    have h := set_same (mss_get hx)
    unfold mss at h
    exact h
  have rgs0 : rgs N0.arcs = (rgs N.arcs).set i (x.mass, x.mass) := by
    rw [arcs0]
    unfold rgs
    rw [List.map_set]
  have len0 : N0.arcs.length = N.arcs.length := by rw [arcs0, List.length_set]
  have ok0 : N0.Ok := by
    refine ⟨by rw [ends0]; exact hN.len, by rw [len0]; exact hN.few, fun v l hv => ?_, fun j y hy => ?_⟩
    · rw [ends0] at hv
      rw [len0]
      exact hN.less v l hv
    · rw [arcs0] at hy
      rcases set_get hy with ⟨_, rfl⟩ | ⟨_, hy⟩
      · exact ⟨a1, a2, Int.le_refl _, Int.le_refl _, by dsimp only; omega, by dsimp only; omega⟩
      · exact hN.arc j y hy
  have w0 := wired_of hw ends0 geo0
  obtain ⟨w, hwd⟩ : ∃ w, w = want x hi := ⟨_, rfl⟩
  have hwb : -2199023255552 ≤ w ∧ w ≤ 2199023255552 := by
    rw [hwd]
    unfold want
    split <;> omega
  obtain ⟨l, hl⟩ : ∃ l, l = pull x w := ⟨_, rfl⟩
  have llen : l.length = 34 := by rw [hl]; unfold pull; rw [List.length_set, List.length_set]; rfl
  have lget : ∀ v, l.getD v 0 = if v = x.src then -w else if v = x.dst then w else 0 := fun v => by
    rw [hl]
    unfold pull
    rw [getD_set (by rw [List.length_set]; exact a1), getD_set (show x.dst < noB.length from a2), noB_get]
  have lsm : l.all small = true := all_of fun v _ => by
    rw [lget]
    refine small_iff.2 ?_
    split
    · omega
    · split <;> omega
  have hmu := mu_bound lsm
  rw [llen] at hmu
  obtain ⟨N2, l', mk, r1, r2, r3, r4, r4b, r5, r6, r7, r8⟩ := even_what (k := fuel) ok0 w0 llen lsm (by unfold fuel; omega)
  rw [geo0, mss0] at r5
  have r5' : ∀ v, v < 34 → flow (one v) (geo N.arcs) (mss N2.arcs) = l'.getD v 0 - l.getD v 0 := fun v hv => by
    rw [r5, hc.zero v hv]; omega
  have lsrc : l.getD x.src 0 = -w := by rw [lget, if_pos rfl]
  have ldst : l.getD x.dst 0 = w := by rw [lget, if_neg (Ne.symm hsd), if_pos rfl]
  have hoth : ∀ v, v ≠ x.src → v ≠ x.dst → l.getD v 0 = 0 ∧ l'.getD v 0 = 0 := fun v h1 h2 => by
    have e : l.getD v 0 = 0 := by rw [lget, if_neg h1, if_neg h2]
    have h3 := r6 v (by omega)
    have h4 := r7 v (by omega)
    omega
  have hflow : ∀ S : Nat → Bool, flow S (geo N.arcs) (mss N2.arcs) = ind (S x.src) (l'.getD x.src 0 + w) + ind (S x.dst) (l'.getD x.dst 0 - w) := fun S => by
    rw [← flow_sum S 34 _ _ hN.nodes, sumN_two _ a1 a2 hsd fun v hv h1 h2 => ?_]
    · rw [r5' _ a1, r5' _ a2, lsrc, ldst, show l'.getD x.src 0 - -w = l'.getD x.src 0 + w by omega]
    · have := hoth v h1 h2
      rw [r5' v hv, this.1, this.2]
      unfold ind
      split <;> rfl
  have hsum : l'.getD x.src 0 = -l'.getD x.dst 0 := by
    have h1 := hflow fun _ => true
    rw [flow_all] at h1
    unfold ind at h1
    rw [if_pos rfl, if_pos rfl] at h1
    omega
  obtain ⟨m, hm⟩ : ∃ m, m = x.mass + (w - l'.getD x.dst 0) := ⟨_, rfl⟩
  have hd1 := r6 x.dst
  have hd2 := r7 x.dst
  rw [ldst] at hd1 hd2
  have hmr : x.low ≤ m ∧ m ≤ x.high := by
    rw [hm]
    unfold want at hwd
    cases hi
    · rw [if_neg (by decide)] at hwd
      have := hd2 (by omega)
      omega
    · rw [if_pos rfl] at hwd
      have := hd1 (by omega)
      omega
  have hsm : (small m && small (w - l'.getD x.dst 0)) = true := by
    rw [Bool.and_eq_true, small_iff, small_iff]
    have : w - l'.getD x.dst 0 = m - x.mass := by omega
    omega
  obtain ⟨N3, hN3⟩ : ∃ N3, N3 = N2.put i { x with mass := m } := ⟨_, rfl⟩
  have arcs3 : N3.arcs = N2.arcs.set i { x with mass := m } := by rw [hN3]; rfl
  have len2 : N2.arcs.length = N.arcs.length := by rw [r3.len, len0]
  have geo2 : geo N2.arcs = geo N.arcs := by rw [r3.geo, geo0]
  have rgs2 : rgs N2.arcs = (rgs N.arcs).set i (x.mass, x.mass) := by rw [r3.rgs, rgs0]
  have mass2 : (mss N2.arcs).getD i 0 = x.mass := by
    have h := fits_get r2.fits (i := i) (r := (x.mass, x.mass)) (by rw [rgs2]; exact List.getElem?_set_self (by rw [rgs_len]; exact hil))
    dsimp only at h
    omega
  have geo3 : geo N3.arcs = geo N.arcs := by
    rw [arcs3]
    unfold geo at geo2 ⊢
    rw [List.map_set, geo2]
    have h := set_same (geo_get hx)
    unfold geo at h
    exact h
  have mss3 : mss N3.arcs = (mss N2.arcs).set i m := by
    rw [arcs3]
    unfold mss
    rw [List.map_set]
  have rgs3 : rgs N3.arcs = rgs N.arcs := by
    rw [arcs3]
    unfold rgs at rgs2 ⊢
    rw [List.map_set, rgs2, List.set_set]
    have h := set_same (rgs_get hx)
    unfold rgs at h
    exact h
  have hal : Alike N N3 := ⟨by rw [hN3]; show N2.ends = N.ends; rw [r3.ends, ends0], geo3, rgs3⟩
  have hi2 : i < (mss N2.arcs).length := by rw [mss_len, len2]; exact hil
  have ok3 : N3.Ok := by
    refine ⟨by rw [hal.ends]; exact hN.len, by rw [hal.len]; exact hN.few, fun v l hv => ?_, fun j y hy => ?_⟩
    · rw [hal.ends] at hv
      rw [hal.len]
      exact hN.less v l hv
    · rw [arcs3] at hy
      rcases set_get hy with ⟨_, rfl⟩ | ⟨_, hy⟩
      · exact ⟨a1, a2, hmr.1, hmr.2, a5, a6⟩
      · exact r2.arc j y hy
  refine ⟨N3, m, ?_, ok3, hal, ⟨by rw [← rgs3]; exact ok3.fits, fun v hv => ?_⟩, by rw [mss3]; exact List.getElem?_set_self hi2, fun M hM => ?_⟩
  · unfold stretchF
    rw [hx]
    dsimp only
    rw [← hwd, ← hl, ← hN0, r1]
    dsimp only
    rw [← hm, if_pos hsm, hN3]
  · rw [mss3, flow_set _ _ _ i (x.src, x.dst) m (geo_get hx) hi2, mass2, hflow]
    dsimp only
    rw [hm, show x.mass + (w - l'.getD x.dst 0) - x.mass = w - l'.getD x.dst 0 by omega, hsum]
    unfold ind
    split <;> split <;> omega
  · have hMl : i < M.length := by rw [fits_len hM.fits, rgs_len]; exact hil
    have hMi := fits_get hM.fits (rgs_get hx)
    have hfit : Fits (rgs N2.arcs) (M.set i x.mass) := by
      rw [rgs2]
      refine fits_of (by rw [List.length_set, List.length_set]; exact fits_len hM.fits) fun j r hr => ?_
      rw [getD_set hMl]
      rcases set_get hr with ⟨e, rfl⟩ | ⟨e, hr⟩
      · rw [if_pos e]
        exact ⟨Int.le_refl _, Int.le_refl _⟩
      · rw [if_neg e]
        exact fits_get hM.fits hr
    have hcut := flow_cut (fun v => mk.getD v false) N2.arcs (M.set i x.mass) hfit r8.arcs
    rw [geo2, hflow, flow_set _ _ _ i (x.src, x.dst) x.mass (geo_get hx) hMl, hM.set hN.nodes] at hcut
    dsimp only at hcut
    dsimp only at hMi
    unfold want at hwd
    cases hi
    · rw [if_neg (by decide)] at hwd ⊢
      have hd := hd2 (by omega)
      by_cases c : l'.getD x.dst 0 = 0
      · omega
      · rw [r8.under x.dst (by omega), r8.over x.src (by omega)] at hcut
        simp only [ind_true, ind_false] at hcut
        omega
    · rw [if_pos rfl] at hwd ⊢
      have hd := hd1 (by omega)
      by_cases c : l'.getD x.dst 0 = 0
      · omega
      · rw [r8.over x.dst (by omega), r8.under x.src (by omega)] at hcut
        simp only [ind_true, ind_false] at hcut
        omega

open Go.RowKit

theorem flow_app (S : Nat → Bool) : ∀ (G : List (Nat × Nat)) (M : List Int) (G' : List (Nat × Nat)) (M' : List Int), G.length = M.length → flow S (G ++ G') (M ++ M') = flow S G M + flow S G' M'
  | [], [], _, _, _ => by rw [List.nil_append, List.nil_append, flow_nil]; omega
  | [], _ :: _, _, _, h => by simp at h
  | _ :: _, [], _, _, h => by simp at h
  | e :: G, m :: M, G', M', h => by
    have ih := flow_app S G M G' M' (by simpa using h)
    show ind (S e.2) m - ind (S e.1) m + flow S (G ++ G') (M ++ M') = ind (S e.2) m - ind (S e.1) m + flow S G M + flow S G' M'
    omega
theorem flow_one (S : Nat → Bool) (e : Nat × Nat) (m : Int) : flow S [e] [m] = ind (S e.2) m - ind (S e.1) m := by
  show ind (S e.2) m - ind (S e.1) m + 0 = _
  omega
theorem bump_get {E : List (List Nat)} {s i v : Nat} (hs : s < E.length) : (bumpE E s i).getD v [] = if v = s then E.getD v [] ++ [i] else E.getD v [] := by
  unfold bumpE
  rw [List.getD_eq_getElem?_getD]
  by_cases e : v = s
  · subst e; rw [List.getElem?_set_self hs, if_pos rfl]; rfl
  · rw [List.getElem?_set_ne (Ne.symm e), if_neg e, List.getD_eq_getElem?_getD]
theorem bumpE_len (E : List (List Nat)) (s i : Nat) : (bumpE E s i).length = E.length := by unfold bumpE; rw [List.length_set]
theorem wired_none : Wired noNet := by
  refine ⟨fun i x hx => by simp [noNet] at hx, fun v i hi => ?_⟩
  unfold noNet at hi
  dsimp only at hi
  rw [List.getD_eq_getElem?_getD, List.getElem?_replicate] at hi
  split at hi <;> simp at hi
theorem wired_add {N : Net} (h : Wired N) (hl : N.ends.length = 34) {s d : Nat} (hs : s < 34) (hd : d < 34) (hsd : s ≠ d) (lo hi : Int) : Wired (N.add s d lo hi) := by
  have he : ∀ v, (N.add s d lo hi).ends.getD v [] = if v = d then (if v = s then N.ends.getD v [] ++ [N.arcs.length] else N.ends.getD v []) ++ [N.arcs.length] else if v = s then N.ends.getD v [] ++ [N.arcs.length] else N.ends.getD v [] := fun v => by
    show (bumpE (bumpE N.ends s N.arcs.length) d N.arcs.length).getD v [] = _
    rw [bump_get (by rw [bumpE_len, hl]; exact hd), bump_get (by rw [hl]; exact hs)]
  have hsub : ∀ v i, i ∈ N.ends.getD v [] → i ∈ (N.add s d lo hi).ends.getD v [] := fun v i h => by
    rw [he]
    split
    · split
      · exact List.mem_append_left _ (List.mem_append_left _ h)
      · exact List.mem_append_left _ h
    · split
      · exact List.mem_append_left _ h
      · exact h
  refine ⟨fun i x hx => ?_, fun v i hi2 => ?_⟩
  · rw [show (N.add s d lo hi).arcs = N.arcs ++ [⟨lo, hi, s, d, lo⟩] from rfl] at hx
    by_cases c : i < N.arcs.length
    · rw [List.getElem?_append_left c] at hx
      obtain ⟨h1, h2, h3⟩ := h.arc i x hx
      exact ⟨h1, hsub _ _ h2, hsub _ _ h3⟩
    · rw [List.getElem?_append_right (by omega)] at hx
      have hi0 : i - N.arcs.length = 0 := by
        have := (List.getElem?_eq_some_iff.1 hx).1
        simp at this
        omega
      rw [hi0] at hx
      cases hx
      have hii : i = N.arcs.length := by omega
      subst hii
      refine ⟨hsd, ?_, ?_⟩
      · rw [he, if_neg hsd, if_pos rfl]; exact List.mem_append_right _ (List.mem_singleton.2 rfl)
      · rw [he, if_pos rfl]; exact List.mem_append_right _ (List.mem_singleton.2 rfl)
  · have key : i ∈ N.ends.getD v [] ∨ (i = N.arcs.length ∧ (v = s ∨ v = d)) := by
      rw [he] at hi2
      split at hi2
      · rename_i c
        rcases List.mem_append.1 hi2 with h2 | h2
        · split at h2
          · rename_i c2
            rcases List.mem_append.1 h2 with h3 | h3
            · exact .inl h3
            · exact .inr ⟨List.mem_singleton.1 h3, .inr c⟩
          · exact .inl h2
        · exact .inr ⟨List.mem_singleton.1 h2, .inr c⟩
      · split at hi2
        · rename_i c2
          rcases List.mem_append.1 hi2 with h3 | h3
          · exact .inl h3
          · exact .inr ⟨List.mem_singleton.1 h3, .inl c2⟩
        · exact .inl hi2
    rw [show (N.add s d lo hi).arcs = N.arcs ++ [⟨lo, hi, s, d, lo⟩] from rfl]
    rcases key with h1 | ⟨rfl, h1⟩
    · obtain ⟨x, h2, h3⟩ := h.list v i h1
      exact ⟨x, by rw [List.getElem?_append_left (List.getElem?_eq_some_iff.1 h2).1]; exact h2, h3⟩
    · refine ⟨⟨lo, hi, s, d, lo⟩, by rw [List.getElem?_append_right (Nat.le_refl _), Nat.sub_self]; rfl, ?_⟩
      rcases h1 with rfl | rfl
      · exact .inl rfl
      · exact .inr rfl

/-- A book without an error. -/
structure BookOk (S : List (Int × Int)) (T : List Tk) : Prop where
  tks : TksOk S T
  mass : MassOk T
  apart : ∀ (i : Nat) (t : Tk), T[i]? = some t → t.src ≠ t.dst
  order : ∀ (i : Nat) (r : Int × Int), S[i]? = some r → r.1 ≤ r.2
theorem node_lt {S : List (Int × Int)} {T : List Tk} (h : TksOk S T) {p : Int} (h1 : -1 ≤ p) (h2 : p < S.length) : node p < 33 ∧ (node p < S.length ∨ node p = 32) := by
  have := h.places
  unfold node
  split <;> omega
theorem node_inj {p q : Int} (hp : -1 ≤ p) (hq : -1 ≤ q) (hp2 : p < 32) (hq2 : q < 32) (h : p ≠ q) : node p ≠ node q := by
  unfold node
  split <;> split <;> omega
def tkArc (t : Tk) : Arc := ⟨t.low, t.high, node t.src, node t.dst, t.low⟩
def stTo (J : List Int) (p : Nat) : Nat := if J.contains (p : Int) = true then 33 else 32
def stArc (S : List (Int × Int)) (J : List Int) (p : Nat) : Arc := ⟨(S.getD p (0, 0)).1, (S.getD p (0, 0)).2, p, stTo J p, (S.getD p (0, 0)).1⟩
theorem tick_what {S : List (Int × Int)} {T : List Tk} (h : BookOk S T) : ∀ k, k ≤ T.length → (tickF T k).arcs = (T.take k).map tkArc ∧ Wired (tickF T k)
  | 0, _ => ⟨rfl, wired_none⟩
  | k + 1, hk => by
    obtain ⟨h1, h2⟩ := tick_what h k (by omega)
    have ht := List.getElem?_eq_getElem (l := T) (i := k) (by omega)
    have e : tickF T (k + 1) = (tickF T k).add (node T[k].src) (node T[k].dst) T[k].low T[k].high := by
      show (match T[k]? with | none => _ | some t => _) = _
      rw [ht]
    obtain ⟨a1, a2, a3, a4⟩ := h.tks.tk k _ ht
    have b1 := node_lt h.tks a1 a2
    have b2 := node_lt h.tks a3 a4
    have hp := h.tks.places
    rw [e]
    refine ⟨?_, wired_add h2 (few_tick T k (by omega)).ends (by omega) (by omega) (node_inj a1 a3 (by omega) (by omega) (h.apart k _ ht)) _ _⟩
    show (tickF T k).arcs ++ [_] = _
    rw [h1, List.take_add_one, ht, List.map_append]
    rfl
theorem stock_what {S : List (Int × Int)} (J : List Int) {N0 : Net} {m : Nat} (h0 : N0.Few m) (hw : Wired N0) (hS : S.length ≤ 32) : ∀ k, k ≤ S.length →
    (stockF N0 J S k).1.arcs = N0.arcs ++ (List.range k).map (stArc S J) ∧ Wired (stockF N0 J S k).1 ∧ (stockF N0 J S k).2.1 = sumN k (fun p => ind (J.contains (p : Int)) (S.getD p (0, 0)).1) ∧ (stockF N0 J S k).2.2 = sumN k (fun p => ind (J.contains (p : Int)) (S.getD p (0, 0)).2)
  | 0, _ => ⟨by show N0.arcs = _; simp, hw, rfl, rfl⟩
  | k + 1, hk => by
    obtain ⟨h1, h2, h3, h4⟩ := stock_what J h0 hw hS k (by omega)
    have hr := List.getElem?_eq_getElem (l := S) (i := k) (by omega)
    have hg : S.getD k (0, 0) = S[k] := by rw [List.getD_eq_getElem?_getD, hr]; rfl
    have hf := (few_stock h0 J S k (by omega)).ends
    have e : stockF N0 J S (k + 1) = if J.contains (k : Int) = true then ((stockF N0 J S k).1.add k 33 S[k].1 S[k].2, (stockF N0 J S k).2.1 + S[k].1, (stockF N0 J S k).2.2 + S[k].2) else ((stockF N0 J S k).1.add k 32 S[k].1 S[k].2, (stockF N0 J S k).2.1, (stockF N0 J S k).2.2) := by
      show (match S[k]? with | none => _ | some r => _) = _
      rw [hr]
    have ea : ∀ x : Nat, ((stockF N0 J S k).1.add k x S[k].1 S[k].2).arcs = (stockF N0 J S k).1.arcs ++ [⟨S[k].1, S[k].2, k, x, S[k].1⟩] := fun x => rfl
    have s1 : sumN (k + 1) (fun p => ind (J.contains (p : Int)) (S.getD p (0, 0)).1) = sumN k (fun p => ind (J.contains (p : Int)) (S.getD p (0, 0)).1) + ind (J.contains (k : Int)) S[k].1 := by
      show _ + ind (J.contains (k : Int)) (S.getD k (0, 0)).1 = _
      rw [hg]
    have s2 : sumN (k + 1) (fun p => ind (J.contains (p : Int)) (S.getD p (0, 0)).2) = sumN k (fun p => ind (J.contains (p : Int)) (S.getD p (0, 0)).2) + ind (J.contains (k : Int)) S[k].2 := by
      show _ + ind (J.contains (k : Int)) (S.getD k (0, 0)).2 = _
      rw [hg]
    rw [e, s1, s2, List.range_succ, List.map_append, ← List.append_assoc, ← h1]
    by_cases c : J.contains (k : Int) = true
    · rw [if_pos c]
      refine ⟨?_, wired_add h2 hf (by omega) (by omega) (by omega) _ _, ?_, ?_⟩
      · rw [ea]
        show _ = _ ++ [stArc S J k]
        unfold stArc stTo
        rw [if_pos c, hg]
      · dsimp only; rw [h3, c]; rfl
      · dsimp only; rw [h4, c]; rfl
    · rw [if_neg c]
      have c' : J.contains (k : Int) = false := by simpa using c
      refine ⟨?_, wired_add h2 hf (by omega) (by omega) (by omega) _ _, ?_, ?_⟩
      · rw [ea]
        show _ = _ ++ [stArc S J k]
        unfold stArc stTo
        rw [if_neg c, hg]
      · dsimp only; rw [h3, c']; show _ = _ + (0 : Int); omega
      · dsimp only; rw [h4, c']; show _ = _ + (0 : Int); omega
def sumJ (S : List (Int × Int)) (J : List Int) : Int × Int := (sumN S.length (fun p => ind (J.contains (p : Int)) (S.getD p (0, 0)).1), sumN S.length (fun p => ind (J.contains (p : Int)) (S.getD p (0, 0)).2))
theorem new_arcs {S : List (Int × Int)} {T : List Tk} (h : BookOk S T) (J : List Int) : (newF S T J).arcs = T.map tkArc ++ (List.range S.length).map (stArc S J) ++ [⟨(sumJ S J).1, (sumJ S J).2, 33, 32, (sumJ S J).1⟩] ∧ Wired (newF S T J) := by
  obtain ⟨h1, h2⟩ := tick_what h T.length (Nat.le_refl _)
  have hf := few_tick T T.length (Nat.le_refl _)
  obtain ⟨h3, h4, h5, h6⟩ := stock_what J hf h2 h.tks.places S.length (Nat.le_refl _)
  refine ⟨?_, wired_add h4 (few_stock hf J S _ (Nat.le_refl _)).ends (by omega) (by omega) (by omega) _ _⟩
  show (stockF (tickF T T.length) J S S.length).1.arcs ++ [_] = _
  rw [h3, h1, List.take_length, h5, h6]
  rfl
theorem sumN_le {f g : Nat → Int} : ∀ {n : Nat}, (∀ v, v < n → f v ≤ g v) → sumN n f ≤ sumN n g
  | 0, _ => Int.le_refl _
  | n + 1, h => by
    have := sumN_le (n := n) fun v hv => h v (by omega)
    have := h n (by omega)
    unfold sumN
    omega
theorem sumN_bd {f : Nat → Int} {c : Int} (hc : 0 ≤ c) : ∀ {n : Nat}, (∀ v, v < n → -c ≤ f v ∧ f v ≤ c) → -((n : Int) * c) ≤ sumN n f ∧ sumN n f ≤ (n : Int) * c
  | 0, _ => by unfold sumN; omega
  | n + 1, h => by
    have h1 := sumN_bd hc (n := n) fun v hv => h v (by omega)
    have h2 := h n (by omega)
    have e : ((n + 1 : Nat) : Int) * c = (n : Int) * c + c := by rw [Int.natCast_add, Int.add_mul]; omega
    unfold sumN
    rw [e]
    omega
theorem new_ok {S : List (Int × Int)} {T : List Tk} (h : BookOk S T) (J : List Int) : (newF S T J).Ok := by
  obtain ⟨ha, hw⟩ := new_arcs h J
  have hf := newF_few S T J
  have h1 := h.tks.few
  have h2 := h.tks.places
  refine ⟨hf.ends, by rw [hf.arcs]; omega, fun v l hl => ⟨by have := hf.each v l hl; omega, fun i hi => ?_⟩, fun i x hx => ?_⟩
  · obtain ⟨x, hx, _⟩ := hw.list v i (by rw [List.getD_eq_getElem?_getD, hl]; exact hi)
    exact (List.getElem?_eq_some_iff.1 hx).1
  · have hm := List.mem_of_getElem? hx
    rw [ha] at hm
    rcases List.mem_append.1 hm with hm | hm
    · rcases List.mem_append.1 hm with hm | hm
      · obtain ⟨t, ht, rfl⟩ := List.mem_map.1 hm
        obtain ⟨k, hk⟩ := List.mem_iff_getElem?.1 ht
        obtain ⟨a1, a2, a3, a4⟩ := h.tks.tk k t hk
        have b1 := node_lt h.tks a1 a2
        have b2 := node_lt h.tks a3 a4
        have b3 := h.mass.mass k t hk
        unfold tkArc
        dsimp only
        omega
      · obtain ⟨p, hp, rfl⟩ := List.mem_map.1 hm
        have hp := List.mem_range.1 hp
        have hr := List.getElem?_eq_getElem (l := S) (i := p) hp
        have hg : S.getD p (0, 0) = S[p] := by rw [List.getD_eq_getElem?_getD, hr]; rfl
        have b1 := h.tks.rg p _ hr
        have b2 := h.order p _ hr
        unfold stArc stTo
        rw [hg]
        dsimp only
        split <;> omega
    · rw [List.mem_singleton] at hm
      subst hm
      have hb : ∀ p, p < S.length → (-999999999 ≤ (S.getD p (0, 0)).1 ∧ (S.getD p (0, 0)).1 ≤ (S.getD p (0, 0)).2 ∧ (S.getD p (0, 0)).2 ≤ 999999999) := fun p hp => by
        have hr := List.getElem?_eq_getElem (l := S) (i := p) hp
        have hg : S.getD p (0, 0) = S[p] := by rw [List.getD_eq_getElem?_getD, hr]; rfl
        have b1 := h.tks.rg p _ hr
        have b2 := h.order p _ hr
        rw [hg]
        omega
      have c1 : (sumJ S J).1 ≤ (sumJ S J).2 := sumN_le fun p hp => by
        have := hb p hp
        unfold ind
        split <;> omega
      have c2 := sumN_bd (c := 999999999) (by omega) (n := S.length) (f := fun p => ind (J.contains (p : Int)) (S.getD p (0, 0)).1) fun p hp => by
        have := hb p hp
        unfold ind
        split <;> omega
      have c3 := sumN_bd (c := 999999999) (by omega) (n := S.length) (f := fun p => ind (J.contains (p : Int)) (S.getD p (0, 0)).2) fun p hp => by
        have := hb p hp
        unfold ind
        split <;> omega
      have d1 : (sumJ S J).1 = sumN S.length (fun p => ind (J.contains (p : Int)) (S.getD p (0, 0)).1) := rfl
      have d2 : (sumJ S J).2 = sumN S.length (fun p => ind (J.contains (p : Int)) (S.getD p (0, 0)).2) := rfl
      dsimp only at c2 c3 ⊢
      omega

def geoT (T : List Tk) : List (Nat × Nat) := T.map fun t => (node t.src, node t.dst)
def rgT (T : List Tk) : List (Int × Int) := T.map fun t => (t.low, t.high)
def geoS (J : List Int) (n : Nat) : List (Nat × Nat) := (List.range n).map fun p => (p, stTo J p)
/-- What an assignment changes in a set of nodes. -/
def gainS (T : List Tk) (A : List Int) (K : Nat → Bool) : Int := flow K (geoT T) A
theorem new_geo {S : List (Int × Int)} {T : List Tk} (h : BookOk S T) (J : List Int) : geo (newF S T J).arcs = geoT T ++ geoS J S.length ++ [(33, 32)] ∧ rgs (newF S T J).arcs = rgT T ++ S ++ [sumJ S J] := by
  rw [(new_arcs h J).1]
  unfold geo rgs
  rw [List.map_append, List.map_append, List.map_append, List.map_append, List.map_map, List.map_map, List.map_map, List.map_map]
  refine ⟨rfl, ?_⟩
  have e : (List.range S.length).map ((fun x : Arc => (x.low, x.high)) ∘ stArc S J) = S := by
    refine List.ext_getElem? fun i => ?_
    rw [List.getElem?_map]
    by_cases c : i < S.length
    · rw [List.getElem?_range c]
      show some ((S.getD i (0, 0)).1, (S.getD i (0, 0)).2) = _
      rw [List.getD_eq_getElem?_getD, List.getElem?_eq_getElem c]
      rfl
    · rw [List.getElem?_eq_none (by simp; omega), List.getElem?_eq_none (by omega)]
      rfl
  rw [e]
  rfl
theorem geoT_len (T : List Tk) : (geoT T).length = T.length := by unfold geoT; rw [List.length_map]
theorem geoS_len (J : List Int) (n : Nat) : (geoS J n).length = n := by unfold geoS; rw [List.length_map, List.length_range]
theorem rgT_len (T : List Tk) : (rgT T).length = T.length := by unfold rgT; rw [List.length_map]
theorem flow_stock (K : Nat → Bool) (J : List Int) : ∀ (n : Nat) (C : List Int), C.length = n → flow K (geoS J n) C = sumN n (fun p => ind (K (stTo J p)) (C.getD p 0) - ind (K p) (C.getD p 0))
  | 0, C, _ => rfl
  | n + 1, C, hC => by
    have hn := List.getElem?_eq_getElem (l := C) (i := n) (by omega)
    have e : C = C.take n ++ [C[n]] := by
      have h := List.take_add_one (l := C) (i := n)
      rw [List.take_of_length_le (by omega), hn] at h
      exact h
    have hg : C.getD n 0 = C[n] := by rw [List.getD_eq_getElem?_getD, hn]; rfl
    have ih := flow_stock K J n (C.take n) (by rw [List.length_take]; omega)
    have e2 : geoS J (n + 1) = geoS J n ++ [(n, stTo J n)] := by unfold geoS; rw [List.range_succ, List.map_append]; rfl
    have e3 : flow K (geoS J (n + 1)) C = flow K (geoS J n ++ [(n, stTo J n)]) (C.take n ++ [C[n]]) := by rw [← e, e2]
    rw [e3, flow_app _ _ _ _ _ (by rw [geoS_len, List.length_take]; omega), flow_one, ih]
    show _ = _ + (ind (K (stTo J n)) (C.getD n 0) - ind (K n) (C.getD n 0))
    rw [hg]
    have e4 : sumN n (fun p => ind (K (stTo J p)) ((C.take n).getD p 0) - ind (K p) ((C.take n).getD p 0)) = sumN n (fun p => ind (K (stTo J p)) (C.getD p 0) - ind (K p) (C.getD p 0)) := sumN_eq fun v hv => by
      have : (C.take n).getD v 0 = C.getD v 0 := by rw [List.getD_eq_getElem?_getD, List.getElem?_take_of_lt hv, List.getD_eq_getElem?_getD]
      rw [this]
    rw [e4]
theorem sumN_more {f : Nat → Int} {n : Nat} : ∀ {m : Nat}, n ≤ m → (∀ v, n ≤ v → v < m → f v = 0) → sumN m f = sumN n f := by
  intro m hm
  induction hm with
  | refl => intro _; rfl
  | @step m hnm ih =>
    intro h
    have h1 := h m hnm (Nat.lt_succ_self m)
    have h2 := ih fun v h1 h2 => h v h1 (by omega)
    show sumN m f + f m = _
    rw [h1, h2]
    omega
theorem gainF_next (T : List Tk) (A J : List Int) (k : Nat) : gainF T A J (k + 1) = (gainF T A J k + if J.contains (T.getD k noTk).dst = true then A.getD k 0 else 0) - if J.contains (T.getD k noTk).src = true then A.getD k 0 else 0 := rfl
theorem gain_take (T : List Tk) (A : List Int) (J : List Int) (hA : A.length = T.length) (h : ∀ (i : Nat) (t : Tk), T[i]? = some t → -1 ≤ t.src ∧ -1 ≤ t.dst ∧ t.src < 32 ∧ t.dst < 32) (hJ : ∀ x ∈ J, 0 ≤ x ∧ x < 32) : ∀ k, k ≤ T.length → gainF T A J k = flow (fun v => J.contains (v : Int)) ((geoT T).take k) (A.take k)
  | 0, _ => rfl
  | k + 1, hk => by
    have ih := gain_take T A J hA h hJ k (by omega)
    have ht := List.getElem?_eq_getElem (l := T) (i := k) (by omega)
    have ha := List.getElem?_eq_getElem (l := A) (i := k) (by omega)
    have hg : T.getD k noTk = T[k] := by rw [List.getD_eq_getElem?_getD, ht]; rfl
    have hga : A.getD k 0 = A[k] := by rw [List.getD_eq_getElem?_getD, ha]; rfl
    have h2 : (geoT T)[k]? = some (node T[k].src, node T[k].dst) := by unfold geoT; rw [List.getElem?_map, ht]; rfl
    have hc : ∀ p : Int, -1 ≤ p → p < 32 → J.contains ((node p : Nat) : Int) = J.contains p := fun p h1 h2 => by
      unfold node
      split
      · rename_i e
        subst e
        have a1 : J.contains ((32 : Nat) : Int) = false := by
          rw [Bool.eq_false_iff]; intro c; have := hJ _ (by simpa using c); omega
        have a2 : J.contains (-1 : Int) = false := by
          rw [Bool.eq_false_iff]; intro c; have := hJ _ (by simpa using c); omega
        rw [a1, a2]
      · rw [Int.toNat_of_nonneg (by omega)]
    obtain ⟨b1, b2, b3, b4⟩ := h k _ ht
    rw [List.take_add_one, List.take_add_one, h2, ha]
    show _ = flow _ (_ ++ [_]) (_ ++ [_])
    rw [flow_app _ _ _ _ _ (by rw [List.length_take, List.length_take, geoT_len, hA]), flow_one, ← ih, gainF_next, hg, hga]
    dsimp only
    rw [hc _ b1 b3, hc _ b2 b4]
    unfold ind
    omega
/-- An assignment, one mass for each ticket. -/
def Asg (S : List (Int × Int)) (T : List Tk) (A : List Int) : Prop := A.length = T.length ∧ holdsF S T A = true
theorem BookOk.ends {S : List (Int × Int)} {T : List Tk} (h : BookOk S T) : ∀ (i : Nat) (t : Tk), T[i]? = some t → -1 ≤ t.src ∧ -1 ≤ t.dst ∧ t.src < 32 ∧ t.dst < 32 := fun i t ht => by
  have h1 := h.tks.tk i t ht
  have h2 := h.tks.places
  omega
theorem one_contains (p : Nat) : (fun v : Nat => [(p : Int)].contains (v : Int)) = one p := by
  funext v
  unfold one
  rw [Bool.eq_iff_iff, decide_eq_true_eq]
  simp
  omega
theorem chg_flow {S : List (Int × Int)} {T : List Tk} (h : BookOk S T) {A : List Int} (hA : A.length = T.length) {p : Nat} (hp : p < 32) : (chgF T A T.length).getD p 0 = gainS T A (one p) := by
  rw [chg_gain (S := S) A h.tks p hp _ (Nat.le_refl _), gain_take T A _ hA h.ends (fun x hx => by rw [List.mem_singleton.1 hx]; omega) _ (Nat.le_refl _), one_contains, List.take_of_length_le (by rw [geoT_len]; exact Nat.le_refl _), List.take_of_length_le (by rw [hA]; exact Nat.le_refl _)]
  rfl
theorem asg_iff {S : List (Int × Int)} {T : List Tk} (h : BookOk S T) {A : List Int} : Asg S T A ↔ Fits (rgT T) A ∧ ∀ (p : Nat) (r : Int × Int), S[p]? = some r → r.1 ≤ gainS T A (one p) ∧ gainS T A (one p) ≤ r.2 := by
  have hpl := h.tks.places
  constructor
  · rintro ⟨hA, hh⟩
    unfold holdsF at hh
    rw [Bool.and_eq_true, List.all_eq_true, List.all_eq_true] at hh
    refine ⟨fits_of (by rw [rgT_len, hA]) fun i r hr => ?_, fun p r hr => ?_⟩
    · unfold rgT at hr
      rw [List.getElem?_map] at hr
      rcases ht : T[i]? with _ | t
      · rw [ht] at hr; cases hr
      · rw [ht] at hr
        cases hr
        have h1 := hh.1 i (List.mem_range.2 (List.getElem?_eq_some_iff.1 ht).1)
        unfold tkIn inR at h1
        rw [List.getD_eq_getElem?_getD, ht, Option.getD_some, Bool.and_eq_true, decide_eq_true_eq, decide_eq_true_eq] at h1
        exact h1
    · have hp := (List.getElem?_eq_some_iff.1 hr).1
      have h1 := hh.2 p (List.mem_range.2 hp)
      unfold stIn inR at h1
      rw [chg_flow h hA (by omega), List.getD_eq_getElem?_getD, hr, Option.getD_some, Bool.and_eq_true, decide_eq_true_eq, decide_eq_true_eq] at h1
      exact h1
  · rintro ⟨h1, h2⟩
    have hA : A.length = T.length := by rw [fits_len h1, rgT_len]
    refine ⟨hA, ?_⟩
    unfold holdsF
    rw [Bool.and_eq_true, List.all_eq_true, List.all_eq_true]
    refine ⟨fun i hi => ?_, fun p hp => ?_⟩
    · have ht := List.getElem?_eq_getElem (l := T) (i := i) (List.mem_range.1 hi)
      have h3 := fits_get h1 (i := i) (r := (T[i]'(List.mem_range.1 hi) |>.low, T[i]'(List.mem_range.1 hi) |>.high)) (by unfold rgT; rw [List.getElem?_map, ht]; rfl)
      unfold tkIn inR
      rw [List.getD_eq_getElem?_getD, ht, Option.getD_some, Bool.and_eq_true, decide_eq_true_eq, decide_eq_true_eq]
      exact h3
    · have hp := List.mem_range.1 hp
      have hr := List.getElem?_eq_getElem (l := S) (i := p) hp
      have h3 := h2 p _ hr
      unfold stIn inR
      rw [chg_flow h hA (by omega), List.getD_eq_getElem?_getD, hr, Option.getD_some, Bool.and_eq_true, decide_eq_true_eq, decide_eq_true_eq]
      exact h3
theorem fits_app : ∀ {R : List (Int × Int)} {M : List Int} {R' : List (Int × Int)} {M' : List Int}, R.length = M.length → (Fits (R ++ R') (M ++ M') ↔ Fits R M ∧ Fits R' M')
  | [], [], _, _, _ => ⟨fun h => ⟨trivial, h⟩, fun h => h.2⟩
  | [], _ :: _, _, _, h => by simp at h
  | _ :: _, [], _, _, h => by simp at h
  | r :: R, m :: M, R', M', h => by
    have ih := fits_app (R := R) (M := M) (R' := R') (M' := M') (by simpa using h)
    show (r.1 ≤ m ∧ m ≤ r.2 ∧ Fits (R ++ R') (M ++ M')) ↔ (r.1 ≤ m ∧ m ≤ r.2 ∧ Fits R M) ∧ Fits R' M'
    rw [ih]
    exact ⟨fun ⟨a, b, c, d⟩ => ⟨⟨a, b, c⟩, d⟩, fun ⟨⟨a, b, c⟩, d⟩ => ⟨a, b, c, d⟩⟩
theorem gain_out {S : List (Int × Int)} {T : List Tk} (h : BookOk S T) (A : List Int) {v : Nat} (h1 : S.length ≤ v) (h2 : v ≠ 32) : gainS T A (one v) = 0 := by
  unfold gainS
  have hz : ∀ (G : List (Nat × Nat)) (A : List Int), (∀ e ∈ G, e.1 ≠ v ∧ e.2 ≠ v) → flow (one v) G A = 0 := by
    intro G
    induction G with
    | nil => intro A _; rfl
    | cons e G ih =>
      intro A hG
      cases A with
      | nil => rfl
      | cons m A =>
        obtain ⟨a1, a2⟩ := hG e (List.mem_cons_self ..)
        show ind (one v e.2) m - ind (one v e.1) m + flow (one v) G A = 0
        rw [ih A fun e he => hG e (List.mem_cons_of_mem _ he)]
        unfold one
        rw [decide_eq_false a1, decide_eq_false a2]
        rfl
  refine hz _ _ fun e he => ?_
  unfold geoT at he
  obtain ⟨t, ht, rfl⟩ := List.mem_map.1 he
  obtain ⟨i, hi⟩ := List.mem_iff_getElem?.1 ht
  obtain ⟨a1, a2, a3, a4⟩ := h.tks.tk i t hi
  have b1 := (node_lt h.tks a1 a2).2
  have b2 := (node_lt h.tks a3 a4).2
  dsimp only
  omega
/-- All changes of the joined places together. -/
def gainJ (S : List (Int × Int)) (T : List Tk) (J : List Int) (A : List Int) : Int := sumN S.length fun p => ind (J.contains (p : Int)) (gainS T A (one p))
theorem flow_split {S : List (Int × Int)} {T : List Tk} (h : BookOk S T) (J : List Int) {A C : List Int} {z : Int} (hA : A.length = T.length) (hC : C.length = S.length) (K : Nat → Bool) :
    flow K (geo (newF S T J).arcs) (A ++ C ++ [z]) = gainS T A K + sumN S.length (fun p => ind (K (stTo J p)) (C.getD p 0) - ind (K p) (C.getD p 0)) + (ind (K 32) z - ind (K 33) z) := by
  rw [(new_geo h J).1, flow_app _ _ _ _ _ (by rw [List.length_append, List.length_append, geoT_len, geoS_len, hA, hC]), flow_app _ _ _ _ _ (by rw [geoT_len, hA]), flow_one, flow_stock _ _ _ _ hC]
  rfl
theorem one_self (v : Nat) : one v v = true := decide_eq_true rfl
theorem one_ne {u v : Nat} (h : u ≠ v) : one v u = false := decide_eq_false h
theorem stTo_ge (J : List Int) (p : Nat) : stTo J p = 33 ∧ J.contains (p : Int) = true ∨ stTo J p = 32 ∧ J.contains (p : Int) = false := by
  unfold stTo
  by_cases c : J.contains (p : Int) = true
  · rw [if_pos c]; exact .inl ⟨rfl, c⟩
  · rw [if_neg c]; exact .inr ⟨rfl, by simpa using c⟩
theorem flow_place {S : List (Int × Int)} {T : List Tk} (h : BookOk S T) (J : List Int) {A C : List Int} {z : Int} (hA : A.length = T.length) (hC : C.length = S.length) :
    (∀ v, v < S.length → flow (one v) (geo (newF S T J).arcs) (A ++ C ++ [z]) = gainS T A (one v) - C.getD v 0) ∧
    (∀ v, S.length ≤ v → v < 32 → flow (one v) (geo (newF S T J).arcs) (A ++ C ++ [z]) = 0) ∧
    flow (one 33) (geo (newF S T J).arcs) (A ++ C ++ [z]) = sumN S.length (fun p => ind (J.contains (p : Int)) (C.getD p 0)) - z := by
  have hp := h.tks.places
  refine ⟨fun v hv => ?_, fun v h1 h2 => ?_, ?_⟩
  · rw [flow_split h J hA hC, sumN_one _ v hv fun u hu hne => ?_]
    · rcases stTo_ge J v with ⟨e, _⟩ | ⟨e, _⟩ <;>
      · rw [e, one_ne (show 32 ≠ v by omega), one_ne (show 33 ≠ v by omega), one_self, ind_true, ind_false, ind_false]; omega
    · rcases stTo_ge J u with ⟨e, _⟩ | ⟨e, _⟩
      · rw [e, one_ne (show 33 ≠ v by omega), one_ne hne, ind_false]; rfl
      · rw [e, one_ne (show 32 ≠ v by omega), one_ne hne, ind_false]; rfl
  · rw [flow_split h J hA hC, gain_out h A h1 (by omega), sumN_zero fun u hu => ?_, one_ne (show 32 ≠ v by omega), one_ne (show 33 ≠ v by omega), ind_false]
    · rfl
    · rcases stTo_ge J u with ⟨e, _⟩ | ⟨e, _⟩
      · rw [e, one_ne (show 33 ≠ v by omega), one_ne (show u ≠ v by omega), ind_false]; rfl
      · rw [e, one_ne (show 32 ≠ v by omega), one_ne (show u ≠ v by omega), ind_false]; rfl
  · rw [flow_split h J hA hC, gain_out h A (by omega) (by omega), one_self, one_ne (show 32 ≠ 33 by omega), ind_true, ind_false]
    have e : sumN S.length (fun p => ind (one 33 (stTo J p)) (C.getD p 0) - ind (one 33 p) (C.getD p 0)) = sumN S.length (fun p => ind (J.contains (p : Int)) (C.getD p 0)) := sumN_eq fun u hu => by
      rw [one_ne (show u ≠ 33 by omega), ind_false]
      rcases stTo_ge J u with ⟨e, e2⟩ | ⟨e, e2⟩
      · rw [e, e2, one_self]; omega
      · rw [e, e2, one_ne (show 32 ≠ 33 by omega), ind_false]; rfl
    rw [e]
    omega
theorem circ_parts {S : List (Int × Int)} {T : List Tk} (h : BookOk S T) {J : List Int} {M : List Int} (hM : Circ (newF S T J) M) : ∃ A C z, M = A ++ C ++ [z] ∧ A.length = T.length ∧ C.length = S.length := by
  have hl := fits_len hM.fits
  rw [(new_geo h J).2, List.length_append, List.length_append, rgT_len, List.length_singleton] at hl
  have hn : M.length - 1 < M.length := by omega
  refine ⟨M.take T.length, (M.drop T.length).take S.length, M[M.length - 1], ?_, by rw [List.length_take]; omega, by rw [List.length_take, List.length_drop]; omega⟩
  have e1 : M.take T.length ++ (M.drop T.length).take S.length = M.take (T.length + S.length) := by rw [List.take_add]
  have e2 := List.take_add_one (l := M) (i := T.length + S.length)
  rw [List.take_of_length_le (by omega), List.getElem?_eq_getElem (by omega)] at e2
  rw [e1]
  have e3 : M[M.length - 1] = M[T.length + S.length]'(by omega) := by congr 1; omega
  rw [e3]
  exact e2
/-- Masses that flow through the network of a book are an assignment, and the last arc has the change of the joined places. -/
theorem circ_asg {S : List (Int × Int)} {T : List Tk} (h : BookOk S T) {J : List Int} {M : List Int} (hM : Circ (newF S T J) M) : Asg S T (M.take T.length) ∧ M.getD (T.length + S.length) 0 = gainJ S T J (M.take T.length) := by
  obtain ⟨A, C, z, rfl, hA, hC⟩ := circ_parts h hM
  have hp := h.tks.places
  obtain ⟨f1, f2, f3⟩ := flow_place h J (z := z) hA hC
  have hfit := hM.fits
  rw [(new_geo h J).2] at hfit
  obtain ⟨hfit, _⟩ := (fits_app (by rw [List.length_append, List.length_append, rgT_len, hA, hC])).1 hfit
  obtain ⟨ha, hc⟩ := (fits_app (by rw [rgT_len, hA])).1 hfit
  have et : (A ++ C ++ [z]).take T.length = A := by rw [List.append_assoc, ← hA, List.take_left]
  have ez : (A ++ C ++ [z]).getD (T.length + S.length) 0 = z := by
    rw [List.getD_eq_getElem?_getD, List.getElem?_append_right (by rw [List.length_append]; omega), List.length_append, hA, hC, Nat.sub_self]; rfl
  rw [et, ez]
  have hcv : ∀ v, v < S.length → C.getD v 0 = gainS T A (one v) := fun v hv => by
    have := hM.zero v (by omega)
    rw [f1 v hv] at this
    omega
  refine ⟨(asg_iff h).2 ⟨ha, fun p r hr => ?_⟩, ?_⟩
  · have := fits_get hc hr
    rw [hcv p (List.getElem?_eq_some_iff.1 hr).1] at this
    exact this
  · have := hM.zero 33 (by omega)
    rw [f3] at this
    have e : sumN S.length (fun p => ind (J.contains (p : Int)) (C.getD p 0)) = gainJ S T J A := sumN_eq fun v hv => by rw [hcv v hv]
    rw [e] at this
    omega
/-- An assignment flows through the network of its book. -/
theorem asg_circ {S : List (Int × Int)} {T : List Tk} (h : BookOk S T) (J : List Int) {A : List Int} (hA : Asg S T A) : ∃ M, Circ (newF S T J) M ∧ M.take T.length = A ∧ M.getD (T.length + S.length) 0 = gainJ S T J A := by
  have hp := h.tks.places
  obtain ⟨h1, h2⟩ := (asg_iff h).1 hA
  have hl := hA.1
  obtain ⟨C, hC⟩ : ∃ C, C = (List.range S.length).map (fun p => gainS T A (one p)) := ⟨_, rfl⟩
  have hCl : C.length = S.length := by rw [hC, List.length_map, List.length_range]
  have hCv : ∀ v, v < S.length → C.getD v 0 = gainS T A (one v) := fun v hv => by
    rw [hC, List.getD_eq_getElem?_getD, List.getElem?_map, List.getElem?_range hv]; rfl
  have hz : sumN S.length (fun p => ind (J.contains (p : Int)) (C.getD p 0)) = gainJ S T J A := sumN_eq fun v hv => by rw [hCv v hv]
  obtain ⟨f1, f2, f3⟩ := flow_place h J (A := A) (C := C) (z := gainJ S T J A) hl hCl
  have et : (A ++ C ++ [gainJ S T J A]).take T.length = A := by rw [List.append_assoc, ← hl, List.take_left]
  have ez : (A ++ C ++ [gainJ S T J A]).getD (T.length + S.length) 0 = gainJ S T J A := by
    rw [List.getD_eq_getElem?_getD, List.getElem?_append_right (by rw [List.length_append]; omega), List.length_append, hl, hCl, Nat.sub_self]; rfl
  have hne : ∀ v, v < 34 → v ≠ 32 → flow (one v) (geo (newF S T J).arcs) (A ++ C ++ [gainJ S T J A]) = 0 := fun v hv h32 => by
    by_cases c : v < S.length
    · rw [f1 v c, hCv v c]; omega
    · by_cases c2 : v < 32
      · exact f2 v (by omega) c2
      · have : v = 33 := by omega
        rw [this, f3, hz]; omega
  refine ⟨A ++ C ++ [gainJ S T J A], ⟨?_, fun v hv => ?_⟩, et, ez⟩
  · rw [(new_geo h J).2]
    refine (fits_app (by rw [List.length_append, List.length_append, rgT_len, hl, hCl])).2 ⟨(fits_app (by rw [rgT_len, hl])).2 ⟨h1, fits_of hCl fun p r hr => ?_⟩, ?_⟩
    · rw [hCv p (List.getElem?_eq_some_iff.1 hr).1]
      exact h2 p r hr
    · have hb : ∀ p, p < S.length → (S.getD p (0, 0)).1 ≤ gainS T A (one p) ∧ gainS T A (one p) ≤ (S.getD p (0, 0)).2 := fun p hp => by
        have hr := List.getElem?_eq_getElem (l := S) (i := p) hp
        have hg : S.getD p (0, 0) = S[p] := by rw [List.getD_eq_getElem?_getD, hr]; rfl
        rw [hg]
        exact h2 p _ hr
      refine ⟨sumN_le fun p hp => ?_, sumN_le fun p hp => ?_, trivial⟩
      · have := hb p hp
        unfold ind
        split <;> omega
      · have := hb p hp
        unfold ind
        split <;> omega
  · by_cases c : v = 32
    · subst c
      have h0 := flow_sum (fun _ => true) 34 (geo (newF S T J).arcs) (A ++ C ++ [gainJ S T J A]) (new_ok h J).nodes
      rw [flow_all, sumN_one _ 32 (by omega) fun v hv hne2 => by rw [hne v hv hne2]; rfl] at h0
      exact h0
    · exact hne v hv c

/-- A network of a book, with other masses that flow through. -/
structure Good (S : List (Int × Int)) (T : List Tk) (J : List Int) (N : Net) : Prop where
  ok : N.Ok
  wired : Wired N
  like : Alike (newF S T J) N
  circ : Circ (newF S T J) (mss N.arcs)
theorem Circ.of {N N' : Net} {M : List Int} (h : Circ N' M) (a : Alike N N') : Circ N M := h.alike a.symm
theorem Good.own {S : List (Int × Int)} {T : List Tk} {J : List Int} {N : Net} (g : Good S T J N) : Circ N (mss N.arcs) := g.circ.alike g.like
theorem Good.len {S : List (Int × Int)} {T : List Tk} {J : List Int} {N : Net} (g : Good S T J N) : N.arcs.length = T.length + S.length + 1 := by rw [g.like.len, (newF_few S T J).arcs]
/-- Whether there are assignments. -/
def Cons (S : List (Int × Int)) (T : List Tk) : Prop := ∃ A, Asg S T A
theorem book_settle {S : List (Int × Int)} {T : List Tk} (h : BookOk S T) (J : List Int) : ∃ N' r, settleF (newF S T J) = some (N', r) ∧ (r = true ↔ Cons S T) ∧ (r = true → Good S T J N') := by
  have hok := new_ok h J
  have hw := (new_arcs h J).2
  obtain ⟨N', r, h1, h2, h3, h4, h5⟩ := settle_what hok hw
  refine ⟨N', r, h1, ⟨fun hr => ⟨_, (circ_asg h (h4 hr)).1⟩, fun ⟨A, hA⟩ => ?_⟩, fun hr => ⟨h2, hw.alike h3, h3, h4 hr⟩⟩
  cases r
  · obtain ⟨M, hM, _⟩ := asg_circ h J hA
    exact absurd hM (h5 rfl M)
  · rfl
theorem good_stretch {S : List (Int × Int)} {T : List Tk} {J : List Int} {N : Net} (g : Good S T J N) {i : Nat} (hi : i < N.arcs.length) (up : Bool) :
    ∃ N3 m, stretchF fuel N i up = some (N3, m) ∧ Good S T J N3 ∧ (mss N3.arcs).getD i 0 = m ∧ ∀ M, Circ (newF S T J) M → if up = true then M.getD i 0 ≤ m else m ≤ M.getD i 0 := by
  obtain ⟨N3, m, h1, h2, h3, h4, h5, h6⟩ := stretch_what g.ok g.wired g.own (List.getElem?_eq_getElem hi) up
  exact ⟨N3, m, h1, ⟨h2, g.wired.alike h3, g.like.trans h3, h4.of g.like⟩, by rw [List.getD_eq_getElem?_getD, h5]; rfl, fun M hM => h6 M (hM.alike g.like)⟩
theorem good_ext {S : List (Int × Int)} {T : List Tk} {J : List Int} {N : Net} (g : Good S T J N) {i : Nat} (hi : i < N.arcs.length) :
    ∃ N2 lo hi, extF N i = some (N2, lo, hi) ∧ Good S T J N2 ∧ (∃ M, Circ (newF S T J) M ∧ M.getD i 0 = lo) ∧ (∃ M, Circ (newF S T J) M ∧ M.getD i 0 = hi) ∧ ∀ M, Circ (newF S T J) M → lo ≤ M.getD i 0 ∧ M.getD i 0 ≤ hi := by
  obtain ⟨N1, lo, h1, h2, h3, h4⟩ := good_stretch g hi false
  obtain ⟨N2, hi', k1, k2, k3, k4⟩ := good_stretch h2 (i := i) (by rw [h2.len, ← g.len]; exact hi) true
  refine ⟨N2, lo, hi', ?_, k2, ⟨_, h2.circ, h3⟩, ⟨_, k2.circ, k3⟩, fun M hM => ⟨h4 M hM, k4 M hM⟩⟩
  unfold extF
  rw [if_pos (okB_of g.ok), h1]
  dsimp only
  rw [if_pos (okB_of h2.ok), k1]
/-- From the least to the greatest value over all assignments. -/
structure EndsOf (S : List (Int × Int)) (T : List Tk) (f : List Int → Int) (r : Int × Int) : Prop where
  low : ∃ A, Asg S T A ∧ f A = r.1
  high : ∃ A, Asg S T A ∧ f A = r.2
  all : ∀ A, Asg S T A → r.1 ≤ f A ∧ f A ≤ r.2
theorem EndsOf.one {S : List (Int × Int)} {T : List Tk} {f : List Int → Int} {r r' : Int × Int} (h : EndsOf S T f r) (k : EndsOf S T f r') : r = r' := by
  obtain ⟨A, hA, a⟩ := h.low
  obtain ⟨B, hB, b⟩ := h.high
  obtain ⟨C, hC, c⟩ := k.low
  obtain ⟨D, hD, d⟩ := k.high
  have a2 := k.all A hA
  have b2 := k.all B hB
  have c2 := h.all C hC
  have d2 := h.all D hD
  exact Prod.ext (by omega) (by omega)
theorem take_get {M : List Int} {n i : Nat} (hi : i < n) : (M.take n).getD i 0 = M.getD i 0 := by
  rw [List.getD_eq_getElem?_getD, List.getElem?_take_of_lt hi, List.getD_eq_getElem?_getD]
theorem ends_ticket {S : List (Int × Int)} {T : List Tk} (h : BookOk S T) {J : List Int} {i : Nat} (hi : i < T.length) {r : Int × Int} (h1 : ∃ M, Circ (newF S T J) M ∧ M.getD i 0 = r.1) (h2 : ∃ M, Circ (newF S T J) M ∧ M.getD i 0 = r.2) (h3 : ∀ M, Circ (newF S T J) M → r.1 ≤ M.getD i 0 ∧ M.getD i 0 ≤ r.2) : EndsOf S T (fun A => A.getD i 0) r := by
  obtain ⟨M, hM, e⟩ := h1
  obtain ⟨M', hM', e'⟩ := h2
  refine ⟨⟨_, (circ_asg h hM).1, by rw [take_get hi]; exact e⟩, ⟨_, (circ_asg h hM').1, by rw [take_get hi]; exact e'⟩, fun A hA => ?_⟩
  obtain ⟨M2, k1, k2, _⟩ := asg_circ h J hA
  have := h3 M2 k1
  rw [← take_get hi, k2] at this
  exact this
theorem book_tight {S : List (Int × Int)} {T : List Tk} (h : BookOk S T) {J : List Int} {N : Net} (g : Good S T J N) : ∀ k, k ≤ T.length → ∃ N2 L, tightF N k = some (N2, L) ∧ Good S T J N2 ∧ L.length = k ∧ ∀ (i : Nat) (r : Int × Int), L[i]? = some r → EndsOf S T (fun A => A.getD i 0) r
  | 0, _ => ⟨N, [], rfl, g, rfl, fun i r hr => by simp at hr⟩
  | k + 1, hk => by
    obtain ⟨N2, L, h1, h2, h3, h4⟩ := book_tight h g k (by omega)
    obtain ⟨N3, lo, hi, k1, k2, k3, k4, k5⟩ := good_ext h2 (i := k) (by rw [h2.len]; omega)
    refine ⟨N3, L ++ [(lo, hi)], ?_, k2, by rw [List.length_append, h3]; rfl, fun i r hr => ?_⟩
    · unfold tightF
      rw [h1]
      dsimp only
      rw [k1]
    · by_cases c : i < L.length
      · rw [List.getElem?_append_left c] at hr
        exact h4 i r hr
      · rw [List.getElem?_append_right (by omega)] at hr
        have hi0 : i - L.length = 0 := by
          have := (List.getElem?_eq_some_iff.1 hr).1
          simp at this
          omega
        rw [hi0] at hr
        cases hr
        have : i = k := by omega
        subst this
        exact ends_ticket h (by omega) k3 k4 k5
theorem book_change {S : List (Int × Int)} {T : List Tk} (h : BookOk S T) {J : List Int} {N : Net} (g : Good S T J N) : ∃ N2 lo hi, extF N (N.arcs.length - 1) = some (N2, lo, hi) ∧ EndsOf S T (gainJ S T J) (lo, hi) := by
  obtain ⟨N3, lo, hi, k1, k2, ⟨M, a1, a2⟩, ⟨M', b1, b2⟩, k5⟩ := good_ext g (i := N.arcs.length - 1) (by rw [g.len]; omega)
  have e : N.arcs.length - 1 = T.length + S.length := by rw [g.len]; omega
  refine ⟨N3, lo, hi, k1, ⟨⟨_, (circ_asg h a1).1, ?_⟩, ⟨_, (circ_asg h b1).1, ?_⟩, fun A hA => ?_⟩⟩
  · rw [← (circ_asg h a1).2, ← e]; exact a2
  · rw [← (circ_asg h b1).2, ← e]; exact b2
  · obtain ⟨M2, c1, c2, c3⟩ := asg_circ h J hA
    have := k5 M2 c1
    rw [e, c3] at this
    exact this
/-- The change of places together is what the reference calls their gain. -/
theorem gainJ_gain {S : List (Int × Int)} {T : List Tk} (h : BookOk S T) {J : List Int} (hJ : ∀ x ∈ J, 0 ≤ x ∧ x < S.length) {A : List Int} (hA : A.length = T.length) : gainJ S T J A = gainF T A J T.length := by
  have hp := h.tks.places
  rw [gain_take T A J hA h.ends (fun x hx => by have := hJ x hx; omega) _ (Nat.le_refl _), List.take_of_length_le (by rw [geoT_len]; exact Nat.le_refl _), List.take_of_length_le (by rw [hA]; exact Nat.le_refl _)]
  have hn : ∀ e ∈ geoT T, e.1 < 34 ∧ e.2 < 34 := fun e he => by
    unfold geoT at he
    obtain ⟨t, ht, rfl⟩ := List.mem_map.1 he
    obtain ⟨i, hi⟩ := List.mem_iff_getElem?.1 ht
    obtain ⟨a1, a2, a3, a4⟩ := h.tks.tk i t hi
    have b1 := (node_lt h.tks a1 a2).1
    have b2 := (node_lt h.tks a3 a4).1
    dsimp only
    omega
  rw [← flow_sum _ 34 _ _ hn]
  refine (sumN_more (by omega) fun v h1 _ => ?_).symm
  have : J.contains (v : Int) = false := by
    rw [Bool.eq_false_iff]
    intro c
    have := hJ _ (by simpa using c)
    omega
  rw [this]
  rfl
end Go.Proofs.Ytncnpodanlhdkaa
