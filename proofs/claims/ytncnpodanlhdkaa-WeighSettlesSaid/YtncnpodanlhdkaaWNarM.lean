/-
  A book with a narrower range of a ticket.
-/
import Derived.Test.YtncnpodanlhdkaaWProg3
namespace Go.Proofs.Ytncnpodanlhdkaa
set_option linter.all false
open Go.RowKit

theorem mass_err {lo hi : Int} (h : 0 ≤ lo ∧ lo ≤ hi ∧ hi ≤ 999999999) : massErr lo hi = 0 := by
  have e : rangeErr lo hi = 0 := by
    unfold rangeErr far
    rw [if_neg (by simp; omega), if_neg (by omega)]
  unfold massErr
  rw [e]
  simp
  omega
theorem tks_set {n : Int} {lo hi : Int} (hm : massErr lo hi = 0) : ∀ (T : List Tk) (ids : List ByteArray) (i : Nat) (t : Tk), T[i]? = some t → tksErr n ids T = 0 → tksErr n ids (T.set i ⟨t.id, t.src, t.dst, lo, hi⟩) = 0
  | [], _, _, _, h, _ => by simp at h
  | x :: T, ids, i, t, h, h0 => by
    unfold tksErr at h0
    split at h0
    · rename_i hne; exact absurd h0 hne
    · rename_i hne
      have hz : tkErr ids n x = 0 := by simpa using hne
      cases i with
      | zero =>
        simp at h
        subst h
        rw [List.set_cons_zero]
        have e : tkErr ids n ⟨x.id, x.src, x.dst, lo, hi⟩ = 0 := by
          unfold tkErr at hz ⊢
          dsimp only
          split at hz
          · cases hz
          · rename_i c1
            rw [if_neg c1]
            split at hz
            · cases hz
            · rename_i c2
              rw [if_neg c2]
              split at hz
              · cases hz
              · rename_i c3
                rw [if_neg c3]
                split at hz
                · cases hz
                · rename_i c4
                  rw [if_neg c4]
                  exact hm
        unfold tksErr
        rw [if_neg (by rw [e]; simp)]
        exact h0
      | succ i =>
        rw [List.set_cons_succ]
        unfold tksErr
        rw [if_neg (by rw [hz]; simp)]
        exact tks_set hm T _ i t (by simpa using h) h0
theorem book_set {S : List (Int × Int)} {T : List Tk} {i : Nat} {t : Tk} {lo hi : Int} (hx : bookErr S T = 0) (ht : T[i]? = some t) (hm : massErr lo hi = 0) : bookErr S (T.set i ⟨t.id, t.src, t.dst, lo, hi⟩) = 0 := by
  unfold bookErr at hx ⊢
  rw [List.length_set]
  split at hx
  · cases hx
  · rename_i h1
    rw [if_neg h1]
    split at hx
    · rename_i h2; exact absurd hx h2
    · rename_i h2
      rw [if_neg h2]
      split at hx
      · cases hx
      · rename_i h3
        rw [if_neg h3]
        exact tks_set hm T [] i t ht hx
theorem geoT_set {T : List Tk} {i : Nat} {t : Tk} {lo hi : Int} (ht : T[i]? = some t) : geoT (T.set i ⟨t.id, t.src, t.dst, lo, hi⟩) = geoT T := by
  unfold geoT
  rw [List.map_set]
  exact set_same (by rw [List.getElem?_map, ht]; rfl)
theorem rgT_set {T : List Tk} {i : Nat} {t : Tk} {lo hi : Int} : rgT (T.set i ⟨t.id, t.src, t.dst, lo, hi⟩) = (rgT T).set i (lo, hi) := by
  unfold rgT
  rw [List.map_set]
theorem rgT_get {T : List Tk} {i : Nat} {t : Tk} (ht : T[i]? = some t) : (rgT T)[i]? = some (t.low, t.high) := by
  unfold rgT
  rw [List.getElem?_map, ht]; rfl
/-- The assignments of a book in which the range of a ticket is narrower. -/
theorem asg_set {S : List (Int × Int)} {T : List Tk} {i : Nat} {t : Tk} {lo hi : Int} (h : BookOk S T) (h' : BookOk S (T.set i ⟨t.id, t.src, t.dst, lo, hi⟩)) (ht : T[i]? = some t) (h1 : t.low ≤ lo) (h2 : hi ≤ t.high) {A : List Int} :
    Asg S (T.set i ⟨t.id, t.src, t.dst, lo, hi⟩) A ↔ Asg S T A ∧ lo ≤ A.getD i 0 ∧ A.getD i 0 ≤ hi := by
  have hil : i < (rgT T).length := by rw [rgT_len]; exact (List.getElem?_eq_some_iff.1 ht).1
  have hg : ∀ p, gainS (T.set i ⟨t.id, t.src, t.dst, lo, hi⟩) A (one p) = gainS T A (one p) := fun p => by unfold gainS; rw [geoT_set ht]
  rw [asg_iff h', asg_iff h, rgT_set]
  constructor
  · rintro ⟨a, b⟩
    have hi2 := fits_get a (i := i) (r := (lo, hi)) (List.getElem?_set_self hil)
    dsimp only at hi2
    refine ⟨⟨fits_of (by rw [fits_len a, List.length_set]) fun j r hr => ?_, fun p r hr => by rw [← hg]; exact b p r hr⟩, hi2⟩
    by_cases e : j = i
    · subst e
      rw [rgT_get ht] at hr
      cases hr
      dsimp only
      omega
    · exact fits_get a (by rw [List.getElem?_set_ne (Ne.symm e)]; exact hr)
  · rintro ⟨⟨a, b⟩, c⟩
    refine ⟨fits_of (by rw [List.length_set]; exact fits_len a) fun j r hr => ?_, fun p r hr => by rw [hg]; exact b p r hr⟩
    rcases set_get hr with ⟨e, rfl⟩ | ⟨e, hr⟩
    · rw [e]; exact c
    · exact fits_get a hr
/-- Each whole mass between the least and the greatest one of a ticket is that of an assignment. -/
theorem asg_between {S : List (Int × Int)} {T : List Tk} {i : Nat} {t : Tk} {m : Int} {r : Int × Int} (h : BookOk S T) (ht : T[i]? = some t) (he : EndsOf S T (fun A => A.getD i 0) r) (h1 : r.1 ≤ m) (h2 : m ≤ r.2) (hb : ∀ lo hi, massErr lo hi = 0 → BookOk S (T.set i ⟨t.id, t.src, t.dst, lo, hi⟩)) :
    ∃ A, Asg S T A ∧ A.getD i 0 = m := by
  have hi := (List.getElem?_eq_some_iff.1 ht).1
  have hmt := h.mass.mass i t ht
  obtain ⟨A1, a1, a2⟩ := he.low
  obtain ⟨A2, b1, b2⟩ := he.high
  have r1 := fits_get ((asg_iff h).1 a1).1 (rgT_get ht)
  have r2 := fits_get ((asg_iff h).1 b1).1 (rgT_get ht)
  dsimp only at a2 b2 r1 r2
  obtain ⟨T', hT'⟩ : ∃ T', T' = T.set i ⟨t.id, t.src, t.dst, m, m⟩ := ⟨_, rfl⟩
  have h' : BookOk S T' := by rw [hT']; exact hb m m (mass_err (by omega))
  have hiff : ∀ A, Asg S T' A ↔ Asg S T A ∧ m ≤ A.getD i 0 ∧ A.getD i 0 ≤ m := fun A => by
    rw [hT'] at h' ⊢
    exact asg_set h h' ht (by omega) (by omega)
  have hok := new_ok h' []
  have hw := (new_arcs h' []).2
  obtain ⟨b, N', l', mk, _, _, k3, k4, k5, k6⟩ := settle_core hok hw
  by_cases hz : ∀ v, v < 34 → l'.getD v 0 = 0
  · have hc : Circ (newF S T' []) (mss N'.arcs) := ⟨by rw [← k4.rgs]; exact k3.fits, fun v hv => by rw [← k4.geo, k5 v hv]; exact hz v hv⟩
    obtain ⟨q1, q2⟩ := (hiff _).1 (circ_asg h' hc).1
    exact ⟨_, q1, by omega⟩
  · exfalso
    have hpos : 0 < flow (fun v => mk.getD v false) (geo N'.arcs) (mss N'.arcs) := by
      rcases Int.lt_or_le 0 (flow (fun v => mk.getD v false) (geo N'.arcs) (mss N'.arcs)) with c | c
      · exact c
      · exact absurd (cut_zero k3.nodes k5 k6 c) hz
    have hgeo : geo (newF S T' []).arcs = geo (newF S T []).arcs := by
      rw [(new_geo h' []).1, (new_geo h []).1, hT', geoT_set ht]
    have hrgs : rgs (newF S T' []).arcs = (rgs (newF S T []).arcs).set i (m, m) := by
      rw [(new_geo h' []).2, (new_geo h []).2, hT', rgT_set, List.append_assoc, List.append_assoc, List.set_append_left _ _ (by rw [rgT_len]; exact hi)]
    have hgi : (geo (newF S T []).arcs)[i]? = some (node t.src, node t.dst) := by
      rw [(new_geo h []).1, List.append_assoc, List.getElem?_append_left (by rw [geoT_len]; exact hi)]
      unfold geoT
      rw [List.getElem?_map, ht]; rfl
    have key : ∀ A, Asg S T A → 0 < ind (mk.getD (node t.dst) false) (m - A.getD i 0) - ind (mk.getD (node t.src) false) (m - A.getD i 0) := fun A hA => by
      obtain ⟨M, m1, m2, _⟩ := asg_circ h [] hA
      have hMl : i < M.length := by
        have := fits_len m1.fits
        rw [rgs_len, (newF_few S T []).arcs] at this
        omega
      have hmi : M.getD i 0 = A.getD i 0 := by rw [← m2, take_get hi]
      have hfit : Fits (rgs N'.arcs) (M.set i m) := by
        rw [k4.rgs, hrgs]
        refine fits_of (by rw [List.length_set, List.length_set]; exact fits_len m1.fits) fun j r hr => ?_
        rw [getD_set hMl]
        rcases set_get hr with ⟨e, rfl⟩ | ⟨e, hr⟩
        · rw [if_pos e]; exact ⟨Int.le_refl _, Int.le_refl _⟩
        · rw [if_neg e]; exact fits_get m1.fits hr
      have hcut := flow_cut (fun v => mk.getD v false) N'.arcs (M.set i m) hfit k6.arcs
      rw [k4.geo, hgeo] at hcut hpos
      rw [flow_set _ _ _ i _ m hgi hMl, m1.set (new_ok h []).nodes, hmi] at hcut
      dsimp only at hcut
      omega
    have c1 := key A1 a1
    have c2 := key A2 b1
    rw [a2] at c1
    rw [b2] at c2
    generalize mk.getD (node t.dst) false = x at c1 c2
    generalize mk.getD (node t.src) false = y at c1 c2
    cases x <;> cases y <;> simp only [ind_true, ind_false] at c1 c2 <;> omega
/-- What tickets with another range of one of them have, compared with those of the book. -/
theorem tight_narrow {S : List (Int × Int)} {T T' : List Tk} {L U : List (Int × Int)} (hl : TightL S T L) (hu : TightL S T' U) (hlen : T'.length = T.length) (hsub : ∀ A, Asg S T' A → Asg S T A) : ∀ (k : Nat) (r u : Int × Int), L[k]? = some r → U[k]? = some u → r.1 ≤ u.1 ∧ u.2 ≤ r.2 ∧ u.1 ≤ u.2 := by
  intro k r u hr huk
  obtain ⟨A, a1, a2⟩ := (hu.ends k u huk).low
  obtain ⟨B, b1, b2⟩ := (hu.ends k u huk).high
  have c1 := (hl.ends k r hr).all A (hsub A a1)
  have c2 := (hl.ends k r hr).all B (hsub B b1)
  have c3 := (hu.ends k u huk).all A a1
  omega
end Go.Proofs.Ytncnpodanlhdkaa
