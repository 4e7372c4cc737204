/-
  A book with the tightened ranges in the place of the given ones.
-/
import Derived.Test.YtncnpodanlhdkaaWProg3
namespace Go.Proofs.Ytncnpodanlhdkaa
set_option linter.all false
open Go.RowKit

theorem mass_err {lo hi : Int} (h : 0 ≤ lo ∧ lo ≤ hi ∧ hi ≤ 999999999) : massErr lo hi = 0 := by
  have e : rangeErr lo hi = 0 := by
    unfold rangeErr far
    rw [if_neg (by simp; omega), if_neg (by omega)]
  unfold massErr
  rw [e]
  simp
  omega
theorem tks_set {n : Int} {lo hi : Int} (hm : massErr lo hi = 0) : ∀ (T : List Tk) (ids : List ByteArray) (i : Nat) (t : Tk), T[i]? = some t → tksErr n ids T = 0 → tksErr n ids (T.set i ⟨t.id, t.src, t.dst, lo, hi⟩) = 0
  | [], _, _, _, h, _ => by simp at h
  | x :: T, ids, i, t, h, h0 => by
    unfold tksErr at h0
    split at h0
    · rename_i hne; exact absurd h0 hne
    · rename_i hne
      have hz : tkErr ids n x = 0 := by simpa using hne
      cases i with
      | zero =>
        simp at h
        subst h
        rw [List.set_cons_zero]
        have e : tkErr ids n ⟨x.id, x.src, x.dst, lo, hi⟩ = 0 := by
          unfold tkErr at hz ⊢
          dsimp only
          split at hz
          · cases hz
          · rename_i c1
            rw [if_neg c1]
            split at hz
            · cases hz
            · rename_i c2
              rw [if_neg c2]
              split at hz
              · cases hz
              · rename_i c3
                rw [if_neg c3]
                split at hz
                · cases hz
                · rename_i c4
                  rw [if_neg c4]
                  exact hm
        unfold tksErr
        rw [if_neg (by rw [e]; simp)]
        exact h0
      | succ i =>
        rw [List.set_cons_succ]
        unfold tksErr
        rw [if_neg (by rw [hz]; simp)]
        exact tks_set hm T _ i t (by simpa using h) h0
theorem book_set {S : List (Int × Int)} {T : List Tk} {i : Nat} {t : Tk} {lo hi : Int} (hx : bookErr S T = 0) (ht : T[i]? = some t) (hm : massErr lo hi = 0) : bookErr S (T.set i ⟨t.id, t.src, t.dst, lo, hi⟩) = 0 := by
  unfold bookErr at hx ⊢
  rw [List.length_set]
  split at hx
  · cases hx
  · rename_i h1
    rw [if_neg h1]
    split at hx
    · rename_i h2; exact absurd hx h2
    · rename_i h2
      rw [if_neg h2]
      split at hx
      · cases hx
      · rename_i h3
        rw [if_neg h3]
        exact tks_set hm T [] i t ht hx
theorem geoT_set {T : List Tk} {i : Nat} {t : Tk} {lo hi : Int} (ht : T[i]? = some t) : geoT (T.set i ⟨t.id, t.src, t.dst, lo, hi⟩) = geoT T := by
  unfold geoT
  rw [List.map_set]
  exact set_same (by rw [List.getElem?_map, ht]; rfl)
theorem rgT_set {T : List Tk} {i : Nat} {t : Tk} {lo hi : Int} : rgT (T.set i ⟨t.id, t.src, t.dst, lo, hi⟩) = (rgT T).set i (lo, hi) := by
  unfold rgT
  rw [List.map_set]
theorem rgT_get {T : List Tk} {i : Nat} {t : Tk} (ht : T[i]? = some t) : (rgT T)[i]? = some (t.low, t.high) := by
  unfold rgT
  rw [List.getElem?_map, ht]; rfl
/-- The assignments of a book in which the range of a ticket is narrower. -/
theorem asg_set {S : List (Int × Int)} {T : List Tk} {i : Nat} {t : Tk} {lo hi : Int} (h : BookOk S T) (h' : BookOk S (T.set i ⟨t.id, t.src, t.dst, lo, hi⟩)) (ht : T[i]? = some t) (h1 : t.low ≤ lo) (h2 : hi ≤ t.high) {A : List Int} :
    Asg S (T.set i ⟨t.id, t.src, t.dst, lo, hi⟩) A ↔ Asg S T A ∧ lo ≤ A.getD i 0 ∧ A.getD i 0 ≤ hi := by
  have hil : i < (rgT T).length := by rw [rgT_len]; exact (List.getElem?_eq_some_iff.1 ht).1
  have hg : ∀ p, gainS (T.set i ⟨t.id, t.src, t.dst, lo, hi⟩) A (one p) = gainS T A (one p) := fun p => by unfold gainS; rw [geoT_set ht]
  rw [asg_iff h', asg_iff h, rgT_set]
  constructor
  · rintro ⟨a, b⟩
    have hi2 := fits_get a (i := i) (r := (lo, hi)) (List.getElem?_set_self hil)
    dsimp only at hi2
    refine ⟨⟨fits_of (by rw [fits_len a, List.length_set]) fun j r hr => ?_, fun p r hr => by rw [← hg]; exact b p r hr⟩, hi2⟩
    by_cases e : j = i
    · subst e
      rw [rgT_get ht] at hr
      cases hr
      dsimp only
      omega
    · exact fits_get a (by rw [List.getElem?_set_ne (Ne.symm e)]; exact hr)
  · rintro ⟨⟨a, b⟩, c⟩
    refine ⟨fits_of (by rw [List.length_set]; exact fits_len a) fun j r hr => ?_, fun p r hr => by rw [hg]; exact b p r hr⟩
    rcases set_get hr with ⟨e, rfl⟩ | ⟨e, hr⟩
    · rw [e]; exact c
    · exact fits_get a hr
/-- Each whole mass between the least and the greatest one of a ticket is that of an assignment. -/
theorem asg_between {S : List (Int × Int)} {T : List Tk} {i : Nat} {t : Tk} {m : Int} {r : Int × Int} (h : BookOk S T) (ht : T[i]? = some t) (he : EndsOf S T (fun A => A.getD i 0) r) (h1 : r.1 ≤ m) (h2 : m ≤ r.2) (hb : ∀ lo hi, massErr lo hi = 0 → BookOk S (T.set i ⟨t.id, t.src, t.dst, lo, hi⟩)) :
    ∃ A, Asg S T A ∧ A.getD i 0 = m := by
  have hi := (List.getElem?_eq_some_iff.1 ht).1
  have hmt := h.mass.mass i t ht
  obtain ⟨A1, a1, a2⟩ := he.low
  obtain ⟨A2, b1, b2⟩ := he.high
  have r1 := fits_get ((asg_iff h).1 a1).1 (rgT_get ht)
  have r2 := fits_get ((asg_iff h).1 b1).1 (rgT_get ht)
  dsimp only at a2 b2 r1 r2
  obtain ⟨T', hT'⟩ : ∃ T', T' = T.set i ⟨t.id, t.src, t.dst, m, m⟩ := ⟨_, rfl⟩
  have h' : BookOk S T' := by rw [hT']; exact hb m m (mass_err (by omega))
  have hiff : ∀ A, Asg S T' A ↔ Asg S T A ∧ m ≤ A.getD i 0 ∧ A.getD i 0 ≤ m := fun A => by
    rw [hT'] at h' ⊢
    exact asg_set h h' ht (by omega) (by omega)
  have hok := new_ok h' []
  have hw := (new_arcs h' []).2
  obtain ⟨b, N', l', mk, _, _, k3, k4, k5, k6⟩ := settle_core hok hw
  by_cases hz : ∀ v, v < 34 → l'.getD v 0 = 0
  · have hc : Circ (newF S T' []) (mss N'.arcs) := ⟨by rw [← k4.rgs]; exact k3.fits, fun v hv => by rw [← k4.geo, k5 v hv]; exact hz v hv⟩
    obtain ⟨q1, q2⟩ := (hiff _).1 (circ_asg h' hc).1
    exact ⟨_, q1, by omega⟩
  · exfalso
    have hpos : 0 < flow (fun v => mk.getD v false) (geo N'.arcs) (mss N'.arcs) := by
      rcases Int.lt_or_le 0 (flow (fun v => mk.getD v false) (geo N'.arcs) (mss N'.arcs)) with c | c
      · exact c
      · exact absurd (cut_zero k3.nodes k5 k6 c) hz
    have hgeo : geo (newF S T' []).arcs = geo (newF S T []).arcs := by
      rw [(new_geo h' []).1, (new_geo h []).1, hT', geoT_set ht]
    have hrgs : rgs (newF S T' []).arcs = (rgs (newF S T []).arcs).set i (m, m) := by
      rw [(new_geo h' []).2, (new_geo h []).2, hT', rgT_set, List.append_assoc, List.append_assoc, List.set_append_left _ _ (by rw [rgT_len]; exact hi)]
    have hgi : (geo (newF S T []).arcs)[i]? = some (node t.src, node t.dst) := by
      rw [(new_geo h []).1, List.append_assoc, List.getElem?_append_left (by rw [geoT_len]; exact hi)]
      unfold geoT
      rw [List.getElem?_map, ht]; rfl
    have key : ∀ A, Asg S T A → 0 < ind (mk.getD (node t.dst) false) (m - A.getD i 0) - ind (mk.getD (node t.src) false) (m - A.getD i 0) := fun A hA => by
      obtain ⟨M, m1, m2, _⟩ := asg_circ h [] hA
      have hMl : i < M.length := by
        have := fits_len m1.fits
        rw [rgs_len, (newF_few S T []).arcs] at this
        omega
      have hmi : M.getD i 0 = A.getD i 0 := by rw [← m2, take_get hi]
      have hfit : Fits (rgs N'.arcs) (M.set i m) := by
        rw [k4.rgs, hrgs]
        refine fits_of (by rw [List.length_set, List.length_set]; exact fits_len m1.fits) fun j r hr => ?_
        rw [getD_set hMl]
        rcases set_get hr with ⟨e, rfl⟩ | ⟨e, hr⟩
        · rw [if_pos e]; exact ⟨Int.le_refl _, Int.le_refl _⟩
        · rw [if_neg e]; exact fits_get m1.fits hr
      have hcut := flow_cut (fun v => mk.getD v false) N'.arcs (M.set i m) hfit k6.arcs
      rw [k4.geo, hgeo] at hcut hpos
      rw [flow_set _ _ _ i _ m hgi hMl, m1.set (new_ok h []).nodes, hmi] at hcut
      dsimp only at hcut
      omega
    have c1 := key A1 a1
    have c2 := key A2 b1
    rw [a2] at c1
    rw [b2] at c2
    generalize mk.getD (node t.dst) false = x at c1 c2
    generalize mk.getD (node t.src) false = y at c1 c2
    cases x <;> cases y <;> simp only [ind_true, ind_false] at c1 c2 <;> omega
/-- What tickets with another range of one of them have, compared with those of the book. -/
theorem tight_narrow {S : List (Int × Int)} {T T' : List Tk} {L U : List (Int × Int)} (hl : TightL S T L) (hu : TightL S T' U) (hlen : T'.length = T.length) (hsub : ∀ A, Asg S T' A → Asg S T A) : ∀ (k : Nat) (r u : Int × Int), L[k]? = some r → U[k]? = some u → r.1 ≤ u.1 ∧ u.2 ≤ r.2 ∧ u.1 ≤ u.2 := by
  intro k r u hr huk
  obtain ⟨A, a1, a2⟩ := (hu.ends k u huk).low
  obtain ⟨B, b1, b2⟩ := (hu.ends k u huk).high
  have c1 := (hl.ends k r hr).all A (hsub A a1)
  have c2 := (hl.ends k r hr).all B (hsub B b1)
  have c3 := (hu.ends k u huk).all A a1
  omega

open Go.RowKit

/-- The tickets with the ranges of a list in the place of the first k. -/
def putL (T : List Tk) (L : List (Int × Int)) : Nat → List Tk
  | 0 => T
  | k + 1 => (putL T L k).set k ⟨(T.getD k noTk).id, (T.getD k noTk).src, (T.getD k noTk).dst, (L.getD k (0, 0)).1, (L.getD k (0, 0)).2⟩
theorem putL_len (T : List Tk) (L : List (Int × Int)) : ∀ k, (putL T L k).length = T.length
  | 0 => rfl
  | k + 1 => by unfold putL; rw [List.length_set]; exact putL_len T L k
theorem putL_rest (T : List Tk) (L : List (Int × Int)) : ∀ (k j : Nat), k ≤ j → (putL T L k)[j]? = T[j]?
  | 0, _, _ => rfl
  | k + 1, j, h => by unfold putL; rw [List.getElem?_set_ne (by omega)]; exact putL_rest T L k j (by omega)
theorem putL_what {S : List (Int × Int)} {T : List Tk} {L : List (Int × Int)} (hx : bookErr S T = 0) (hL : TightL S T L) (hc : Cons S T) : ∀ k, k ≤ T.length → bookErr S (putL T L k) = 0 ∧ geoT (putL T L k) = geoT T ∧ ∀ A, Asg S (putL T L k) A ↔ Asg S T A
  | 0, _ => ⟨hx, rfl, fun _ => Iff.rfl⟩
  | k + 1, hk => by
    obtain ⟨h1, h2, h3⟩ := putL_what hx hL hc k (by omega)
    have ht := List.getElem?_eq_getElem (l := T) (i := k) (by omega)
    obtain ⟨r, hr⟩ : ∃ r, L[k]? = some r := ⟨_, List.getElem?_eq_getElem (by rw [hL.len]; omega)⟩
    have ht2 : (putL T L k)[k]? = some T[k] := by rw [putL_rest T L k k (Nat.le_refl _)]; exact ht
    have e : putL T L (k + 1) = (putL T L k).set k ⟨T[k].id, T[k].src, T[k].dst, r.1, r.2⟩ := by
      show (putL T L k).set k _ = _
      rw [show T.getD k noTk = T[k] by rw [List.getD_eq_getElem?_getD, ht]; rfl, show L.getD k (0, 0) = r by rw [List.getD_eq_getElem?_getD, hr]; rfl]
    have hends := hL.ends k _ hr
    have hg := book_good hx
    have hin : T[k].low ≤ r.1 ∧ r.1 ≤ r.2 ∧ r.2 ≤ T[k].high := by
      obtain ⟨A, a1, a2⟩ := hends.low
      obtain ⟨B, b1, b2⟩ := hends.high
      have f1 := fits_get ((asg_iff hg).1 a1).1 (rgT_get ht)
      have f2 := fits_get ((asg_iff hg).1 b1).1 (rgT_get ht)
      have f3 := hends.all A a1
      dsimp only at f1 f2
      omega
    have hm := hg.mass.mass k _ ht
    have hx2 : bookErr S (putL T L (k + 1)) = 0 := by rw [e]; exact book_set h1 ht2 (mass_err (by omega))
    refine ⟨hx2, by rw [e, geoT_set ht2]; exact h2, fun A => ?_⟩
    have hg2 := book_good hx2
    rw [e] at hg2 ⊢
    rw [asg_set (book_good h1) hg2 ht2 hin.1 hin.2.2, h3]
    exact ⟨fun h => h.1, fun h => ⟨h, hends.all A h⟩⟩
theorem ends_cong {S : List (Int × Int)} {T T' : List Tk} {f : List Int → Int} {r : Int × Int} (h : ∀ A, Asg S T' A ↔ Asg S T A) (k : EndsOf S T' f r) : EndsOf S T f r := by
  obtain ⟨⟨A, a1, a2⟩, ⟨B, b1, b2⟩, c⟩ := k
  exact ⟨⟨A, (h A).1 a1, a2⟩, ⟨B, (h B).1 b1, b2⟩, fun C hC => c C ((h C).2 hC)⟩
theorem tight_same {S : List (Int × Int)} {T T' : List Tk} {L U : List (Int × Int)} (hlen : T'.length = T.length) (h : ∀ A, Asg S T' A ↔ Asg S T A) (hL : TightL S T L) (hU : TightL S T' U) : U = L := by
  refine List.ext_getElem? fun i => ?_
  by_cases c : i < T.length
  · have h1 := List.getElem?_eq_getElem (l := L) (i := i) (by rw [hL.len]; exact c)
    have h2 := List.getElem?_eq_getElem (l := U) (i := i) (by rw [hU.len, hlen]; exact c)
    rw [h1, h2, (ends_cong h (hU.ends i _ h2)).one (hL.ends i _ h1)]
  · rw [List.getElem?_eq_none (by rw [hU.len, hlen]; omega), List.getElem?_eq_none (by rw [hL.len]; omega)]
/-- A sum over the places of a list. -/
def sumP (f : Nat → Int) (P : List Int) : Nat → Int
  | 0 => 0
  | k + 1 => sumP f P k + f (P.getD k 0).toNat
theorem contains_snoc (l : List Int) (a b : Int) : (l ++ [a]).contains b = (l.contains b || decide (b = a)) := by
  rw [Bool.eq_iff_iff]
  simp
theorem sumP_sum {P : List Int} {n : Nat} (f : Nat → Int) (h : numsErr P n = 0) : ∀ k, k ≤ P.length → sumN n (fun p => ind ((P.take k).contains (p : Int)) (f p)) = sumP f P k
  | 0, _ => sumN_zero fun v _ => rfl
  | k + 1, hk => by
    have ih := sumP_sum f h k (by omega)
    have hx := List.getElem?_eq_getElem (l := P) (i := k) (by omega)
    have hin := nums_in h _ (List.mem_of_getElem? hx)
    have hg : P.getD k 0 = P[k] := by rw [List.getD_eq_getElem?_getD, hx]; rfl
    have hnd : (P.take k).contains P[k] = false := by
      unfold numsErr at h
      split at h
      · cases h
      · split at h
        · cases h
        · rename_i h2
          rw [Bool.not_eq_true, List.any_eq_false] at h2
          have := h2 k (List.mem_range.2 (by omega))
          unfold dupAt at this
          rw [hg] at this
          simpa using this
    have e : sumN n (fun p => ind ((P.take (k + 1)).contains (p : Int)) (f p)) = sumN n (fun p => ind ((P.take k).contains (p : Int)) (f p) + (if p = P[k].toNat then f p else 0)) := sumN_eq fun p hp => by
      have e1 : P.take (k + 1) = P.take k ++ [P[k]] := by rw [List.take_add_one, hx]; rfl
      rw [e1]
      by_cases c : p = P[k].toNat
      · have c2 : (p : Int) = P[k] := by omega
        rw [if_pos c, c2, hnd]
        rw [contains_snoc, hnd, decide_eq_true rfl]
        show f p = 0 + f p
        omega
      · have c2 : ¬ (p : Int) = P[k] := by omega
        rw [if_neg c]
        rw [contains_snoc, decide_eq_false c2, Bool.or_false]
        omega
    rw [e, sumN_add, ih, sumN_one (fun p => if p = P[k].toNat then f p else 0) P[k].toNat (by omega) fun v _ hne => if_neg hne]
    show _ + (if P[k].toNat = P[k].toNat then f P[k].toNat else 0) = sumP f P k + f (P.getD k 0).toNat
    rw [if_pos rfl, hg]
theorem sumP_all {P : List Int} {n : Nat} (f : Nat → Int) (h : numsErr P n = 0) : sumN n (fun p => ind (P.contains (p : Int)) (f p)) = sumP f P P.length := by
  have := sumP_sum f h P.length (Nat.le_refl _)
  rw [List.take_length] at this
  exact this
theorem sumP_ones (P : List Int) : ∀ k, sumP (fun _ => 1) P k = k
  | 0 => rfl
  | k + 1 => by unfold sumP; rw [sumP_ones P k]; omega
theorem nums_short {P : List Int} {n : Nat} (h : numsErr P n = 0) : P.length ≤ n := by
  have h1 := sumP_all (fun _ => 1) h
  rw [sumP_ones] at h1
  have h2 := (sumN_bd (f := fun p => ind (P.contains (p : Int)) 1) (c := 1) (by omega) (n := n) fun v _ => by unfold ind; split <;> omega).2
  omega
/-- The change of places together lies between the sums of what their stocks may change. -/
theorem gain_within {S : List (Int × Int)} {T : List Tk} {P : List Int} (h : BookOk S T) (hP : numsErr P S.length = 0) {A : List Int} (hA : Asg S T A) : sumP (fun p => (S.getD p (0, 0)).1) P P.length ≤ gainF T A P T.length ∧ gainF T A P T.length ≤ sumP (fun p => (S.getD p (0, 0)).2) P P.length := by
  rw [← gainJ_gain h (nums_in hP) hA.1, ← sumP_all _ hP, ← sumP_all _ hP]
  obtain ⟨_, h2⟩ := (asg_iff h).1 hA
  have hb : ∀ p, p < S.length → (S.getD p (0, 0)).1 ≤ gainS T A (one p) ∧ gainS T A (one p) ≤ (S.getD p (0, 0)).2 := fun p hp => by
    have hr := List.getElem?_eq_getElem (l := S) (i := p) hp
    have hg : S.getD p (0, 0) = S[p] := by rw [List.getD_eq_getElem?_getD, hr]; rfl
    rw [hg]
    exact h2 p _ hr
  exact ⟨sumN_le fun p hp => by have := hb p hp; unfold ind; split <;> omega, sumN_le fun p hp => by have := hb p hp; unfold ind; split <;> omega⟩
theorem gain_same {S : List (Int × Int)} {T T' : List Tk} {P : List Int} (h : BookOk S T) (h' : BookOk S T') (hlen : T'.length = T.length) (hg : geoT T' = geoT T) (hP : numsErr P S.length = 0) {A : List Int} (hA : A.length = T.length) : gainF T' A P T'.length = gainF T A P T.length := by
  rw [← gainJ_gain h (nums_in hP) hA, ← gainJ_gain h' (nums_in hP) (by rw [hA, hlen])]
  unfold gainJ gainS
  rw [hg]
theorem sumP_bd {S : List (Int × Int)} {T : List Tk} (h : BookOk S T) (P : List Int) : ∀ k : Nat, (-((k : Int) * 999999999) ≤ sumP (fun p => (S.getD p (0, 0)).1) P k ∧ sumP (fun p => (S.getD p (0, 0)).1) P k ≤ (k : Int) * 999999999) ∧ -((k : Int) * 999999999) ≤ sumP (fun p => (S.getD p (0, 0)).2) P k ∧ sumP (fun p => (S.getD p (0, 0)).2) P k ≤ (k : Int) * 999999999
  | 0 => by unfold sumP; omega
  | k + 1 => by
    have ih := sumP_bd h P k
    have hb : -999999999 ≤ (S.getD (P.getD k 0).toNat (0, 0)).1 ∧ (S.getD (P.getD k 0).toNat (0, 0)).1 ≤ 999999999 ∧ -999999999 ≤ (S.getD (P.getD k 0).toNat (0, 0)).2 ∧ (S.getD (P.getD k 0).toNat (0, 0)).2 ≤ 999999999 := by
      rw [List.getD_eq_getElem?_getD]
      rcases hr : S[(P.getD k 0).toNat]? with _ | r
      · decide
      · exact h.tks.rg _ r hr
    have e : ((k + 1 : Nat) : Int) * 999999999 = (k : Int) * 999999999 + 999999999 := by omega
    rw [e]
    show (_ ≤ sumP _ P k + (S.getD (P.getD k 0).toNat (0, 0)).1 ∧ sumP _ P k + (S.getD (P.getD k 0).toNat (0, 0)).1 ≤ _) ∧ _ ≤ sumP _ P k + (S.getD (P.getD k 0).toNat (0, 0)).2 ∧ sumP _ P k + (S.getD (P.getD k 0).toNat (0, 0)).2 ≤ _
    omega
end Go.Proofs.Ytncnpodanlhdkaa
