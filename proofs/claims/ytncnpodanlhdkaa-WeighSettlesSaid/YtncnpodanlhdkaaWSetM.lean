/-
  A book with the tightened ranges in the place of the given ones.
-/
import Derived.Test.YtncnpodanlhdkaaWNarM
namespace Go.Proofs.Ytncnpodanlhdkaa
set_option linter.all false
open Go.RowKit

/-- The tickets with the ranges of a list in the place of the first k. -/
def putL (T : List Tk) (L : List (Int × Int)) : Nat → List Tk
  | 0 => T
  | k + 1 => (putL T L k).set k ⟨(T.getD k noTk).id, (T.getD k noTk).src, (T.getD k noTk).dst, (L.getD k (0, 0)).1, (L.getD k (0, 0)).2⟩
theorem putL_len (T : List Tk) (L : List (Int × Int)) : ∀ k, (putL T L k).length = T.length
  | 0 => rfl
  | k + 1 => by unfold putL; rw [List.length_set]; exact putL_len T L k
theorem putL_rest (T : List Tk) (L : List (Int × Int)) : ∀ (k j : Nat), k ≤ j → (putL T L k)[j]? = T[j]?
  | 0, _, _ => rfl
  | k + 1, j, h => by unfold putL; rw [List.getElem?_set_ne (by omega)]; exact putL_rest T L k j (by omega)
theorem putL_what {S : List (Int × Int)} {T : List Tk} {L : List (Int × Int)} (hx : bookErr S T = 0) (hL : TightL S T L) (hc : Cons S T) : ∀ k, k ≤ T.length → bookErr S (putL T L k) = 0 ∧ geoT (putL T L k) = geoT T ∧ ∀ A, Asg S (putL T L k) A ↔ Asg S T A
  | 0, _ => ⟨hx, rfl, fun _ => Iff.rfl⟩
  | k + 1, hk => by
    obtain ⟨h1, h2, h3⟩ := putL_what hx hL hc k (by omega)
    have ht := List.getElem?_eq_getElem (l := T) (i := k) (by omega)
    obtain ⟨r, hr⟩ : ∃ r, L[k]? = some r := ⟨_, List.getElem?_eq_getElem (by rw [hL.len]; omega)⟩
    have ht2 : (putL T L k)[k]? = some T[k] := by rw [putL_rest T L k k (Nat.le_refl _)]; exact ht
    have e : putL T L (k + 1) = (putL T L k).set k ⟨T[k].id, T[k].src, T[k].dst, r.1, r.2⟩ := by
      show (putL T L k).set k _ = _
      rw [show T.getD k noTk = T[k] by rw [List.getD_eq_getElem?_getD, ht]; rfl, show L.getD k (0, 0) = r by rw [List.getD_eq_getElem?_getD, hr]; rfl]
    have hends := hL.ends k _ hr
    have hg := book_good hx
    have hin : T[k].low ≤ r.1 ∧ r.1 ≤ r.2 ∧ r.2 ≤ T[k].high := by
      obtain ⟨A, a1, a2⟩ := hends.low
      obtain ⟨B, b1, b2⟩ := hends.high
      have f1 := fits_get ((asg_iff hg).1 a1).1 (rgT_get ht)
      have f2 := fits_get ((asg_iff hg).1 b1).1 (rgT_get ht)
      have f3 := hends.all A a1
      dsimp only at f1 f2
      omega
    have hm := hg.mass.mass k _ ht
    have hx2 : bookErr S (putL T L (k + 1)) = 0 := by rw [e]; exact book_set h1 ht2 (mass_err (by omega))
    refine ⟨hx2, by rw [e, geoT_set ht2]; exact h2, fun A => ?_⟩
    have hg2 := book_good hx2
    rw [e] at hg2 ⊢
    rw [asg_set (book_good h1) hg2 ht2 hin.1 hin.2.2, h3]
    exact ⟨fun h => h.1, fun h => ⟨h, hends.all A h⟩⟩
theorem ends_cong {S : List (Int × Int)} {T T' : List Tk} {f : List Int → Int} {r : Int × Int} (h : ∀ A, Asg S T' A ↔ Asg S T A) (k : EndsOf S T' f r) : EndsOf S T f r := by
  obtain ⟨⟨A, a1, a2⟩, ⟨B, b1, b2⟩, c⟩ := k
  exact ⟨⟨A, (h A).1 a1, a2⟩, ⟨B, (h B).1 b1, b2⟩, fun C hC => c C ((h C).2 hC)⟩
theorem tight_same {S : List (Int × Int)} {T T' : List Tk} {L U : List (Int × Int)} (hlen : T'.length = T.length) (h : ∀ A, Asg S T' A ↔ Asg S T A) (hL : TightL S T L) (hU : TightL S T' U) : U = L := by
  refine List.ext_getElem? fun i => ?_
  by_cases c : i < T.length
  · have h1 := List.getElem?_eq_getElem (l := L) (i := i) (by rw [hL.len]; exact c)
    have h2 := List.getElem?_eq_getElem (l := U) (i := i) (by rw [hU.len, hlen]; exact c)
    rw [h1, h2, (ends_cong h (hU.ends i _ h2)).one (hL.ends i _ h1)]
  · rw [List.getElem?_eq_none (by rw [hU.len, hlen]; omega), List.getElem?_eq_none (by rw [hL.len]; omega)]
/-- A sum over the places of a list. -/
def sumP (f : Nat → Int) (P : List Int) : Nat → Int
  | 0 => 0
  | k + 1 => sumP f P k + f (P.getD k 0).toNat
theorem contains_snoc (l : List Int) (a b : Int) : (l ++ [a]).contains b = (l.contains b || decide (b = a)) := by
  rw [Bool.eq_iff_iff]
  simp
theorem sumP_sum {P : List Int} {n : Nat} (f : Nat → Int) (h : numsErr P n = 0) : ∀ k, k ≤ P.length → sumN n (fun p => ind ((P.take k).contains (p : Int)) (f p)) = sumP f P k
  | 0, _ => sumN_zero fun v _ => rfl
  | k + 1, hk => by
    have ih := sumP_sum f h k (by omega)
    have hx := List.getElem?_eq_getElem (l := P) (i := k) (by omega)
    have hin := nums_in h _ (List.mem_of_getElem? hx)
    have hg : P.getD k 0 = P[k] := by rw [List.getD_eq_getElem?_getD, hx]; rfl
    have hnd : (P.take k).contains P[k] = false := by
      unfold numsErr at h
      split at h
      · cases h
      · split at h
        · cases h
        · rename_i h2
          rw [Bool.not_eq_true, List.any_eq_false] at h2
          have := h2 k (List.mem_range.2 (by omega))
          unfold dupAt at this
          rw [hg] at this
          simpa using this
    have e : sumN n (fun p => ind ((P.take (k + 1)).contains (p : Int)) (f p)) = sumN n (fun p => ind ((P.take k).contains (p : Int)) (f p) + (if p = P[k].toNat then f p else 0)) := sumN_eq fun p hp => by
      have e1 : P.take (k + 1) = P.take k ++ [P[k]] := by rw [List.take_add_one, hx]; rfl
      rw [e1]
      by_cases c : p = P[k].toNat
      · have c2 : (p : Int) = P[k] := by omega
        rw [if_pos c, c2, hnd]
        rw [contains_snoc, hnd, decide_eq_true rfl]
        show f p = 0 + f p
        omega
      · have c2 : ¬ (p : Int) = P[k] := by omega
        rw [if_neg c]
        rw [contains_snoc, decide_eq_false c2, Bool.or_false]
        omega
    rw [e, sumN_add, ih, sumN_one (fun p => if p = P[k].toNat then f p else 0) P[k].toNat (by omega) fun v _ hne => if_neg hne]
    show _ + (if P[k].toNat = P[k].toNat then f P[k].toNat else 0) = sumP f P k + f (P.getD k 0).toNat
    rw [if_pos rfl, hg]
theorem sumP_all {P : List Int} {n : Nat} (f : Nat → Int) (h : numsErr P n = 0) : sumN n (fun p => ind (P.contains (p : Int)) (f p)) = sumP f P P.length := by
  have := sumP_sum f h P.length (Nat.le_refl _)
  rw [List.take_length] at this
  exact this
theorem sumP_ones (P : List Int) : ∀ k, sumP (fun _ => 1) P k = k
  | 0 => rfl
  | k + 1 => by unfold sumP; rw [sumP_ones P k]; omega
theorem nums_short {P : List Int} {n : Nat} (h : numsErr P n = 0) : P.length ≤ n := by
  have h1 := sumP_all (fun _ => 1) h
  rw [sumP_ones] at h1
  have h2 := (sumN_bd (f := fun p => ind (P.contains (p : Int)) 1) (c := 1) (by omega) (n := n) fun v _ => by unfold ind; split <;> omega).2
  omega
/-- The change of places together lies between the sums of what their stocks may change. -/
theorem gain_within {S : List (Int × Int)} {T : List Tk} {P : List Int} (h : BookOk S T) (hP : numsErr P S.length = 0) {A : List Int} (hA : Asg S T A) : sumP (fun p => (S.getD p (0, 0)).1) P P.length ≤ gainF T A P T.length ∧ gainF T A P T.length ≤ sumP (fun p => (S.getD p (0, 0)).2) P P.length := by
  rw [← gainJ_gain h (nums_in hP) hA.1, ← sumP_all _ hP, ← sumP_all _ hP]
  obtain ⟨_, h2⟩ := (asg_iff h).1 hA
  have hb : ∀ p, p < S.length → (S.getD p (0, 0)).1 ≤ gainS T A (one p) ∧ gainS T A (one p) ≤ (S.getD p (0, 0)).2 := fun p hp => by
    have hr := List.getElem?_eq_getElem (l := S) (i := p) hp
    have hg : S.getD p (0, 0) = S[p] := by rw [List.getD_eq_getElem?_getD, hr]; rfl
    rw [hg]
    exact h2 p _ hr
  exact ⟨sumN_le fun p hp => by have := hb p hp; unfold ind; split <;> omega, sumN_le fun p hp => by have := hb p hp; unfold ind; split <;> omega⟩
theorem gain_same {S : List (Int × Int)} {T T' : List Tk} {P : List Int} (h : BookOk S T) (h' : BookOk S T') (hlen : T'.length = T.length) (hg : geoT T' = geoT T) (hP : numsErr P S.length = 0) {A : List Int} (hA : A.length = T.length) : gainF T' A P T'.length = gainF T A P T.length := by
  rw [← gainJ_gain h (nums_in hP) hA, ← gainJ_gain h' (nums_in hP) (by rw [hA, hlen])]
  unfold gainJ gainS
  rw [hg]
theorem sumP_bd {S : List (Int × Int)} {T : List Tk} (h : BookOk S T) (P : List Int) : ∀ k : Nat, (-((k : Int) * 999999999) ≤ sumP (fun p => (S.getD p (0, 0)).1) P k ∧ sumP (fun p => (S.getD p (0, 0)).1) P k ≤ (k : Int) * 999999999) ∧ -((k : Int) * 999999999) ≤ sumP (fun p => (S.getD p (0, 0)).2) P k ∧ sumP (fun p => (S.getD p (0, 0)).2) P k ≤ (k : Int) * 999999999
  | 0 => by unfold sumP; omega
  | k + 1 => by
    have ih := sumP_bd h P k
    have hb : -999999999 ≤ (S.getD (P.getD k 0).toNat (0, 0)).1 ∧ (S.getD (P.getD k 0).toNat (0, 0)).1 ≤ 999999999 ∧ -999999999 ≤ (S.getD (P.getD k 0).toNat (0, 0)).2 ∧ (S.getD (P.getD k 0).toNat (0, 0)).2 ≤ 999999999 := by
      rw [List.getD_eq_getElem?_getD]
      rcases hr : S[(P.getD k 0).toNat]? with _ | r
      · decide
      · exact h.tks.rg _ r hr
    have e : ((k + 1 : Nat) : Int) * 999999999 = (k : Int) * 999999999 + 999999999 := by omega
    rw [e]
    show (_ ≤ sumP _ P k + (S.getD (P.getD k 0).toNat (0, 0)).1 ∧ sumP _ P k + (S.getD (P.getD k 0).toNat (0, 0)).1 ≤ _) ∧ _ ≤ sumP _ P k + (S.getD (P.getD k 0).toNat (0, 0)).2 ∧ sumP _ P k + (S.getD (P.getD k 0).toNat (0, 0)).2 ≤ _
    omega
end Go.Proofs.Ytncnpodanlhdkaa
