/-
  Apportion: its errors.
-/
import Derived.Test.YtocoghnopmjceaaGreatDoorMApport
namespace Go.Proofs.YtocoghnopmjceaaGreatDoor
open Go.RowKit

/-- The first error of Apportion. -/
def apErr (t : Int) (l : List Int) : Nat :=
  if t < 0 ∨ 999999999 < t then 3 else if l.length = 0 then 2 else if 256 < l.length then 5 else wErr l

/-- What Apportion answers. -/
def ApOf (t : Int) (l : List Int) (w : World) (e : Ending) (w' : World) : Prop :=
  (if apErr t l = 0 then ∃ g, w.heap.size ≤ g ∧ e = .returned (.tuple #[.slice (some ⟨g, 0, none⟩) l.length l.length, .int .i64 0]) ∧ Own w' g l.length (iv (apportion t l))
    else e = .returned (.tuple #[.slice none 0 0, .int .i64 (apErr t l : Nat)])) ∧ Below w.heap.size w w'

theorem apOf_bad {t : Int} {l : List Int} {w : World} {k : Nat} {z : Int} (h : apErr t l = k) (hk : k ≠ 0) (hz : z = k) : ApOf t l w (.returned (.tuple #[.slice none 0 0, .int .i64 z])) w := by
  unfold ApOf
  rw [h, if_neg hk, hz]
  exact ⟨rfl, Below.refl _ _⟩

theorem wErr_bound (l : List Int) : wErr l ≤ 6 := by unfold wErr; split <;> (try split) <;> omega

set_option maxRecDepth 100000 in
set_option maxHeartbeats 1000000 in
theorem apportion_range (t : Int) (v : Value) (l : List Int) (w : World) (_h : Ints w v l) (ht : t < 0 ∨ 999999999 < t) : Calls Tryz.prog 6 #[.int .i64 t, v] w (ApOf t l w) := by
  have HF : Hid (ApOf t l w (.returned (.tuple #[.slice none 0 0, .int .i64 3])) w) := hid (apOf_bad (k := 3) (by unfold apErr; rw [if_pos ht]) (by omega) rfl)
  clear _h
  rcases ht with ht | ht
  · go_enter Tryz.func6, Tryz.ntmps6
    go_wp2_with fail
    go_ret2
    exact HF.out
  · have ht2 : ¬ t < 0 := by omega
    go_enter Tryz.func6, Tryz.ntmps6
    go_wp2_with fail
    go_ret2
    exact HF.out

set_option maxRecDepth 100000 in
set_option maxHeartbeats 1000000 in
theorem apportion_len (t : Int) (v : Value) (l : List Int) (w : World) (h : Ints w v l) (ht0 : 0 ≤ t) (ht1 : t ≤ 999999999) (hl : l.length = 0 ∨ 256 < l.length) : Calls Tryz.prog 6 #[.int .i64 t, v] w (ApOf t l w) := by
  obtain ⟨p, c, rfl, hc1, hc2, hcells⟩ := h
  unfold maxLen at hc2
  clear hcells
  rcases hl with hl | hl
  · have HF : Hid (ApOf t l w (.returned (.tuple #[.slice none 0 0, .int .i64 2])) w) := hid (apOf_bad (k := 2) (by unfold apErr; rw [if_neg (by omega), if_pos hl]) (by omega) rfl)
    have hb : ((l.length : Int) == 0) = true := by rw [hl]; rfl
    clear hl
    go_enter Tryz.func6, Tryz.ntmps6
    go_wp2_with fail
    go_ret2
    exact HF.out
  · have HF : Hid (ApOf t l w (.returned (.tuple #[.slice none 0 0, .int .i64 5])) w) := hid (apOf_bad (k := 5) (by unfold apErr; rw [if_neg (by omega), if_neg (by omega), if_pos hl]) (by omega) rfl)
    have hb : ((l.length : Int) == 0) = false := beq_eq_false_iff_ne.2 (by omega)
    go_enter Tryz.func6, Tryz.ntmps6
    go_wp2_with fail
    go_ret2
    exact HF.out

set_option maxRecDepth 100000 in
set_option maxHeartbeats 1000000 in
theorem apportion_weights (t : Int) (v : Value) (l : List Int) (w : World) (h : Ints w v l) (ht0 : 0 ≤ t) (ht1 : t ≤ 999999999) (hl0 : l.length ≠ 0) (hl1 : l.length ≤ 256) (he : wErr l ≠ 0) : Calls Tryz.prog 6 #[.int .i64 t, v] w (ApOf t l w) := by
  have HS := hid ((sumOfWeights_any v l w h (by omega)).mono (R' := fun e w' => e = .returned (.tuple #[.int .i64 0, .int .i64 (wErr l : Nat)]) ∧ w = w') (fun e w' ⟨h1, h2⟩ => by
    unfold SumOf at h1; rw [if_neg he] at h1; exact ⟨h1, h2⟩))
  obtain ⟨p, c, rfl, hc1, hc2, hcells⟩ := h
  unfold maxLen at hc2
  clear hcells
  have HF : Hid (ApOf t l w (.returned (.tuple #[.slice none 0 0, .int .i64 (wErr l : Nat)])) w) := hid (apOf_bad (by unfold apErr; rw [if_neg (by omega), if_neg hl0, if_neg (by omega)]) he rfl)
  have hb : ((l.length : Int) == 0) = false := beq_eq_false_iff_ne.2 (by omega)
  have hb0 : (((wErr l : Nat) : Int) == 0) = false := beq_eq_false_iff_ne.2 (by omega)
  clear he hl0
  generalize wErr l = k at *
  go_enter Tryz.func6, Tryz.ntmps6
  go_wp2_with fail
  refine HS.out.mono ?_
  rintro e w1 ⟨rfl, rfl⟩
  clear HS
  go_wp2_with fail
  go_ret2
  exact HF.out

/-- Apportion divides a whole number in proportion to weights (up to 19 of them, or with an error). -/
theorem apportion_any (t : Int) (v : Value) (l : List Int) (w : World) (h : Ints w v l) (hl : l.length ≤ 19 ∨ apErr t l ≠ 0) : Calls Tryz.prog 6 #[.int .i64 t, v] w (ApOf t l w) := by
  by_cases ht : t < 0 ∨ 999999999 < t
  · exact apportion_range t v l w h ht
  by_cases hn : l.length = 0 ∨ 256 < l.length
  · exact apportion_len t v l w h (by omega) (by omega) hn
  by_cases he : wErr l = 0
  · have h0 : apErr t l = 0 := by unfold apErr; rw [if_neg ht, if_neg (by omega), if_neg (by omega), he]
    refine (apportion_ok t v l w h (hl.resolve_right (fun h => h h0)) (by omega) (by omega) (by omega) he).mono fun e w' h1 => ?_
    unfold ApOf
    rw [if_pos h0]
    exact h1
  · exact apportion_weights t v l w h (by omega) (by omega) (by omega) (by omega) he
end Go.Proofs.YtocoghnopmjceaaGreatDoor

/-
  Plain mathematics of the greatest remainders.
-/
namespace Go.Proofs.YtocoghnopmjceaaGreatDoor

theorem perm_sum {α : Type} {l m : List α} (h : l.Perm m) (f : α → Int) : (l.map f).sum = (m.map f).sum := by
  induction h with
  | nil => rfl
  | cons x _ ih => simp only [List.map_cons, List.sum_cons, ih]
  | swap x y l => simp only [List.map_cons, List.sum_cons]; omega
  | trans _ _ h1 h2 => exact h1.trans h2

theorem sum_set (l : List Int) (i : Nat) (h : i < l.length) : (l.set i (l.getD i 0 + 1)).sum = l.sum + 1 := by
  induction l generalizing i with
  | nil => cases h
  | cons x l ih =>
    cases i with
    | zero => simp [List.getD_eq_getElem?_getD]; omega
    | succ i =>
      have h1 := ih i (by simpa using h)
      simp only [List.set_cons_succ, List.sum_cons, List.getD_cons_succ]
      rw [h1]; omega

theorem bumps_sum (qs is : List Int) (h : ∀ i ∈ is, 0 ≤ i ∧ i.toNat < qs.length) : (bumps qs is).sum = qs.sum + is.length := by
  induction is using list_snoc_ind with
  | h0 => simp [bumps]
  | h1 l x ih =>
    rw [bumps_snoc, sum_set _ _ (by rw [bumps_length]; exact (h x (by simp)).2), ih fun i hi => h i (List.mem_append_left _ hi), List.length_append]
    simp
    omega

theorem bumps_get (qs is : List Int) (h : ∀ i ∈ is, 0 ≤ i ∧ i.toNat < qs.length) (k : Nat) (hk : k < qs.length) : (bumps qs is).getD k 0 = qs.getD k 0 + (is.count (k : Int) : Nat) := by
  induction is using list_snoc_ind with
  | h0 => simp [bumps]
  | h1 l x ih =>
    have ihh := ih fun i hi => h i (List.mem_append_left _ hi)
    obtain ⟨hx0, hx1⟩ := h x (by simp)
    rw [bumps_snoc, List.count_append]
    by_cases e : x = (k : Int)
    · subst e
      have : ((bumps qs l).set (k : Int).toNat ((bumps qs l).getD (k : Int).toNat 0 + 1)).getD k 0 = (bumps qs l).getD k 0 + 1 := by
        simp [List.getD_eq_getElem?_getD, bumps_length, hk]
      rw [this, ihh]
      simp
      omega
    · have hne : x.toNat ≠ k := by omega
      have : ((bumps qs l).set x.toNat ((bumps qs l).getD x.toNat 0 + 1)).getD k 0 = (bumps qs l).getD k 0 := by
        simp [List.getD_eq_getElem?_getD, hne]
      rw [this, ihh]
      have : List.count (k : Int) [x] = 0 := by simp [e]
      omega

theorem places_mem {n : Nat} {x : Int} (h : x ∈ places n) : 0 ≤ x ∧ x.toNat < n := by
  unfold places at h
  rw [List.mem_map] at h
  obtain ⟨i, hi, rfl⟩ := h
  have := List.mem_range.1 hi
  omega

theorem places_nodup (n : Nat) : (places n).Nodup := by
  unfold places
  refine List.Pairwise.map _ ?_ List.nodup_range
  intro a b h e
  exact h (by omega)

theorem places_sum (R : List Int) : ((places R.length).map fun x => R.getD x.toNat 0).sum = R.sum := by
  congr 1
  unfold places
  rw [List.map_map]
  refine List.ext_getElem (by simp) fun i h1 h2 => ?_
  simp [h2]

theorem sum_le_const (l : List Int) (f : Int → Int) (M : Int) (h : ∀ x ∈ l, f x ≤ M) : (l.map f).sum ≤ M * l.length := by
  induction l with
  | nil => simp
  | cons x l ih =>
    have h1 := h x (by simp)
    have h2 := ih fun y hy => h y (by simp [hy])
    simp only [List.map_cons, List.sum_cons, List.length_cons]
    have : M * ((l.length + 1 : Nat) : Int) = M * (l.length : Int) + M := by rw [Int.natCast_add, Int.mul_add]; simp
    omega

theorem sum_le_one_zero (l : List Int) (f : Int → Int) (M : Int) (h : ∀ x ∈ l, f x ≤ M) (x : Int) (hx : x ∈ l) (h0 : f x = 0) : (l.map f).sum ≤ M * ((l.length : Int) - 1) := by
  induction l with
  | nil => cases hx
  | cons y l ih =>
    have h1 := h y (by simp)
    simp only [List.map_cons, List.sum_cons, List.length_cons]
    have e : ((l.length + 1 : Nat) : Int) - 1 = l.length := by omega
    rw [e]
    rcases List.mem_cons.1 hx with rfl | hx
    · have := sum_le_const l f M fun z hz => h z (by simp [hz])
      omega
    · have h2 := ih (fun z hz => h z (by simp [hz])) hx
      have : M * ((l.length : Int) - 1) = M * (l.length : Int) - M := by rw [Int.mul_sub]; simp
      omega

theorem rems_sum (t S : Int) (l : List Int) : S * (quos t S l).sum + (rems t S l).sum = t * l.sum := by
  induction l with
  | nil => simp [quos, rems]
  | cons x l ih =>
    show S * (t * x / S :: quos t S l).sum + (t * x % S :: rems t S l).sum = t * (x :: l).sum
    simp only [List.sum_cons, Int.mul_add]
    have := Int.mul_ediv_add_emod (t * x) S
    omega

/-- What is known of the parts of Apportion. -/
structure Parts (t : Int) (l : List Int) (c : Nat → Int) : Prop where
  len : (apportion t l).length = l.length
  get : ∀ k, k < l.length → (apportion t l).getD k 0 = t * l.getD k 0 / l.sum + c k
  one : ∀ k, k < l.length → c k = 0 ∨ c k = 1 ∧ 0 < t * l.getD k 0 % l.sum
  mono : ∀ i k, i < l.length → k < l.length → t * l.getD k 0 % l.sum < t * l.getD i 0 % l.sum → c k ≤ c i
  sum : (apportion t l).sum = t

theorem apportion_parts (t : Int) (l : List Int) (ht : 0 ≤ t) (hl : ∀ x ∈ l, wIn x = true) (hS : 0 < l.sum) (hl1 : 1 ≤ l.length) : ∃ c, Parts t l c := by
  obtain ⟨S, hSe⟩ : ∃ S, S = l.sum := ⟨_, rfl⟩
  rw [← hSe] at hS
  obtain ⟨R, hR⟩ : ∃ R, R = rems t S l := ⟨_, rfl⟩
  have hRl : R.length = l.length := by rw [hR]; simp [rems]
  have hQl : (quos t S l).length = l.length := by simp [quos]
  obtain ⟨s, hs⟩ : ∃ s, s = isort (ltOf (cmpBy R)) (places l.length) := ⟨_, rfl⟩
  have hperm : s.Perm (places l.length) := by rw [hs]; exact isort_perm _ _
  have hnd : s.Nodup := hperm.nodup_iff.2 (places_nodup _)
  have hmem : ∀ x ∈ s, 0 ≤ x ∧ x.toNat < l.length := fun x hx => places_mem (hperm.mem_iff.1 hx)
  have hsl : s.length = l.length := by rw [hperm.length_eq]; simp [places]
  obtain ⟨L, hL⟩ : ∃ L, L = (t - (quos t S l).sum).toNat := ⟨_, rfl⟩
  have hq := quos_take_sum t S l ht hS hl hSe.symm l.length
  rw [List.take_of_length_le (by rw [hQl]; exact Nat.le_refl _)] at hq
  have hLi : (L : Int) = t - (quos t S l).sum := by rw [hL]; omega
  have hLn : L < l.length := by
    have := left_lt t S l ht hS hl hSe.symm hl1
    omega
  have hap : apportion t l = bumps (quos t S l) (s.take L) := by
    unfold apportion
    rw [← hSe, ← hR, ← hs, ← hL]
  have hval : ∀ i ∈ s.take L, 0 ≤ i ∧ i.toNat < (quos t S l).length := fun i hi => by rw [hQl]; exact hmem i (List.mem_of_mem_take hi)
  have hR0 : ∀ k, k < l.length → R.getD k 0 = t * l.getD k 0 % S := fun k hk => by rw [hR]; exact rems_get t S l k hk
  have hRb : ∀ k, k < l.length → 0 ≤ R.getD k 0 ∧ R.getD k 0 ≤ S - 1 := fun k hk => by
    rw [hR0 k hk]
    exact ⟨Int.emod_nonneg _ (by omega), by have := Int.emod_lt_of_pos (t * l.getD k 0) hS; omega⟩
  have hsort : s.Pairwise fun a b => R.getD b.toNat 0 ≤ R.getD a.toNat 0 := by
    rw [hs]
    refine isort_sorted (ltOf (cmpBy R)) (fun a b => R.getD b.toNat 0 ≤ R.getD a.toNat 0) (fun a b c h1 h2 => Int.le_trans h2 h1) (places l.length) fun i k x y _ _ _ => ?_
    have hc : cmpBy R y x = cmpI (R.getD x.toNat 0) (R.getD y.toNat 0) := rfl
    unfold ltOf
    rw [hc]
    unfold cmpI
    constructor
    · intro h
      simp only [decide_eq_true_eq] at h
      split at h
      · omega
      · split at h <;> omega
    · intro h
      simp only [decide_eq_false_iff_not] at h
      split at h
      · omega
      · omega
  have hcross : ∀ x ∈ s.take L, ∀ y ∈ s.drop L, R.getD y.toNat 0 ≤ R.getD x.toNat 0 := by
    have h1 : (s.take L ++ s.drop L).Pairwise fun a b => R.getD b.toNat 0 ≤ R.getD a.toNat 0 := by rw [List.take_append_drop]; exact hsort
    exact (List.pairwise_append.1 h1).2.2
  have hsplit : ∀ k : Nat, k < l.length → (k : Int) ∈ s.take L ∨ (k : Int) ∈ s.drop L := fun k hk => by
    have : (k : Int) ∈ s := hperm.mem_iff.2 (by unfold places; exact List.mem_map_of_mem (f := fun i : Nat => (i : Int)) (List.mem_range.2 hk))
    rw [← List.take_append_drop L s, List.mem_append] at this
    exact this
  have htl : (s.take L).length = L := by rw [List.length_take]; omega
  have hpos : ∀ x ∈ s.take L, 0 < R.getD x.toNat 0 := by
    intro x hx
    obtain ⟨hx0, hx1⟩ := hmem x (List.mem_of_mem_take hx)
    have hb := hRb x.toNat hx1
    rcases Int.lt_or_le 0 (R.getD x.toNat 0) with h | h
    · exact h
    · exfalso
      have hz : R.getD x.toNat 0 = 0 := by omega
      have hL1 : 1 ≤ L := by
        rcases Nat.eq_zero_or_pos L with e | e
        · rw [e] at hx; simp at hx
        · exact e
      have s1 := sum_le_one_zero (s.take L) (fun x => R.getD x.toNat 0) (S - 1) (fun y hy => (hRb y.toNat (hmem y (List.mem_of_mem_take hy)).2).2) x hx hz
      have s2 := sum_le_const (s.drop L) (fun x => R.getD x.toNat 0) 0 (fun y hy => by
        have := hcross x hx y hy
        show R.getD y.toNat 0 ≤ 0
        omega)
      have s3 : (s.map fun x => R.getD x.toNat 0).sum = R.sum := by
        rw [perm_sum hperm, ← hRl]
        exact places_sum R
      have s4 := rems_sum t S l
      rw [← hR, ← hSe] at s4
      rw [← List.take_append_drop L s, List.map_append, List.sum_append] at s3
      rw [htl] at s1
      have s5 : S * (L : Int) = R.sum := by
        rw [hLi, Int.mul_sub]
        have : S * t = t * S := Int.mul_comm _ _
        omega
      have s6 : (S - 1) * ((L : Int) - 1) = S * (L : Int) - S - (L : Int) + 1 := by
        rw [Int.sub_mul, Int.mul_sub]; simp; omega
      omega
  have hget : ∀ k, k < l.length → (apportion t l).getD k 0 = t * l.getD k 0 / S + ((s.take L).count (k : Int) : Nat) := fun k hk => by
    rw [hap, bumps_get _ _ hval k (by rw [hQl]; exact hk), quos_get t S l k hk]
  have hndt : (s.take L).Nodup := hnd.sublist (List.take_sublist _ _)
  refine ⟨fun k => ((s.take L).count (k : Int) : Nat), ⟨?_, ?_, ?_, ?_, ?_⟩⟩
  · rw [hap, bumps_length, hQl]
  · rw [← hSe]; exact hget
  · intro k hk
    rw [← hSe]
    by_cases hm : (k : Int) ∈ s.take L
    · right
      have h1 : (s.take L).count (k : Int) = 1 := by rw [hndt.count, if_pos hm]
      refine ⟨by rw [h1]; rfl, ?_⟩
      have := hpos _ hm
      rw [← hR0 k hk]
      exact this
    · left
      rw [List.count_eq_zero_of_not_mem hm]; rfl
  · intro i k hi hk hlt
    rw [← hSe, ← hR0 k hk, ← hR0 i hi] at hlt
    rcases hsplit i hi with h1 | h1
    · have h2 : (s.take L).count (i : Int) = 1 := by rw [hndt.count, if_pos h1]
      have h3 : (s.take L).count (k : Int) ≤ 1 := List.nodup_iff_count.1 hndt _
      show (((s.take L).count (k : Int) : Nat) : Int) ≤ (((s.take L).count (i : Int) : Nat) : Int)
      omega
    · rcases hsplit k hk with h2 | h2
      · have := hcross _ h2 _ h1
        exfalso
        have e1 : ((i : Int)).toNat = i := by omega
        have e2 : ((k : Int)).toNat = k := by omega
        rw [e1, e2] at this
        omega
      · have hnk : (k : Int) ∉ s.take L := fun hm => by
          have h3 : (s.take L ++ s.drop L).Nodup := by rw [List.take_append_drop]; exact hnd
          exact (List.nodup_append.1 h3).2.2 _ hm _ h2 rfl
        show (((s.take L).count (k : Int) : Nat) : Int) ≤ _
        rw [List.count_eq_zero_of_not_mem hnk]
        omega
  · rw [hap, bumps_sum _ _ hval, htl, hLi]; omega
end Go.Proofs.YtocoghnopmjceaaGreatDoor

