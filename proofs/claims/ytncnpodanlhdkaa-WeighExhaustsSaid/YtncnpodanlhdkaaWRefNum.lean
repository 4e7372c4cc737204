/-
  The reference's CheckNumbers.
-/
import Derived.Test.YtncnpodanlhdkaaWNums
import Derived.Test.YtncnpodanlhdkaaWRef
namespace Go.Proofs.Ytncnpodanlhdkaa
set_option linter.all false
open Go.RowKit

theorem nums_bad {l : List Int} {n : Int} {k : Nat} {x : Int} (hx : l[k]? = some x) (h : x < 0 ∨ n ≤ x) : numsErr l n = 10 := by
  unfold numsErr
  rw [if_pos (List.any_eq_true.2 ⟨x, List.mem_of_getElem? hx, by unfold badN; simp; omega⟩)]
theorem nums_fine {l : List Int} {n : Int} (h : ∀ (j : Nat) (y : Int), l[j]? = some y → 0 ≤ y ∧ y < n) : l.any (badN n) = false := by
  rw [List.any_eq_false]
  intro y hy
  obtain ⟨j, hj⟩ := List.mem_iff_getElem?.1 hy
  have := h j y hj
  unfold badN
  simp
  omega
theorem nums_dup {l : List Int} {n : Int} (h : l.any (badN n) = false) {i k : Nat} {x : Int} (hi : l[i]? = some x) (hk : l[k]? = some x) (hki : k < i) : numsErr l n = 9 := by
  unfold numsErr
  rw [if_neg (by rw [h]; simp), if_pos (List.any_eq_true.2 ⟨i, List.mem_range.2 (List.getElem?_eq_some_iff.1 hi).1, ?_⟩)]
  unfold dupAt
  rw [List.getD_eq_getElem?_getD, hi, Option.getD_some]
  simp only [List.contains_iff_mem]
  exact List.mem_iff_getElem?.2 ⟨k, by rw [List.getElem?_take_of_lt hki]; exact hk⟩
theorem nums_none {l : List Int} {n : Int} (h : l.any (badN n) = false) (h2 : ∀ (i k : Nat) (x : Int), l[i]? = some x → l[k]? = some x → ¬ k < i) : numsErr l n = 0 := by
  unfold numsErr
  rw [if_neg (by rw [h]; simp), if_neg]
  rw [List.any_eq_true]
  rintro ⟨i, hi, hd⟩
  have hx := List.getElem?_eq_getElem (l := l) (i := i) (List.mem_range.1 hi)
  unfold dupAt at hd
  rw [List.getD_eq_getElem?_getD, hx, Option.getD_some] at hd
  simp only [List.contains_iff_mem] at hd
  obtain ⟨k, hk⟩ := List.mem_iff_getElem?.1 hd
  have hki : k < i := by
    have := (List.getElem?_eq_some_iff.1 hk).1
    rw [List.length_take] at this
    omega
  rw [List.getElem?_take_of_lt hki] at hk
  exact h2 i k _ hx hk hki

set_option maxRecDepth 100000 in
set_option maxHeartbeats 8000000 in
theorem refNums_any (l : List Int) (m : Int) (v : Value) (w : World) (hl : SlcIn w v l.length (l.map (Value.int .i64))) : Calls Try.prog 22 #[v, .int .i64 m] w (Ret (.int .i64 (numsErr l m)) w) := by
  obtain ⟨p, c, rfl, hm⟩ := hl.shape
  obtain ⟨n, hn⟩ : ∃ n, n = l.length := ⟨_, rfl⟩
  have hm' : n ≤ 9223372036854775807 := by rw [hn]; unfold maxLen at hm; omega
  obtain ⟨r, hr⟩ : ∃ r, r = numsErr l m := ⟨_, rfl⟩
  rw [← hr, ← hn]
  have HL := hid hl
  have HN := hid hn
  have HBAD := hid (fun (k : Nat) (x : Int) (h1 : l[k]? = some x) (h2 : x < 0 ∨ m ≤ x) => hr.trans (nums_bad h1 h2))
  have HFINE := hid (fun (h : ∀ (j : Nat) (y : Int), l[j]? = some y → 0 ≤ y ∧ y < m) => nums_fine (n := m) h)
  have HDUP := hid (fun (h : l.any (badN m) = false) (i k : Nat) (x : Int) (hi : l[i]? = some x) (hk : l[k]? = some x) (hki : k < i) => hr.trans (nums_dup h hi hk hki))
  have HNONE := hid (fun (h : l.any (badN m) = false) (h2 : ∀ (i k : Nat) (x : Int), l[i]? = some x → l[k]? = some x → ¬ k < i) => hr.trans (nums_none h h2))
  clear hl hn hm hr
  go_enter Try.func22, Try.ntmps22
  go_wp2_with fail
  go_loop [5] (fun u => ∃ k : Nat, k ≤ n ∧ u = .int .i64 k ∧ Hid (∀ (j : Nat) (y : Int), j < k → l[j]? = some y → 0 ≤ y ∧ y < m)) (fun u => n - (intOf u).toNat)
  case atStart => exact ⟨0, Nat.zero_le _, rfl, hid (fun j y hj _ => absurd hj (Nat.not_lt_zero _))⟩
  case round =>
    obtain ⟨k, hk, rfl, HZ⟩ := hrel
    by_cases hlt : k < n
    · obtain ⟨x, hx⟩ : ∃ x, l[k]? = some x := ⟨_, List.getElem?_eq_getElem (by rw [← HN.out]; exact hlt)⟩
      obtain ⟨g, o, c', hv, r0, _⟩ := int_at HL.out hx
      injection hv with e1 e2 e3
      subst e1
      by_cases h1 : x < 0
      · have hrr := HBAD.out k x hx (.inl h1)
        subst hrr
        clear hx e2 e3
        go_wp2_with fail
        go_ret
        exact ⟨rfl, Below.refl _ _⟩
      · by_cases h2 : m ≤ x
        · have hrr := HBAD.out k x hx (.inr h2)
          subst hrr
          clear hx e2 e3
          go_wp2_with fail
          go_ret
          exact ⟨rfl, Below.refl _ _⟩
        · have HZ2 : Hid (∀ (j : Nat) (y : Int), j < k + 1 → l[j]? = some y → 0 ≤ y ∧ y < m) := hid (fun j y hj hy => by
            by_cases e : j = k
            · subst e; rw [hx] at hy; cases hy; omega
            · exact HZ.out j y (by omega) hy)
          clear hx e2 e3
          go_wp2_with fail
          go_round
          case rel => exact ⟨k + 1, by omega, by go_num, HZ2⟩
          case measure => simp [intOf]; omega
    · have hkn : k = n := by omega
      subst hkn
      have HF := hid (HFINE.out (fun j y hy => HZ.out j y (by have := (List.getElem?_eq_some_iff.1 hy).1; have := HN.out; omega) hy))
      clear HZ hlt hk
      go_wp2_with fail
      go_loopw [6] (fun u wr => ∃ i : Nat, i ≤ k ∧ u = .int .i64 i ∧ Hid (Below w.heap.size w wr) ∧ Hid (∀ (i2 k2 : Nat) (x : Int), i2 < i → l[i2]? = some x → l[k2]? = some x → ¬ k2 < i2)) (fun u _ => k - (intOf u).toNat)
      case atStart => exact ⟨0, Nat.zero_le _, rfl, hid (Below.refl _ _), hid (fun i2 k2 x hi _ _ => absurd hi (Nat.not_lt_zero _))⟩
      case round =>
        obtain ⟨i, hi, rfl, HBR, HY⟩ := hrel
        by_cases hil : i < k
        · obtain ⟨x, hx⟩ : ∃ x, l[i]? = some x := ⟨_, List.getElem?_eq_getElem (by rw [← HN.out]; exact hil)⟩
          obtain ⟨g, o, c', hv, r0, _⟩ := int_at (HL.out.later HBR.out) hx
          injection hv with e1 e2 e3
          subst e1
          have HX := hid hx
          clear hx e2 e3
          go_wp2_with fail
          go_loopw [7] (fun u wt => ∃ j : Nat, j ≤ i ∧ u = .int .i64 j ∧ Hid (Below w.heap.size w wt) ∧ Hid (∀ (j2 : Nat), j2 < j → l[j2]? ≠ some x)) (fun u _ => i - (intOf u).toNat)
          case atStart => exact ⟨0, Nat.zero_le _, rfl, HBR, hid (fun j2 hj => absurd hj (Nat.not_lt_zero _))⟩
          case round =>
            obtain ⟨j, hj, rfl, HBT, HW⟩ := hrel
            have HBD : Hid (∀ q, Below w.heap.size w (wr.drewN q)) := hid (fun q => ⟨HBT.out.os, HBT.out.tape, HBT.out.output, HBT.out.size, HBT.out.block⟩)
            by_cases hjl : j < i
            · obtain ⟨g3, o3, c3, hv3, r3, _⟩ := int_at (HL.out.later HBT.out) HX.out
              injection hv3 with d1 d2 d3
              injection d1 with d1
              injection d1 with d1 d4 _
              subst d1
              subst d4
              obtain ⟨y, hy⟩ : ∃ y, l[j]? = some y := ⟨_, List.getElem?_eq_getElem (by have := HN.out; omega)⟩
              obtain ⟨g2, o2, c2, hv2, s0, _⟩ := int_at (HL.out.later HBT.out) hy
              injection hv2 with f1 f2 f3
              injection f1 with f1
              injection f1 with f1 f4 _
              subst f1
              subst f4
              by_cases hxy : x = y
              · subst hxy
                have hrr := HDUP.out HF.out i j x HX.out hy hjl
                subst hrr
                clear hy f2 f3 d2 d3
                go_wp2_with fail
                go_quiet (fail)
                go_wp2_with fail
                go_ret
                exact ⟨rfl, HBD.out _⟩
              · have hq : (x == y) = false := by simpa using hxy
                have HW2 : Hid (∀ (j2 : Nat), j2 < j + 1 → l[j2]? ≠ some x) := hid (fun j2 hj2 e => by
                  by_cases e2 : j2 = j
                  · subst e2; rw [hy] at e; injection e with e; exact hxy e.symm
                  · exact HW.out j2 (by omega) e)
                clear hy f2 f3 hxy d2 d3
                go_wp2_with fail
                go_quiet (fail)
                go_wp2_with fail
                go_roundw
                case rel => exact ⟨j + 1, by omega, by go_num, hid (HBD.out _), HW2⟩
                case measure => simp [intOf]; omega
            · have hji : j = i := by omega
              subst hji
              have HY2 : Hid (∀ (i2 k2 : Nat) (x : Int), i2 < j + 1 → l[i2]? = some x → l[k2]? = some x → ¬ k2 < i2) := hid (fun i2 k2 x2 hi2 h1 h2 h3 => by
                by_cases e2 : i2 = j
                · subst e2
                  have := HX.out
                  rw [this] at h1
                  cases h1
                  exact HW.out k2 h3 h2
                · exact HY.out i2 k2 x2 (by omega) h1 h2 h3)
              go_wp2_with fail
              go_roundw
              case rel => exact ⟨j + 1, by omega, by go_num, HBT, HY2⟩
              case measure => simp [intOf]; omega
        · have hik : i = k := by omega
          subst hik
          have hrr := HNONE.out HF.out (fun i2 k2 x h1 h2 => HY.out i2 k2 x (by have := (List.getElem?_eq_some_iff.1 h1).1; have := HN.out; omega) h1 h2)
          subst hrr
          go_wp2_with fail
          go_ret
          exact ⟨rfl, HBR.out⟩
end Go.Proofs.Ytncnpodanlhdkaa
