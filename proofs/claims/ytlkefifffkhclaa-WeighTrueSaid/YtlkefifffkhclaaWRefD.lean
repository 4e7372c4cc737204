/-
  The reference's drift, and lists of ranges compared.
-/
import Derived.Test.YtlkefifffkhclaaWRef
import Derived.Test.YtlkefifffkhclaaWDrift2
namespace Go.Proofs.Ytlkefifffkhclaa
set_option linter.all false
open Go.RowKit

set_option maxRecDepth 100000 in
set_option maxHeartbeats 4000000 in
theorem refShown_any (l : List Int) (v : Value) (w : World) (hl : SlcIn w v l.length (l.map (Value.int .i64))) : Calls Try.prog 22 #[v] w fun e w' => e = .returned (.int .i64 (shownErr l)) ∧ w = w' := by
  obtain ⟨p, c, rfl, hm⟩ := hl.shape
  obtain ⟨n, hn⟩ : ∃ n, n = l.length := ⟨_, rfl⟩
  rw [← hn] at hl hm ⊢
  have hm' : n ≤ 9223372036854775807 := by unfold maxLen at hm; omega
  have HL := hid hl
  have HN := hid hn
  have HSE : Hid (shownErr l = if n = 0 then 2 else if 256 < n then 5 else if l.any badM = true then 3 else 0) := hid (by rw [hn]; rfl)
  clear hl hn hm
  by_cases h0 : n = 0
  · subst h0
    have HE : Hid (shownErr l = 2) := hid (by rw [HSE.out, if_pos rfl])
    go_enter Try.func22, Try.ntmps22
    go_wp2_with fail
    go_ret
    exact ⟨by rw [HE.out]; rfl, rfl⟩
  have hz : ((n : Int) == 0) = false := by simp; omega
  by_cases h1 : 256 < n
  · have HE : Hid (shownErr l = 5) := hid (by rw [HSE.out, if_neg h0, if_pos h1])
    go_enter Try.func22, Try.ntmps22
    go_wp2_with fail
    go_ret
    exact ⟨by rw [HE.out]; rfl, rfl⟩
  have HSE2 : Hid (shownErr l = if l.any badM = true then 3 else 0) := hid (by rw [HSE.out, if_neg h0, if_neg h1])
  have h1' : n ≤ 256 := by omega
  go_enter Try.func22, Try.ntmps22
  go_wp2_with fail
  go_loop [3] (fun u => ∃ k : Nat, k ≤ n ∧ u = .int .i64 k ∧ Hid (∀ (j : Nat) (x : Int), j < k → l[j]? = some x → badM x = false)) (fun u => n - (intOf u).toNat)
  case atStart => exact ⟨0, Nat.zero_le _, rfl, hid (fun j x hj _ => by omega)⟩
  case round =>
    obtain ⟨k, hk, rfl, HZ⟩ := hrel
    by_cases hlt : k < n
    · obtain ⟨x, hx⟩ : ∃ x, l[k]? = some x := ⟨_, List.getElem?_eq_getElem (by rw [← HN.out]; exact hlt)⟩
      have hw := HL.out
      rw [HN.out] at hw
      obtain ⟨g, o, c', hv, r0, _⟩ := int_at hw hx
      injection hv with e1 e2 e3
      subst e1
      by_cases h2 : x < 0
      · have HE : Hid (shownErr l = 3) := hid (by rw [HSE2.out, if_pos (any_at hx (by unfold badM; simp [h2]))])
        clear hw e2 e3 hx
        go_wp2_with fail
        go_ret
        exact ⟨by rw [HE.out]; rfl, rfl⟩
      · by_cases h3 : 999999999 < x
        · have HE : Hid (shownErr l = 3) := hid (by rw [HSE2.out, if_pos (any_at hx (by unfold badM; simp [h3]))])
          clear hw e2 e3 hx
          go_wp2_with fail
          go_ret
          exact ⟨by rw [HE.out]; rfl, rfl⟩
        · have HZ2 : Hid (∀ (j : Nat) (y : Int), j < k + 1 → l[j]? = some y → badM y = false) := hid (fun j y hj hy => by
            by_cases e : j = k
            · subst e; rw [hx] at hy; cases hy; unfold badM; simp; omega
            · exact HZ.out j y (by omega) hy)
          clear hw e2 e3 hx
          go_wp2_with fail
          go_round
          case rel => exact ⟨k + 1, by omega, by go_num, HZ2⟩
          case measure => simp [intOf]; omega
    · have HE : Hid (shownErr l = 0) := hid (by rw [HSE2.out, any_none fun j x hj => HZ.out j x (by have := (List.getElem?_eq_some_iff.1 hj).1; have := HN.out; omega) hj]; rfl)
      go_wp2_with fail
      go_ret
      exact ⟨by rw [HE.out]; rfl, rfl⟩

set_option maxHeartbeats 2000000 in
theorem refFloor_any (a b : Int) (w : World) (hb : 0 < b) (hb2 : b ≤ 1000) (ha : -1125899906842624 ≤ a) (ha2 : a ≤ 1125899906842624) : Calls Try.prog 46 #[.int .i64 a, .int .i64 b] w fun e w' => e = .returned (.int .i64 (a / b)) ∧ w = w' := by
  have hbd := tdiv_bd a b hb
  have hm1 := Int.tmod_lt_of_pos a hb
  have hm2 : -b < a.tmod b := by
    have h1 := Int.tmod_eq_emod (a := a) (b := b)
    have h3 := Int.emod_nonneg a (show b ≠ 0 by omega)
    have h4 := Int.emod_lt_of_pos a hb
    split at h1 <;> omega
  have hmul : a.tdiv b * b = a - a.tmod b := by
    have := Int.tmod_add_mul_tdiv a b
    rw [Int.mul_comm] at this
    omega
  have hb0 : (b == 0) = false := by simp; omega
  have hbne : b ≠ 0 := by omega
  have hq1 : -1125899906842624 ≤ a.tdiv b := by omega
  have hq2 : a.tdiv b ≤ 1125899906842624 := by omega
  have hp1 : -1125899906852624 ≤ a.tdiv b * b := by omega
  have hp2 : a.tdiv b * b ≤ 1125899906852624 := by omega
  clear hbd
  by_cases h : a.tmod b < 0
  · have HE := hid (floor_lo a b hb h)
    have h2 : a < a.tdiv b * b := by omega
    clear hmul
    go_enter Try.func46, Try.ntmps46
    go_wp2
    go_ret
    exact ⟨by rw [← HE.out]; rfl, rfl⟩
  · have HE := hid (floor_hi a b hb h)
    have h2 : ¬ a < a.tdiv b * b := by omega
    clear hmul
    go_enter Try.func46, Try.ntmps46
    go_wp2
    go_ret
    exact ⟨by rw [← HE.out]; rfl, rfl⟩

set_option maxRecDepth 100000 in
set_option maxHeartbeats 4000000 in
theorem ranges_bad (p : Option Addr) (c : Nat) (bad : Int) (v : Value) (w : World) (h : bad ≠ 0) : Calls Try.prog 23 #[.slice p 0 c, .int .i64 bad, .int .i64 bad, v] w (Ret (.bool true) w) := by
  have hz : (bad == 0) = false := by simpa using h
  have hz2 : (bad != 0) = true := by simpa using h
  go_enter Try.func23, Try.ntmps23
  go_wp2_with fail
  go_ret
  exact ⟨rfl, Below.refl _ _⟩
set_option maxRecDepth 100000 in
set_option maxHeartbeats 4000000 in
theorem ranges_ok (L : List (Int × Int)) (v1 v2 : Value) (W : World) (h1 : SlcIn W v1 L.length (L.flatMap rgC)) (h2 : SlcIn W v2 L.length (L.flatMap rgC)) : Calls Try.prog 23 #[v1, .int .i64 0, .int .i64 0, v2] W (Ret (.bool true) W) := by
  obtain ⟨p1, c1, rfl, hm1⟩ := h1.shape
  obtain ⟨p2, c2, rfl, hm2⟩ := h2.shape
  obtain ⟨n, hn⟩ : ∃ n, n = L.length := ⟨_, rfl⟩
  rw [← hn] at h1 h2 hm1 ⊢
  have hm' : n ≤ 9223372036854775807 := by unfold maxLen at hm1; omega
  have hz : ((n : Int) != (n : Int)) = false := by simp
  have H1 := hid h1
  have H2 := hid h2
  have HN := hid hn
  clear h1 h2 hm1 hm2 hn
  go_enter Try.func23, Try.ntmps23
  go_wp2_with fail
  go_loopw [9] (fun u wr => ∃ k : Nat, k ≤ n ∧ u = .int .i64 k ∧ Hid (Below W.heap.size W wr)) (fun u _ => n - (intOf u).toNat)
  case atStart => exact ⟨0, Nat.zero_le _, rfl, hid (Below.refl _ _)⟩
  case round =>
    obtain ⟨k, hk, rfl, HB⟩ := hrel
    by_cases hlt : k < n
    · obtain ⟨r, hr⟩ : ∃ r, L[k]? = some r := ⟨_, List.getElem?_eq_getElem (by rw [← HN.out]; exact hlt)⟩
      have hw1 := H1.out.later HB.out
      rw [HN.out] at hw1
      obtain ⟨g, o, c', hv, r0, r1⟩ := hw1.rgAt hr
      injection hv with e1 e2 e3
      subst e1
      have hw2 := H2.out.later HB.out
      rw [HN.out] at hw2
      obtain ⟨g2, o2, c3, hv2, s0, s1⟩ := hw2.rgAt hr
      injection hv2 with f1 f2 f3
      subst f1
      have HBD : Hid (∀ q, Below W.heap.size W (wr.drewN q)) := hid (fun q => ⟨HB.out.os, HB.out.tape, HB.out.output, HB.out.size, HB.out.block⟩)
      clear hw1 hw2 e2 e3 f2 f3 hr
      go_wp2_with fail
      go_quiet (fail)
      go_wp2_with fail
      go_roundw
      case rel => exact ⟨k + 1, by omega, by go_num, hid (HBD.out _)⟩
      case measure => simp [intOf]; omega
    · go_wp2_with fail
      go_ret
      exact ⟨rfl, HB.out⟩
end Go.Proofs.Ytlkefifffkhclaa
