/-
  Drift: the ranges of drafts between two checks of a scale.
-/
import Derived.Test.YtncnpodanlhdkaaWConf
import Derived.Test.YtncnpodanlhdkaaWTight
namespace Go.Proofs.Ytncnpodanlhdkaa
set_option linter.all false
open Go.RowKit

theorem floor_lo (a b : Int) (hb : 0 < b) (h : a.tmod b < 0) : a.tdiv b - 1 = a / b := by
  have h1 := Int.tmod_eq_emod (a := a) (b := b)
  have h2 := Int.tdiv_eq_ediv (a := a) (b := b)
  have h3 := Int.emod_nonneg a (show b ≠ 0 by omega)
  split at h1
  · omega
  · rename_i hc
    rw [if_neg hc] at h2
    rw [Int.sign_eq_one_of_pos hb] at h2
    omega
theorem floor_hi (a b : Int) (hb : 0 < b) (h : ¬ a.tmod b < 0) : a.tdiv b = a / b := by
  have h1 := Int.tmod_eq_emod (a := a) (b := b)
  have h2 := Int.tdiv_eq_ediv (a := a) (b := b)
  have h4 := Int.emod_lt_of_pos a hb
  split at h1
  · rename_i hc
    rw [if_pos hc] at h2
    omega
  · have : (b.natAbs : Int) = b := by omega
    omega
theorem tdiv_bd (a b : Int) (hb : 0 < b) : -a.natAbs ≤ a.tdiv b ∧ a.tdiv b ≤ a.natAbs := by
  have h := Int.natAbs_tdiv_le_natAbs a b
  omega

set_option maxHeartbeats 2000000 in
theorem floorOf_any (a b : Int) (w : World) (hb : 0 < b) (hb2 : b ≤ 1000) (ha : -1125899906842624 ≤ a) (ha2 : a ≤ 1125899906842624) : Calls Try.prog 73 #[.int .i64 a, .int .i64 b] w fun e w' => e = .returned (.int .i64 (a / b)) ∧ w = w' := by
  have hbd := tdiv_bd a b hb
  have hm1 := Int.tmod_lt_of_pos a hb
  have hm2 : -b < a.tmod b := by
    have h1 := Int.tmod_eq_emod (a := a) (b := b)
    have h3 := Int.emod_nonneg a (show b ≠ 0 by omega)
    have h4 := Int.emod_lt_of_pos a hb
    split at h1 <;> omega
  have hb0 : (b == 0) = false := by simp; omega
  have hbne : b ≠ 0 := by omega
  have hq1 : -1125899906842624 ≤ a.tdiv b := by omega
  have hq2 : a.tdiv b ≤ 1125899906842624 := by omega
  clear hbd
  by_cases h : a.tmod b < 0
  · have HE := hid (floor_lo a b hb h)
    go_enter Try.func73, Try.ntmps73
    go_wp2
    go_ret
    exact ⟨by rw [← HE.out]; rfl, rfl⟩
  · have HE := hid (floor_hi a b hb h)
    go_enter Try.func73, Try.ntmps73
    go_wp2
    go_ret
    exact ⟨by rw [← HE.out]; rfl, rfl⟩
theorem fdiv_bd (a b : Int) (hb : 0 < b) (ha : -1125899906842624 ≤ a) (ha2 : a ≤ 1125899906842624) : -1125899906842624 ≤ a / b ∧ a / b ≤ 1125899906842624 := by
  have h1 : a / b * b ≤ a := Int.ediv_mul_le a (by omega)
  have h2 := Int.lt_ediv_add_one_mul_self a hb
  constructor
  · rw [Int.le_ediv_iff_mul_le hb]
    have : -1125899906842624 * b ≤ -1125899906842624 * 1 := by omega
    omega
  · have h3 : a / b < 1125899906842624 + 1 := by
      rw [Int.ediv_lt_iff_lt_mul hb]
      have : (1125899906842624 + 1) * 1 ≤ (1125899906842624 + 1) * b := by omega
      omega
    omega
theorem ceilOf_any (a b : Int) (w : World) (hb : 0 < b) (hb2 : b ≤ 1000) (ha : -1125899906842624 ≤ a) (ha2 : a ≤ 1125899906842624) : Calls Try.prog 74 #[.int .i64 a, .int .i64 b] w fun e w' => e = .returned (.int .i64 (-((-a) / b))) ∧ w = w' := by
  have HC := hid (floorOf_any (-a) b w hb hb2 (by omega) (by omega))
  obtain ⟨f1, f2⟩ := fdiv_bd (-a) b hb (by omega) (by omega)
  obtain ⟨q, hq⟩ : ∃ q, q = (-a) / b := ⟨_, rfl⟩
  rw [← hq] at HC f1 f2 ⊢
  clear hq
  go_enter Try.func74, Try.ntmps74
  go_wp2_with (go_at_call 73; (with_reducible refine HC.out.mono ?_); rintro e w' ⟨rfl, rfl⟩)
  go_ret
  exact ⟨rfl, rfl⟩

def badM (x : Int) : Bool := decide (x < 0) || decide (999999999 < x)
def shownErr (l : List Int) : Int := if l.length = 0 then 2 else if 256 < l.length then 5 else if l.any badM = true then 3 else 0
set_option maxRecDepth 100000 in
set_option maxHeartbeats 4000000 in
theorem shown_any (l : List Int) (v : Value) (w : World) (hl : SlcIn w v l.length (l.map (Value.int .i64))) : Calls Try.prog 71 #[v] w fun e w' => e = .returned (.int .i64 (shownErr l)) ∧ w = w' := by
  obtain ⟨p, c, rfl, hm⟩ := hl.shape
  obtain ⟨n, hn⟩ : ∃ n, n = l.length := ⟨_, rfl⟩
  rw [← hn] at hl hm ⊢
  have hm' : n ≤ 9223372036854775807 := by unfold maxLen at hm; omega
  have HL := hid hl
  have HN := hid hn
  have HSE : Hid (shownErr l = if n = 0 then 2 else if 256 < n then 5 else if l.any badM = true then 3 else 0) := hid (by rw [hn]; rfl)
  clear hl hn hm
  by_cases h0 : n = 0
  · subst h0
    have HE : Hid (shownErr l = 2) := hid (by rw [HSE.out, if_pos rfl])
    go_enter Try.func71, Try.ntmps71
    go_wp2_with fail
    go_ret
    exact ⟨by rw [HE.out]; rfl, rfl⟩
  have hz : ((n : Int) == 0) = false := by simp; omega
  by_cases h1 : 256 < n
  · have HE : Hid (shownErr l = 5) := hid (by rw [HSE.out, if_neg h0, if_pos h1])
    go_enter Try.func71, Try.ntmps71
    go_wp2_with fail
    go_ret
    exact ⟨by rw [HE.out]; rfl, rfl⟩
  have HSE2 : Hid (shownErr l = if l.any badM = true then 3 else 0) := hid (by rw [HSE.out, if_neg h0, if_neg h1])
  have h1' : n ≤ 256 := by omega
  go_enter Try.func71, Try.ntmps71
  go_wp2_with fail
  go_loop [13] (fun u => ∃ k : Nat, k ≤ n ∧ u = .int .i64 k ∧ Hid (∀ (j : Nat) (x : Int), j < k → l[j]? = some x → badM x = false)) (fun u => n - (intOf u).toNat)
  case atStart => exact ⟨0, Nat.zero_le _, rfl, hid (fun j x hj _ => by omega)⟩
  case round =>
    obtain ⟨k, hk, rfl, HZ⟩ := hrel
    by_cases hlt : k < n
    · obtain ⟨x, hx⟩ : ∃ x, l[k]? = some x := ⟨_, List.getElem?_eq_getElem (by rw [← HN.out]; exact hlt)⟩
      have hw := HL.out
      rw [HN.out] at hw
      obtain ⟨g, o, c', hv, r0, _⟩ := int_at hw hx
      injection hv with e1 e2 e3
      subst e1
      by_cases h2 : x < 0
      · have HE : Hid (shownErr l = 3) := hid (by rw [HSE2.out, if_pos (any_at hx (by unfold badM; simp [h2]))])
        clear hw e2 e3 hx
        go_wp2_with fail
        go_ret
        exact ⟨by rw [HE.out]; rfl, rfl⟩
      · by_cases h3 : 999999999 < x
        · have HE : Hid (shownErr l = 3) := hid (by rw [HSE2.out, if_pos (any_at hx (by unfold badM; simp [h3]))])
          clear hw e2 e3 hx
          go_wp2_with fail
          go_ret
          exact ⟨by rw [HE.out]; rfl, rfl⟩
        · have HZ2 : Hid (∀ (j : Nat) (y : Int), j < k + 1 → l[j]? = some y → badM y = false) := hid (fun j y hj hy => by
            by_cases e : j = k
            · subst e; rw [hx] at hy; cases hy; unfold badM; simp; omega
            · exact HZ.out j y (by omega) hy)
          clear hw e2 e3 hx
          go_wp2_with fail
          go_round
          case rel => exact ⟨k + 1, by omega, by go_num, HZ2⟩
          case measure => simp [intOf]; omega
    · have HE : Hid (shownErr l = 0) := hid (by rw [HSE2.out, any_none fun j x hj => HZ.out j x (by have := (List.getElem?_eq_some_iff.1 hj).1; have := HN.out; omega) hj]; rfl)
      go_wp2_with fail
      go_ret
      exact ⟨by rw [HE.out]; rfl, rfl⟩
end Go.Proofs.Ytncnpodanlhdkaa
