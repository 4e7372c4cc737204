/-
  The reference's IsName.
-/
import Derived.Test.YtlkefifffkhclaaWName
namespace Go.Proofs.Ytlkefifffkhclaa
set_option linter.all false
open Go.RowKit

theorem isName_len (s : ByteArray) (h : ¬ (1 ≤ s.size ∧ s.size ≤ 24)) : isName s.data.toList = false := by
  unfold isName
  rw [show decide (1 ≤ s.data.toList.length ∧ s.data.toList.length ≤ 24) = false from decide_eq_false (by simpa using h), Bool.and_false]

theorem name_ways (c : Nat) : (nameR c = true ∧ ((97 ≤ c ∧ c ≤ 122) ∨ (c < 97 ∧ 65 ≤ c ∧ c ≤ 90) ∨ (c < 65 ∧ 48 ≤ c ∧ c ≤ 57) ∨ c = 45 ∨ c = 46 ∨ c = 95)) ∨ (nameR c = false ∧ (122 < c ∨ (95 < c ∧ c < 97) ∨ (90 < c ∧ c < 95) ∨ (57 < c ∧ c < 65) ∨ (46 < c ∧ c < 48) ∨ c < 45)) := by
  by_cases h : (97 ≤ c ∧ c ≤ 122) ∨ (65 ≤ c ∧ c ≤ 90) ∨ (48 ≤ c ∧ c ≤ 57) ∨ c = 45 ∨ c = 95 ∨ c = 46
  · exact .inl ⟨nameR_true (by omega), by omega⟩
  · exact .inr ⟨nameR_false (by omega), by omega⟩

set_option maxRecDepth 100000 in
set_option maxHeartbeats 2000000 in
theorem refName9 (s : ByteArray) (w : World) (hs : s.size ≤ 5000) :
    Calls Try.prog 59 #[.string s] w fun e w' => e = .returned (.bool (isName s.data.toList)) ∧ w' = w := by
  by_cases h0 : ¬ (1 ≤ s.size ∧ s.size ≤ 24)
  · have HE := hid (isName_len s h0)
    rcases (show s.size < 1 ∨ (¬ s.size < 1 ∧ 24 < s.size) by omega) with h | ⟨h, h2⟩
    all_goals
      clear h0
      go_enter Try.func59, Try.ntmps59
      go_wp2_with fail
      go_ret
      exact ⟨ret_bool HE.out.symm, rfl⟩
  have h1 : ¬ s.size < 1 ∧ ¬ 24 < s.size := by omega
  obtain ⟨h1, h2⟩ := h1
  have HSN := hid (take_snoc_bytes s)
  have HBAD := hid (isName_bad s)
  have HEND : Hid ((∀ c ∈ s.data.toList.take s.size, nameR c.toNat = true) → isName s.data.toList = true) := hid fun h => by
    rw [List.take_of_length_le (by simp)] at h
    unfold isName
    rw [List.all_eq_true.2 h, Bool.true_and]
    exact decide_eq_true (by simp; omega)
  clear h0
  generalize isName s.data.toList = res at *
  go_enter Try.func59, Try.ntmps59
  go_wp2_with fail
  go_loopw [3] (fun i wr => ∃ k : Nat, k ≤ s.size ∧ i = .int .i64 k ∧ Hid (∀ c ∈ s.data.toList.take k, nameR c.toNat = true) ∧ wr = w) (fun i _ => s.size - (intOf i).toNat)
  case atStart => exact ⟨0, Nat.zero_le _, rfl, hid (by simp), rfl⟩
  case round =>
    obtain ⟨k, hk, rfl, HD, rfl⟩ := hrel
    by_cases hks : k < s.size
    · have hci : ∀ h : k < s.size, ((s[k]'h).toNat : Int) = ((s[k]'hks).toNat : Int) := fun h => rfl
      have HD2 : Hid (nameR (s[k]'hks).toNat = true → ∀ c ∈ s.data.toList.take (k + 1), nameR c.toNat = true) := hid (fun hd => by
        rw [HSN.out k hks]
        intro c hc
        rcases List.mem_append.1 hc with hc | hc
        · exact HD.out c hc
        · rw [List.mem_singleton.1 hc]; exact hd)
      have HRES := hid (HBAD.out k hks)
      generalize (s[k]'hks).toNat = c at *
      rcases name_ways c with ⟨hd, h⟩ | ⟨hd, h⟩
      · have HD3 := hid (HD2.out hd)
        clear HD2 hd HRES
        rcases h with h | h | h | h | h | h
        all_goals
          first | have g97 : decide ((97 : Int) ≤ (c : Int)) = true := decide_eq_true (by omega) | have g97 : decide ((97 : Int) ≤ (c : Int)) = false := decide_eq_false (by omega)
          first | have g122 : decide ((c : Int) ≤ 122) = true := decide_eq_true (by omega) | have g122 : decide ((c : Int) ≤ 122) = false := decide_eq_false (by omega)
          first | have g65 : decide ((65 : Int) ≤ (c : Int)) = true := decide_eq_true (by omega) | have g65 : decide ((65 : Int) ≤ (c : Int)) = false := decide_eq_false (by omega)
          first | have g90 : decide ((c : Int) ≤ 90) = true := decide_eq_true (by omega) | have g90 : decide ((c : Int) ≤ 90) = false := decide_eq_false (by omega)
          first | have g48 : decide ((48 : Int) ≤ (c : Int)) = true := decide_eq_true (by omega) | have g48 : decide ((48 : Int) ≤ (c : Int)) = false := decide_eq_false (by omega)
          first | have g57 : decide ((c : Int) ≤ 57) = true := decide_eq_true (by omega) | have g57 : decide ((c : Int) ≤ 57) = false := decide_eq_false (by omega)
          first | have g45 : ((c : Int) == 45) = true := beq_iff_eq.2 (by omega) | have g45 : ((c : Int) == 45) = false := beq_eq_false_iff_ne.2 (by omega)
          first | have g95 : ((c : Int) == 95) = true := beq_iff_eq.2 (by omega) | have g95 : ((c : Int) == 95) = false := beq_eq_false_iff_ne.2 (by omega)
          first | have g46 : ((c : Int) == 46) = true := beq_iff_eq.2 (by omega) | have g46 : ((c : Int) == 46) = false := beq_eq_false_iff_ne.2 (by omega)
          clear h
          go_wp2_with fail
          go_roundw
          case rel => exact ⟨k + 1, by omega, by go_num, HD3, trivial⟩
          case measure => simp [intOf]; omega
      · have HR2 := hid (HRES.out hd)
        clear HD2 hd HRES
        rcases h with h | h | h | h | h | h
        all_goals
          first | have g97 : decide ((97 : Int) ≤ (c : Int)) = true := decide_eq_true (by omega) | have g97 : decide ((97 : Int) ≤ (c : Int)) = false := decide_eq_false (by omega)
          first | have g122 : decide ((c : Int) ≤ 122) = true := decide_eq_true (by omega) | have g122 : decide ((c : Int) ≤ 122) = false := decide_eq_false (by omega)
          first | have g65 : decide ((65 : Int) ≤ (c : Int)) = true := decide_eq_true (by omega) | have g65 : decide ((65 : Int) ≤ (c : Int)) = false := decide_eq_false (by omega)
          first | have g90 : decide ((c : Int) ≤ 90) = true := decide_eq_true (by omega) | have g90 : decide ((c : Int) ≤ 90) = false := decide_eq_false (by omega)
          first | have g48 : decide ((48 : Int) ≤ (c : Int)) = true := decide_eq_true (by omega) | have g48 : decide ((48 : Int) ≤ (c : Int)) = false := decide_eq_false (by omega)
          first | have g57 : decide ((c : Int) ≤ 57) = true := decide_eq_true (by omega) | have g57 : decide ((c : Int) ≤ 57) = false := decide_eq_false (by omega)
          first | have g45 : ((c : Int) == 45) = true := beq_iff_eq.2 (by omega) | have g45 : ((c : Int) == 45) = false := beq_eq_false_iff_ne.2 (by omega)
          first | have g95 : ((c : Int) == 95) = true := beq_iff_eq.2 (by omega) | have g95 : ((c : Int) == 95) = false := beq_eq_false_iff_ne.2 (by omega)
          first | have g46 : ((c : Int) == 46) = true := beq_iff_eq.2 (by omega) | have g46 : ((c : Int) == 46) = false := beq_eq_false_iff_ne.2 (by omega)
          clear h
          go_wp2_with fail
          go_ret
          exact ⟨ret_bool HR2.out.symm, rfl⟩
    · have hke : k = s.size := by omega
      have HE := hid (HEND.out (by rw [← hke]; exact HD.out))
      clear hke
      go_wp2_with fail
      go_ret
      exact ⟨ret_bool HE.out.symm, rfl⟩
end Go.Proofs.Ytlkefifffkhclaa
