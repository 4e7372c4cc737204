/-
  The reference's ranges and masses.
-/
import Derived.Test.YtncnpodanlhdkaaWConf
import Derived.Test.YtncnpodanlhdkaaWNetW
namespace Go.Proofs.Ytncnpodanlhdkaa
set_option linter.all false
open Go.RowKit

theorem refFar_any (x : Int) (w : World) : Calls Try.prog 76 #[.int .i64 x] w fun e w' => e = .returned (.bool (far x)) ∧ w = w' := by
  by_cases h1 : 999999999 < x
  · have e := hid (far_yes (.inr h1))
    go_enter Try.func76, Try.ntmps76
    go_wp2
    go_ret
    exact ⟨by rw [e.out]; rfl, rfl⟩
  · by_cases h2 : x < -999999999
    · have e := hid (far_yes (.inl h2))
      go_enter Try.func76, Try.ntmps76
      go_wp2
      go_ret
      exact ⟨by rw [e.out]; rfl, rfl⟩
    · have e := hid (far_no (Int.not_lt.1 h2) (Int.not_lt.1 h1))
      go_enter Try.func76, Try.ntmps76
      go_wp2
      go_ret
      exact ⟨by rw [e.out]; rfl, rfl⟩
theorem refRange_any (lo hi : Int) (W : World) : Calls Try.prog 49 #[.agg #[.int .i64 lo, .int .i64 hi]] W (Ret (.int .i64 (rangeErr lo hi)) W) := by
  have HL := hid (refFar_any lo)
  have HH := hid (refFar_any hi)
  rcases (range_ways lo hi).2 with ⟨h1, he⟩ | ⟨h1, h2, he⟩ | ⟨h1, h2, h3, he⟩ | ⟨h1, h2, h3, he⟩
  all_goals
    have HE := hid he
    clear he
    go_enter Try.func49, Try.ntmps49
    go_wp2_with (first | (go_at_call 76; (with_reducible refine (HL.out _).mono ?_); rintro e w' ⟨rfl, rfl⟩) | (go_at_call 76; (with_reducible refine (HH.out _).mono ?_); rintro e w' ⟨rfl, rfl⟩))
    go_ret
    exact ⟨by rw [HE.out]; rfl, below_new W _⟩
theorem refMass_any (lo hi : Int) (W : World) : Calls Try.prog 78 #[.agg #[.int .i64 lo, .int .i64 hi]] W (Ret (.int .i64 (massErr lo hi)) W) := by
  have HC := hid (refRange_any lo hi)
  have hw := mass_ways lo hi
  obtain ⟨r, hr⟩ : ∃ r, r = rangeErr lo hi := ⟨_, rfl⟩
  rw [← hr] at HC hw
  clear hr
  have HB : Hid (Blk (W.alloc (.cells #[.int .i64 lo, .int .i64 hi] 38)) W.heap.size #[.int .i64 lo, .int .i64 hi] 38) := hid (Blk.new W _ _)
  have HZ : Hid (W.heap.size < (W.alloc (.cells #[.int .i64 lo, .int .i64 hi] 38)).heap.size) := hid (by simp)
  have HN : Hid (Below W.heap.size W (W.alloc (.cells #[.int .i64 lo, .int .i64 hi] 38))) := hid (below_new W _)
  rcases hw with ⟨h1, he, h3⟩ | ⟨h1, h2, he⟩ | ⟨h1, h2, he⟩
  · have HE := hid he
    have hz : (r == 0) = false := by simpa using h1
    have hz2 : (r != 0) = true := by simpa using h1
    clear he h3
    go_enter Try.func78, Try.ntmps78
    go_wp2_with (go_at_call 49; (with_reducible refine (HC.out _).mono ?_); rintro e w2 ⟨rfl, hb⟩; have HB2 := hid (HN.out.trans (hb.mono (by simp))); clear hb)
    go_ret
    exact ⟨by rw [HE.out]; rfl, HB2.out⟩
  all_goals
    have HE := hid he
    subst h1
    clear he
    go_enter Try.func78, Try.ntmps78
    go_wp2_with (go_at_call 49; (with_reducible refine (HC.out _).mono ?_); rintro e w2 ⟨rfl, hb⟩; have HB2 := hid (HN.out.trans (hb.mono (by simp))); have c0 := (HB.out.later hb HZ.out).cell (i := 0) rfl; clear hb)
    go_ret
    exact ⟨by rw [HE.out]; rfl, HB2.out⟩

/-- The first number that is not 0. -/
def firstF (l : List Int) : Int := (l.find? (· ≠ 0)).getD 0
theorem first_at : ∀ {l : List Int} {k : Nat} {x : Int}, (∀ (j : Nat) (y : Int), j < k → l[j]? = some y → y = 0) → l[k]? = some x → x ≠ 0 → firstF l = x
  | [], _, _, _, h, _ => by simp at h
  | y :: l, 0, x, _, h, hx => by
    simp at h
    subst h
    unfold firstF
    rw [List.find?_cons_of_pos (by simpa using hx)]
    rfl
  | y :: l, k + 1, x, hz, h, hx => by
    have h0 := hz 0 y (by omega) rfl
    unfold firstF
    rw [List.find?_cons_of_neg (by simpa using h0)]
    exact first_at (k := k) (fun j z hj hz' => hz (j + 1) z (by omega) (by simpa using hz')) (by simpa using h) hx
theorem first_none {l : List Int} (h : ∀ (j : Nat) (y : Int), l[j]? = some y → y = 0) : firstF l = 0 := by
  unfold firstF
  rw [List.find?_eq_none.2]
  · rfl
  · intro x hx
    obtain ⟨j, hj⟩ := List.getElem?_of_mem hx
    simpa using h j x hj
set_option maxRecDepth 100000 in
set_option maxHeartbeats 2000000 in
theorem first_any (l : List Int) (v : Value) (w : World) (hl : SlcIn w v l.length (l.map (Value.int .i64))) : Calls Try.prog 21 #[v] w fun e w' => e = .returned (.int .i64 (firstF l)) ∧ w = w' := by
  obtain ⟨p, c, rfl, hm⟩ := hl.shape
  obtain ⟨n, hn⟩ : ∃ n, n = l.length := ⟨_, rfl⟩
  rw [← hn] at hl hm ⊢
  have hm' : n ≤ 9223372036854775807 := by unfold maxLen at hm; omega
  have HL := hid hl
  have HN := hid hn
  clear hl hn hm
  go_enter Try.func21, Try.ntmps21
  go_wp2_with fail
  go_loop [3] (fun u => ∃ k : Nat, k ≤ n ∧ u = .int .i64 k ∧ Hid (∀ (j : Nat) (x : Int), j < k → l[j]? = some x → x = 0)) (fun u => n - (intOf u).toNat)
  case atStart => exact ⟨0, Nat.zero_le _, rfl, hid (fun j x hj _ => by omega)⟩
  case round =>
    obtain ⟨k, hk, rfl, HZ⟩ := hrel
    by_cases hlt : k < n
    · obtain ⟨x, hx⟩ : ∃ x, l[k]? = some x := ⟨_, List.getElem?_eq_getElem (by rw [← HN.out]; exact hlt)⟩
      have hw := HL.out
      rw [HN.out] at hw
      obtain ⟨g, o, c', hv, r0, _⟩ := int_at hw hx
      injection hv with e1 e2 e3
      subst e1
      by_cases h2 : x = 0
      · have HZ2 : Hid (∀ (j : Nat) (y : Int), j < k + 1 → l[j]? = some y → y = 0) := hid (fun j y hj hy => by
          by_cases e : j = k
          · subst e; rw [hx] at hy; cases hy; exact h2
          · exact HZ.out j y (by omega) hy)
        subst h2
        clear hw e2 e3 hx
        go_wp2_with fail
        go_round
        case rel => exact ⟨k + 1, by omega, by go_num, HZ2⟩
        case measure => simp [intOf]; omega
      · have HE : Hid (firstF l = x) := hid (first_at HZ.out hx h2)
        have hz : (x == 0) = false := by simpa using h2
        have hz2 : (x != 0) = true := by simpa using h2
        clear hw e2 e3 hx
        go_wp2_with fail
        go_ret
        exact ⟨by rw [HE.out]; rfl, rfl⟩
    · have HE : Hid (firstF l = 0) := hid (first_none fun j y hj => HZ.out j y (by have := (List.getElem?_eq_some_iff.1 hj).1; have := HN.out; omega) hj)
      go_wp2_with fail
      go_ret
      exact ⟨by rw [HE.out]; rfl, rfl⟩
theorem when_any (b : Bool) (x : Int) (w : World) : Calls Try.prog 24 #[.bool b, .int .i64 x] w fun e w' => e = .returned (.int .i64 (if b = true then x else 0)) ∧ w = w' := by
  cases b
  all_goals
    go_enter Try.func24, Try.ntmps24
    go_wp2
    go_ret
    exact ⟨rfl, rfl⟩

def alikeF (h : Int × Int) (e bad : Int) (wt : Int × Int) : Bool := if bad ≠ 0 then decide (h = (0, 0)) && decide (e = bad) else decide (e = 0) && decide (h = wt)
set_option maxRecDepth 100000 in
set_option maxHeartbeats 2000000 in
theorem alike_any (a b c d e bad : Int) (W : World) (h : alikeF (a, b) e bad (c, d) = true) : Calls Try.prog 25 #[.agg #[.int .i64 a, .int .i64 b], .int .i64 e, .int .i64 bad, .agg #[.int .i64 c, .int .i64 d]] W (Ret (.bool true) W) := by
  have HB := hid ((below_new W (.cells #[.int .i64 a, .int .i64 b] 38)).alloc (by simp) (.cells #[.int .i64 c, .int .i64 d] 38))
  unfold alikeF at h
  split at h
  · rename_i hne
    rw [Bool.and_eq_true, decide_eq_true_eq, decide_eq_true_eq] at h
    obtain ⟨h1, rfl⟩ := h
    injection h1 with h1 h2
    subst h1
    subst h2
    have hz : (e == 0) = false := by simpa using hne
    have hz2 : (e != 0) = true := by simpa using hne
    clear hne
    go_enter Try.func25, Try.ntmps25
    go_wp2
    go_ret
    exact ⟨rfl, HB.out⟩
  · rename_i hne
    have hb0 : bad = 0 := by simpa using hne
    rw [Bool.and_eq_true, decide_eq_true_eq, decide_eq_true_eq] at h
    obtain ⟨rfl, h1⟩ := h
    injection h1 with h1 h2
    subst h1
    subst h2
    subst hb0
    clear hne
    go_enter Try.func25, Try.ntmps25
    go_wp2
    go_ret
    exact ⟨rfl, HB.out⟩
end Go.Proofs.Ytncnpodanlhdkaa
