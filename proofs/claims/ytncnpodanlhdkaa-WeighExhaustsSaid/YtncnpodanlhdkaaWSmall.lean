/-
  Ranges and masses: their errors, sums and bounds.
-/
import Derived.Test.YtncnpodanlhdkaaWAddM
import Derived.WalkLawsBesides
namespace Go.Proofs.Ytncnpodanlhdkaa
set_option linter.all false
open Go.RowKit

def far (x : Int) : Bool := decide (x < -999999999) || decide (999999999 < x)
def rangeErr (lo hi : Int) : Int := if far lo || far hi then 3 else if hi < lo then 11 else 0
def massErr (lo hi : Int) : Int := if rangeErr lo hi ≠ 0 then rangeErr lo hi else if lo < 0 then 3 else 0
theorem far_yes {x : Int} (h : x < -999999999 ∨ 999999999 < x) : far x = true := by unfold far; rcases h with h | h <;> simp [h]
theorem far_no {x : Int} (h : -999999999 ≤ x) (h' : x ≤ 999999999) : far x = false := by unfold far; simp; omega
theorem far_iff (x : Int) : far x = false ↔ -999999999 ≤ x ∧ x ≤ 999999999 := by unfold far; simp

theorem bcell {W w1 : World} (hb : Below W.heap.size W w1) : (∀ b o, b < W.heap.size → w1.cell? ⟨b, o, none⟩ = W.cell? ⟨b, o, none⟩) ∧ (∀ b o, b < W.heap.size → w1.frozen? ⟨b, o, none⟩ = W.frozen? ⟨b, o, none⟩) :=
  ⟨fun b o h => hb.cell (p := ⟨b, o, none⟩) h, fun b o h => hb.frozen (p := ⟨b, o, none⟩) h⟩

theorem large_any (x : Int) (w : World) : Calls Try.prog 82 #[.int .i64 x] w fun e w' => e = .returned (.bool (far x)) ∧ w = w' := by
  by_cases h1 : x < -999999999
  · have e := hid (far_yes (.inl h1))
    go_enter Try.func82, Try.ntmps82
    go_wp2
    go_ret
    exact ⟨by rw [e.out]; rfl, rfl⟩
  · by_cases h2 : 999999999 < x
    · have e := hid (far_yes (.inr h2))
      go_enter Try.func82, Try.ntmps82
      go_wp2
      go_ret
      exact ⟨by rw [e.out]; rfl, rfl⟩
    · have e := hid (far_no (Int.not_lt.1 h1) (Int.not_lt.1 h2))
      go_enter Try.func82, Try.ntmps82
      go_wp2
      go_ret
      exact ⟨by rw [e.out]; rfl, rfl⟩

def Ret (v : Value) (W : World) (e : Ending) (W' : World) : Prop := e = .returned v ∧ Below W.heap.size W W'
theorem below_new (W : World) (o : Obj) : Below W.heap.size W (W.alloc o) := (Below.refl _ _).alloc (Nat.le_refl _) _

theorem range_ways (lo hi : Int) : (∃ k, rangeErr lo hi = k) ∧ ((far lo = true ∧ rangeErr lo hi = 3) ∨ (far lo = false ∧ far hi = true ∧ rangeErr lo hi = 3) ∨ (far lo = false ∧ far hi = false ∧ hi < lo ∧ rangeErr lo hi = 11) ∨ (far lo = false ∧ far hi = false ∧ ¬ hi < lo ∧ rangeErr lo hi = 0)) := by
  refine ⟨⟨_, rfl⟩, ?_⟩
  unfold rangeErr
  cases far lo <;> cases far hi <;> by_cases h : hi < lo <;> simp [h]

theorem checkRange_any (lo hi : Int) (W : World) : Calls Try.prog 72 #[.agg #[.int .i64 lo, .int .i64 hi]] W (Ret (.int .i64 (rangeErr lo hi)) W) := by
  have HL := hid (large_any lo)
  have HH := hid (large_any hi)
  rcases (range_ways lo hi).2 with ⟨h1, he⟩ | ⟨h1, h2, he⟩ | ⟨h1, h2, h3, he⟩ | ⟨h1, h2, h3, he⟩
  all_goals
    have HE := hid he
    clear he
    go_enter Try.func72, Try.ntmps72
    go_wp2_with (first | (go_at_call 82; (with_reducible refine (HL.out _).mono ?_); rintro e w' ⟨rfl, rfl⟩) | (go_at_call 82; (with_reducible refine (HH.out _).mono ?_); rintro e w' ⟨rfl, rfl⟩))
    go_ret
    exact ⟨by rw [HE.out]; rfl, below_new W _⟩

theorem mass_ways (lo hi : Int) : (rangeErr lo hi ≠ 0 ∧ massErr lo hi = rangeErr lo hi ∧ (rangeErr lo hi = 3 ∨ rangeErr lo hi = 11)) ∨ (rangeErr lo hi = 0 ∧ lo < 0 ∧ massErr lo hi = 3) ∨ (rangeErr lo hi = 0 ∧ ¬ lo < 0 ∧ massErr lo hi = 0) := by
  unfold massErr
  rcases (range_ways lo hi).2 with ⟨h1, he⟩ | ⟨h1, h2, he⟩ | ⟨h1, h2, h3, he⟩ | ⟨h1, h2, h3, he⟩ <;> rw [he] <;> by_cases h : lo < 0 <;> simp [h]

theorem checkMass_any (lo hi : Int) (W : World) : Calls Try.prog 70 #[.agg #[.int .i64 lo, .int .i64 hi]] W (Ret (.int .i64 (massErr lo hi)) W) := by
  have HC := hid (checkRange_any lo hi)
  have hw := mass_ways lo hi
  obtain ⟨r, hr⟩ : ∃ r, r = rangeErr lo hi := ⟨_, rfl⟩
  rw [← hr] at HC hw
  clear hr
  have HB : Hid (Blk (W.alloc (.cells #[.int .i64 lo, .int .i64 hi] 38)) W.heap.size #[.int .i64 lo, .int .i64 hi] 38) := hid (Blk.new W _ _)
  have HZ : Hid (W.heap.size < (W.alloc (.cells #[.int .i64 lo, .int .i64 hi] 38)).heap.size) := hid (by simp)
  have HN : Hid (Below W.heap.size W (W.alloc (.cells #[.int .i64 lo, .int .i64 hi] 38))) := hid (below_new W _)
  rcases hw with ⟨h1, he, h3⟩ | ⟨h1, h2, he⟩ | ⟨h1, h2, he⟩
  · have HE := hid he
    have hz : (r == 0) = false := by simpa using h1
    have hz2 : (r != 0) = true := by simpa using h1
    clear he h3
    go_enter Try.func70, Try.ntmps70
    go_wp2_with (go_at_call 72; (with_reducible refine (HC.out _).mono ?_); rintro e w2 ⟨rfl, hb⟩; have HB2 := hid (HN.out.trans (hb.mono (by simp))); clear hb)
    go_ret
    exact ⟨by rw [HE.out]; rfl, HB2.out⟩
  all_goals
    have HE := hid he
    subst h1
    clear he
    go_enter Try.func70, Try.ntmps70
    go_wp2_with (go_at_call 72; (with_reducible refine (HC.out _).mono ?_); rintro e w2 ⟨rfl, hb⟩; have HB2 := hid (HN.out.trans (hb.mono (by simp))); have c0 := (HB.out.later hb HZ.out).cell (i := 0) rfl; clear hb)
    go_ret
    exact ⟨by rw [HE.out]; rfl, HB2.out⟩

theorem plus_any (a b c d : Int) (W : World) (ha : -1125899906842624 ≤ a ∧ a ≤ 1125899906842624) (hb : -1125899906842624 ≤ b ∧ b ≤ 1125899906842624) (hc : -1125899906842624 ≤ c ∧ c ≤ 1125899906842624) (hd : -1125899906842624 ≤ d ∧ d ≤ 1125899906842624) :
    Calls Try.prog 85 #[.agg #[.int .i64 a, .int .i64 b], .agg #[.int .i64 c, .int .i64 d]] W (Ret (.agg #[.int .i64 (a + c), .int .i64 (b + d)]) W) := by
  obtain ⟨a1, a2⟩ := ha
  obtain ⟨b1, b2⟩ := hb
  obtain ⟨c1, c2⟩ := hc
  obtain ⟨d1, d2⟩ := hd
  go_enter Try.func85, Try.ntmps85
  go_wp2
  exact bodyPost_ret (v := .agg #[.int .i64 (a + c), .int .i64 (b + d)]) (by simp [results, Try.results85, go_sem]) rfl ⟨rfl, ((below_new W _).alloc (by simp) _).alloc (by simp; omega) _⟩

def nodeI (p : Int) : Int := if p = -1 then 32 else p
theorem nodeOf_any (p : Int) (w : World) : Calls Try.prog 68 #[.int .i64 p] w fun e w' => e = .returned (.int .i64 (nodeI p)) ∧ w = w' := by
  have H1 : Hid ((p == -1) = true → nodeI p = 32) := hid (fun h => by unfold nodeI; rw [if_pos (by simpa using h)])
  have H2 : Hid ((p == -1) = false → nodeI p = p) := hid (fun h => by unfold nodeI; rw [if_neg (by simpa using h)])
  go_enter Try.func68, Try.ntmps68
  go_wp2
  · go_ret
    exact ⟨by rw [H1.out (by assumption)]; rfl, rfl⟩
  · go_ret
    exact ⟨by rw [H2.out (by assumption)]; rfl, rfl⟩

theorem contains_any (lo hi m : Int) (W : World) : Calls Try.prog 67 #[.agg #[.int .i64 lo, .int .i64 hi], .int .i64 m] W (Ret (.bool (decide (lo ≤ m) && decide (m ≤ hi))) W) := by
  have HN := hid (below_new W (.cells #[.int .i64 lo, .int .i64 hi] 38))
  by_cases h1 : lo ≤ m
  · by_cases h2 : m ≤ hi
    · have HE : Hid ((decide (lo ≤ m) && decide (m ≤ hi)) = true) := hid (by simp [h1, h2])
      go_enter Try.func67, Try.ntmps67
      go_wp2
      go_ret
      exact ⟨by first | rfl | (rw [HE.out]; rfl), HN.out⟩
    · have HE : Hid ((decide (lo ≤ m) && decide (m ≤ hi)) = false) := hid (by simp [h1, h2])
      have h3 : hi < m := by omega
      have h4 : decide (m ≤ hi) = false := by simpa using h2
      go_enter Try.func67, Try.ntmps67
      go_wp2
      go_ret
      exact ⟨by first | rfl | (rw [HE.out]; rfl), HN.out⟩
  · have HE : Hid ((decide (lo ≤ m) && decide (m ≤ hi)) = false) := hid (by simp [h1])
    have h3 : m < lo := by omega
    have h4 : decide (lo ≤ m) = false := by simpa using h1
    go_enter Try.func67, Try.ntmps67
    go_wp2
    go_ret
    exact ⟨by first | rfl | (rw [HE.out]; rfl), HN.out⟩

theorem bounded_no (lo hi : Int) (W : World) (h : far lo = true ∨ far hi = true) : Calls Try.prog 55 #[.agg #[.int .i64 lo, .int .i64 hi]] W (Ret (.tuple #[.agg #[.int .i64 0, .int .i64 0], .int .i64 4]) W) := by
  have HL := hid (large_any lo)
  have HH := hid (large_any hi)
  have HN := hid ((below_new W (.cells #[.int .i64 lo, .int .i64 hi] 38)).alloc (by simp) (.cells #[.int .i64 0, .int .i64 0] 38))
  have hw : far lo = true ∨ (far lo = false ∧ far hi = true) := by cases h0 : far lo <;> simp_all
  rcases hw with h1 | ⟨h1, h2⟩
  all_goals
    go_enter Try.func55, Try.ntmps55
    go_wp2_with (first | (go_at_call 82; (with_reducible refine (HL.out _).mono ?_); rintro e w' ⟨rfl, rfl⟩) | (go_at_call 82; (with_reducible refine (HH.out _).mono ?_); rintro e w' ⟨rfl, rfl⟩))
    refine bodyPost_ret (v := .tuple #[.agg #[.int .i64 0, .int .i64 0], .int .i64 4]) (by simp [results, Try.results55, go_sem]) rfl ⟨rfl, HN.out⟩
theorem bounded_yes (lo hi : Int) (W : World) (h1 : far lo = false) (h2 : far hi = false) : Calls Try.prog 55 #[.agg #[.int .i64 lo, .int .i64 hi]] W (Ret (.tuple #[.agg #[.int .i64 lo, .int .i64 hi], .int .i64 0]) W) := by
  have HL := hid (large_any lo)
  have HH := hid (large_any hi)
  have HN := hid ((below_new W (.cells #[.int .i64 lo, .int .i64 hi] 38)).alloc (by simp) (.cells #[.int .i64 lo, .int .i64 hi] 38))
  go_enter Try.func55, Try.ntmps55
  go_wp2_with (first | (go_at_call 82; (with_reducible refine (HL.out _).mono ?_); rintro e w' ⟨rfl, rfl⟩) | (go_at_call 82; (with_reducible refine (HH.out _).mono ?_); rintro e w' ⟨rfl, rfl⟩))
  refine bodyPost_ret (v := .tuple #[.agg #[.int .i64 lo, .int .i64 hi], .int .i64 0]) (by simp [results, Try.results55, go_sem]) rfl ⟨rfl, HN.out⟩
end Go.Proofs.Ytncnpodanlhdkaa
