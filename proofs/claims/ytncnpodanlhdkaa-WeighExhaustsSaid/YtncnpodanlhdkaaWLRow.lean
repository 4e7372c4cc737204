/-
  What came in: ranges, and slices of ranges and of integers.
-/
import Derived.Test.YtncnpodanlhdkaaWCkBook
import Derived.Test.YtncnpodanlhdkaaRows
import Derived.WalkKit
import Derived.ProofKit
import Derived.OpenShut
import Derived.Carry
import Derived.ChangeSlices
import Derived.Deep.SlicePairs
import Derived.Lib.SmallJoins
import Derived.ChangeMaps5
namespace Go.Proofs.Ytncnpodanlhdkaa
set_option linter.all false
open Go.RowKit

theorem lawOwn : ownKnob Try.prog.godebug = none := by kernel_rfl
theorem lawLaid : laidOutB Try.prog = true := by kernel_rfl
theorem add_two9 (b o n : Nat) : (⟨b, o, none⟩ : Addr).add n = ⟨b, o + n, none⟩ := by
  unfold Addr.add
  split
  · rename_i h
    rw [h]
    rfl
  · rfl
def intOf9 : Value → Int
  | .int _ n => n
  | _ => 0
/-- A slice of ranges that came in. -/
theorem slc_rgs {W : World} {a : Addr} {len cap : Nat} {V0 V1 : Nat → Value} (hl : len ≤ cap) (hm : cap ≤ maxLen)
    (h : ∀ i, i < len → W.cell? (a.add (i * 2)) = some (V0 i) ∧ W.cell? (a.add (i * 2 + 1)) = some (V1 i) ∧ (∃ s, V0 i = .int .i64 s) ∧ ∃ s, V1 i = .int .i64 s) : ∃ l : List (Int × Int), l.length = len ∧ SlcIn W (.slice (some a) len cap) len (l.flatMap rgC) := by
  refine ⟨(List.range len).map fun i => (intOf9 (V0 i), intOf9 (V1 i)), by rw [List.length_map, List.length_range], some a, cap, rfl, hl, hm, ?_⟩
  by_cases hn : len = 0
  · exact .inl hn
  · obtain ⟨b, o, sp⟩ := a
    obtain rfl : sp = none := by simpa [Addr.add] using World.cell?_spot (h 0 (by omega)).1
    refine .inr ⟨b, o, rfl, fun j u hu => ?_⟩
    have key : ∀ (L : List Nat) (k : Nat), (∀ (i x : Nat), L[i]? = some x → x = k + i ∧ x < len) → ∀ (j : Nat) (u : Value), ((L.map fun i => (intOf9 (V0 i), intOf9 (V1 i))).flatMap rgC)[j]? = some u → W.cell? ⟨b, o + k * 2 + j, none⟩ = some u := by
      intro L
      induction L with
      | nil => intro k _ j u hu; simp at hu
      | cons x L ih =>
        intro k hL j u hu
        obtain ⟨e, hx⟩ := hL 0 x rfl
        rw [Nat.add_zero] at e
        subst e
        obtain ⟨c0, c1, ⟨s0, e0⟩, s1, e1⟩ := h x hx
        rw [add_two9] at c0 c1
        rw [List.map_cons, List.flatMap_cons, e0, e1] at hu
        match j, hu with
        | 0, hu =>
          have : Value.int .i64 s0 = u := by simpa [rgC, intOf9] using hu
          rw [← this, ← e0]; exact c0
        | 1, hu =>
          have : Value.int .i64 s1 = u := by simpa [rgC, intOf9] using hu
          rw [← this, ← e1]; exact c1
        | j + 2, hu =>
          have h2 := ih (x + 1) (fun i y hy => by
            obtain ⟨e, hy2⟩ := hL (i + 1) y (by simpa using hy)
            exact ⟨by omega, hy2⟩) j u (by simpa [rgC] using hu)
          rw [show o + x * 2 + (j + 2) = o + (x + 1) * 2 + j by omega]
          exact h2
    have := key (List.range len) 0 (fun i x hx => by
      have hi := (List.getElem?_eq_some_iff.1 hx).1
      rw [List.length_range] at hi
      rw [List.getElem?_range hi] at hx
      cases hx
      exact ⟨by omega, hi⟩) j u hu
    rwa [Nat.zero_mul, Nat.add_zero] at this
end Go.Proofs.Ytncnpodanlhdkaa
