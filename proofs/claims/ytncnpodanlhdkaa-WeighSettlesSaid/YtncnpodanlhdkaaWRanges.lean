/-
  ranges: whether two lists of ranges, or errors, are the same.
-/
import Derived.Test.YtncnpodanlhdkaaWCkBook
import Derived.Test.YtncnpodanlhdkaaWTight
namespace Go.Proofs.Ytncnpodanlhdkaa
set_option linter.all false
open Go.RowKit

set_option maxRecDepth 100000 in
set_option maxHeartbeats 4000000 in
theorem ranges_bad (p : Option Addr) (c : Nat) (bad : Int) (v : Value) (w : World) (h : bad ≠ 0) : Calls Try.prog 17 #[.slice p 0 c, .int .i64 bad, .int .i64 bad, v] w (Ret (.bool true) w) := by
  have hz : (bad == 0) = false := by simpa using h
  have hz2 : (bad != 0) = true := by simpa using h
  go_enter Try.func17, Try.ntmps17
  go_wp2_with fail
  go_ret
  exact ⟨rfl, Below.refl _ _⟩
set_option maxRecDepth 100000 in
set_option maxHeartbeats 4000000 in
theorem ranges_ok (L : List (Int × Int)) (v1 v2 : Value) (W : World) (h1 : SlcIn W v1 L.length (L.flatMap rgC)) (h2 : SlcIn W v2 L.length (L.flatMap rgC)) : Calls Try.prog 17 #[v1, .int .i64 0, .int .i64 0, v2] W (Ret (.bool true) W) := by
  obtain ⟨p1, c1, rfl, hm1⟩ := h1.shape
  obtain ⟨p2, c2, rfl, hm2⟩ := h2.shape
  obtain ⟨n, hn⟩ : ∃ n, n = L.length := ⟨_, rfl⟩
  rw [← hn] at h1 h2 hm1 ⊢
  have hm' : n ≤ 9223372036854775807 := by unfold maxLen at hm1; omega
  have hz : ((n : Int) != (n : Int)) = false := by simp
  have H1 := hid h1
  have H2 := hid h2
  have HN := hid hn
  clear h1 h2 hm1 hm2 hn
  go_enter Try.func17, Try.ntmps17
  go_wp2_with fail
  go_loopw [9] (fun u wr => ∃ k : Nat, k ≤ n ∧ u = .int .i64 k ∧ Hid (Below W.heap.size W wr)) (fun u _ => n - (intOf u).toNat)
  case atStart => exact ⟨0, Nat.zero_le _, rfl, hid (Below.refl _ _)⟩
  case round =>
    obtain ⟨k, hk, rfl, HB⟩ := hrel
    by_cases hlt : k < n
    · obtain ⟨r, hr⟩ : ∃ r, L[k]? = some r := ⟨_, List.getElem?_eq_getElem (by rw [← HN.out]; exact hlt)⟩
      have hw1 := H1.out.later HB.out
      rw [HN.out] at hw1
      obtain ⟨g, o, c', hv, r0, r1⟩ := hw1.rgAt hr
      injection hv with e1 e2 e3
      subst e1
      have hw2 := H2.out.later HB.out
      rw [HN.out] at hw2
      obtain ⟨g2, o2, c3, hv2, s0, s1⟩ := hw2.rgAt hr
      injection hv2 with f1 f2 f3
      subst f1
      have HBD : Hid (∀ q, Below W.heap.size W (wr.drewN q)) := hid (fun q => ⟨HB.out.os, HB.out.tape, HB.out.output, HB.out.size, HB.out.block⟩)
      clear hw1 hw2 e2 e3 f2 f3 hr
      go_wp2_with fail
      go_quiet (fail)
      go_wp2_with fail
      go_roundw
      case rel => exact ⟨k + 1, by omega, by go_num, hid (HBD.out _)⟩
      case measure => simp [intOf]; omega
    · go_wp2_with fail
      go_ret
      exact ⟨rfl, HB.out⟩
end Go.Proofs.Ytncnpodanlhdkaa
