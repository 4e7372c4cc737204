/-
  WeighBooks: heavy, and what Holds answers where there is an error.
-/
import Derived.Test.YtlkefifffkhclaaWRefHold
import Derived.Test.YtlkefifffkhclaaWAwk
namespace Go.Proofs.Ytlkefifffkhclaa
set_option linter.all false
open Go.RowKit

set_option maxRecDepth 100000 in
set_option maxHeartbeats 4000000 in
theorem holds_err1 (S : List (Int × Int)) (T : List Tk) (v1 v2 v3 : Value) (W : World) (hb : BookIn W v1 v2 S T) (hx : bookErr S T ≠ 0) :
    Calls Try.prog 28 #[.agg #[v1, v2], v3] W (Ret (.tuple #[.bool false, .int .i64 (bookErr S T)]) W) := by
  obtain ⟨p1, c1, rfl, _⟩ := hb.stock.shape
  obtain ⟨p2, c2, rfl, _⟩ := hb.tickets.shape
  obtain ⟨w0, hw0⟩ : ∃ w0, w0 = W.alloc (.cells #[.slice p1 S.length c1, .slice p2 T.length c2] 50) := ⟨_, rfl⟩
  have hb0 : Below W.heap.size W w0 := by rw [hw0]; exact below_new W _
  have hB0 : Blk w0 W.heap.size #[.slice p1 S.length c1, .slice p2 T.length c2] 50 := by rw [hw0]; exact Blk.new W _ _
  have HCB := hid (book_any S T _ _ w0 (hb.later hb0))
  obtain ⟨x, hxe⟩ : ∃ x, x = bookErr S T := ⟨_, rfl⟩
  rw [← hxe] at HCB hx ⊢
  have b0 := hB0.cell (i := 0) rfl
  have b1 := hB0.cell (i := 1) rfl
  have hz : (x == 0) = false := by simpa using hx
  have hz2 : (x != 0) = true := by simpa using hx
  obtain ⟨ns, hns⟩ : ∃ n, n = S.length := ⟨_, rfl⟩
  obtain ⟨nt, hnt⟩ : ∃ n, n = T.length := ⟨_, rfl⟩
  rw [← hns, ← hnt] at HCB b0 b1 hw0 ⊢
  have HB := hid hb0
  have HW0 := hid hw0
  clear hb hx hxe hw0 hb0 hB0 hns hnt
  go_enter Try.func28, Try.ntmps28
  go_wp2_with (first | (rw [← HW0.out]) | (go_at_call 27; (with_reducible refine HCB.out.mono ?_); rintro e w3 ⟨rfl, hb⟩; have HB3 := hid (HB.out.trans (hb.mono HB.out.size)); clear hb))
  go_ret2
  exact ⟨rfl, HB3.out⟩
set_option maxRecDepth 100000 in
set_option maxHeartbeats 4000000 in
theorem holds_err2 (S : List (Int × Int)) (T : List Tk) (p3 : Option Addr) (nm c3 : Nat) (v1 v2 : Value) (W : World) (hb : BookIn W v1 v2 S T) (hx : bookErr S T = 0) (hn : nm ≠ T.length) :
    Calls Try.prog 28 #[.agg #[v1, v2], .slice p3 nm c3] W (Ret (.tuple #[.bool false, .int .i64 2]) W) := by
  obtain ⟨p1, c1, rfl, _⟩ := hb.stock.shape
  obtain ⟨p2, c2, rfl, _⟩ := hb.tickets.shape
  obtain ⟨w0, hw0⟩ : ∃ w0, w0 = W.alloc (.cells #[.slice p1 S.length c1, .slice p2 T.length c2] 50) := ⟨_, rfl⟩
  have hb0 : Below W.heap.size W w0 := by rw [hw0]; exact below_new W _
  have hB0 : Blk w0 W.heap.size #[.slice p1 S.length c1, .slice p2 T.length c2] 50 := by rw [hw0]; exact Blk.new W _ _
  have HCB := hid (book_any S T _ _ w0 (hb.later hb0))
  rw [hx] at HCB
  have b0 := hB0.cell (i := 0) rfl
  have b1 := hB0.cell (i := 1) rfl
  obtain ⟨ns, hns⟩ : ∃ n, n = S.length := ⟨_, rfl⟩
  obtain ⟨nt, hnt⟩ : ∃ n, n = T.length := ⟨_, rfl⟩
  rw [← hnt] at hn
  have hz : ((nm : Int) != (nt : Int)) = true := by simp; omega
  have hz2 : ((nm : Int) == (nt : Int)) = false := by simp; omega
  rw [← hns, ← hnt] at HCB b0 b1 hw0 ⊢
  have HB := hid hb0
  have HBL := hid hB0
  have HW0 := hid hw0
  rw [← hns, ← hnt] at HBL
  clear hb hx hw0 hb0 hB0 hns hnt
  go_enter Try.func28, Try.ntmps28
  go_wp2_with (first | (rw [← HW0.out]) | (go_at_call 27; (with_reducible refine HCB.out.mono ?_); rintro e w3 ⟨rfl, hb⟩; have HB3 := hid (HB.out.trans (hb.mono HB.out.size)); have d1 := (HBL.out.later hb HBL.out.lt).cell (i := 1) rfl; clear hb))
  go_ret2
  exact ⟨rfl, HB3.out⟩

def HeavyPost (W : World) (T : List Tk) (e : Ending) (w' : World) : Prop := ∃ h, e = .returned (.bool h) ∧ Below W.heap.size W w' ∧ (h = false → ∀ t ∈ T, t.id.size ≤ 40)

set_option maxRecDepth 100000 in
set_option maxHeartbeats 8000000 in
theorem heavy_any (S : List (Int × Int)) (T : List Tk) (v1 v2 : Value) (W : World) (hb : BookIn W v1 v2 S T) :
    Calls Try.prog 25 #[.agg #[v1, v2]] W (HeavyPost W T) := by
  obtain ⟨p1, c1, rfl, hm1⟩ := hb.stock.shape
  obtain ⟨p2, c2, rfl, hm2⟩ := hb.tickets.shape
  obtain ⟨ns, hns⟩ : ∃ n, n = S.length := ⟨_, rfl⟩
  obtain ⟨nt, hnt⟩ : ∃ n, n = T.length := ⟨_, rfl⟩
  have hm1' : ns ≤ 9223372036854775807 := by rw [hns]; unfold maxLen at hm1; omega
  have hm2' : nt ≤ 9223372036854775807 := by rw [hnt]; unfold maxLen at hm2; omega
  obtain ⟨w0, hw0⟩ : ∃ w0, w0 = W.alloc (.cells #[.slice p1 ns c1, .slice p2 nt c2] 50) := ⟨_, rfl⟩
  have hb0 : Below W.heap.size W w0 := by rw [hw0]; exact below_new W _
  have hB0 : Blk w0 W.heap.size #[.slice p1 ns c1, .slice p2 nt c2] 50 := by rw [hw0]; exact Blk.new W _ _
  have b0 := hB0.cell (i := 0) rfl
  have b1 := hB0.cell (i := 1) rfl
  have HTK := hid (hb.tickets.later hb0)
  have HB := hid hb0
  have HW0 := hid hw0
  have HNT := hid hnt
  rw [← hns, ← hnt]
  clear hb hw0 hb0 hB0 hns hnt hm1 hm2
  have h1 : ns ≤ 8 ∨ (8 < ns ∧ ns ≤ 32) ∨ (32 < ns ∧ ns ≤ 40) ∨ 40 < ns := by omega
  have h2 : nt ≤ 12 ∨ (12 < nt ∧ nt ≤ 128) ∨ (128 < nt ∧ nt ≤ 132) ∨ 132 < nt := by omega
  have hyes : ∀ w', Below W.heap.size W w' → HeavyPost W T (.returned (.bool true)) w' := fun w' hb => ⟨true, rfl, hb, fun h => by cases h⟩
  have HY := hid hyes
  clear hyes
  rcases h1 with h1 | ⟨h1, h1'⟩ | ⟨h1, h1'⟩ | h1
  rotate_left 1
  · clear h2
    go_enter Try.func25, Try.ntmps25
    go_wp2_with (rw [← HW0.out])
    go_ret
    exact HY.out _ HB.out
  rotate_left 1
  · clear h2
    go_enter Try.func25, Try.ntmps25
    go_wp2_with (rw [← HW0.out])
    go_ret
    exact HY.out _ HB.out
  all_goals
    rcases h2 with h2 | ⟨h2, h2'⟩ | ⟨h2, h2'⟩ | h2
    rotate_left 1
    · go_enter Try.func25, Try.ntmps25
      go_wp2_with (rw [← HW0.out])
      go_ret
      exact HY.out _ HB.out
    rotate_left 1
    · go_enter Try.func25, Try.ntmps25
      go_wp2_with (rw [← HW0.out])
      go_ret
      exact HY.out _ HB.out
    all_goals
      go_enter Try.func25, Try.ntmps25
      go_wp2_with (rw [← HW0.out])
      go_loop [3] (fun u => ∃ k : Nat, k ≤ nt ∧ u = .int .i64 k ∧ Hid (∀ (j : Nat) (t : Tk), j < k → T[j]? = some t → t.id.size ≤ 40)) (fun u => nt - (intOf u).toNat)
      case atStart => exact ⟨0, Nat.zero_le _, rfl, hid (fun j t hj _ => absurd hj (Nat.not_lt_zero _))⟩
      case round =>
        obtain ⟨k, hk, rfl, HZ⟩ := hrel
        by_cases hlt : k < nt
        · obtain ⟨t, ht⟩ : ∃ t, T[k]? = some t := ⟨_, List.getElem?_eq_getElem (by rw [← HNT.out]; exact hlt)⟩
          obtain ⟨g, o, c', hv, t0, _, _, _, _⟩ := HTK.out.tkAt ht
          injection hv with e1 e2 e3
          subst e1
          by_cases h5 : 40 < t.id.size
          · clear ht e2 e3
            go_wp2_with fail
            go_ret
            exact HY.out _ HB.out
          · have HZ2 : Hid (∀ (j : Nat) (t : Tk), j < k + 1 → T[j]? = some t → t.id.size ≤ 40) := hid (fun j y hj hy => by
              by_cases e : j = k
              · subst e; rw [ht] at hy; cases hy; omega
              · exact HZ.out j y (by omega) hy)
            clear ht e2 e3
            go_wp2_with fail
            go_round
            case rel => exact ⟨k + 1, by omega, by go_num, HZ2⟩
            case measure => simp [intOf]; omega
        · go_wp2_with fail
          go_ret
          refine ⟨false, rfl, HB.out, fun _ t ht => ?_⟩
          obtain ⟨j, hj⟩ := List.getElem?_of_mem ht
          exact HZ.out j t (by have := (List.getElem?_eq_some_iff.1 hj).1; have := HNT.out; omega) hj
end Go.Proofs.Ytlkefifffkhclaa
