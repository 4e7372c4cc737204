/-
  The reference's CheckBook.
-/
import Derived.Test.YtlkefifffkhclaaWRefName
import Derived.Test.YtlkefifffkhclaaWRef
namespace Go.Proofs.Ytlkefifffkhclaa
set_option linter.all false
open Go.RowKit

theorem bytes_eq {a b : ByteArray} (h : a.toList = b.toList) : a = b := by
  rw [Lib.toList_data, Lib.toList_data] at h
  obtain ⟨⟨x⟩⟩ := a
  obtain ⟨⟨y⟩⟩ := b
  simp only at h
  rw [h]

set_option maxRecDepth 100000 in
set_option maxHeartbeats 8000000 in
theorem refTicket_any (S : List (Int × Int)) (T : List Tk) (k : Nat) (t : Tk) (v1 v2 : Value) (W : World) (hb : BookIn W v1 v2 S T) (ht : T[k]? = some t) (hk9 : k ≤ 1000) (hs : t.id.size ≤ 40) :
    Calls Try.prog 47 #[.agg #[v1, v2], .int .i64 k] W (Ret (.int .i64 (tkErr ((T.take k).map (·.id)) S.length t)) W) := by
  obtain ⟨p1, c1, rfl, hm1⟩ := hb.stock.shape
  obtain ⟨p2, c2, rfl, hm2⟩ := hb.tickets.shape
  have hkT := (List.getElem?_eq_some_iff.1 ht).1
  obtain ⟨ns, hns⟩ : ∃ n, n = S.length := ⟨_, rfl⟩
  have hm1' : ns ≤ 9223372036854775807 := by rw [hns]; unfold maxLen at hm1; omega
  have hm2' : T.length ≤ 9223372036854775807 := by unfold maxLen at hm2; omega
  obtain ⟨nt, hnt⟩ : ∃ n, n = T.length := ⟨_, rfl⟩
  rw [← hnt] at hm2' hkT
  obtain ⟨w0, hw0⟩ : ∃ w0, w0 = W.alloc (.cells #[.slice p1 ns c1, .slice p2 nt c2] 50) := ⟨_, rfl⟩
  obtain ⟨w1, hw1⟩ : ∃ w1, w1 = w0.alloc (.cells #[.string t.id, .int .i64 t.src, .int .i64 t.dst, .int .i64 t.low, .int .i64 t.high] 76) := ⟨_, rfl⟩
  have hb0 : Below W.heap.size W w0 := by rw [hw0]; exact below_new W _
  have hb1 : Below w0.heap.size w0 w1 := by rw [hw1]; exact below_new w0 _
  have hbw : Below W.heap.size W w1 := hb0.trans (hb1.mono hb0.size)
  have hB0 : Blk w0 W.heap.size #[.slice p1 ns c1, .slice p2 nt c2] 50 := by rw [hw0]; exact Blk.new W _ _
  have hT1 : Blk w1 w0.heap.size #[.string t.id, .int .i64 t.src, .int .i64 t.dst, .int .i64 t.low, .int .i64 t.high] 76 := by rw [hw1]; exact Blk.new w0 _ _
  have hk0 := hb.tickets.later hb0
  obtain ⟨g, o, c, hv, r0, r1, r2, r3, r4⟩ := hk0.tkAt ht
  injection hv with e1 e2 e3
  subst e1
  have b0 := hB0.cell (i := 0) rfl
  have b1 := hB0.cell (i := 1) rfl
  have HBK := hid (hb.tickets.later hbw)
  have HB := hid hbw
  have HBL := hid (hB0.later hb1 hB0.lt)
  have HTL := hid hT1
  have u0 := hT1.cell (i := 0) rfl
  have HN := hid (refName9 t.id · (by omega))
  have HM := hid (refMass_any t.low t.high)
  have HW0 := hid hw0
  have HW1 := hid hw1
  have HT := hid ht
  have HNT := hid hnt
  obtain ⟨kk, he, hw⟩ := tk_ways ((T.take k).map (·.id)) ns t
  have HCS : Hid (∀ (j : Nat) (x : Tk), j < k → T[j]? = some x → x.id = t.id → Lib.containsS ((T.take k).map (·.id)) t.id = true) := hid (fun j x hj hx hxe => by
    rw [Lib.containsS_iff, ← hxe]
    exact List.mem_map.2 ⟨x, List.mem_of_getElem? (by rw [List.getElem?_take_of_lt hj]; exact hx), rfl⟩)
  have HCN : Hid ((∀ (j : Nat) (x : Tk), j < k → T[j]? = some x → x.id ≠ t.id) → Lib.containsS ((T.take k).map (·.id)) t.id = false) := hid (fun h => by
    rw [← Bool.not_eq_true, Lib.containsS_iff]
    intro hm
    obtain ⟨x, hx, hxe⟩ := List.mem_map.1 hm
    obtain ⟨j, hj⟩ := List.getElem?_of_mem hx
    have hjk : j < k := by
      have := (List.getElem?_eq_some_iff.1 hj).1
      rw [List.length_take] at this
      omega
    rw [List.getElem?_take_of_lt hjk] at hj
    exact h j x hjk hj hxe)
  rw [← hns, ← hnt, he]
  clear he
  have HWY := hid hw
  rcases hn : isName t.id.data.toList
  · have hkk : kk = 8 := by
      rcases hw with ⟨_, h⟩ | ⟨h, _⟩ | ⟨h, _⟩ | ⟨h, _⟩ | ⟨h, _⟩
      · exact h
      all_goals (rw [hn] at h; cases h)
    subst hkk
    rw [hn] at HN
    clear hw hn hnt hns hw0 hw1 hb0 hb1 hbw hB0 hT1 hk0 e2 e3 ht hb hm1 hm2
    go_enter Try.func47, Try.ntmps47
    go_wp2_with (first | (rw [← HW0.out]) | (rw [← HW1.out]) | (go_at_call 59; (with_reducible refine (HN.out _).mono ?_); rintro e w2 ⟨rfl, rfl⟩))
    go_ret
    exact ⟨rfl, HB.out⟩
  · rw [hn] at HN
    have HNM := hid hn
    clear hw hn hnt hns hw0 hw1 hb0 hb1 hbw hB0 hT1 hk0 e2 e3 ht hb hm1 hm2
    go_enter Try.func47, Try.ntmps47
    go_wp2_with (first | (rw [← HW0.out]) | (rw [← HW1.out]) | (go_at_call 59; (with_reducible refine (HN.out _).mono ?_); rintro e w2 ⟨rfl, rfl⟩))
    go_loopw [6] (fun u wr => ∃ j : Nat, j ≤ k ∧ u = .int .i64 j ∧ Hid (∀ (i : Nat) (x : Tk), i < j → T[i]? = some x → x.id ≠ t.id) ∧ Hid (Below w2.heap.size w2 wr)) (fun u _ => k - (intOf u).toNat)
    case atStart => exact ⟨0, Nat.zero_le _, rfl, hid (fun i x hi _ => absurd hi (Nat.not_lt_zero _)), hid (Below.refl _ _)⟩
    case round =>
      clear b0 b1 r0 r1 r2 r3 r4 u0
      obtain ⟨j, hj, rfl, HZ, HBR⟩ := hrel
      have b0 := (HBL.out.later HBR.out HBL.out.lt).cell (i := 0) rfl
      have b1 := (HBL.out.later HBR.out HBL.out.lt).cell (i := 1) rfl
      have u0 := (HTL.out.later HBR.out HTL.out.lt).cell (i := 0) rfl
      have u1 := (HTL.out.later HBR.out HTL.out.lt).cell (i := 1) rfl
      have u2 := (HTL.out.later HBR.out HTL.out.lt).cell (i := 2) rfl
      have u3 := (HTL.out.later HBR.out HTL.out.lt).cell (i := 3) rfl
      have u4 := (HTL.out.later HBR.out HTL.out.lt).cell (i := 4) rfl
      by_cases hjk : j < k
      · obtain ⟨x, hx⟩ : ∃ x, T[j]? = some x := ⟨_, List.getElem?_eq_getElem (by rw [← HNT.out]; omega)⟩
        obtain ⟨g2, o2, c3, hv, s0, _, _, _, _⟩ := (HBK.out.later HBR.out).tkAt hx
        injection hv with f1 f2 f3
        injection f1 with f1
        injection f1 with f1 f4 f5
        subst f1
        subst f4
        have hjt : j < nt := by omega
        have HBD : Hid (∀ q, Below w2.heap.size w2 (wr.drewN q)) := hid (fun q => ⟨HBR.out.os, HBR.out.tape, HBR.out.output, HBR.out.size, HBR.out.block⟩)
        by_cases hxe : x.id = t.id
        · have hcs := HCS.out j x hjk hx hxe
          have hkk : kk = 9 := by
            rcases HWY.out with ⟨h, _⟩ | ⟨_, _, h⟩ | ⟨_, h, _⟩ | ⟨_, h, _⟩ | ⟨_, h, _⟩
            · rw [HNM.out] at h; cases h
            · exact h
            all_goals (rw [h] at hcs; cases hcs)
          subst hkk
          have hq1 : (x.id.toList == t.id.toList) = true := by rw [hxe]; exact beq_self_eq_true _
          clear hcs hx f2 f3 f5 hxe
          go_wp2_with fail
          go_quiet (fail)
          go_wp2_with fail
          go_ret
          exact ⟨rfl, HB.out.trans ((HBD.out _).mono HB.out.size)⟩
        · have HZ2 : Hid (∀ (i : Nat) (x : Tk), i < j + 1 → T[i]? = some x → x.id ≠ t.id) := hid (fun i y hi hy => by
            by_cases e : i = j
            · subst e; rw [hx] at hy; cases hy; exact hxe
            · exact HZ.out i y (by omega) hy)
          have hq1 : (x.id.toList == t.id.toList) = false := beq_eq_false_iff_ne.2 fun h => hxe (bytes_eq h)
          clear hx f2 f3 f5 hxe
          go_wp2_with fail
          go_quiet (fail)
          go_wp2_with fail
          go_roundw
          case rel => exact ⟨j + 1, by omega, by go_num, HZ2, hid (HBD.out _)⟩
          case measure => simp [intOf]; omega
      · have hjk2 : j = k := by omega
        subst hjk2
        have hcn := HCN.out HZ.out
        have HBW := hid (HB.out.trans (HBR.out.mono HB.out.size))
        have hwy := HWY.out
        clear HWY HCS HCN
        rcases hwy with ⟨h, _⟩ | ⟨_, h, _⟩ | ⟨_, _, rfl, h3⟩ | ⟨_, _, h3, h4, h5, h6, h7, rfl⟩ | ⟨_, _, h3, h4, h5, h6, h7, rfl⟩
        · rw [HNM.out] at h; cases h
        · rw [h] at hcn; cases hcn
        · clear hcn
          rcases h3 with h3 | ⟨h3, h4⟩ | ⟨h3, h4, h5⟩ | ⟨h3, h4, h5, h6⟩
          all_goals
            go_wp2_with fail
            go_ret
            exact ⟨rfl, HBW.out⟩
        · have hz : (t.src == t.dst) = true := by simpa using h7
          have hz1 : decide ((ns : Int) ≤ t.src) = false := by simp; omega
          have hz2 : decide ((ns : Int) ≤ t.dst) = false := by simp; omega
          clear hcn h7
          go_wp2_with fail
          go_ret
          exact ⟨rfl, HBW.out⟩
        · have hz : (t.src == t.dst) = false := by simpa using h7
          have hz1 : decide ((ns : Int) ≤ t.src) = false := by simp; omega
          have hz2 : decide ((ns : Int) ≤ t.dst) = false := by simp; omega
          clear hcn h7
          go_wp2_with fail
          refine (HM.out _).mono ?_
          rintro e w5 ⟨rfl, hb⟩
          have HBF := hid (HBW.out.trans (hb.mono HBW.out.size))
          clear hb
          go_wp2_with fail
          go_ret
          exact ⟨rfl, HBF.out⟩
end Go.Proofs.Ytlkefifffkhclaa
