/-
  The reference's CheckBook, whole.
-/
import Derived.Test.YtncnpodanlhdkaaWName
import Derived.Test.YtncnpodanlhdkaaWRef
namespace Go.Proofs.Ytncnpodanlhdkaa
set_option linter.all false
open Go.RowKit

theorem isName_len (s : ByteArray) (h : ¬ (1 ≤ s.size ∧ s.size ≤ 24)) : isName s.data.toList = false := by
  unfold isName
  rw [show decide (1 ≤ s.data.toList.length ∧ s.data.toList.length ≤ 24) = false from decide_eq_false (by simpa using h), Bool.and_false]

theorem name_ways (c : Nat) : (nameR c = true ∧ ((97 ≤ c ∧ c ≤ 122) ∨ (c < 97 ∧ 65 ≤ c ∧ c ≤ 90) ∨ (c < 65 ∧ 48 ≤ c ∧ c ≤ 57) ∨ c = 45 ∨ c = 46 ∨ c = 95)) ∨ (nameR c = false ∧ (122 < c ∨ (95 < c ∧ c < 97) ∨ (90 < c ∧ c < 95) ∨ (57 < c ∧ c < 65) ∨ (46 < c ∧ c < 48) ∨ c < 45)) := by
  by_cases h : (97 ≤ c ∧ c ≤ 122) ∨ (65 ≤ c ∧ c ≤ 90) ∨ (48 ≤ c ∧ c ≤ 57) ∨ c = 45 ∨ c = 95 ∨ c = 46
  · exact .inl ⟨nameR_true (by omega), by omega⟩
  · exact .inr ⟨nameR_false (by omega), by omega⟩

set_option maxRecDepth 100000 in
set_option maxHeartbeats 2000000 in
theorem refName9 (s : ByteArray) (w : World) :
    Calls Try.prog 77 #[.string s] w fun e w' => e = .returned (.bool (isName s.data.toList)) ∧ w' = w := by
  by_cases h0 : ¬ (1 ≤ s.size ∧ s.size ≤ 24)
  · have HE := hid (isName_len s h0)
    rcases (show s.size < 1 ∨ (¬ s.size < 1 ∧ 24 < s.size) by omega) with h | ⟨h, h2⟩
    all_goals
      clear h0
      go_enter Try.func77, Try.ntmps77
      go_wp2_with fail
      go_ret
      exact ⟨ret_bool HE.out.symm, rfl⟩
  have h1 : ¬ s.size < 1 ∧ ¬ 24 < s.size := by omega
  obtain ⟨h1, h2⟩ := h1
  have HSN := hid (take_snoc_bytes s)
  have HBAD := hid (isName_bad s)
  have HEND : Hid ((∀ c ∈ s.data.toList.take s.size, nameR c.toNat = true) → isName s.data.toList = true) := hid fun h => by
    rw [List.take_of_length_le (by simp)] at h
    unfold isName
    rw [List.all_eq_true.2 h, Bool.true_and]
    exact decide_eq_true (by simp; omega)
  clear h0
  generalize isName s.data.toList = res at *
  go_enter Try.func77, Try.ntmps77
  go_wp2_with fail
  go_loopw [3] (fun i wr => ∃ k : Nat, k ≤ s.size ∧ i = .int .i64 k ∧ Hid (∀ c ∈ s.data.toList.take k, nameR c.toNat = true) ∧ wr = w) (fun i _ => s.size - (intOf i).toNat)
  case atStart => exact ⟨0, Nat.zero_le _, rfl, hid (by simp), rfl⟩
  case round =>
    obtain ⟨k, hk, rfl, HD, rfl⟩ := hrel
    by_cases hks : k < s.size
    · have hci : ∀ h : k < s.size, ((s[k]'h).toNat : Int) = ((s[k]'hks).toNat : Int) := fun h => rfl
      have HD2 : Hid (nameR (s[k]'hks).toNat = true → ∀ c ∈ s.data.toList.take (k + 1), nameR c.toNat = true) := hid (fun hd => by
        rw [HSN.out k hks]
        intro c hc
        rcases List.mem_append.1 hc with hc | hc
        · exact HD.out c hc
        · rw [List.mem_singleton.1 hc]; exact hd)
      have HRES := hid (HBAD.out k hks)
      generalize (s[k]'hks).toNat = c at *
      rcases name_ways c with ⟨hd, h⟩ | ⟨hd, h⟩
      · have HD3 := hid (HD2.out hd)
        clear HD2 hd HRES
        rcases h with h | h | h | h | h | h
        all_goals
          first | have g97 : decide ((97 : Int) ≤ (c : Int)) = true := decide_eq_true (by omega) | have g97 : decide ((97 : Int) ≤ (c : Int)) = false := decide_eq_false (by omega)
          first | have g122 : decide ((c : Int) ≤ 122) = true := decide_eq_true (by omega) | have g122 : decide ((c : Int) ≤ 122) = false := decide_eq_false (by omega)
          first | have g65 : decide ((65 : Int) ≤ (c : Int)) = true := decide_eq_true (by omega) | have g65 : decide ((65 : Int) ≤ (c : Int)) = false := decide_eq_false (by omega)
          first | have g90 : decide ((c : Int) ≤ 90) = true := decide_eq_true (by omega) | have g90 : decide ((c : Int) ≤ 90) = false := decide_eq_false (by omega)
          first | have g48 : decide ((48 : Int) ≤ (c : Int)) = true := decide_eq_true (by omega) | have g48 : decide ((48 : Int) ≤ (c : Int)) = false := decide_eq_false (by omega)
          first | have g57 : decide ((c : Int) ≤ 57) = true := decide_eq_true (by omega) | have g57 : decide ((c : Int) ≤ 57) = false := decide_eq_false (by omega)
          first | have g45 : ((c : Int) == 45) = true := beq_iff_eq.2 (by omega) | have g45 : ((c : Int) == 45) = false := beq_eq_false_iff_ne.2 (by omega)
          first | have g95 : ((c : Int) == 95) = true := beq_iff_eq.2 (by omega) | have g95 : ((c : Int) == 95) = false := beq_eq_false_iff_ne.2 (by omega)
          first | have g46 : ((c : Int) == 46) = true := beq_iff_eq.2 (by omega) | have g46 : ((c : Int) == 46) = false := beq_eq_false_iff_ne.2 (by omega)
          clear h
          go_wp2_with fail
          go_roundw
          case rel => exact ⟨k + 1, by omega, by go_num, HD3, trivial⟩
          case measure => simp [intOf]; omega
      · have HR2 := hid (HRES.out hd)
        clear HD2 hd HRES
        rcases h with h | h | h | h | h | h
        all_goals
          first | have g97 : decide ((97 : Int) ≤ (c : Int)) = true := decide_eq_true (by omega) | have g97 : decide ((97 : Int) ≤ (c : Int)) = false := decide_eq_false (by omega)
          first | have g122 : decide ((c : Int) ≤ 122) = true := decide_eq_true (by omega) | have g122 : decide ((c : Int) ≤ 122) = false := decide_eq_false (by omega)
          first | have g65 : decide ((65 : Int) ≤ (c : Int)) = true := decide_eq_true (by omega) | have g65 : decide ((65 : Int) ≤ (c : Int)) = false := decide_eq_false (by omega)
          first | have g90 : decide ((c : Int) ≤ 90) = true := decide_eq_true (by omega) | have g90 : decide ((c : Int) ≤ 90) = false := decide_eq_false (by omega)
          first | have g48 : decide ((48 : Int) ≤ (c : Int)) = true := decide_eq_true (by omega) | have g48 : decide ((48 : Int) ≤ (c : Int)) = false := decide_eq_false (by omega)
          first | have g57 : decide ((c : Int) ≤ 57) = true := decide_eq_true (by omega) | have g57 : decide ((c : Int) ≤ 57) = false := decide_eq_false (by omega)
          first | have g45 : ((c : Int) == 45) = true := beq_iff_eq.2 (by omega) | have g45 : ((c : Int) == 45) = false := beq_eq_false_iff_ne.2 (by omega)
          first | have g95 : ((c : Int) == 95) = true := beq_iff_eq.2 (by omega) | have g95 : ((c : Int) == 95) = false := beq_eq_false_iff_ne.2 (by omega)
          first | have g46 : ((c : Int) == 46) = true := beq_iff_eq.2 (by omega) | have g46 : ((c : Int) == 46) = false := beq_eq_false_iff_ne.2 (by omega)
          clear h
          go_wp2_with fail
          go_ret
          exact ⟨ret_bool HR2.out.symm, rfl⟩
    · have hke : k = s.size := by omega
      have HE := hid (HEND.out (by rw [← hke]; exact HD.out))
      clear hke
      go_wp2_with fail
      go_ret
      exact ⟨ret_bool HE.out.symm, rfl⟩

open Go.RowKit

theorem bytes_eq {a b : ByteArray} (h : a.toList = b.toList) : a = b := by
  rw [Lib.toList_data, Lib.toList_data] at h
  obtain ⟨⟨x⟩⟩ := a
  obtain ⟨⟨y⟩⟩ := b
  simp only at h
  rw [h]

set_option maxRecDepth 100000 in
set_option maxHeartbeats 8000000 in
theorem refTicket_any (S : List (Int × Int)) (T : List Tk) (k : Nat) (t : Tk) (v1 v2 : Value) (W : World) (hb : BookIn W v1 v2 S T) (ht : T[k]? = some t) (hk9 : k ≤ 1000) :
    Calls Try.prog 50 #[.agg #[v1, v2], .int .i64 k] W (Ret (.int .i64 (tkErr ((T.take k).map (·.id)) S.length t)) W) := by
  obtain ⟨p1, c1, rfl, hm1⟩ := hb.stock.shape
  obtain ⟨p2, c2, rfl, hm2⟩ := hb.tickets.shape
  have hkT := (List.getElem?_eq_some_iff.1 ht).1
  obtain ⟨ns, hns⟩ : ∃ n, n = S.length := ⟨_, rfl⟩
  have hm1' : ns ≤ 9223372036854775807 := by rw [hns]; unfold maxLen at hm1; omega
  have hm2' : T.length ≤ 9223372036854775807 := by unfold maxLen at hm2; omega
  obtain ⟨nt, hnt⟩ : ∃ n, n = T.length := ⟨_, rfl⟩
  rw [← hnt] at hm2' hkT
  obtain ⟨w0, hw0⟩ : ∃ w0, w0 = W.alloc (.cells #[.slice p1 ns c1, .slice p2 nt c2] 25) := ⟨_, rfl⟩
  obtain ⟨w1, hw1⟩ : ∃ w1, w1 = w0.alloc (.cells #[.string t.id, .int .i64 t.src, .int .i64 t.dst, .int .i64 t.low, .int .i64 t.high] 59) := ⟨_, rfl⟩
  have hb0 : Below W.heap.size W w0 := by rw [hw0]; exact below_new W _
  have hb1 : Below w0.heap.size w0 w1 := by rw [hw1]; exact below_new w0 _
  have hbw : Below W.heap.size W w1 := hb0.trans (hb1.mono hb0.size)
  have hB0 : Blk w0 W.heap.size #[.slice p1 ns c1, .slice p2 nt c2] 25 := by rw [hw0]; exact Blk.new W _ _
  have hT1 : Blk w1 w0.heap.size #[.string t.id, .int .i64 t.src, .int .i64 t.dst, .int .i64 t.low, .int .i64 t.high] 59 := by rw [hw1]; exact Blk.new w0 _ _
  have hk0 := hb.tickets.later hb0
  obtain ⟨g, o, c, hv, r0, r1, r2, r3, r4⟩ := hk0.tkAt ht
  injection hv with e1 e2 e3
  subst e1
  have b0 := hB0.cell (i := 0) rfl
  have b1 := hB0.cell (i := 1) rfl
  have HBK := hid (hb.tickets.later hbw)
  have HB := hid hbw
  have HBL := hid (hB0.later hb1 hB0.lt)
  have HTL := hid hT1
  have u0 := hT1.cell (i := 0) rfl
  have HN := hid (refName9 t.id)
  have HM := hid (refMass_any t.low t.high)
  have HW0 := hid hw0
  have HW1 := hid hw1
  have HT := hid ht
  have HNT := hid hnt
  obtain ⟨kk, he, hw⟩ := tk_ways ((T.take k).map (·.id)) ns t
  have HCS : Hid (∀ (j : Nat) (x : Tk), j < k → T[j]? = some x → x.id = t.id → Lib.containsS ((T.take k).map (·.id)) t.id = true) := hid (fun j x hj hx hxe => by
    rw [Lib.containsS_iff, ← hxe]
    exact List.mem_map.2 ⟨x, List.mem_of_getElem? (by rw [List.getElem?_take_of_lt hj]; exact hx), rfl⟩)
  have HCN : Hid ((∀ (j : Nat) (x : Tk), j < k → T[j]? = some x → x.id ≠ t.id) → Lib.containsS ((T.take k).map (·.id)) t.id = false) := hid (fun h => by
    rw [← Bool.not_eq_true, Lib.containsS_iff]
    intro hm
    obtain ⟨x, hx, hxe⟩ := List.mem_map.1 hm
    obtain ⟨j, hj⟩ := List.getElem?_of_mem hx
    have hjk : j < k := by
      have := (List.getElem?_eq_some_iff.1 hj).1
      rw [List.length_take] at this
      omega
    rw [List.getElem?_take_of_lt hjk] at hj
    exact h j x hjk hj hxe)
  rw [← hns, ← hnt, he]
  clear he
  have HWY := hid hw
  rcases hn : isName t.id.data.toList
  · have hkk : kk = 8 := by
      rcases hw with ⟨_, h⟩ | ⟨h, _⟩ | ⟨h, _⟩ | ⟨h, _⟩ | ⟨h, _⟩
      · exact h
      all_goals (rw [hn] at h; cases h)
    subst hkk
    rw [hn] at HN
    clear hw hn hnt hns hw0 hw1 hb0 hb1 hbw hB0 hT1 hk0 e2 e3 ht hb hm1 hm2
    go_enter Try.func50, Try.ntmps50
    go_wp2_with (first | (rw [← HW0.out]) | (rw [← HW1.out]) | (go_at_call 77; (with_reducible refine (HN.out _).mono ?_); rintro e w2 ⟨rfl, rfl⟩))
    go_ret
    exact ⟨rfl, HB.out⟩
  · rw [hn] at HN
    have HNM := hid hn
    clear hw hn hnt hns hw0 hw1 hb0 hb1 hbw hB0 hT1 hk0 e2 e3 ht hb hm1 hm2
    go_enter Try.func50, Try.ntmps50
    go_wp2_with (first | (rw [← HW0.out]) | (rw [← HW1.out]) | (go_at_call 77; (with_reducible refine (HN.out _).mono ?_); rintro e w2 ⟨rfl, rfl⟩))
    go_loopw [6] (fun u wr => ∃ j : Nat, j ≤ k ∧ u = .int .i64 j ∧ Hid (∀ (i : Nat) (x : Tk), i < j → T[i]? = some x → x.id ≠ t.id) ∧ Hid (Below w2.heap.size w2 wr)) (fun u _ => k - (intOf u).toNat)
    case atStart => exact ⟨0, Nat.zero_le _, rfl, hid (fun i x hi _ => absurd hi (Nat.not_lt_zero _)), hid (Below.refl _ _)⟩
    case round =>
      clear b0 b1 r0 r1 r2 r3 r4 u0
      obtain ⟨j, hj, rfl, HZ, HBR⟩ := hrel
      have b0 := (HBL.out.later HBR.out HBL.out.lt).cell (i := 0) rfl
      have b1 := (HBL.out.later HBR.out HBL.out.lt).cell (i := 1) rfl
      have u0 := (HTL.out.later HBR.out HTL.out.lt).cell (i := 0) rfl
      have u1 := (HTL.out.later HBR.out HTL.out.lt).cell (i := 1) rfl
      have u2 := (HTL.out.later HBR.out HTL.out.lt).cell (i := 2) rfl
      have u3 := (HTL.out.later HBR.out HTL.out.lt).cell (i := 3) rfl
      have u4 := (HTL.out.later HBR.out HTL.out.lt).cell (i := 4) rfl
      by_cases hjk : j < k
      · obtain ⟨x, hx⟩ : ∃ x, T[j]? = some x := ⟨_, List.getElem?_eq_getElem (by rw [← HNT.out]; omega)⟩
        obtain ⟨g2, o2, c3, hv, s0, _, _, _, _⟩ := (HBK.out.later HBR.out).tkAt hx
        injection hv with f1 f2 f3
        injection f1 with f1
        injection f1 with f1 f4 f5
        subst f1
        subst f4
        have hjt : j < nt := by omega
        have HBD : Hid (∀ q, Below w2.heap.size w2 (wr.drewN q)) := hid (fun q => ⟨HBR.out.os, HBR.out.tape, HBR.out.output, HBR.out.size, HBR.out.block⟩)
        by_cases hxe : x.id = t.id
        · have hcs := HCS.out j x hjk hx hxe
          have hkk : kk = 9 := by
            rcases HWY.out with ⟨h, _⟩ | ⟨_, _, h⟩ | ⟨_, h, _⟩ | ⟨_, h, _⟩ | ⟨_, h, _⟩
            · rw [HNM.out] at h; cases h
            · exact h
            all_goals (rw [h] at hcs; cases hcs)
          subst hkk
          have hq1 : (x.id.toList == t.id.toList) = true := by rw [hxe]; exact beq_self_eq_true _
          clear hcs hx f2 f3 f5 hxe
          go_wp2_with fail
          go_quiet (fail)
          go_wp2_with fail
          go_ret
          exact ⟨rfl, HB.out.trans ((HBD.out _).mono HB.out.size)⟩
        · have HZ2 : Hid (∀ (i : Nat) (x : Tk), i < j + 1 → T[i]? = some x → x.id ≠ t.id) := hid (fun i y hi hy => by
            by_cases e : i = j
            · subst e; rw [hx] at hy; cases hy; exact hxe
            · exact HZ.out i y (by omega) hy)
          have hq1 : (x.id.toList == t.id.toList) = false := beq_eq_false_iff_ne.2 fun h => hxe (bytes_eq h)
          clear hx f2 f3 f5 hxe
          go_wp2_with fail
          go_quiet (fail)
          go_wp2_with fail
          go_roundw
          case rel => exact ⟨j + 1, by omega, by go_num, HZ2, hid (HBD.out _)⟩
          case measure => simp [intOf]; omega
      · have hjk2 : j = k := by omega
        subst hjk2
        have hcn := HCN.out HZ.out
        have HBW := hid (HB.out.trans (HBR.out.mono HB.out.size))
        have hwy := HWY.out
        clear HWY HCS HCN
        rcases hwy with ⟨h, _⟩ | ⟨_, h, _⟩ | ⟨_, _, rfl, h3⟩ | ⟨_, _, h3, h4, h5, h6, h7, rfl⟩ | ⟨_, _, h3, h4, h5, h6, h7, rfl⟩
        · rw [HNM.out] at h; cases h
        · rw [h] at hcn; cases hcn
        · clear hcn
          rcases h3 with h3 | ⟨h3, h4⟩ | ⟨h3, h4, h5⟩ | ⟨h3, h4, h5, h6⟩
          all_goals
            go_wp2_with fail
            go_ret
            exact ⟨rfl, HBW.out⟩
        · have hz : (t.src == t.dst) = true := by simpa using h7
          have hz1 : decide ((ns : Int) ≤ t.src) = false := by simp; omega
          have hz2 : decide ((ns : Int) ≤ t.dst) = false := by simp; omega
          clear hcn h7
          go_wp2_with fail
          go_ret
          exact ⟨rfl, HBW.out⟩
        · have hz : (t.src == t.dst) = false := by simpa using h7
          have hz1 : decide ((ns : Int) ≤ t.src) = false := by simp; omega
          have hz2 : decide ((ns : Int) ≤ t.dst) = false := by simp; omega
          clear hcn h7
          go_wp2_with fail
          refine (HM.out _).mono ?_
          rintro e w5 ⟨rfl, hb⟩
          have HBF := hid (HBW.out.trans (hb.mono HBW.out.size))
          clear hb
          go_wp2_with fail
          go_ret
          exact ⟨rfl, HBF.out⟩

open Go.RowKit

theorem ids_snoc {T : List Tk} {j : Nat} {t : Tk} (h : T[j]? = some t) : (T.take (j + 1)).map (·.id) = (T.take j).map (·.id) ++ [t.id] := by
  rw [List.take_add_one, h, Option.toList_some, List.map_append]; rfl

set_option maxRecDepth 100000 in
set_option maxHeartbeats 8000000 in
theorem refBook9 (S : List (Int × Int)) (T : List Tk) (v1 v2 : Value) (W : World) (hb : BookIn W v1 v2 S T) :
    Calls Try.prog 16 #[.agg #[v1, v2]] W (Ret (.int .i64 (bookErr S T)) W) := by
  obtain ⟨p1, c1, rfl, hm1⟩ := hb.stock.shape
  obtain ⟨p2, c2, rfl, hm2⟩ := hb.tickets.shape
  obtain ⟨ns, hns⟩ : ∃ n, n = S.length := ⟨_, rfl⟩
  obtain ⟨nt, hnt⟩ : ∃ n, n = T.length := ⟨_, rfl⟩
  have hm1' : ns ≤ 9223372036854775807 := by rw [hns]; unfold maxLen at hm1; omega
  have hm2' : nt ≤ 9223372036854775807 := by rw [hnt]; unfold maxLen at hm2; omega
  obtain ⟨w0, hw0⟩ : ∃ w0, w0 = W.alloc (.cells #[.slice p1 ns c1, .slice p2 nt c2] 25) := ⟨_, rfl⟩
  have hb0 : Below W.heap.size W w0 := by rw [hw0]; exact below_new W _
  have hB0 : Blk w0 W.heap.size #[.slice p1 ns c1, .slice p2 nt c2] 25 := by rw [hw0]; exact Blk.new W _ _
  have b0 := hB0.cell (i := 0) rfl
  have b1 := hB0.cell (i := 1) rfl
  have HBK := hid (hb.later hb0)
  have HB := hid hb0
  have HBL := hid hB0
  have HW0 := hid hw0
  have HNS := hid hns
  have HNT := hid hnt
  have HBE : Hid (bookErr S T = if 32 < ns then 5 else if eachErr rangeErr S ≠ 0 then eachErr rangeErr S else if 128 < nt then 5 else tksErr ns [] T) := hid (by rw [hns, hnt]; rfl)
  obtain ⟨x, hx⟩ : ∃ x, x = bookErr S T := ⟨_, rfl⟩
  rw [← hns, ← hnt, ← hx]
  rw [← hx] at HBE
  clear hb hm1 hm2 hw0 hb0 hB0 hns hnt hx
  by_cases h1 : 32 < ns
  · have hxe : x = 5 := by rw [HBE.out, if_pos h1]
    subst hxe
    go_enter Try.func16, Try.ntmps16
    go_wp2_with (rw [← HW0.out])
    go_ret
    exact ⟨rfl, HB.out⟩
  have h1' : ns ≤ 32 := by omega
  go_enter Try.func16, Try.ntmps16
  go_wp2_with (rw [← HW0.out])
  go_loopw [3] (fun u wr => ∃ k : Nat, k ≤ ns ∧ u = .int .i64 k ∧ Hid (∀ (j : Nat) (r : Int × Int), j < k → S[j]? = some r → rangeErr r.1 r.2 = 0) ∧ Hid (Below w0.heap.size w0 wr)) (fun u _ => ns - (intOf u).toNat)
  case atStart => exact ⟨0, Nat.zero_le _, rfl, hid (fun j r hj _ => absurd hj (Nat.not_lt_zero _)), hid (Below.refl _ _)⟩
  case round =>
    clear b0 b1
    obtain ⟨k, hk, rfl, HZ, HBR⟩ := hrel
    have b0 := (HBL.out.later HBR.out HBL.out.lt).cell (i := 0) rfl
    have b1 := (HBL.out.later HBR.out HBL.out.lt).cell (i := 1) rfl
    by_cases hlt : k < ns
    · obtain ⟨r, hr⟩ : ∃ r, S[k]? = some r := ⟨_, List.getElem?_eq_getElem (by rw [← HNS.out]; exact hlt)⟩
      have hw : SlcIn wr (.slice p1 S.length c1) S.length (S.flatMap rgC) := (HBK.out.later HBR.out).stock
      obtain ⟨g, o, c', hv, r0, r1⟩ := hw.rgAt hr
      injection hv with e1 e2 e3
      subst e1
      have HRR := hid (refRange_any r.1 r.2)
      by_cases he : rangeErr r.1 r.2 = 0
      · rw [he] at HRR
        have HZ2 : Hid (∀ (j : Nat) (r : Int × Int), j < k + 1 → S[j]? = some r → rangeErr r.1 r.2 = 0) := hid (fun j y hj hy => by
          by_cases e : j = k
          · subst e; rw [hr] at hy; cases hy; exact he
          · exact HZ.out j y (by omega) hy)
        clear hr hw e2 e3 he
        go_wp2_with (go_at_call 49; (with_reducible refine (HRR.out _).mono ?_); rintro e w3 ⟨rfl, hb⟩; have HB3 := hid (HBR.out.trans (hb.mono HBR.out.size)); clear hb)
        go_roundw
        case rel => exact ⟨k + 1, by omega, by go_num, HZ2, HB3⟩
        case measure => simp [intOf]; omega
      · have hxe : x = rangeErr r.1 r.2 := by
          have h2 := each_at HZ.out hr he
          rw [HBE.out, if_neg h1, h2, if_pos he]
        subst hxe
        obtain ⟨y, hy⟩ : ∃ y, y = rangeErr r.1 r.2 := ⟨_, rfl⟩
        rw [← hy] at he HRR
        have hz : (y == 0) = false := by simpa using he
        have hz2 : (y != 0) = true := by simpa using he
        have HY := hid hy
        clear hr hw e2 e3 he hy
        go_wp2_with (go_at_call 49; (with_reducible refine (HRR.out _).mono ?_); rintro e w3 ⟨rfl, hb⟩; have HB3 := hid (HBR.out.trans (hb.mono HBR.out.size)); clear hb)
        go_ret
        exact ⟨by rw [HY.out]; rfl, HB.out.trans (HB3.out.mono HB.out.size)⟩
    · have hkn : k = ns := by omega
      subst hkn
      have he0 : eachErr rangeErr S = 0 := each_none fun j r hj => HZ.out j r (by have := (List.getElem?_eq_some_iff.1 hj).1; have := HNS.out; omega) hj
      have HXE : Hid (x = if 128 < nt then 5 else tksErr k [] T) := hid (by rw [HBE.out, if_neg h1, if_neg (by simpa using he0)])
      have HBW := hid (HB.out.trans (HBR.out.mono HB.out.size))
      clear he0 HBE HZ
      by_cases h2 : 128 < nt
      · have hxe : x = 5 := by rw [HXE.out, if_pos h2]
        subst hxe
        go_wp2_with fail
        go_ret
        exact ⟨rfl, HBW.out⟩
      · have HXT : Hid (x = tksErr k [] T) := hid (by rw [HXE.out, if_neg h2])
        have HBKr := hid (HBK.out.later HBR.out)
        have HBLr := hid (HBL.out.later HBR.out HBL.out.lt)
        have h2' : nt ≤ 128 := by omega
        clear HXE HBK HBL HB HBR
        go_wp2_with fail
        obtain ⟨wa, hwa⟩ : ∃ wa, wa = wr := ⟨_, rfl⟩
        rw [← hwa] at HBW HBKr HBLr b0 b1
        rw [← hwa]
        clear hwa
        go_loopw [5] (fun u wr => ∃ j : Nat, j ≤ nt ∧ u = .int .i64 j ∧ Hid (x = tksErr k ((T.take j).map (·.id)) (T.drop j)) ∧ Hid (Below wa.heap.size wa wr)) (fun u _ => nt - (intOf u).toNat)
        case atStart => exact ⟨0, Nat.zero_le _, rfl, hid HXT.out, hid (Below.refl _ _)⟩
        case round =>
          clear b0 b1
          obtain ⟨j, hj, rfl, HZ, HBR⟩ := hrel
          have b0 := (HBLr.out.later HBR.out HBLr.out.lt).cell (i := 0) rfl
          have b1 := (HBLr.out.later HBR.out HBLr.out.lt).cell (i := 1) rfl
          by_cases hjt : j < nt
          · obtain ⟨t, ht⟩ : ∃ t, T[j]? = some t := ⟨_, List.getElem?_eq_getElem (by rw [← HNT.out]; exact hjt)⟩
            have HTK := hid (refTicket_any S T j t (.slice p1 S.length c1) (.slice p2 T.length c2) wr (HBKr.out.later HBR.out) ht (by omega))
            rw [← HNS.out, ← HNT.out] at HTK
            by_cases he : tkErr ((T.take j).map (·.id)) k t = 0
            · have HZ2 : Hid (x = tksErr k ((T.take (j + 1)).map (·.id)) (T.drop (j + 1))) := hid (by rw [HZ.out, tks_next ht he, ids_snoc ht])
              rw [he] at HTK
              clear ht he
              go_wp2_with (go_at_call 50; (with_reducible refine HTK.out.mono ?_); rintro e w3 ⟨rfl, hb⟩; have HB3 := hid (HBR.out.trans (hb.mono HBR.out.size)); clear hb)
              go_roundw
              case rel => exact ⟨j + 1, by omega, by go_num, HZ2, HB3⟩
              case measure => simp [intOf]; omega
            · have hxe : x = tkErr ((T.take j).map (·.id)) k t := by rw [HZ.out, tks_at ht he]
              rw [← hxe] at HTK he
              have hz : (x == 0) = false := by simpa using he
              have hz2 : (x != 0) = true := by simpa using he
              clear ht he hxe
              go_wp2_with (go_at_call 50; (with_reducible refine HTK.out.mono ?_); rintro e w3 ⟨rfl, hb⟩; have HB3 := hid (HBR.out.trans (hb.mono HBR.out.size)); clear hb)
              go_ret
              exact ⟨rfl, HBW.out.trans (HB3.out.mono HBW.out.size)⟩
          · have hjn : j = nt := by omega
            subst hjn
            have hxe : x = 0 := by
              rw [HZ.out, List.drop_eq_nil_of_le (by have := HNT.out; omega)]
              rfl
            subst hxe
            have HBF := hid (HBW.out.trans (HBR.out.mono HBW.out.size))
            go_wp2_with fail
            go_ret
            exact ⟨rfl, HBF.out⟩
theorem refBook_any (S : List (Int × Int)) (T : List Tk) (v1 v2 : Value) (W : World) (hb : BookIn W v1 v2 S T) (_ : ∀ t ∈ T, t.id.size ≤ 40) :
    Calls Try.prog 16 #[.agg #[v1, v2]] W (Ret (.int .i64 (bookErr S T)) W) := refBook9 S T v1 v2 W hb
end Go.Proofs.Ytncnpodanlhdkaa
