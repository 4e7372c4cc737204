/-
  The reference's CheckBook, whole.
-/
import Derived.Test.YtlkefifffkhclaaWRefBk
namespace Go.Proofs.Ytlkefifffkhclaa
set_option linter.all false
open Go.RowKit

theorem ids_snoc {T : List Tk} {j : Nat} {t : Tk} (h : T[j]? = some t) : (T.take (j + 1)).map (·.id) = (T.take j).map (·.id) ++ [t.id] := by
  rw [List.take_add_one, h, Option.toList_some, List.map_append]; rfl

set_option maxRecDepth 100000 in
set_option maxHeartbeats 8000000 in
theorem refBook_any (S : List (Int × Int)) (T : List Tk) (v1 v2 : Value) (W : World) (hb : BookIn W v1 v2 S T) (hs : ∀ t ∈ T, t.id.size ≤ 40) :
    Calls Try.prog 26 #[.agg #[v1, v2]] W (Ret (.int .i64 (bookErr S T)) W) := by
  obtain ⟨p1, c1, rfl, hm1⟩ := hb.stock.shape
  obtain ⟨p2, c2, rfl, hm2⟩ := hb.tickets.shape
  obtain ⟨ns, hns⟩ : ∃ n, n = S.length := ⟨_, rfl⟩
  obtain ⟨nt, hnt⟩ : ∃ n, n = T.length := ⟨_, rfl⟩
  have hm1' : ns ≤ 9223372036854775807 := by rw [hns]; unfold maxLen at hm1; omega
  have hm2' : nt ≤ 9223372036854775807 := by rw [hnt]; unfold maxLen at hm2; omega
  obtain ⟨w0, hw0⟩ : ∃ w0, w0 = W.alloc (.cells #[.slice p1 ns c1, .slice p2 nt c2] 50) := ⟨_, rfl⟩
  have hb0 : Below W.heap.size W w0 := by rw [hw0]; exact below_new W _
  have hB0 : Blk w0 W.heap.size #[.slice p1 ns c1, .slice p2 nt c2] 50 := by rw [hw0]; exact Blk.new W _ _
  have b0 := hB0.cell (i := 0) rfl
  have b1 := hB0.cell (i := 1) rfl
  have HBK := hid (hb.later hb0)
  have HB := hid hb0
  have HBL := hid hB0
  have HW0 := hid hw0
  have HNS := hid hns
  have HNT := hid hnt
  have HS := hid hs
  have HBE : Hid (bookErr S T = if 32 < ns then 5 else if eachErr rangeErr S ≠ 0 then eachErr rangeErr S else if 128 < nt then 5 else tksErr ns [] T) := hid (by rw [hns, hnt]; rfl)
  obtain ⟨x, hx⟩ : ∃ x, x = bookErr S T := ⟨_, rfl⟩
  rw [← hns, ← hnt, ← hx]
  rw [← hx] at HBE
  clear hb hs hm1 hm2 hw0 hb0 hB0 hns hnt hx
  by_cases h1 : 32 < ns
  · have hxe : x = 5 := by rw [HBE.out, if_pos h1]
    subst hxe
    go_enter Try.func26, Try.ntmps26
    go_wp2_with (rw [← HW0.out])
    go_ret
    exact ⟨rfl, HB.out⟩
  have h1' : ns ≤ 32 := by omega
  go_enter Try.func26, Try.ntmps26
  go_wp2_with (rw [← HW0.out])
  go_loopw [3] (fun u wr => ∃ k : Nat, k ≤ ns ∧ u = .int .i64 k ∧ Hid (∀ (j : Nat) (r : Int × Int), j < k → S[j]? = some r → rangeErr r.1 r.2 = 0) ∧ Hid (Below w0.heap.size w0 wr)) (fun u _ => ns - (intOf u).toNat)
  case atStart => exact ⟨0, Nat.zero_le _, rfl, hid (fun j r hj _ => absurd hj (Nat.not_lt_zero _)), hid (Below.refl _ _)⟩
  case round =>
    clear b0 b1
    obtain ⟨k, hk, rfl, HZ, HBR⟩ := hrel
    have b0 := (HBL.out.later HBR.out HBL.out.lt).cell (i := 0) rfl
    have b1 := (HBL.out.later HBR.out HBL.out.lt).cell (i := 1) rfl
    by_cases hlt : k < ns
    · obtain ⟨r, hr⟩ : ∃ r, S[k]? = some r := ⟨_, List.getElem?_eq_getElem (by rw [← HNS.out]; exact hlt)⟩
      have hw : SlcIn wr (.slice p1 S.length c1) S.length (S.flatMap rgC) := (HBK.out.later HBR.out).stock
      obtain ⟨g, o, c', hv, r0, r1⟩ := hw.rgAt hr
      injection hv with e1 e2 e3
      subst e1
      have HRR := hid (refRange_any r.1 r.2)
      by_cases he : rangeErr r.1 r.2 = 0
      · rw [he] at HRR
        have HZ2 : Hid (∀ (j : Nat) (r : Int × Int), j < k + 1 → S[j]? = some r → rangeErr r.1 r.2 = 0) := hid (fun j y hj hy => by
          by_cases e : j = k
          · subst e; rw [hr] at hy; cases hy; exact he
          · exact HZ.out j y (by omega) hy)
        clear hr hw e2 e3 he
        go_wp2_with (go_at_call 12; (with_reducible refine (HRR.out _).mono ?_); rintro e w3 ⟨rfl, hb⟩; have HB3 := hid (HBR.out.trans (hb.mono HBR.out.size)); clear hb)
        go_roundw
        case rel => exact ⟨k + 1, by omega, by go_num, HZ2, HB3⟩
        case measure => simp [intOf]; omega
      · have hxe : x = rangeErr r.1 r.2 := by
          have h2 := each_at HZ.out hr he
          rw [HBE.out, if_neg h1, h2, if_pos he]
        subst hxe
        obtain ⟨y, hy⟩ : ∃ y, y = rangeErr r.1 r.2 := ⟨_, rfl⟩
        rw [← hy] at he HRR
        have hz : (y == 0) = false := by simpa using he
        have hz2 : (y != 0) = true := by simpa using he
        have HY := hid hy
        clear hr hw e2 e3 he hy
        go_wp2_with (go_at_call 12; (with_reducible refine (HRR.out _).mono ?_); rintro e w3 ⟨rfl, hb⟩; have HB3 := hid (HBR.out.trans (hb.mono HBR.out.size)); clear hb)
        go_ret
        exact ⟨by rw [HY.out]; rfl, HB.out.trans (HB3.out.mono HB.out.size)⟩
    · have hkn : k = ns := by omega
      subst hkn
      have he0 : eachErr rangeErr S = 0 := each_none fun j r hj => HZ.out j r (by have := (List.getElem?_eq_some_iff.1 hj).1; have := HNS.out; omega) hj
      have HXE : Hid (x = if 128 < nt then 5 else tksErr k [] T) := hid (by rw [HBE.out, if_neg h1, if_neg (by simpa using he0)])
      have HBW := hid (HB.out.trans (HBR.out.mono HB.out.size))
      clear he0 HBE HZ
      by_cases h2 : 128 < nt
      · have hxe : x = 5 := by rw [HXE.out, if_pos h2]
        subst hxe
        go_wp2_with fail
        go_ret
        exact ⟨rfl, HBW.out⟩
      · have HXT : Hid (x = tksErr k [] T) := hid (by rw [HXE.out, if_neg h2])
        have HBKr := hid (HBK.out.later HBR.out)
        have HBLr := hid (HBL.out.later HBR.out HBL.out.lt)
        have h2' : nt ≤ 128 := by omega
        clear HXE HBK HBL HB HBR
        go_wp2_with fail
        obtain ⟨wa, hwa⟩ : ∃ wa, wa = wr := ⟨_, rfl⟩
        rw [← hwa] at HBW HBKr HBLr b0 b1
        rw [← hwa]
        clear hwa
        go_loopw [5] (fun u wr => ∃ j : Nat, j ≤ nt ∧ u = .int .i64 j ∧ Hid (x = tksErr k ((T.take j).map (·.id)) (T.drop j)) ∧ Hid (Below wa.heap.size wa wr)) (fun u _ => nt - (intOf u).toNat)
        case atStart => exact ⟨0, Nat.zero_le _, rfl, hid HXT.out, hid (Below.refl _ _)⟩
        case round =>
          clear b0 b1
          obtain ⟨j, hj, rfl, HZ, HBR⟩ := hrel
          have b0 := (HBLr.out.later HBR.out HBLr.out.lt).cell (i := 0) rfl
          have b1 := (HBLr.out.later HBR.out HBLr.out.lt).cell (i := 1) rfl
          by_cases hjt : j < nt
          · obtain ⟨t, ht⟩ : ∃ t, T[j]? = some t := ⟨_, List.getElem?_eq_getElem (by rw [← HNT.out]; exact hjt)⟩
            have HTK := hid (refTicket_any S T j t (.slice p1 S.length c1) (.slice p2 T.length c2) wr (HBKr.out.later HBR.out) ht (by omega) (HS.out t (List.mem_of_getElem? ht)))
            rw [← HNS.out, ← HNT.out] at HTK
            by_cases he : tkErr ((T.take j).map (·.id)) k t = 0
            · have HZ2 : Hid (x = tksErr k ((T.take (j + 1)).map (·.id)) (T.drop (j + 1))) := hid (by rw [HZ.out, tks_next ht he, ids_snoc ht])
              rw [he] at HTK
              clear ht he
              go_wp2_with (go_at_call 47; (with_reducible refine HTK.out.mono ?_); rintro e w3 ⟨rfl, hb⟩; have HB3 := hid (HBR.out.trans (hb.mono HBR.out.size)); clear hb)
              go_roundw
              case rel => exact ⟨j + 1, by omega, by go_num, HZ2, HB3⟩
              case measure => simp [intOf]; omega
            · have hxe : x = tkErr ((T.take j).map (·.id)) k t := by rw [HZ.out, tks_at ht he]
              rw [← hxe] at HTK he
              have hz : (x == 0) = false := by simpa using he
              have hz2 : (x != 0) = true := by simpa using he
              clear ht he hxe
              go_wp2_with (go_at_call 47; (with_reducible refine HTK.out.mono ?_); rintro e w3 ⟨rfl, hb⟩; have HB3 := hid (HBR.out.trans (hb.mono HBR.out.size)); clear hb)
              go_ret
              exact ⟨rfl, HBW.out.trans (HB3.out.mono HBW.out.size)⟩
          · have hjn : j = nt := by omega
            subst hjn
            have hxe : x = 0 := by
              rw [HZ.out, List.drop_eq_nil_of_le (by have := HNT.out; omega)]
              rfl
            subst hxe
            have HBF := hid (HBW.out.trans (HBR.out.mono HBW.out.size))
            go_wp2_with fail
            go_ret
            exact ⟨rfl, HBF.out⟩
end Go.Proofs.Ytlkefifffkhclaa
