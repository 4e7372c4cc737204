/-
  WeighNarrows: the walk.
-/
import Derived.Test.YtncnpodanlhdkaaWNarM
import Derived.Test.YtncnpodanlhdkaaWChd
import Derived.Test.YtncnpodanlhdkaaWAwk
namespace Go.Proofs.Ytncnpodanlhdkaa
set_option linter.all false
open Go.RowKit

theorem scale_any {lo d q : Int} (h1 : 0 ≤ lo ∧ lo ≤ 999999999) (h2 : 0 ≤ d ∧ d ≤ 999999999) (h3 : 0 ≤ q ∧ q ≤ 8) : wrap64 (lo + wrap64 ((wrap64 (d * q)).tdiv 8)) = lo + d * q / 8 ∧ lo ≤ lo + d * q / 8 ∧ lo + d * q / 8 ≤ lo + d := by
  have a1 : 0 ≤ d * q := Int.mul_nonneg h2.1 h3.1
  have a2 : d * q ≤ d * 8 := Int.mul_le_mul_of_nonneg_left h3.2 h2.1
  rw [IntWalk.wrap64_in (d * q) (by omega), Int.tdiv_eq_ediv_of_nonneg a1]
  generalize d * q = x at *
  rw [IntWalk.wrap64_in (x / 8) (by omega), IntWalk.wrap64_in _ (by omega)]
  omega

set_option maxRecDepth 100000 in
set_option maxHeartbeats 16000000 in
theorem narrows_any (S : List (Int × Int)) (T : List Tk) (wh at9 : Nat) (v1 v2 : Value) (W : World) (hb : BookIn W v1 v2 S T) (h1 : wh < 256) (h2 : at9 < 256) :
    Calls Try.prog 10 #[.agg #[v1, v2], .int .u8 wh, .int .u8 at9] W (Ret (.bool true) W) := by
  obtain ⟨p1, c1, rfl, hm1⟩ := hb.stock.shape
  obtain ⟨p2, c2, rfl, hm2⟩ := hb.tickets.shape
  obtain ⟨ns, hns⟩ : ∃ n, n = S.length := ⟨_, rfl⟩
  obtain ⟨nt, hnt⟩ : ∃ n, n = T.length := ⟨_, rfl⟩
  have hm2' : nt ≤ 9223372036854775807 := by rw [hnt]; unfold maxLen at hm2; omega
  obtain ⟨w0, hw0⟩ : ∃ w0, w0 = W.alloc (.cells #[.slice p1 ns c1, .slice p2 nt c2] 25) := ⟨_, rfl⟩
  have hb0 : Below W.heap.size W w0 := by rw [hw0]; exact below_new W _
  have hB0 : Blk w0 W.heap.size #[.slice p1 ns c1, .slice p2 nt c2] 25 := by rw [hw0]; exact Blk.new W _ _
  have HBK := hid (hb.later hb0)
  have HB := hid hb0
  have HBL := hid hB0
  have HW0 := hid hw0
  have HNS := hid hns
  have HNT := hid hnt
  have HAW := hid (fun w => awake_any w)
  have HLI := hid (fun w h => light_any S T (.slice p1 S.length c1) (.slice p2 T.length c2) w h)
  obtain ⟨li, hli⟩ : ∃ li, li = lightF S T := ⟨_, rfl⟩
  rw [← hli] at HLI
  have HL9 := hid hli
  rw [← hns, ← hnt] at HLI HBK
  rw [← hns, ← hnt]
  clear hb hw0 hb0 hB0 hns hnt hm1 hm2 hli
  have b0 := HBL.out.cell (i := 0) rfl
  have b1 := HBL.out.cell (i := 1) rfl
  go_enter Try.func10, Try.ntmps10
  go_wp2_with (rw [← HW0.out])
  refine (HAW.out _).mono ?_
  rintro e w1 ⟨rfl, hb⟩
  have HBK1 := hid (HBK.out.later hb)
  have HB1 := hid (HB.out.trans (hb.mono HB.out.size))
  have HBL1 := hid (HBL.out.later hb HBL.out.lt)
  clear hb b0 b1 HBK HB HBL
  have b0 := HBL1.out.cell (i := 0) rfl
  have b1 := HBL1.out.cell (i := 1) rfl
  go_wp2_with fail
  refine (HLI.out _ (by have h := HBK1.out; exact h)).mono ?_
  rintro e w2 ⟨rfl, hb⟩
  have HBK2 := hid (HBK1.out.later hb)
  have HB2 := hid (HB1.out.trans (hb.mono HB1.out.size))
  have HBL2 := hid (HBL1.out.later hb HBL1.out.lt)
  clear hb b0 b1 HBK1 HB1 HBL1
  have b0 := HBL2.out.cell (i := 0) rfl
  have b1 := HBL2.out.cell (i := 1) rfl
  cases li
  · go_wp2_with fail
    refine (HAW.out _).mono ?_
    rintro e w3 ⟨rfl, hb⟩
    have HB3 := hid (HB2.out.trans (hb.mono HB2.out.size))
    clear hb
    go_wp2_with fail
    go_ret
    exact ⟨rfl, HB3.out⟩
  by_cases hnt0 : nt = 0
  · subst hnt0
    go_wp2_with fail
    refine (HAW.out _).mono ?_
    rintro e w3 ⟨rfl, hb⟩
    have HB3 := hid (HB2.out.trans (hb.mono HB2.out.size))
    clear hb
    go_wp2_with fail
    go_ret
    exact ⟨rfl, HB3.out⟩
  have hne0 : ((nt : Int) == 0) = false := by simp; omega
  obtain ⟨i, hi⟩ : ∃ i, i = wh % nt := ⟨_, rfl⟩
  have hint : i < nt := by rw [hi]; exact Nat.mod_lt _ (by omega)
  have hi9 : (wh : Int) % (nt : Int) = (i : Int) := by rw [hi]; omega
  obtain ⟨t, ht⟩ : ∃ t, T[i]? = some t := ⟨_, List.getElem?_eq_getElem (by rw [← HNT.out]; exact hint)⟩
  have hlt : lightF S T = true := HL9.out.symm
  have hx : bookErr S T = 0 := by unfold lightF at hlt; simp at hlt; exact hlt.2
  have hgood := book_good hx
  have hmt := hgood.mass.mass i t ht
  obtain ⟨ti, ts, td, lo, hh⟩ := t
  dsimp only at hmt
  obtain ⟨q, hq⟩ : ∃ q : Nat, q = at9 % 9 := ⟨_, rfl⟩
  have hq9 : (at9 : Int) % 9 = (q : Int) := by rw [hq]; omega
  have hq8 : q ≤ 8 := by rw [hq]; omega
  obtain ⟨mid, hmid⟩ : ∃ mid : Int, mid = lo + (hh - lo) * (q : Int) / 8 := ⟨_, rfl⟩
  have hsc := scale_any (lo := lo) (d := hh - lo) (q := q) (by omega) (by omega) (by omega)
  rw [← hmid] at hsc
  obtain ⟨hM, hsc⟩ := hsc
  obtain ⟨g, o, c, hv, r0, r1, r2, r3, r4⟩ := (show SlcIn w2 (.slice p2 T.length c2) T.length (T.flatMap tkC) by have h := HBK2.out.tickets; rw [HNT.out] at h; exact h).tkAt ht
  injection hv with e1 e2 e3
  subst e1
  obtain ⟨w3, hw3⟩ : ∃ w3, w3 = w2.alloc (.cells #[.int .i64 lo, .int .i64 hh] 38) := ⟨_, rfl⟩
  have hb3 : Below w2.heap.size w2 w3 := by rw [hw3]; exact below_new w2 _
  have HR3 : Hid (Blk w3 w2.heap.size #[.int .i64 lo, .int .i64 hh] 38) := hid (by rw [hw3]; exact Blk.new w2 _ _)
  have HBK3 := hid (HBK2.out.later hb3)
  have HB3 := hid (HB2.out.trans (hb3.mono HB2.out.size))
  have HBL3 := hid (HBL2.out.later hb3 HBL2.out.lt)
  have HW3 := hid hw3
  have b30 := HBL3.out.cell (i := 0) rfl
  have b31 := HBL3.out.cell (i := 1) rfl
  have c30 := HR3.out.cell (i := 0) rfl
  have c31 := HR3.out.cell (i := 1) rfl
  have HT := hid ht
  have HX := hid hx
  have HGOOD := hid hgood
  have HMT := hid hmt
  have HSC := hid hsc
  have HMID := hid hmid
  have hlo : -1099511627776 ≤ lo ∧ lo ≤ 1099511627776 := by omega
  have hhi : -1099511627776 ≤ hh ∧ hh ≤ 1099511627776 := by omega
  have HCH := hid (changed_any T i ⟨ti, ts, td, lo, hh⟩ lo mid (.slice p1 ns c1) (.slice (some ⟨g, o, none⟩) T.length c2) w3 (by have h := HBK3.out.tickets; rw [HNT.out] at h; exact h) ht (by have := hgood.tks.few; omega) ⟨_, _, _, rfl⟩)
  rw [← HNT.out] at HCH
  have hx' : bookErr S (T.set i ⟨ti, ts, td, lo, mid⟩) = 0 := book_set hx ht (mass_err (by omega))
  have hgood' := book_good hx'
  have hsub : ∀ A, Asg S (T.set i ⟨ti, ts, td, lo, mid⟩) A ↔ Asg S T A ∧ lo ≤ A.getD i 0 ∧ A.getD i 0 ≤ mid := fun A => asg_set hgood hgood' ht (Int.le_refl _) (by dsimp only; omega)
  have HX' := hid hx'
  have HSUB := hid hsub
  obtain ⟨T', hT'⟩ : ∃ T', T' = T.set i ⟨ti, ts, td, lo, mid⟩ := ⟨_, rfl⟩
  have hlen' : T'.length = nt := by rw [hT', List.length_set, HNT.out]
  rw [← hT'] at HCH HX' HSUB
  have HT' := hid hT'
  have HLEN' := hid hlen'
  clear ht hx hgood e2 e3 hlt hi hq hmid hmt hsc hw3 hb3 hx' hgood' hsub hT' hlen'
  go_wp2_with (first | (rw [hi9]) | (rw [hq9]) | (rw [hM]) | (rw [← HW3.out]))
  refine HCH.out.mono ?_
  rintro e w4 ⟨v4, rfl, ho, hb⟩
  obtain ⟨w5, hw5⟩ : ∃ w5, w5 = w4.alloc (.cells #[.slice p1 ns c1, v4] 25) := ⟨_, rfl⟩
  have hb5 : Below w4.heap.size w4 w5 := by rw [hw5]; exact below_new w4 _
  have hb45 : Below w3.heap.size w3 w5 := hb.trans (hb5.mono hb.size)
  have HN5 : Hid (BookIn w5 (.slice p1 ns c1) v4 S T') := hid ⟨(HBK3.out.later hb45).stock, by
    have h := (SlcIn.own ho).later hb5
    rw [HLEN'.out]
    exact h⟩
  have HX5 : Hid (Blk w5 w4.heap.size #[.slice p1 ns c1, v4] 25) := hid (by rw [hw5]; exact Blk.new w4 _ _)
  have HBK5 := hid (HBK3.out.later hb45)
  have HB5 := hid (HB3.out.trans (hb45.mono HB3.out.size))
  have HBL5 := hid (HBL3.out.later hb45 HBL3.out.lt)
  have HR5 := hid (HR3.out.later hb45 HR3.out.lt)
  have HW5 := hid hw5
  obtain ⟨p4, c4, rfl⟩ : ∃ p c, v4 = .slice p nt c := by
    obtain ⟨p, c, h, _⟩ := SlcIn.own ho
    exact ⟨p, c, h⟩
  clear hb hb5 hb45 hw5 ho b30 b31 c30 c31 HBK3 HB3 HBL3 HR3 HCH
  have b0 := HBL5.out.cell (i := 0) rfl
  have b1 := HBL5.out.cell (i := 1) rfl
  rcases tight_cases HX.out with ⟨hn, ht1, _⟩ | ⟨hcs, ⟨L, hL, ht1⟩, _⟩
  · rcases tight_cases HX'.out with ⟨hn2, ht2, _⟩ | ⟨⟨A, hA⟩, _⟩
    rotate_left 1
    · exact absurd ⟨A, ((HSUB.out A).1 hA).1⟩ hn
    have HT1 := hid ht1
    have HT2 := hid ht2
    clear ht1 ht2 hn hn2
    go_wp2_with (rw [← HW5.out])
    refine (HT1.out _ _ _ HBK5.out).mono ?_
    rintro e w6 ⟨rfl, hb⟩
    have HB6 := hid (HB5.out.trans (hb.mono HB5.out.size))
    have HN6 := hid (HN5.out.later hb)
    have HX6 := hid (HX5.out.later hb HX5.out.lt)
    clear hb b0 b1
    have x0 := HX6.out.cell (i := 0) rfl
    have x1 := HX6.out.cell (i := 1) rfl
    go_wp2_with fail
    refine (HT2.out _ _ _ HN6.out).mono ?_
    rintro e w7 ⟨rfl, hb⟩
    have HB7 := hid (HB6.out.trans (hb.mono HB6.out.size))
    clear hb x0 x1
    go_wp2_with fail
    go_ret
    exact ⟨rfl, HB7.out⟩
  · obtain ⟨r, hr⟩ : ∃ r, L[i]? = some r := ⟨_, List.getElem?_eq_getElem (by rw [hL.len, ← HNT.out]; exact hint)⟩
    have hends := hL.ends i r hr
    obtain ⟨la, lb⟩ := r
    have hin : lo ≤ la ∧ la ≤ lb ∧ lb ≤ hh := by
      obtain ⟨A, a1, a2⟩ := hends.low
      obtain ⟨B, b1, b2⟩ := hends.high
      have f1 := fits_get ((asg_iff HGOOD.out).1 a1).1 (rgT_get HT.out)
      have f2 := fits_get ((asg_iff HGOOD.out).1 b1).1 (rgT_get HT.out)
      have f3 := hends.all A a1
      dsimp only at a2 b2 f1 f2 f3
      omega
    have hmt := HMT.out
    obtain ⟨inn, hinn⟩ : ∃ inn : Int, inn = la + (lb - la) * (q : Int) / 8 := ⟨_, rfl⟩
    have hsc2 := scale_any (lo := la) (d := lb - la) (q := q) (by omega) (by omega) (by omega)
    rw [← hinn] at hsc2
    obtain ⟨hM2, hsc2⟩ := hsc2
    have hbt := fun lo9 hi9 (hm9 : massErr lo9 hi9 = 0) => book_good (book_set HX.out HT.out hm9)
    obtain ⟨A9, hA9, hA9i⟩ := asg_between HGOOD.out HT.out hends (show la ≤ inn by omega) (show inn ≤ lb by omega) hbt
    have hx2 : bookErr S (T.set i ⟨ti, ts, td, inn, inn⟩) = 0 := book_set HX.out HT.out (mass_err (by omega))
    have hc2 : Cons S (T.set i ⟨ti, ts, td, inn, inn⟩) := ⟨A9, (asg_set HGOOD.out (book_good hx2) HT.out (by dsimp only; omega) (by dsimp only; omega)).2 ⟨hA9, by omega, by omega⟩⟩
    have hisc : ∀ v1 v2 W, BookIn W v1 v2 S (T.set i ⟨ti, ts, td, inn, inn⟩) → Calls Try.prog 14 #[.agg #[v1, v2]] W (Ret (.tuple #[.bool true, .int .i64 0]) W) := by
      rcases tight_cases hx2 with ⟨hn, _⟩ | ⟨_, _, h⟩
      · exact absurd hc2 hn
      · exact h
    have HISC := hid hisc
    have HCH := hid (fun w (h : SlcIn w (.slice (some ⟨g, o, none⟩) nt c2) T.length (T.flatMap tkC)) => changed_any T i ⟨ti, ts, td, lo, hh⟩ inn inn (.slice p1 ns c1) (.slice (some ⟨g, o, none⟩) nt c2) w h HT.out (by have := HGOOD.out.tks.few; omega) ⟨_, _, _, rfl⟩)
    have hiff : Cons S T' ↔ la ≤ mid := by
      constructor
      · rintro ⟨A, hA⟩
        obtain ⟨h1, h2, h3⟩ := (HSUB.out A).1 hA
        have := hends.all A h1
        dsimp only at this
        omega
      · intro h
        obtain ⟨A, a1, a2⟩ := hends.low
        dsimp only at a2
        exact ⟨A, (HSUB.out A).2 ⟨a1, by omega, by omega⟩⟩
    have HIFF := hid hiff
    have HENDS := hid hends
    have HL := hid hL
    have HLR := hid hr
    have HT1 := hid ht1
    have HIN := hid hin
    have hla : -1099511627776 ≤ la ∧ la ≤ 1099511627776 := by omega
    have hlb : -1099511627776 ≤ lb ∧ lb ≤ 1099511627776 := by omega
    have g1 : decide (la < lo) = false := decide_eq_false (by omega)
    have g2 : decide (hh < lb) = false := decide_eq_false (by omega)
    clear hr hends hmt hinn hsc2 hbt hA9 hA9i hx2 hc2 hisc hiff hL ht1 hcs hin
    go_wp2_with (rw [← HW5.out])
    refine (HT1.out _ _ _ HBK5.out).mono ?_
    rintro e w6 ⟨v6, rfl, ho, hb⟩
    have hLn : L.length = nt := by rw [HL.out.len, HNT.out]
    obtain ⟨g6, c6, rfl, hg6⟩ := row_some ho (by omega)
    rw [hLn] at ho
    have HO6 := hid ho
    have HB6 := hid (HB5.out.trans (hb.mono HB5.out.size))
    have HN6 := hid (HN5.out.later hb)
    have HX6 := hid (HX5.out.later hb HX5.out.lt)
    have HBK6 := hid (HBK5.out.later hb)
    have HBL6 := hid (HBL5.out.later hb HBL5.out.lt)
    have HR6 := hid (HR5.out.later hb (by have := HR5.out.lt; omega))
    have HLN := hid hLn
    rw [hLn]
    clear hb b0 b1 ho hg6 hLn
    have x0 := HX6.out.cell (i := 0) rfl
    have x1 := HX6.out.cell (i := 1) rfl
    rcases tight_cases HX'.out with ⟨hn2, ht2, _⟩ | ⟨hc2, ⟨U, hU, ht2⟩, _⟩
    · have HT2 := hid ht2
      have hml : ¬ la ≤ mid := fun h => hn2 (HIFF.out.2 h)
      have g3 : decide (la ≤ mid) = false := decide_eq_false hml
      clear ht2 hn2 hml
      go_wp2_with fail
      refine (HT2.out _ _ _ HN6.out).mono ?_
      rintro e w7 ⟨rfl, hb⟩
      have HB7 := hid (HB6.out.trans (hb.mono HB6.out.size))
      have HBK7 := hid (HBK6.out.later hb)
      have HBL7 := hid (HBL6.out.later hb HBL6.out.lt)
      have HR7 := hid (HR6.out.later hb HR6.out.lt)
      have HO7 := hid (ownsRow_later HO6.out hb)
      obtain ⟨c60, c61⟩ : w7.cell? ⟨g6, i * 2, none⟩ = some (.int .i64 la) ∧ w7.cell? ⟨g6, i * 2 + 1, none⟩ = some (.int .i64 lb) := ⟨by rw [HO7.out.cellAt (i * 2) (by omega)]; exact rg_get L i _ HLR.out 0 _ rfl, by rw [HO7.out.cellAt (i * 2 + 1) (by omega)]; exact rg_get L i _ HLR.out 1 _ rfl⟩
      have b0 := HBL7.out.cell (i := 0) rfl
      have b1 := HBL7.out.cell (i := 1) rfl
      have q0 := HR7.out.cell (i := 0) rfl
      have q1 := HR7.out.cell (i := 1) rfl
      clear hb x0 x1
      go_wp2_with fail
      go_quiet (first | (rw [hq9]))
      rw [hM2]
      obtain ⟨w8, hw8⟩ : ∃ w8, w8 = w7.drewN nq := ⟨_, rfl⟩
      have hb8 : Below w7.heap.size w7 w8 := by rw [hw8]; exact ⟨rfl, rfl, rfl, Nat.le_refl _, fun _ _ => rfl⟩
      rw [← hw8]
      have HB8 := hid (HB7.out.trans (hb8.mono HB7.out.size))
      have HBK8 := hid (HBK7.out.later hb8)
      have HBL8 := hid (HBL7.out.later hb8 HBL7.out.lt)
      have HR8 := hid (HR7.out.later hb8 HR7.out.lt)
      have HO8 := hid (ownsRow_later HO7.out hb8)
      clear hb8 hw8 b0 b1 q0 q1 c60 c61 HB7 HBK7 HBL7 HR7 HO7 HB6 HBK6 HBL6 HR6 HO6 HN6 HX6
      have b0 := HBL8.out.cell (i := 0) rfl
      have b1 := HBL8.out.cell (i := 1) rfl
      go_wp2_with fail
      refine (HCH.out w8 (by have h := HBK8.out.tickets; rw [HNT.out] at h; rw [HNT.out]; exact h)).mono ?_
      rintro e w9 ⟨v9, rfl, ho, hb⟩
      have hb8s := HB8.out.size
      have HN9 : Hid (BookIn w9 (.slice p1 ns c1) v9 S (T.set i ⟨ti, ts, td, inn, inn⟩)) := hid ⟨(HBK8.out.later hb).stock, by
        have h := SlcIn.own ho
        rw [List.length_set]
        exact h⟩
      have HB9 := hid (HB8.out.trans (hb.mono HB8.out.size))
      have HBK9 := hid (HBK8.out.later hb)
      have HBL9 := hid (HBL8.out.later hb HBL8.out.lt)
      have HR9 := hid (HR8.out.later hb HR8.out.lt)
      have HO9 := hid (ownsRow_later HO8.out hb)
      clear hb ho b0 b1 HB8 HBK8 HBL8 HR8 HO8
      go_wp2_with fail
      refine (HISC.out _ _ _ HN9.out).mono ?_
      rintro e w10 ⟨rfl, hb⟩
      have HB10 := hid (HB9.out.trans (hb.mono HB9.out.size))
      have HBK10 := hid (HBK9.out.later hb)
      have HBL10 := hid (HBL9.out.later hb HBL9.out.lt)
      have HR10 := hid (HR9.out.later hb HR9.out.lt)
      have HO10 := hid (ownsRow_later HO9.out hb)
      clear hb HB9 HBK9 HBL9 HR9 HO9 HN9 HISC HCH
      obtain ⟨c60, c61⟩ : w10.cell? ⟨g6, i * 2, none⟩ = some (.int .i64 la) ∧ w10.cell? ⟨g6, i * 2 + 1, none⟩ = some (.int .i64 lb) := ⟨by rw [HO10.out.cellAt (i * 2) (by omega)]; exact rg_get L i _ HLR.out 0 _ rfl, by rw [HO10.out.cellAt (i * 2 + 1) (by omega)]; exact rg_get L i _ HLR.out 1 _ rfl⟩
      have b0 := HBL10.out.cell (i := 0) rfl
      have b1 := HBL10.out.cell (i := 1) rfl
      have q0 := HR10.out.cell (i := 0) rfl
      have q1 := HR10.out.cell (i := 1) rfl
      go_wp2_with fail
      go_quiet (fail)
      go_wp2_with fail
      go_ret
      exact ⟨rfl, ⟨HB10.out.os, HB10.out.tape, HB10.out.output, HB10.out.size, HB10.out.block⟩⟩
    · have hml : la ≤ mid := HIFF.out.1 hc2
      have g3 : decide (la ≤ mid) = true := decide_eq_true hml
      have hbt := fun lo9 hi9 (hm9 : massErr lo9 hi9 = 0) => book_good (book_set HX.out HT.out hm9)
      have hin := HIN.out
      have hends := HENDS.out
      obtain ⟨Am, hAm, hAmi⟩ := asg_between HGOOD.out HT.out hends (show la ≤ min mid lb by omega) (show min mid lb ≤ lb by omega) hbt
      have hTn : T'.length = T.length := by rw [HLEN'.out, HNT.out]
      have hUn : U.length = nt := by rw [hU.len, HLEN'.out]
      obtain ⟨u, hu⟩ : ∃ u, U[i]? = some u := ⟨_, List.getElem?_eq_getElem (by rw [hUn]; exact hint)⟩
      obtain ⟨ua, ub⟩ := u
      have hub : ub = min mid lb := by
        have e1 := (hU.ends i _ hu).all Am ((HSUB.out Am).2 ⟨hAm, by omega, by omega⟩)
        obtain ⟨B, b1, b2⟩ := (hU.ends i _ hu).high
        obtain ⟨c1, c2, c3⟩ := (HSUB.out B).1 b1
        have e2 := hends.all B c1
        dsimp only at e1 b2 e2
        omega
      have HNA := hid (tight_narrow HL.out hU hTn (fun A hA => ((HSUB.out A).1 hA).1))
      have HUB := hid hub
      have HUI := hid hu
      have HUN := hid hUn
      have HT2 := hid ht2
      clear ht2 hc2 hml hbt hin hends hAm hAmi hTn hUn hu hub hU
      go_wp2_with fail
      refine (HT2.out _ _ _ HN6.out).mono ?_
      rintro e w7 ⟨v7, rfl, ho, hb⟩
      obtain ⟨g7, c7, rfl, hg7⟩ := row_some ho (by rw [HUN.out]; omega)
      rw [HUN.out] at ho ⊢
      have HB7 := hid (HB6.out.trans (hb.mono HB6.out.size))
      have HBK7 := hid (HBK6.out.later hb)
      have HBL7 := hid (HBL6.out.later hb HBL6.out.lt)
      have HR7 := hid (HR6.out.later hb HR6.out.lt)
      have HO7 := hid (ownsRow_later HO6.out hb)
      have HU7 := hid ho
      obtain ⟨c60, c61⟩ : w7.cell? ⟨g6, i * 2, none⟩ = some (.int .i64 la) ∧ w7.cell? ⟨g6, i * 2 + 1, none⟩ = some (.int .i64 lb) := ⟨by rw [HO7.out.cellAt (i * 2) (by omega)]; exact rg_get L i _ HLR.out 0 _ rfl, by rw [HO7.out.cellAt (i * 2 + 1) (by omega)]; exact rg_get L i _ HLR.out 1 _ rfl⟩
      have b0 := HBL7.out.cell (i := 0) rfl
      have b1 := HBL7.out.cell (i := 1) rfl
      have q0 := HR7.out.cell (i := 0) rfl
      have q1 := HR7.out.cell (i := 1) rfl
      clear hb x0 x1 ho hg7
      go_wp2_with fail
      go_quiet (first | (rw [hq9]))
      rw [hM2]
      obtain ⟨w8, hw8⟩ : ∃ w8, w8 = w7.drewN nq := ⟨_, rfl⟩
      have hb8 : Below w7.heap.size w7 w8 := by rw [hw8]; exact ⟨rfl, rfl, rfl, Nat.le_refl _, fun _ _ => rfl⟩
      rw [← hw8]
      have HB8 := hid (HB7.out.trans (hb8.mono HB7.out.size))
      have HBK8 := hid (HBK7.out.later hb8)
      have HBL8 := hid (HBL7.out.later hb8 HBL7.out.lt)
      have HR8 := hid (HR7.out.later hb8 HR7.out.lt)
      have HO8 := hid (ownsRow_later HO7.out hb8)
      have HU8 := hid (ownsRow_later HU7.out hb8)
      clear hb8 hw8 b0 b1 q0 q1 c60 c61 HB7 HBK7 HBL7 HR7 HO7 HU7 HB6 HBK6 HBL6 HR6 HO6 HN6 HX6
      have b0 := HBL8.out.cell (i := 0) rfl
      have b1 := HBL8.out.cell (i := 1) rfl
      go_wp2_with fail
      refine (HCH.out w8 (by have h := HBK8.out.tickets; rw [HNT.out] at h; rw [HNT.out]; exact h)).mono ?_
      rintro e w9 ⟨v9, rfl, ho, hb⟩
      have hb8s := HB8.out.size
      have HN9 : Hid (BookIn w9 (.slice p1 ns c1) v9 S (T.set i ⟨ti, ts, td, inn, inn⟩)) := hid ⟨(HBK8.out.later hb).stock, by
        have h := SlcIn.own ho
        rw [List.length_set]
        exact h⟩
      have HB9 := hid (HB8.out.trans (hb.mono HB8.out.size))
      have HBK9 := hid (HBK8.out.later hb)
      have HBL9 := hid (HBL8.out.later hb HBL8.out.lt)
      have HR9 := hid (HR8.out.later hb HR8.out.lt)
      have HO9 := hid (ownsRow_later HO8.out hb)
      have HU9 := hid (ownsRow_later HU8.out hb)
      clear hb ho b0 b1 HB8 HBK8 HBL8 HR8 HO8 HU8
      go_wp2_with fail
      refine (HISC.out _ _ _ HN9.out).mono ?_
      rintro e w10 ⟨rfl, hb⟩
      have HB10 := hid (HB9.out.trans (hb.mono HB9.out.size))
      have HBK10 := hid (HBK9.out.later hb)
      have HBL10 := hid (HBL9.out.later hb HBL9.out.lt)
      have HR10 := hid (HR9.out.later hb HR9.out.lt)
      have HO10 := hid (ownsRow_later HO9.out hb)
      have HU10 := hid (ownsRow_later HU9.out hb)
      clear hb HB9 HBK9 HBL9 HR9 HO9 HU9 HN9 HISC HCH
      obtain ⟨c60, c61⟩ : w10.cell? ⟨g6, i * 2, none⟩ = some (.int .i64 la) ∧ w10.cell? ⟨g6, i * 2 + 1, none⟩ = some (.int .i64 lb) := ⟨by rw [HO10.out.cellAt (i * 2) (by omega)]; exact rg_get L i _ HLR.out 0 _ rfl, by rw [HO10.out.cellAt (i * 2 + 1) (by omega)]; exact rg_get L i _ HLR.out 1 _ rfl⟩
      have b0 := HBL10.out.cell (i := 0) rfl
      have b1 := HBL10.out.cell (i := 1) rfl
      have q0 := HR10.out.cell (i := 0) rfl
      have q1 := HR10.out.cell (i := 1) rfl
      go_wp2_with fail
      go_quiet (fail)
      obtain ⟨w11, hw11⟩ : ∃ w11, w11 = w10.drewN nq := ⟨_, rfl⟩
      have hb11 : Below w10.heap.size w10 w11 := by rw [hw11]; exact ⟨rfl, rfl, rfl, Nat.le_refl _, fun _ _ => rfl⟩
      rw [← hw11]
      have HB11 := hid (HB10.out.trans (hb11.mono HB10.out.size))
      have HO11 := hid (ownsRow_later HO10.out hb11)
      have HU11 := hid (ownsRow_later HU10.out hb11)
      clear hb11 hw11 b0 b1 q0 q1 c60 c61 HB10 HBK10 HBL10 HR10 HO10 HU10
      go_wp2_with fail
      go_loopw [18] (fun u wr => ∃ k : Nat, k ≤ nt ∧ u = .int .i64 k ∧ Hid (Below w11.heap.size w11 wr)) (fun u _ => nt - (intOf u).toNat)
      case atStart => exact ⟨0, Nat.zero_le _, rfl, hid (Below.refl _ _)⟩
      case round =>
        obtain ⟨k, hk, rfl, HBR⟩ := hrel
        have HOr := hid (ownsRow_later HO11.out HBR.out)
        have HUr := hid (ownsRow_later HU11.out HBR.out)
        have HBD : Hid (∀ q, Below w11.heap.size w11 (wr.drewN q)) := hid (fun q => ⟨HBR.out.os, HBR.out.tape, HBR.out.output, HBR.out.size, HBR.out.block⟩)
        by_cases hlt : k < nt
        · obtain ⟨x, hx⟩ : ∃ x, L[k]? = some x := ⟨_, List.getElem?_eq_getElem (by rw [HLN.out]; exact hlt)⟩
          obtain ⟨y, hy⟩ : ∃ y, U[k]? = some y := ⟨_, List.getElem?_eq_getElem (by rw [HUN.out]; exact hlt)⟩
          obtain ⟨xa, xb⟩ := x
          obtain ⟨ya, yb⟩ := y
          have hna := HNA.out k _ _ hx hy
          dsimp only at hna
          have n1 : decide (ya < xa) = false := decide_eq_false (by omega)
          have n2 : decide (xb < yb) = false := decide_eq_false (by omega)
          have n3 : decide (yb < ya) = false := decide_eq_false (by omega)
          obtain ⟨c60, c61⟩ : wr.cell? ⟨g6, k * 2, none⟩ = some (.int .i64 xa) ∧ wr.cell? ⟨g6, k * 2 + 1, none⟩ = some (.int .i64 xb) := ⟨by rw [HOr.out.cellAt (k * 2) (by omega)]; exact rg_get L k _ hx 0 _ rfl, by rw [HOr.out.cellAt (k * 2 + 1) (by omega)]; exact rg_get L k _ hx 1 _ rfl⟩
          obtain ⟨c70, c71⟩ : wr.cell? ⟨g7, k * 2, none⟩ = some (.int .i64 ya) ∧ wr.cell? ⟨g7, k * 2 + 1, none⟩ = some (.int .i64 yb) := ⟨by rw [HUr.out.cellAt (k * 2) (by omega)]; exact rg_get U k _ hy 0 _ rfl, by rw [HUr.out.cellAt (k * 2 + 1) (by omega)]; exact rg_get U k _ hy 1 _ rfl⟩
          clear hx hy hna
          go_wp2_with fail
          go_quiet (fail)
          go_wp2_with fail
          go_roundw
          case rel => exact ⟨k + 1, by omega, by go_num, hid (HBD.out _)⟩
          case measure => simp [intOf]; omega
        · have hkn : k = nt := by omega
          subst hkn
          have hub := HUB.out
          subst hub
          obtain ⟨c60, c61⟩ : wr.cell? ⟨g6, i * 2, none⟩ = some (.int .i64 la) ∧ wr.cell? ⟨g6, i * 2 + 1, none⟩ = some (.int .i64 lb) := ⟨by rw [HOr.out.cellAt (i * 2) (by omega)]; exact rg_get L i _ HLR.out 0 _ rfl, by rw [HOr.out.cellAt (i * 2 + 1) (by omega)]; exact rg_get L i _ HLR.out 1 _ rfl⟩
          obtain ⟨c70, c71⟩ : wr.cell? ⟨g7, i * 2, none⟩ = some (.int .i64 ua) ∧ wr.cell? ⟨g7, i * 2 + 1, none⟩ = some (.int .i64 (min mid lb)) := ⟨by rw [HUr.out.cellAt (i * 2) (by omega)]; exact rg_get U i _ HUI.out 0 _ rfl, by rw [HUr.out.cellAt (i * 2 + 1) (by omega)]; exact rg_get U i _ HUI.out 1 _ rfl⟩
          go_wp2_with fail
          go_quiet (fail)
          go_wp2_with fail
          go_ret
          exact ⟨by simp, HB11.out.trans ((HBD.out _).mono HB11.out.size)⟩
end Go.Proofs.Ytncnpodanlhdkaa
