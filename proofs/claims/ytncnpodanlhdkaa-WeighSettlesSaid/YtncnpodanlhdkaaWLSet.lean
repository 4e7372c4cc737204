/-
  WeighSettles: the walk.
-/
import Derived.Test.YtncnpodanlhdkaaWSetM
import Derived.Test.YtncnpodanlhdkaaWRefNum
import Derived.Test.YtncnpodanlhdkaaWRanges
import Derived.Test.YtncnpodanlhdkaaWChd
import Derived.Test.YtncnpodanlhdkaaWAwk
namespace Go.Proofs.Ytncnpodanlhdkaa
set_option linter.all false
open Go.RowKit

/-- A row of the call's own, empty so far, to which the tickets of a book are appended: none, or some. -/
theorem step_app_tk0 {ops : Array Oper} {o : Oper} {a : Act} {K : Act → World → Prop} {Q : Exit → Act → World → Prop} {E : Prop} (hgd : o.guard = none) (s x : Operand)
    (ho : o.op = .call { callee := .builtin .append, args := #[s, x], argTypes := #[23, 23] })
    (W : World) (base : Nat) (g0 : Nat) (T : List Tk) (vx : Value) (hs : a.eval s = .slice (some ⟨g0, 0, none⟩) 0 0) (hown : W.ownsRow base 59 5 (.slice (some ⟨g0, 0, none⟩) 0 0) 0 []) (hbase : base ≤ W.heap.size)
    (hx : a.eval x = vx) (hM : SlcIn W vx T.length (T.flatMap tkC)) (h1 : T.length ≤ 1000)
    (h : ∀ p' c' w', w'.ownsRow base 59 5 (.slice p' T.length c') T.length (T.flatMap tkC) → Below base W w' → (∀ k, k < W.heap.size → g0 ≠ k → w'.heap[k]? = W.heap[k]?) → W.heap.size ≤ w'.heap.size → K (a.put o.dst (.slice p' T.length c')) w') :
    if Region.wanted o (yielded ops a.tmps) = true then Oper.wp Try.prog o a W K Q else E := by
  obtain ⟨i0, g0', g1, g2, g3⟩ := info_parts info_tk
  have hw : Region.wanted o (yielded ops a.tmps) = true := by simp [Region.wanted, hgd]
  rw [if_pos hw]
  obtain ⟨p, c, rfl, h2, h3, h4⟩ := hM
  rcases p with _ | ad
  · have hT : T = [] := by
      rcases h4 with h4 | ⟨_, _, h4, _⟩
      · exact List.length_eq_zero_iff.1 h4
      · cases h4
    subst hT
    have hrun : (Builtin.append_ #[23, 23] o.type #[.slice (some ⟨g0, 0, none⟩) 0 0, .slice none 0 c]).run Try.prog W = .ok (.slice (some ⟨g0, 0, none⟩) 0 0) W := by
      simp [Builtin.append_, run_underlying (P := Try.prog) (show Try.prog.underlying 23 = some (.slice 59) by kernel_rfl), sizeOf, typeInfo, g0', Builtin.lenOf, Builtin.firstCells, storeCells]
    unfold Oper.wp
    simp [execOp, ho, resolve, invoke, builtin, hs, hx, hrun, Result.andThen]
    exact h _ _ W hown (Below.refl _ _) (fun _ _ _ => rfl) (Nat.le_refl _)
  · refine wp_append_own W s x 23 ho base 59 i0 _ 5 48 (by kernel_rfl) g0' g1 g2 g3 rfl (by decide) _ 0 [] hs hown ad T.length c (T.flatMap tkC) hx (tk_flat_len T) (fun j u hu => ?_) (tk_flat_one T) (by unfold maxLen; omega) (by omega) hbase ?_
    · rcases h4 with h4 | ⟨g, o2, h4, h5⟩
      · rw [List.length_eq_zero_iff.1 h4] at hu; simp at hu
      · rw [Option.some.inj h4, Addr.add_lit]; exact h5 j u hu
    · intro v' w' ho' hg _
      rw [Nat.zero_add, List.nil_append] at ho'
      obtain ⟨p', c', rfl, _⟩ := SlcIn.own ho'
      exact h p' c' w' ho' (grown_base hown hg hbase) (fun k hk hne => hg.block k hk (fun e => hne (Option.some.inj e).symm)) hg.size
theorem row_blk2 {w : World} {base bb n c size : Nat} {p : Option Addr} {e t : TypeId} {xs : List Value} {cs : Array Value} (h : w.ownsRow base e size (.slice p n c) n xs) (hx : Blk w bb cs t) (ht : e ≠ t) (he : Value.ownBlock (.slice p n c) = some bb) : False := by
  obtain ⟨_, h2⟩ := h
  rcases h2 with ⟨h2, _⟩ | ⟨g2, cap, cur, h3, h4, h5, _⟩
  · injection h2 with h2 _ _; subst h2; cases he
  · injection h3 with h3 _ _
    subst h3
    have he := Option.some.inj he
    dsimp only at he
    unfold Blk at hx
    rw [← he, h5] at hx
    injection hx with hx
    injection hx with _ hx _
    exact ht hx
/-- Behind the append: a new book, whose tickets lie in a row of the call's own. -/
structure AppAt (w4 : World) (v1 : Value) (n : Nat) (cs : List Value) (bb : Nat) (v5 : Value) (wx : World) : Prop where
  box : Blk wx bb #[v1, v5] 25
  row : wx.ownsRow w4.heap.size 59 5 v5 n cs
  ne : v5.ownBlock ≠ some bb
  ge : w4.heap.size ≤ bb
  old : Below w4.heap.size w4 wx

set_option maxRecDepth 100000 in
set_option maxHeartbeats 16000000 in
theorem settles_any (S : List (Int × Int)) (T : List Tk) (P : List Int) (v1 v2 v3 : Value) (W : World) (hb : BookIn W v1 v2 S T) (hj : SlcIn W v3 P.length (P.map (Value.int .i64))) :
    Calls Try.prog 11 #[.agg #[v1, v2], v3] W (Ret (.bool true) W) := by
  obtain ⟨p1, c1, rfl, hm1⟩ := hb.stock.shape
  obtain ⟨p2, c2, rfl, hm2⟩ := hb.tickets.shape
  obtain ⟨p3, c3, rfl, hm3⟩ := hj.shape
  obtain ⟨ns, hns⟩ : ∃ n, n = S.length := ⟨_, rfl⟩
  obtain ⟨nt, hnt⟩ : ∃ n, n = T.length := ⟨_, rfl⟩
  obtain ⟨np, hnp⟩ : ∃ n, n = P.length := ⟨_, rfl⟩
  have hm2' : nt ≤ 9223372036854775807 := by rw [hnt]; unfold maxLen at hm2; omega
  have hm3' : np ≤ 9223372036854775807 := by rw [hnp]; unfold maxLen at hm3; omega
  obtain ⟨w0, hw0⟩ : ∃ w0, w0 = W.alloc (.cells #[.slice p1 ns c1, .slice p2 nt c2] 25) := ⟨_, rfl⟩
  have hb0 : Below W.heap.size W w0 := by rw [hw0]; exact below_new W _
  have hB0 : Blk w0 W.heap.size #[.slice p1 ns c1, .slice p2 nt c2] 25 := by rw [hw0]; exact Blk.new W _ _
  have HBK := hid (hb.later hb0)
  have HJ := hid (hj.later hb0)
  have HB := hid hb0
  have HBL := hid hB0
  have HW0 := hid hw0
  have HNS := hid hns
  have HNT := hid hnt
  have HNP := hid hnp
  have HAW := hid (fun w => awake_any w)
  have HLI := hid (fun w h => light_any S T (.slice p1 S.length c1) (.slice p2 T.length c2) w h)
  have HNU := hid (fun w h => refNums_any P (S.length : Int) (.slice p3 P.length c3) w h)
  obtain ⟨li, hli⟩ : ∃ li, li = lightF S T := ⟨_, rfl⟩
  obtain ⟨y, hy⟩ : ∃ y, y = numsErr P S.length := ⟨_, rfl⟩
  rw [← hli] at HLI
  rw [← hy] at HNU
  have HL9 := hid hli
  have HY9 := hid hy
  rw [← hns, ← hnt] at HLI HBK
  rw [← hnp] at HJ
  rw [← hns, ← hnp] at HNU
  rw [← hns, ← hnt, ← hnp]
  clear hb hj hw0 hb0 hB0 hns hnt hnp hm1 hm2 hm3 hli hy
  have b0 := HBL.out.cell (i := 0) rfl
  have b1 := HBL.out.cell (i := 1) rfl
  go_enter Try.func11, Try.ntmps11
  go_wp2_with (rw [← HW0.out])
  refine (HAW.out _).mono ?_
  rintro e w1 ⟨rfl, hb⟩
  have HBK1 := hid (HBK.out.later hb)
  have HJ1 := hid (HJ.out.later hb)
  have HB1 := hid (HB.out.trans (hb.mono HB.out.size))
  have HBL1 := hid (HBL.out.later hb HBL.out.lt)
  clear hb b0 b1 HBK HB HBL HJ
  have b0 := HBL1.out.cell (i := 0) rfl
  have b1 := HBL1.out.cell (i := 1) rfl
  go_wp2_with fail
  refine (HLI.out _ (by have h := HBK1.out; exact h)).mono ?_
  rintro e w2 ⟨rfl, hb⟩
  have HBK2 := hid (HBK1.out.later hb)
  have HJ2 := hid (HJ1.out.later hb)
  have HB2 := hid (HB1.out.trans (hb.mono HB1.out.size))
  have HBL2 := hid (HBL1.out.later hb HBL1.out.lt)
  clear hb b0 b1 HBK1 HB1 HBL1 HJ1
  have b0 := HBL2.out.cell (i := 0) rfl
  have b1 := HBL2.out.cell (i := 1) rfl
  cases li
  · go_wp2_with fail
    refine (HAW.out _).mono ?_
    rintro e w3 ⟨rfl, hb⟩
    have HB3 := hid (HB2.out.trans (hb.mono HB2.out.size))
    clear hb
    go_wp2_with fail
    go_ret
    exact ⟨rfl, HB3.out⟩
  go_wp2_with fail
  refine (HNU.out _ (by have h := HJ2.out; rw [HNP.out] at h ⊢; exact h)).mono ?_
  rintro e w3 ⟨rfl, hb⟩
  have HBK3 := hid (HBK2.out.later hb)
  have HJ3 := hid (HJ2.out.later hb)
  have HB3 := hid (HB2.out.trans (hb.mono HB2.out.size))
  have HBL3 := hid (HBL2.out.later hb HBL2.out.lt)
  clear hb b0 b1 HBK2 HB2 HBL2 HJ2
  have b0 := HBL3.out.cell (i := 0) rfl
  have b1 := HBL3.out.cell (i := 1) rfl
  by_cases hy0 : y = 0
  rotate_left 1
  · have hz : (y != 0) = true := by simpa using hy0
    go_wp2_with fail
    refine (HAW.out _).mono ?_
    rintro e w4 ⟨rfl, hb⟩
    have HB4 := hid (HB3.out.trans (hb.mono HB3.out.size))
    clear hb
    go_wp2_with fail
    go_ret
    exact ⟨rfl, HB4.out⟩
  subst hy0
  have hlt : lightF S T = true := HL9.out.symm
  have hx : bookErr S T = 0 := by unfold lightF at hlt; simp at hlt; exact hlt.2
  have hfew : S.length ≤ 6 ∧ T.length ≤ 8 := by unfold lightF at hlt; simp at hlt; exact hlt.1
  have HX := hid hx
  have HFEW := hid hfew
  rcases tight_cases hx with ⟨hn, ht1, _⟩ | ⟨hcs, ⟨L, hL, ht1⟩, _⟩
  · have HT1 := hid ht1
    clear ht1 hn hx hlt hfew
    go_wp2_with fail
    refine (HT1.out _ _ _ HBK3.out).mono ?_
    rintro e w4 ⟨rfl, hb⟩
    have HB4 := hid (HB3.out.trans (hb.mono HB3.out.size))
    clear hb b0 b1
    go_wp2_with fail
    go_ret
    exact ⟨rfl, HB4.out⟩
  have HT1 := hid ht1
  have HL := hid hL
  have HCS := hid hcs
  have HPUT := hid (putL_what hx hL hcs T.length (Nat.le_refl _))
  have hnt8 : nt ≤ 8 := by rw [HNT.out]; exact hfew.2
  have hns6 : ns ≤ 6 := by rw [HNS.out]; exact hfew.1
  clear ht1 hL hcs hx hlt hfew
  go_wp2_with fail
  refine (HT1.out _ _ _ HBK3.out).mono ?_
  rintro e w4 ⟨v4, rfl, ho, hb⟩
  have hLn : L.length = nt := by rw [HL.out.len, HNT.out]
  rw [hLn] at ho
  have HO4 := hid ho
  have HB4 := hid (HB3.out.trans (hb.mono HB3.out.size))
  have HBK4 := hid (HBK3.out.later hb)
  have HJ4 := hid (HJ3.out.later hb)
  have HBL4 := hid (HBL3.out.later hb HBL3.out.lt)
  have HLN := hid hLn
  obtain ⟨p4, c4, rfl⟩ : ∃ p c, v4 = .slice p nt c := by
    obtain ⟨p, c, h, _⟩ := SlcIn.own ho
    exact ⟨p, c, h⟩
  clear hb b0 b1 ho hLn HBK3 HB3 HBL3 HJ3
  have b0 := HBL4.out.cell (i := 0) rfl
  have b1 := HBL4.out.cell (i := 1) rfl
  go_wp2_with fail
  go_cut [7] (fun s7 wx => ∃ (bb : Nat) (p5 : Option Addr) (c5 : Nat), s7 = .pointer (some ⟨bb, 0, none⟩) ∧ Hid (AppAt w4 (.slice p1 ns c1) nt (T.flatMap tkC) bb (.slice p5 nt c5) wx))
  case first =>
    have HS : Hid (Blk w4.drew W.heap.size #[.slice p1 ns c1, .slice p2 nt c2] 25) := hid HBL4.out
    have hge4 : W.heap.size < w4.heap.size := HBL4.out.lt
    have HSL : Hid (∀ w', Below w4.heap.size w4 w' → SlcIn w' (.slice p2 T.length c2) T.length (T.flatMap tkC)) := hid (fun w' h => by have h2 := (HBK4.out.later h).tickets; rw [HNT.out] at h2; exact h2)
    refine region_held (fun w' => Blk w' W.heap.size #[.slice p1 ns c1, .slice p2 nt c2] 25) (by kernel_rfl) ?_
    refine' tkw 0 (v := .pointer (some ⟨W.heap.size, 0, none⟩)) rfl (by kernel_rfl) (by kernel_rfl) HS.out (fun _ _ _ h => h) (fun w' hS => by have q0 := hS.cell (i := 0) rfl; have q1 := hS.cell (i := 1) rfl; clear hS; go_simp; (try with_reducible rfl)) ?_
    refine' tkw 1 (v := .slice p1 ns c1) rfl (by kernel_rfl) (by kernel_rfl) HS.out (fun _ _ _ h => h) (fun w' hS => by have q0 := hS.cell (i := 0) rfl; have q1 := hS.cell (i := 1) rfl; clear hS; go_simp; (try with_reducible rfl)) ?_
    refine' tkw 3 (v := .pointer (some ⟨W.heap.size, 1, none⟩)) rfl (by kernel_rfl) (by kernel_rfl) HS.out (fun _ _ _ h => h) (fun w' hS => by have q0 := hS.cell (i := 0) rfl; have q1 := hS.cell (i := 1) rfl; clear hS; go_simp; (try with_reducible rfl)) ?_
    refine' tkw 4 (v := .slice p2 nt c2) rfl (by kernel_rfl) (by kernel_rfl) HS.out (fun _ _ _ h => h) (fun w' hS => by have q0 := hS.cell (i := 0) rfl; have q1 := hS.cell (i := 1) rfl; clear hS; go_simp; (try with_reducible rfl)) ?_
    try simp only [Act.put, List.setIfInBounds_toArray, List.set_cons_zero, List.set_cons_succ]
    refine wpAnyH_ready (rs := [2, 7]) (by kernel_rfl) (by simp) ?_
    refine AllReadyH.cons rfl (fun K hK => ?_) (AllReadyH.cons rfl (fun K hK => ?_) AllReadyH.nil)
    · go_simp
      have HBc : Hid (Below w4.heap.size w4 (w4.drew.alloc (.cells #[] 59))) := hid ((Below.refl _ _).drew.alloc (Nat.le_refl _) _)
      have HOW : Hid (World.ownsRow (w4.drew.alloc (.cells #[] 59)) w4.heap.size 59 5 (.slice (some ⟨w4.heap.size, 0, none⟩) 0 0) 0 []) := hid (World.ownsRow_made w4.drew #[] 0 (Nat.le_refl _) (Nat.zero_le _) rfl)
      have HS2 := hid (HS.out.alloc (.cells #[] 59))
      refine hK.out _ _ HS2.out (fun hHeld => ?_)
      clear hK hHeld
      try simp only [Act.put, List.setIfInBounds_toArray, List.set_cons_zero, List.set_cons_succ]
      refine wpAnyH_ready (rs := [5, 7]) (by kernel_rfl) (by simp) ?_
      refine AllReadyH.cons rfl (fun K hK => ?_) (AllReadyH.cons rfl (fun K hK => ?_) AllReadyH.nil)
      · refine step_app_tk0 (by rfl) _ _ (by rfl) _ w4.heap.size (w4.heap.size) T (.slice p2 T.length c2) (by rfl) (HOW.out) (by first | omega | (simp; (try omega))) (by rw [← HNT.out]; rfl) (HSL.out _ HBc.out) (by rw [← HNT.out]; omega) ?_
        intro p5 c5 w5 ho hb hk hsz
        rw [← HNT.out] at ho ⊢
        have HO5 := hid ho
        have HB5 := hid (HBc.out.trans (hb.mono (Nat.le_refl _)))
        have HS5 : Hid (Blk w5 W.heap.size #[.slice p1 ns c1, .slice p2 nt c2] 25) := hid ((hk _ HS2.out.lt (by omega)).trans HS2.out)
        have HSZ : Hid (w4.heap.size + 1 ≤ w5.heap.size) := hid (by (try simp at hsz); omega)
        clear ho hb hk hsz
        go_simp
        refine hK.out _ _ HS5.out (fun hHeld => ?_)
        clear hK hHeld
        try simp only [Act.put, List.setIfInBounds_toArray, List.set_cons_zero, List.set_cons_succ]
        refine' tkw 6 (v := .agg #[.slice p1 ns c1, (.slice p5 nt c5)]) rfl (by kernel_rfl) (by kernel_rfl) HS5.out (fun _ _ _ h => h) (fun w' hS => by clear hS; go_simp; (try with_reducible rfl)) ?_
        try simp only [Act.put, List.setIfInBounds_toArray, List.set_cons_zero, List.set_cons_succ]
        refine wpAnyH_ready (rs := [7]) (by kernel_rfl) (by simp) ?_
        refine AllReadyH.cons rfl (fun K hK => ?_) AllReadyH.nil
        go_simp
        obtain ⟨bb, hbb⟩ : ∃ bb, bb = w5.heap.size := ⟨_, rfl⟩
        obtain ⟨w7, hw7⟩ : ∃ w7, w7 = w5.alloc (.cells #[.slice none 0 0, .slice none 0 0] 25) := ⟨_, rfl⟩
        have HX7 : Hid (Blk w7 bb #[.slice none 0 0, .slice none 0 0] 25) := hid (by rw [hw7]; exact Blk_newn _ _ _ hbb)
        have HO7 : Hid (w7.ownsRow w4.heap.size 59 5 (.slice p5 nt c5) nt (T.flatMap tkC)) := hid (by rw [hw7]; exact World.ownsRow.alloc HO5.out _)
        have HS7 : Hid (Blk w7 W.heap.size #[.slice p1 ns c1, .slice p2 nt c2] 25) := hid (by rw [hw7]; exact HS5.out.alloc _)
        have HB7 : Hid (Below w4.heap.size w4 w7) := hid (by rw [hw7]; exact HB5.out.alloc HB5.out.size _)
        have HBB : Hid (w4.heap.size ≤ bb) := hid (by have := HSZ.out; omega)
        have HNE : Hid (Value.ownBlock (.slice p5 nt c5) ≠ some bb) := hid (fun e => by have := (HO5.out.lt bb e).2; omega)
        rw [← hw7, ← hbb]
        refine hK.out _ _ HS7.out (fun hHeld => ?_)
        clear hK hHeld hw7 hbb
        try simp only [Act.put, List.setIfInBounds_toArray, List.set_cons_zero, List.set_cons_succ]
        refine wpAnyH_ready (rs := [8]) (by kernel_rfl) (by simp) ?_
        refine AllReadyH.cons rfl (fun K hK => ?_) AllReadyH.nil
        have t0 := HX7.out.cell (i := 0) rfl
        have t1 := HX7.out.cell (i := 1) rfl
        have y0 := HX7.out.froz 0
        have y1 := HX7.out.froz 1
        go_simp
        have HX8 := hid ((HX7.out.set 0 (.slice p1 ns c1)).set 1 (.slice p5 nt c5))
        have HO8 := hid (own_set (own_set HO7.out (a := bb) (j := 0) (u := .slice p1 ns c1) (fun k hk e => HNE.out (by rw [← e]; exact hk))) (a := bb) (j := 1) (u := (.slice p5 nt c5)) (fun k hk e => HNE.out (by rw [← e]; exact hk)))
        have HS8 := hid ((HS7.out.setOther (k := bb) 0 (.slice p1 ns c1) (by have := HBB.out; omega)).setOther (k := bb) 1 (.slice p5 nt c5) (by have := HBB.out; omega))
        have HB8 := hid ((HB7.out.setCell (p := ⟨bb, 0, none⟩) (by have := HBB.out; simp; (try omega)) (.slice p1 ns c1)).setCell (p := ⟨bb, 1, none⟩) (by have := HBB.out; simp; (try omega)) (.slice p5 nt c5))
        refine hK.out _ _ HS8.out (fun hHeld => ?_)
        clear hK hHeld t0 t1 y0 y1
        try simp only [Act.put, List.setIfInBounds_toArray, List.set_cons_zero, List.set_cons_succ]
        refine wpAnyH_done (by kernel_rfl) ?_ _
        go_wp2_with fail
        go_meet
        exact ⟨bb, p5, c5, rfl, hid ⟨HX8.out, HO8.out, HNE.out, HBB.out, HB8.out⟩⟩
      · go_simp
        have HOWB : Hid (((w4.alloc (.cells #[] 59)).alloc (.cells #[.slice none 0 0, .slice none 0 0] 25)).ownsRow w4.heap.size 59 5 (.slice (some ⟨w4.heap.size, 0, none⟩) 0 0) 0 []) := hid (World.ownsRow.alloc (World.ownsRow_made w4 #[] 0 (Nat.le_refl _) (Nat.zero_le _) rfl) _)
        obtain ⟨w6, hw6⟩ : ∃ w6, w6 = ((w4.alloc (.cells #[] 59)).alloc (.cells #[.slice none 0 0, .slice none 0 0] 25)).drew := ⟨_, rfl⟩
        have HS2 : Hid (Blk w6 W.heap.size #[.slice p1 ns c1, .slice p2 nt c2] 25) := hid (by rw [hw6]; exact ((HBL4.out.alloc _).alloc _).drew)
        have HBc : Hid (Below w4.heap.size w4 w6) := hid (by rw [hw6]; exact (((Below.refl _ _).alloc (Nat.le_refl _) _).alloc (by rw [World.size_alloc]; omega) _).drew)
        have hz6 : w6.heap.size = w4.heap.size + 1 + 1 := by rw [hw6]; show ((w4.alloc _).alloc _).heap.size = _; rw [World.size_alloc, World.size_alloc]
        have HX2 : Hid (Blk w6 (w4.heap.size + 1) #[.slice none 0 0, .slice none 0 0] 25) := hid (by rw [hw6]; exact (Blk_newn _ _ _ (by rw [World.size_alloc])).drew)
        have HOW2 : Hid (w6.ownsRow w4.heap.size 59 5 (.slice (some ⟨w4.heap.size, 0, none⟩) 0 0) 0 []) := hid (by rw [hw6]; exact HOWB.out)
        rw [← hw6]
        refine hK.out _ _ HS2.out (fun hHeld => ?_)
        clear hK hHeld hw6
        try simp only [Act.put, List.setIfInBounds_toArray, List.set_cons_zero, List.set_cons_succ]
        refine wpAnyH_ready (rs := [5]) (by kernel_rfl) (by simp) ?_
        refine AllReadyH.cons rfl (fun K hK => ?_) AllReadyH.nil
        refine step_app_tk0 (by rfl) _ _ (by rfl) _ w4.heap.size (w4.heap.size) T (.slice p2 T.length c2) (by rfl) (HOW2.out) (by first | omega | (simp; (try omega))) (by rw [← HNT.out]; rfl) (HSL.out _ HBc.out) (by rw [← HNT.out]; omega) ?_
        intro p5 c5 w5 ho hb hk hsz
        rw [← HNT.out] at ho ⊢
        have HO5 := hid ho
        have HB5 := hid (HBc.out.trans (hb.mono (Nat.le_refl _)))
        have HS5 : Hid (Blk w5 W.heap.size #[.slice p1 ns c1, .slice p2 nt c2] 25) := hid ((hk _ HS2.out.lt (by omega)).trans HS2.out)
        have HSZ : Hid (w4.heap.size + 1 ≤ w5.heap.size) := hid (by (try simp at hsz); omega)
        have HX7 : Hid (Blk w5 (w4.heap.size + 1) #[.slice none 0 0, .slice none 0 0] 25) := hid ((hk _ HX2.out.lt (by omega)).trans HX2.out)
        clear ho hb hk hsz
        go_simp
        refine hK.out _ _ HS5.out (fun hHeld => ?_)
        clear hK hHeld
        try simp only [Act.put, List.setIfInBounds_toArray, List.set_cons_zero, List.set_cons_succ]
        refine' tkw 6 (v := .agg #[.slice p1 ns c1, (.slice p5 nt c5)]) rfl (by kernel_rfl) (by kernel_rfl) HS5.out (fun _ _ _ h => h) (fun w' hS => by clear hS; go_simp; (try with_reducible rfl)) ?_
        try simp only [Act.put, List.setIfInBounds_toArray, List.set_cons_zero, List.set_cons_succ]
        refine wpAnyH_ready (rs := [8]) (by kernel_rfl) (by simp) ?_
        refine AllReadyH.cons rfl (fun K hK => ?_) AllReadyH.nil
        have HO7 := HO5
        have HS7 := HS5
        have HB7 := HB5
        have HBB : Hid (w4.heap.size ≤ w4.heap.size + 1) := hid (by omega)
        have HNE : Hid (Value.ownBlock (.slice p5 nt c5) ≠ some (w4.heap.size + 1)) := hid (fun e => row_blk2 HO5.out HX7.out (by decide) e)
        have t0 := HX7.out.cell (i := 0) rfl
        have t1 := HX7.out.cell (i := 1) rfl
        have y0 := HX7.out.froz 0
        have y1 := HX7.out.froz 1
        go_simp
        have HX8 := hid ((HX7.out.set 0 (.slice p1 ns c1)).set 1 (.slice p5 nt c5))
        have HO8 := hid (own_set (own_set HO7.out (a := w4.heap.size + 1) (j := 0) (u := .slice p1 ns c1) (fun k hk e => HNE.out (by rw [← e]; exact hk))) (a := w4.heap.size + 1) (j := 1) (u := (.slice p5 nt c5)) (fun k hk e => HNE.out (by rw [← e]; exact hk)))
        have HS8 := hid ((HS7.out.setOther (k := w4.heap.size + 1) 0 (.slice p1 ns c1) (by have := HBB.out; omega)).setOther (k := w4.heap.size + 1) 1 (.slice p5 nt c5) (by have := HBB.out; omega))
        have HB8 := hid ((HB7.out.setCell (p := ⟨w4.heap.size + 1, 0, none⟩) (by have := HBB.out; simp; (try omega)) (.slice p1 ns c1)).setCell (p := ⟨w4.heap.size + 1, 1, none⟩) (by have := HBB.out; simp; (try omega)) (.slice p5 nt c5))
        refine hK.out _ _ HS8.out (fun hHeld => ?_)
        clear hK hHeld t0 t1 y0 y1
        try simp only [Act.put, List.setIfInBounds_toArray, List.set_cons_zero, List.set_cons_succ]
        refine wpAnyH_done (by kernel_rfl) ?_ _
        go_wp2_with fail
        go_meet
        exact ⟨w4.heap.size + 1, p5, c5, rfl, hid ⟨HX8.out, HO8.out, HNE.out, HBB.out, HB8.out⟩⟩
    · go_simp
      refine hK.out _ _ (HS.out.alloc _) (fun hHeld => ?_)
      clear hK hHeld
      try simp only [Act.put, List.setIfInBounds_toArray, List.set_cons_zero, List.set_cons_succ]
      refine wpAnyH_ready (rs := [2]) (by kernel_rfl) (by simp) ?_
      refine AllReadyH.cons rfl (fun K hK => ?_) AllReadyH.nil
      go_simp
      have HOWC : Hid (((w4.alloc (.cells #[.slice none 0 0, .slice none 0 0] 25)).alloc (.cells #[] 59)).ownsRow w4.heap.size 59 5 (.slice (some ⟨w4.heap.size + 1, 0, none⟩) 0 0) 0 []) := hid (by have h := World.ownsRow_made (e := 59) (size := 5) (w4.alloc (.cells #[.slice none 0 0, .slice none 0 0] 25)) #[] 0 (Nat.le_refl _) (Nat.zero_le _) rfl; rw [World.size_alloc] at h; exact h.mono (Nat.le_succ _))
      obtain ⟨w6, hw6⟩ : ∃ w6, w6 = ((w4.alloc (.cells #[.slice none 0 0, .slice none 0 0] 25)).alloc (.cells #[] 59)).drew := ⟨_, rfl⟩
      have HS2 : Hid (Blk w6 W.heap.size #[.slice p1 ns c1, .slice p2 nt c2] 25) := hid (by rw [hw6]; exact ((HBL4.out.alloc _).alloc _).drew)
      have HBc : Hid (Below w4.heap.size w4 w6) := hid (by rw [hw6]; exact (((Below.refl _ _).alloc (Nat.le_refl _) _).alloc (by rw [World.size_alloc]; omega) _).drew)
      have hz6 : w6.heap.size = w4.heap.size + 1 + 1 := by rw [hw6]; show ((w4.alloc _).alloc _).heap.size = _; rw [World.size_alloc, World.size_alloc]
      have HX2 : Hid (Blk w6 w4.heap.size #[.slice none 0 0, .slice none 0 0] 25) := hid (by rw [hw6]; exact ((Blk_newn _ _ _ rfl).alloc _).drew)
      have HOW2 : Hid (w6.ownsRow w4.heap.size 59 5 (.slice (some ⟨w4.heap.size + 1, 0, none⟩) 0 0) 0 []) := hid (by rw [hw6]; exact HOWC.out)
      rw [← hw6]
      refine hK.out _ _ HS2.out (fun hHeld => ?_)
      clear hK hHeld hw6
      try simp only [Act.put, List.setIfInBounds_toArray, List.set_cons_zero, List.set_cons_succ]
      refine wpAnyH_ready (rs := [5]) (by kernel_rfl) (by simp) ?_
      refine AllReadyH.cons rfl (fun K hK => ?_) AllReadyH.nil
      refine step_app_tk0 (by rfl) _ _ (by rfl) _ w4.heap.size (w4.heap.size + 1) T (.slice p2 T.length c2) (by rfl) (HOW2.out) (by first | omega | (simp; (try omega))) (by rw [← HNT.out]; rfl) (HSL.out _ HBc.out) (by rw [← HNT.out]; omega) ?_
      intro p5 c5 w5 ho hb hk hsz
      rw [← HNT.out] at ho ⊢
      have HO5 := hid ho
      have HB5 := hid (HBc.out.trans (hb.mono (Nat.le_refl _)))
      have HS5 : Hid (Blk w5 W.heap.size #[.slice p1 ns c1, .slice p2 nt c2] 25) := hid ((hk _ HS2.out.lt (by omega)).trans HS2.out)
      have HSZ : Hid (w4.heap.size + 1 ≤ w5.heap.size) := hid (by (try simp at hsz); omega)
      have HX7 : Hid (Blk w5 (w4.heap.size) #[.slice none 0 0, .slice none 0 0] 25) := hid ((hk _ HX2.out.lt (by omega)).trans HX2.out)
      clear ho hb hk hsz
      go_simp
      refine hK.out _ _ HS5.out (fun hHeld => ?_)
      clear hK hHeld
      try simp only [Act.put, List.setIfInBounds_toArray, List.set_cons_zero, List.set_cons_succ]
      refine' tkw 6 (v := .agg #[.slice p1 ns c1, (.slice p5 nt c5)]) rfl (by kernel_rfl) (by kernel_rfl) HS5.out (fun _ _ _ h => h) (fun w' hS => by clear hS; go_simp; (try with_reducible rfl)) ?_
      try simp only [Act.put, List.setIfInBounds_toArray, List.set_cons_zero, List.set_cons_succ]
      refine wpAnyH_ready (rs := [8]) (by kernel_rfl) (by simp) ?_
      refine AllReadyH.cons rfl (fun K hK => ?_) AllReadyH.nil
      have HO7 := HO5
      have HS7 := HS5
      have HB7 := HB5
      have HBB : Hid (w4.heap.size ≤ w4.heap.size) := hid (by omega)
      have HNE : Hid (Value.ownBlock (.slice p5 nt c5) ≠ some (w4.heap.size)) := hid (fun e => row_blk2 HO5.out HX7.out (by decide) e)
      have t0 := HX7.out.cell (i := 0) rfl
      have t1 := HX7.out.cell (i := 1) rfl
      have y0 := HX7.out.froz 0
      have y1 := HX7.out.froz 1
      go_simp
      have HX8 := hid ((HX7.out.set 0 (.slice p1 ns c1)).set 1 (.slice p5 nt c5))
      have HO8 := hid (own_set (own_set HO7.out (a := w4.heap.size) (j := 0) (u := .slice p1 ns c1) (fun k hk e => HNE.out (by rw [← e]; exact hk))) (a := w4.heap.size) (j := 1) (u := (.slice p5 nt c5)) (fun k hk e => HNE.out (by rw [← e]; exact hk)))
      have HS8 := hid ((HS7.out.setOther (k := w4.heap.size) 0 (.slice p1 ns c1) (by have := HBB.out; omega)).setOther (k := w4.heap.size) 1 (.slice p5 nt c5) (by have := HBB.out; omega))
      have HB8 := hid ((HB7.out.setCell (p := ⟨w4.heap.size, 0, none⟩) (by have := HBB.out; simp; (try omega)) (.slice p1 ns c1)).setCell (p := ⟨w4.heap.size, 1, none⟩) (by have := HBB.out; simp; (try omega)) (.slice p5 nt c5))
      refine hK.out _ _ HS8.out (fun hHeld => ?_)
      clear hK hHeld t0 t1 y0 y1
      try simp only [Act.put, List.setIfInBounds_toArray, List.set_cons_zero, List.set_cons_succ]
      refine wpAnyH_done (by kernel_rfl) ?_ _
      go_wp2_with fail
      go_meet
      exact ⟨w4.heap.size, p5, c5, rfl, hid ⟨HX8.out, HO8.out, HNE.out, HBB.out, HB8.out⟩⟩
  case rest =>
    obtain ⟨bb, p5, c5, rfl, HAPP⟩ := hcut
    clear b0 b1
    go_wp2_with fail
    go_loopw [8] (fun u wr => ∃ k : Nat, k ≤ nt ∧ u = .int .i64 k ∧ Hid (AppAt w4 (.slice p1 ns c1) nt ((putL T L k).flatMap tkC) bb (.slice p5 nt c5) wr)) (fun u _ => nt - (intOf u).toNat)
    case atStart => exact ⟨0, Nat.zero_le _, rfl, HAPP⟩
    case round =>
      clear HAPP
      obtain ⟨k, hk, rfl, HAT⟩ := hrel
      by_cases hlt : k < nt
      · obtain ⟨g5, cc5, hv5, hg5⟩ := row_some HAT.out.row (by omega)
        injection hv5 with e1 e2 e3
        subst e1
        obtain ⟨g4, cc4, hv4, hg4⟩ := row_some HO4.out (by omega)
        injection hv4 with f1 f2 f3
        subst f1
        have ht := List.getElem?_eq_getElem (l := T) (i := k) (by rw [← HNT.out]; exact hlt)
        obtain ⟨r, hr⟩ : ∃ r, L[k]? = some r := ⟨_, List.getElem?_eq_getElem (by rw [HLN.out]; exact hlt)⟩
        generalize T[k] = t at ht
        have ht2 : (putL T L k)[k]? = some t := by rw [putL_rest T L k k (Nat.le_refl _)]; exact ht
        have hput : putL T L (k + 1) = (putL T L k).set k ⟨t.id, t.src, t.dst, r.1, r.2⟩ := by
          show (putL T L k).set k _ = _
          rw [show T.getD k noTk = t by rw [List.getD_eq_getElem?_getD, ht]; rfl, show L.getD k (0, 0) = r by rw [List.getD_eq_getElem?_getD, hr]; rfl]
        obtain ⟨ra, rb⟩ := r
        have HWF : Hid ((((putL T L k).flatMap tkC).set (k * 5 + 3) (.int .i64 ra)).set (k * 5 + 4) (.int .i64 rb) = (putL T L (k + 1)).flatMap tkC) := hid (by rw [hput]; exact tk_range _ k t ra rb ht2)
        have hlen5 : ((putL T L k).flatMap tkC).length = nt * 5 := by rw [tk_flat_len, putL_len, ← HNT.out]
        obtain ⟨u3, hu3⟩ : ∃ u, ((putL T L k).flatMap tkC)[k * 5 + 3]? = some u := ⟨_, List.getElem?_eq_getElem (by omega)⟩
        obtain ⟨u4, hu4⟩ : ∃ u, ((putL T L k).flatMap tkC)[k * 5 + 4]? = some u := ⟨_, List.getElem?_eq_getElem (by omega)⟩
        have HG5 : Hid (g5 ≠ bb ∧ w4.heap.size ≤ g5) := hid ⟨fun e => HAT.out.ne (by rw [e]; rfl), hg5⟩
        have k3 := (HAT.out.row.cellAt (k * 5 + 3) (by omega)).trans hu3
        have k4 := (HAT.out.row.cellAt (k * 5 + 4) (by omega)).trans hu4
        have y3 := HAT.out.row.frozenAt (k * 5 + 3)
        have y4 := HAT.out.row.frozenAt (k * 5 + 4)
        have x1 := HAT.out.box.cell (i := 1) rfl
        have HO4r := ownsRow_later HO4.out HAT.out.old
        have l0 : wr.cell? ⟨g4, k * 2, none⟩ = some (.int .i64 ra) := by rw [HO4r.cellAt (k * 2) (by omega)]; exact rg_get L k _ hr 0 _ rfl
        have l1 : wr.cell? ⟨g4, k * 2 + 1, none⟩ = some (.int .i64 rb) := by rw [HO4r.cellAt (k * 2 + 1) (by omega)]; exact rg_get L k _ hr 1 _ rfl
        have HNEW : Hid (AppAt w4 (.slice p1 ns c1) nt ((putL T L (k + 1)).flatMap tkC) bb (.slice (some ⟨g5, 0, none⟩) nt c5) ((wr.drew.setCell ⟨g5, k * 5 + 3, none⟩ (.int .i64 ra)).setCell ⟨g5, k * 5 + 4, none⟩ (.int .i64 rb))) := hid ⟨(HAT.out.box.drew.setOther _ _ (Ne.symm HG5.out.1)).setOther _ _ (Ne.symm HG5.out.1), by
            have h := ((World.ownsRow.stored (w := wr.drew) HAT.out.row (k * 5 + 3) (.int .i64 ra)).1.stored (k * 5 + 4) (.int .i64 rb)).1
            rw [HWF.out] at h
            exact h, HAT.out.ne, HAT.out.ge, (HAT.out.old.drew.setCell (p := ⟨g5, k * 5 + 3, none⟩) HG5.out.2 _).setCell (p := ⟨g5, k * 5 + 4, none⟩) HG5.out.2 _⟩
        clear e2 e3 f2 f3 ht hr ht2 hput hu3 hu4 hg5 hg4 hlen5 HO4r HWF
        go_wp2_with fail
        refine region_tail 9 (by kernel_rfl) (by kernel_rfl) ?_
        simp only [List.take_succ_cons, List.take_zero, List.drop_succ_cons, List.drop_zero]
        repeat still_step
        try refine wpStill_nil ?_
        go_wp2_with fail
        go_roundw
        case rel => exact ⟨k + 1, by omega, by go_num, HNEW⟩
        case measure => simp [intOf]; omega
      · have hkn : nt = k := by omega
        subst hkn
        obtain ⟨T2, hT2⟩ : ∃ T2, T2 = putL T L nt := ⟨_, rfl⟩
        have hput := HPUT.out
        rw [← HNT.out, ← hT2] at hput
        obtain ⟨hx2, hgeo2, hiff⟩ := hput
        rw [← hT2] at HAT
        have hlen2 : T2.length = nt := by rw [hT2, putL_len, HNT.out]
        have hlen2' : T2.length = T.length := by rw [hlen2, HNT.out]
        have hc2 : Cons S T2 := by
          obtain ⟨A, hA⟩ := HCS.out
          exact ⟨A, (hiff A).2 hA⟩
        have ht2 : ∀ v1 v2 W, BookIn W v1 v2 S T2 → Calls Try.prog 15 #[.agg #[v1, v2]] W (TightPost W L) := by
          rcases tight_cases hx2 with ⟨hn, _⟩ | ⟨_, ⟨U, hU, h⟩, _⟩
          · exact absurd hc2 hn
          · have e := tight_same hlen2' hiff HL.out hU
            rw [e] at h
            exact h
        have hy := HY9.out.symm
        obtain ⟨lo, hi, f, hends, hch, hch2⟩ : ∃ lo hi f, EndsOf S T (fun A => gainF T A P T.length) (lo, hi) ∧
            (∀ v1 v2 v3 W, BookIn W v1 v2 S T → SlcIn W v3 P.length (P.map (Value.int .i64)) → Calls Try.prog 20 #[.agg #[v1, v2], v3] W (Ret (.tuple #[.agg #[.int .i64 (if f = (0 : Int) then lo else 0), .int .i64 (if f = (0 : Int) then hi else 0)], .int .i64 f]) W)) ∧
            (∀ v1 v2 v3 W, BookIn W v1 v2 S T2 → SlcIn W v3 P.length (P.map (Value.int .i64)) → Calls Try.prog 20 #[.agg #[v1, v2], v3] W (Ret (.tuple #[.agg #[.int .i64 (if f = (0 : Int) then lo else 0), .int .i64 (if f = (0 : Int) then hi else 0)], .int .i64 f]) W)) ∧ (f = 0 ∨ f = 4) := by
          rcases change_cases HX.out hy with ⟨hn, _⟩ | ⟨_, lo, hi, he, hc⟩
          · exact absurd HCS.out hn
          rcases change_cases hx2 hy with ⟨hn, _⟩ | ⟨_, lo2, hi2, he2, hc3⟩
          · exact absurd hc2 hn
          have he3 : EndsOf S T (fun A => gainF T A P T.length) (lo2, hi2) := ends_cong hiff (he2.cong fun A hA => gain_same (book_good HX.out) (book_good hx2) hlen2' hgeo2 hy (by rw [hA.1, hlen2']))
          have heq := he.one he3
          injection heq with q1 q2
          subst q1
          subst q2
          rcases hc with ⟨d1, d2, hc⟩ | ⟨d, hc⟩
          · rcases hc3 with ⟨_, _, hc3⟩ | ⟨d3, _⟩
            · exact ⟨lo, hi, 0, he, hc, hc3, .inl rfl⟩
            · rcases d3 with d3 | d3
              · rw [d1] at d3; cases d3
              · rw [d2] at d3; cases d3
          · rcases hc3 with ⟨d1, d2, _⟩ | ⟨_, hc3⟩
            · rcases d with d | d
              · rw [d1] at d; cases d
              · rw [d2] at d; cases d
            · exact ⟨lo, hi, 4, he, hc, hc3, .inr rfl⟩
        obtain ⟨hch2, hf⟩ := hch2
        have hshort := nums_short hy
        have hwithin := fun A hA => gain_within (A := A) (book_good HX.out) hy hA
        have hord : lo ≤ hi ∧ sumP (fun p => (S.getD p (0, 0)).1) P P.length ≤ lo ∧ hi ≤ sumP (fun p => (S.getD p (0, 0)).2) P P.length := by
          obtain ⟨A, a1, a2⟩ := hends.low
          obtain ⟨B, b1, b2⟩ := hends.high
          have c1 := hends.all A a1
          have c2 := hwithin A a1
          have c3 := hwithin B b1
          dsimp only at a2 b2 c1
          omega
        have HBK5 : Hid (BookIn wr (.slice p1 ns c1) (.slice p5 nt c5) S T2) := hid ⟨(HBK4.out.later HAT.out.old).stock, by
          have h := SlcIn.own HAT.out.row
          rw [hlen2]
          exact h⟩
        have HBKb := hid (HBK4.out.later HAT.out.old)
        have HJb := hid (HJ4.out.later HAT.out.old)
        have HBLb := hid (HBL4.out.later HAT.out.old HBL4.out.lt)
        have HOb := hid (ownsRow_later HO4.out HAT.out.old)
        have HBb := hid (HB4.out.trans (HAT.out.old.mono HB4.out.size))
        have HXb := hid HAT.out.box
        have hbb : bb < wr.heap.size := HAT.out.box.lt
        obtain ⟨xa, hxa⟩ : ∃ xa, xa = if f = (0 : Int) then lo else 0 := ⟨_, rfl⟩
        obtain ⟨xb, hxb⟩ : ∃ xb, xb = if f = (0 : Int) then hi else 0 := ⟨_, rfl⟩
        rw [← hxa, ← hxb] at hch hch2
        have HXAB : Hid (f = 0 → xa = lo ∧ xb = hi) := hid (fun h => by rw [hxa, hxb, if_pos h, if_pos h]; exact ⟨rfl, rfl⟩)
        have HT2 := hid ht2
        have HCH := hid hch
        have HCH2 := hid hch2
        have HORD := hid hord
        have HSH := hid hshort
        have HGOOD := hid (book_good HX.out)
        clear hx2 hgeo2 hiff hlen2 hlen2' hc2 ht2 hy hends hch hch2 hshort hwithin hord hT2 HAT hlt hk hxa hxb
        have x0 := HXb.out.cell (i := 0) rfl
        have x1 := HXb.out.cell (i := 1) rfl
        go_wp2_with fail
        refine (HT2.out _ _ _ HBK5.out).mono ?_
        rintro e w6 ⟨v6, rfl, ho, hb⟩
        rw [HLN.out] at ho
        have HO6 := hid (SlcIn.own ho)
        have HBK6 := hid (HBK5.out.later hb)
        have HBKc := hid (HBKb.out.later hb)
        have HJc := hid (HJb.out.later hb)
        have HBLc := hid (HBLb.out.later hb HBLb.out.lt)
        have HOc := hid (ownsRow_later HOb.out hb)
        have HBc := hid (HBb.out.trans (hb.mono HBb.out.size))
        have HXc := hid (HXb.out.later hb HXb.out.lt)
        obtain ⟨p6, c6, rfl⟩ : ∃ p c, v6 = .slice p nt c := by
          obtain ⟨p, c, h, _⟩ := SlcIn.own ho
          exact ⟨p, c, h⟩
        clear hb x0 x1 ho HBKb HJb HBLb HOb HBb HXb HBK5
        have b0 := HBLc.out.cell (i := 0) rfl
        have b1 := HBLc.out.cell (i := 1) rfl
        go_wp2_with fail
        refine (HCH.out _ _ _ _ HBKc.out (by have h := HJc.out; rw [HNP.out] at h ⊢; exact h)).mono ?_
        rintro e w7 ⟨rfl, hb⟩
        obtain ⟨w8, hw8⟩ : ∃ w8, w8 = w7.alloc (.cells #[.int .i64 xa, .int .i64 xb] 38) := ⟨_, rfl⟩
        have hb8 : Below w6.heap.size w6 w8 := hb.trans (by rw [hw8]; exact (below_new w7 _).mono hb.size)
        have HQ8 : Hid (Blk w8 w7.heap.size #[.int .i64 xa, .int .i64 xb] 38) := hid (by rw [hw8]; exact Blk.new w7 _ _)
        have HW8 := hid hw8
        have HBK8 := hid (HBK6.out.later hb8)
        have HBKd := hid (HBKc.out.later hb8)
        have HJd := hid (HJc.out.later hb8)
        have HBLd := hid (HBLc.out.later hb8 HBLc.out.lt)
        have HOd := hid (ownsRow_later HOc.out hb8)
        have HO8 := hid (HO6.out.later hb8)
        have HBd := hid (HBc.out.trans (hb8.mono HBc.out.size))
        have HXd := hid (HXc.out.later hb8 HXc.out.lt)
        clear hb hb8 hw8 b0 b1 HBKc HJc HBLc HOc HBc HXc HBK6 HO6
        have x0 := HXd.out.cell (i := 0) rfl
        have x1 := HXd.out.cell (i := 1) rfl
        go_wp2_with (rw [← HW8.out])
        refine (HCH2.out _ _ _ _ HBK8.out (by have h := HJd.out; rw [HNP.out] at h ⊢; exact h)).mono ?_
        rintro e w9 ⟨rfl, hb⟩
        obtain ⟨w10, hw10⟩ : ∃ w10, w10 = w9.alloc (.cells #[.int .i64 xa, .int .i64 xb] 38) := ⟨_, rfl⟩
        have hb10 : Below w8.heap.size w8 w10 := hb.trans (by rw [hw10]; exact (below_new w9 _).mono hb.size)
        have HR10 : Hid (Blk w10 w9.heap.size #[.int .i64 xa, .int .i64 xb] 38) := hid (by rw [hw10]; exact Blk.new w9 _ _)
        have HQ10 := hid (HQ8.out.later hb10 HQ8.out.lt)
        have HW10 := hid hw10
        have HBKe := hid (HBKd.out.later hb10)
        have HJe := hid (HJd.out.later hb10)
        have HBLe := hid (HBLd.out.later hb10 HBLd.out.lt)
        have HOe := hid (ownsRow_later HOd.out hb10)
        have HO10 := hid (HO8.out.later hb10)
        have HBe := hid (HBd.out.trans (hb10.mono HBd.out.size))
        clear hb hb10 hw10 x0 x1 HBKd HJd HBLd HOd HBd HXd HBK8 HO8 HQ8
        have HRG := hid (ranges_ok L (.slice p6 nt c6) (.slice p4 nt c4) w10 (by rw [HLN.out]; exact HO10.out) (by rw [HLN.out]; exact SlcIn.own HOe.out))
        clear HCH HCH2 HT2
        rcases hf with rfl | rfl
        rotate_left 1
        · go_wp2_with (first | (rw [← HW10.out]) | (go_at_call 17; (with_reducible refine (HRG.out).mono ?_); rintro e w11 ⟨rfl, hb⟩; have HQ11 := hid (HQ10.out.later hb HQ10.out.lt); have HR11 := hid (HR10.out.later hb HR10.out.lt); have HBK11 := hid (HBKe.out.later hb); have HJ11 := hid (HJe.out.later hb); have HBL11 := hid (HBLe.out.later hb HBLe.out.lt); have HB11 := hid (HBe.out.trans (hb.mono HBe.out.size)); have q0 := HQ11.out.cell (i := 0) rfl; have q1 := HQ11.out.cell (i := 1) rfl; have r0 := HR11.out.cell (i := 0) rfl; have r1 := HR11.out.cell (i := 1) rfl; clear hb))
          go_ret
          exact ⟨rfl, HB11.out⟩
        · obtain ⟨rfl, rfl⟩ := HXAB.out rfl
          go_wp2_with (first | (rw [← HW10.out]) | (go_at_call 17; (with_reducible refine (HRG.out).mono ?_); rintro e w11 ⟨rfl, hb⟩; have HQ11 := hid (HQ10.out.later hb HQ10.out.lt); have HR11 := hid (HR10.out.later hb HR10.out.lt); have HBK11 := hid (HBKe.out.later hb); have HJ11 := hid (HJe.out.later hb); have HBL11 := hid (HBLe.out.later hb HBLe.out.lt); have HB11 := hid (HBe.out.trans (hb.mono HBe.out.size)); have q0 := HQ11.out.cell (i := 0) rfl; have q1 := HQ11.out.cell (i := 1) rfl; have r0 := HR11.out.cell (i := 0) rfl; have r1 := HR11.out.cell (i := 1) rfl; clear hb))
          clear q0 q1 r0 r1
          obtain ⟨fl, hfl⟩ : ∃ fl : Nat → Int, fl = fun p => (S.getD p (0, 0)).1 := ⟨_, rfl⟩
          obtain ⟨fh, hfh⟩ : ∃ fh : Nat → Int, fh = fun p => (S.getD p (0, 0)).2 := ⟨_, rfl⟩
          have hord := HORD.out
          rw [← hfl, ← hfh, ← HNP.out] at hord
          have HBD := hid (fun k => sumP_bd HGOOD.out P k)
          rw [← hfl, ← hfh] at HBD
          have HFL := hid hfl
          have HFH := hid hfh
          have hnp6 : np ≤ 6 := by have := HSH.out; have := HNP.out; have := HNS.out; omega
          clear hfl hfh
          go_loopw [15, 16, 17] (fun a b u wr => ∃ k : Nat, k ≤ np ∧ a = .int .i64 (sumP fl P k) ∧ b = .int .i64 (sumP fh P k) ∧ u = .int .i64 k ∧ Hid (Below w11.heap.size w11 wr)) (fun _ _ u _ => np - (intOf u).toNat)
          case atStart => exact ⟨0, Nat.zero_le _, rfl, rfl, rfl, hid (Below.refl _ _)⟩
          case round =>
            obtain ⟨k, hk, rfl, rfl, rfl, HBR⟩ := hrel
            have HBD2 : Hid (∀ q, Below w11.heap.size w11 (wr.drewN q)) := hid (fun q => ⟨HBR.out.os, HBR.out.tape, HBR.out.output, HBR.out.size, HBR.out.block⟩)
            by_cases hlt : k < np
            · obtain ⟨x, hx⟩ : ∃ x, P[k]? = some x := ⟨_, List.getElem?_eq_getElem (by rw [← HNP.out]; exact hlt)⟩
              have hxin := nums_in HY9.out.symm x (List.mem_of_getElem? hx)
              obtain ⟨n9, rfl⟩ : ∃ n9 : Nat, x = (n9 : Int) := ⟨x.toNat, by omega⟩
              have hn9 : n9 < ns := by have := HNS.out; omega
              obtain ⟨r, hr⟩ : ∃ r, S[n9]? = some r := ⟨_, List.getElem?_eq_getElem (by rw [← HNS.out]; exact hn9)⟩
              have hrb := HGOOD.out.tks.rg n9 r hr
              obtain ⟨ra, rb⟩ := r
              dsimp only at hrb
              obtain ⟨g, o, c', hv, j0, _⟩ := int_at (by have h := HJ11.out.later HBR.out; rw [HNP.out] at h; exact h) hx
              injection hv with e1 e2 e3
              subst e1
              obtain ⟨g2, o2, c2', hv2, s0, s1⟩ := (show SlcIn wr (.slice p1 S.length c1) S.length (S.flatMap rgC) by have h := (HBK11.out.later HBR.out).stock; rw [HNS.out] at h; exact h).rgAt hr
              injection hv2 with f1 f2 f3
              subst f1
              have hgl : fl n9 = ra := by rw [HFL.out]; show (S.getD n9 (0, 0)).1 = ra; rw [List.getD_eq_getElem?_getD, hr]; rfl
              have hgh : fh n9 = rb := by rw [HFH.out]; show (S.getD n9 (0, 0)).2 = rb; rw [List.getD_eq_getElem?_getD, hr]; rfl
              have hpk : (P.getD k 0).toNat = n9 := by rw [List.getD_eq_getElem?_getD, hx]; rfl
              have HN1 : Hid (sumP fl P (k + 1) = sumP fl P k + ra) := hid (by show sumP fl P k + fl (P.getD k 0).toNat = _; rw [hpk, hgl])
              have HN2 : Hid (sumP fh P (k + 1) = sumP fh P k + rb) := hid (by show sumP fh P k + fh (P.getD k 0).toNat = _; rw [hpk, hgh])
              have hbd := HBD.out k
              generalize sumP fl P k = sl at *
              generalize sumP fh P k = sh at *
              have hsl : -99999999999 ≤ sl ∧ sl ≤ 99999999999 := by omega
              have hsh : -99999999999 ≤ sh ∧ sh ≤ 99999999999 := by omega
              have HBL12 := (HBL11.out.later HBR.out HBL11.out.lt)
              have b0 := HBL12.cell (i := 0) rfl
              have b1 := HBL12.cell (i := 1) rfl
              clear hx hxin hr e2 e3 f2 f3 hgl hgh hpk hbd HBL12
              go_wp2_with fail
              go_quiet (fail)
              go_wp2_with fail
              go_roundw
              case rel => exact ⟨k + 1, by omega, by rw [HN1.out], by rw [HN2.out], by go_num, hid (HBD2.out _)⟩
              case measure => simp [intOf]; omega
            · have hkn : np = k := by omega
              subst hkn
              obtain ⟨o1, o2, o3⟩ := hord
              generalize sumP fl P np = sl at *
              generalize sumP fh P np = sh at *
              have HQ12 := HQ11.out.later HBR.out HQ11.out.lt
              have q0 := HQ12.cell (i := 0) rfl
              have q1 := HQ12.cell (i := 1) rfl
              clear HQ12
              go_wp2_with fail
              go_ret
              exact ⟨rfl, HB11.out.trans (HBR.out.mono HB11.out.size)⟩
end Go.Proofs.Ytncnpodanlhdkaa
