/-
  WeighExhausts: the walk.
-/
import Derived.Test.YtncnpodanlhdkaaWAll
import Derived.Test.YtncnpodanlhdkaaWTiny
import Derived.Deep.CutRange
import Derived.Deep.DeepCutAuto
namespace Go.Proofs.Ytncnpodanlhdkaa
set_option linter.all false
open Go.RowKit

/-- The least of the first values, and the greatest. -/
def mnF (f : List Int → Int) (PP : List (List Int)) : Nat → Int
  | 0 => f (PP.getD 0 [])
  | k + 1 => min (mnF f PP k) (f (PP.getD k []))
def mxF (f : List Int → Int) (PP : List (List Int)) : Nat → Int
  | 0 => f (PP.getD 0 [])
  | k + 1 => max (mxF f PP k) (f (PP.getD k []))
theorem mn_what (f : List Int → Int) (PP : List (List Int)) (h0 : PP.length ≠ 0) : ∀ k, k ≤ PP.length → (∀ j, j < k → mnF f PP k ≤ f (PP.getD j []) ∧ f (PP.getD j []) ≤ mxF f PP k) ∧ (∃ j, j < PP.length ∧ mnF f PP k = f (PP.getD j [])) ∧ (∃ j, j < PP.length ∧ mxF f PP k = f (PP.getD j []))
  | 0, _ => ⟨fun j hj => absurd hj (by omega), ⟨0, by omega, rfl⟩, ⟨0, by omega, rfl⟩⟩
  | k + 1, hk => by
    obtain ⟨h1, ⟨a, ha, ha2⟩, ⟨b, hb, hb2⟩⟩ := mn_what f PP h0 k (by omega)
    refine ⟨fun j hj => ?_, ?_, ?_⟩
    · show min _ _ ≤ _ ∧ _ ≤ max _ _
      by_cases e : j = k
      · subst e; omega
      · have := h1 j (by omega); omega
    · show ∃ j, j < PP.length ∧ min _ _ = _
      rcases Int.le_total (mnF f PP k) (f (PP.getD k [])) with h | h
      · exact ⟨a, ha, by rw [Int.min_eq_left h]; exact ha2⟩
      · exact ⟨k, by omega, by rw [Int.min_eq_right h]⟩
    · show ∃ j, j < PP.length ∧ max _ _ = _
      rcases Int.le_total (mxF f PP k) (f (PP.getD k [])) with h | h
      · exact ⟨k, by omega, by rw [Int.max_eq_right h]⟩
      · exact ⟨b, hb, by rw [Int.max_eq_left h]; exact hb2⟩
theorem mn_ends {S : List (Int × Int)} {T : List Tk} {PP : List (List Int)} (hp : ∀ A, A ∈ PP ↔ Asg S T A) (h0 : PP.length ≠ 0) {f : List Int → Int} {lo hi : Int} (h : EndsOf S T f (lo, hi)) : mnF f PP PP.length = lo ∧ mxF f PP PP.length = hi := by
  obtain ⟨h1, ⟨a, ha, ha2⟩, ⟨b, hb, hb2⟩⟩ := mn_what f PP h0 PP.length (Nat.le_refl _)
  have hin : ∀ j, j < PP.length → Asg S T (PP.getD j []) := fun j hj => by
    rw [← hp, List.getD_eq_getElem?_getD, List.getElem?_eq_getElem hj]; exact List.getElem_mem hj
  have hof : ∀ A, Asg S T A → ∃ j, j < PP.length ∧ PP.getD j [] = A := fun A hA => by
    obtain ⟨j, hj⟩ := List.mem_iff_getElem?.1 ((hp A).2 hA)
    exact ⟨j, (List.getElem?_eq_some_iff.1 hj).1, by rw [List.getD_eq_getElem?_getD, hj]; rfl⟩
  obtain ⟨A, hA, hA2⟩ := h.low
  obtain ⟨B, hB, hB2⟩ := h.high
  obtain ⟨i, hi, rfl⟩ := hof A hA
  obtain ⟨j, hj, rfl⟩ := hof B hB
  have e1 := h1 i hi
  have e2 := h1 j hj
  have e3 := h.all _ (hin a ha)
  have e4 := h.all _ (hin b hb)
  dsimp only at hA2 hB2 e3 e4
  omega
theorem tiny_ok {S : List (Int × Int)} {T : List Tk} (h : tinyF S T = true) : bookErr S T = 0 ∧ S.length ≤ 4 ∧ T.length ≤ 4 ∧ ∀ (i : Nat) (t : Tk), T[i]? = some t → wideN t ≤ 5 := by
  unfold tinyF at h
  simp only [Bool.and_eq_true, decide_eq_true_eq, List.all_eq_true] at h
  obtain ⟨⟨⟨a, b⟩, c⟩, d⟩ := h
  exact ⟨a, b, c, fun i t ht => by have := d t (List.mem_of_getElem? ht); unfold wideN; omega⟩

/-- A range in a block of its own. -/
structure RgAt (w8 : World) (bb : Nat) (x y : Int) (wx : World) : Prop where
  box : Blk wx bb #[.int .i64 x, .int .i64 y] 38
  ge : w8.heap.size ≤ bb
  old : Below w8.heap.size w8 wx

set_option maxRecDepth 100000 in
set_option maxHeartbeats 16000000 in
theorem exhausts_any (S : List (Int × Int)) (T : List Tk) (P : List Int) (v1 v2 v3 : Value) (W : World) (hb : BookIn W v1 v2 S T) (hj : SlcIn W v3 P.length (P.map (Value.int .i64))) :
    Calls Try.prog 8 #[.agg #[v1, v2], v3] W (Ret (.bool true) W) := by
  obtain ⟨p1, c1, rfl, hm1⟩ := hb.stock.shape
  obtain ⟨p2, c2, rfl, hm2⟩ := hb.tickets.shape
  obtain ⟨p3, c3, rfl, hm3⟩ := hj.shape
  obtain ⟨ns, hns⟩ : ∃ n, n = S.length := ⟨_, rfl⟩
  obtain ⟨nt, hnt⟩ : ∃ n, n = T.length := ⟨_, rfl⟩
  obtain ⟨np, hnp⟩ : ∃ n, n = P.length := ⟨_, rfl⟩
  have hm1' : ns ≤ 9223372036854775807 := by rw [hns]; unfold maxLen at hm1; omega
  have hm2' : nt ≤ 9223372036854775807 := by rw [hnt]; unfold maxLen at hm2; omega
  obtain ⟨w0, hw0⟩ : ∃ w0, w0 = W.alloc (.cells #[.slice p1 ns c1, .slice p2 nt c2] 25) := ⟨_, rfl⟩
  have hb0 : Below W.heap.size W w0 := by rw [hw0]; exact below_new W _
  have hB0 : Blk w0 W.heap.size #[.slice p1 ns c1, .slice p2 nt c2] 25 := by rw [hw0]; exact Blk.new W _ _
  have HBK := hid (hb.later hb0)
  have HJ := hid (hj.later hb0)
  have HB := hid hb0
  have HBL := hid hB0
  have HW0 := hid hw0
  have HNS := hid hns
  have HNT := hid hnt
  have HNP := hid hnp
  have HAW := hid (fun w => awake_any w)
  have HTI := hid (fun w h => tiny_any S T (.slice p1 S.length c1) (.slice p2 T.length c2) w h)
  have HNU := hid (fun w h => refNums_any P S.length (.slice p3 P.length c3) w h)
  obtain ⟨ti, hti⟩ : ∃ ti, ti = tinyF S T := ⟨_, rfl⟩
  rw [← hti] at HTI
  have HTE := hid hti
  obtain ⟨y, hy⟩ : ∃ y, y = numsErr P S.length := ⟨_, rfl⟩
  rw [← hy] at HNU
  have HYE := hid hy
  rw [← hns, ← hnt] at HTI HBK
  rw [← hns, ← hnp] at HNU
  rw [← hnp] at HJ
  rw [← hns, ← hnt, ← hnp]
  clear hb hj hw0 hb0 hB0 hns hnt hnp hm1 hm2 hm3 hti hy
  have b0 := HBL.out.cell (i := 0) rfl
  have b1 := HBL.out.cell (i := 1) rfl
  go_enter Try.func8, Try.ntmps8
  go_wp2_with (rw [← HW0.out])
  refine (HAW.out _).mono ?_
  rintro e w1 ⟨rfl, hb⟩
  have HBK1 := hid (HBK.out.later hb)
  have HJ1 := hid (HJ.out.later hb)
  have HB1 := hid (HB.out.trans (hb.mono HB.out.size))
  have HBL1 := hid (HBL.out.later hb HBL.out.lt)
  clear hb b0 b1 HBK HB HBL HJ
  have b0 := HBL1.out.cell (i := 0) rfl
  have b1 := HBL1.out.cell (i := 1) rfl
  go_wp2_with fail
  refine (HTI.out _ (by have h := HBK1.out; exact h)).mono ?_
  rintro e w2 ⟨rfl, hb⟩
  have HBK2 := hid (HBK1.out.later hb)
  have HJ2 := hid (HJ1.out.later hb)
  have HB2 := hid (HB1.out.trans (hb.mono HB1.out.size))
  have HBL2 := hid (HBL1.out.later hb HBL1.out.lt)
  clear hb b0 b1 HBK1 HB1 HBL1 HJ1
  have b0 := HBL2.out.cell (i := 0) rfl
  have b1 := HBL2.out.cell (i := 1) rfl
  cases ti
  · go_wp2_with fail
    refine (HAW.out _).mono ?_
    rintro e w3 ⟨rfl, hb⟩
    have HB3 := hid (HB2.out.trans (hb.mono HB2.out.size))
    clear hb
    go_wp2_with fail
    go_ret
    exact ⟨rfl, HB3.out⟩
  go_wp2_with fail
  refine (HNU.out _ HJ2.out).mono ?_
  rintro e w3 ⟨rfl, hb⟩
  have HBK3 := hid (HBK2.out.later hb)
  have HJ3 := hid (HJ2.out.later hb)
  have HB3 := hid (HB2.out.trans (hb.mono HB2.out.size))
  have HBL3 := hid (HBL2.out.later hb HBL2.out.lt)
  clear hb b0 b1 HBK2 HB2 HBL2 HJ2
  have b0 := HBL3.out.cell (i := 0) rfl
  have b1 := HBL3.out.cell (i := 1) rfl
  by_cases hy0 : y = 0
  rotate_left 1
  · have hz : (y != 0) = true := by simpa using hy0
    go_wp2_with fail
    refine (HAW.out _).mono ?_
    rintro e w4 ⟨rfl, hb⟩
    have HB4 := hid (HB3.out.trans (hb.mono HB3.out.size))
    clear hb
    go_wp2_with fail
    go_ret
    exact ⟨rfl, HB4.out⟩
  subst hy0
  obtain ⟨hx, hS4, hT4, hw5⟩ := tiny_ok HTE.out.symm
  have hAL := hid (fun v1 v2 w h => all_any S T v1 v2 w h hx hT4 hw5)
  obtain ⟨PP, hPP⟩ : ∃ PP, PP = ptsL S T (allL T T.length).length := ⟨_, rfl⟩
  have hpa : ∀ A, A ∈ PP ↔ Asg S T A := by rw [hPP]; exact pts_asg hx
  have HPL : Hid (PP.length ≤ 625) := hid (by
    rw [hPP]; unfold ptsL
    exact Nat.le_trans (List.length_filter_le _ _) (by rw [List.length_take]; have := allL_small T hw5 hT4 (Nat.le_refl _); omega))
  rw [← hPP] at hAL
  have HPA := hid hpa
  have HX := hid hx
  have hnt4 : nt ≤ 4 := by rw [HNT.out]; exact hT4
  have hns4 : ns ≤ 4 := by rw [HNS.out]; exact hS4
  have HGA : Hid (∀ A v w, A ∈ PP → BookIn w (.slice p1 ns c1) (.slice p2 nt c2) S T → SlcIn w v A.length (A.map (Value.int .i64)) → SlcIn w (.slice p3 np c3) P.length (P.map (Value.int .i64)) → Calls Try.prog 38 #[.agg #[.slice p1 ns c1, .slice p2 nt c2], v, .slice p3 np c3] w (Ret (.int .i64 (gainF T A P T.length)) w)) := hid (fun A v w hA h h2 h3 => by
    have hAs := (hpa A).1 hA
    have hfit := ((asg_iff (book_good hx)).1 hAs).1
    refine refGain_any S T A P _ _ v _ w h h2 h3 hAs.1 (by omega) (fun i x hi => ?_)
    have hh := hAs.2
    unfold holdsF at hh
    rw [Bool.and_eq_true, List.all_eq_true] at hh
    have hi9 := (List.getElem?_eq_some_iff.1 hi).1
    have hl := hAs.1
    have h9 := hh.1 i (List.mem_range.2 (by omega))
    unfold tkIn inR at h9
    simp at h9
    have h10 := (book_good hx).mass.mass i _ (List.getElem?_eq_getElem (by omega))
    rw [hi, List.getElem?_eq_getElem (by omega)] at h9
    dsimp only [Option.getD_some] at h9
    omega)
  clear hPP hw5 hS4 hT4
  go_wp2_with fail
  refine (hAL.out _ _ _ HBK3.out).mono ?_
  rintro e w4 ⟨v4, rfl, ho, hb⟩
  obtain ⟨nn, hnn⟩ : ∃ n, n = PP.length := ⟨_, rfl⟩
  obtain ⟨p4, c4, hv4⟩ := ho.shape
  rw [← hnn] at hv4
  subst hv4
  have HNN := hid hnn
  have hnn6 : nn ≤ 625 := by rw [hnn]; exact HPL.out
  have HP4 := hid ho
  have HBK4 := hid (HBK3.out.later hb)
  have HJ4 := hid (HJ3.out.later hb)
  have HB4 := hid (HB3.out.trans (hb.mono HB3.out.size))
  have HBL4 := hid (HBL3.out.later hb HBL3.out.lt)
  clear hb b0 b1 HBK3 HB3 HBL3 HJ3 ho hnn
  have b0 := HBL4.out.cell (i := 0) rfl
  have b1 := HBL4.out.cell (i := 1) rfl
  rcases tight_cases hx with ⟨hn, ht1, hic⟩ | ⟨hcs, ⟨L, hL, ht1⟩, hic⟩
  · rcases change_cases hx HYE.out.symm with ⟨_, hch⟩ | ⟨hcs, _⟩
    rotate_left 1
    · exact absurd hcs hn
    have hn0 : nn = 0 := by
      rw [HNN.out]
      cases h : PP with
      | nil => rfl
      | cons A _ => exact absurd ⟨A, (hpa A).1 (by rw [h]; exact List.mem_cons_self)⟩ hn
    subst hn0
    have HT := hid ht1
    have HI := hid hic
    have HC := hid hch
    clear ht1 hic hch hn hx hpa
    go_wp2_with fail
    refine (HI.out _ _ _ HBK4.out).mono ?_
    rintro e w5 ⟨rfl, hb⟩
    have HBK5 := hid (HBK4.out.later hb)
    have HJ5 := hid (HJ4.out.later hb)
    have HB5 := hid (HB4.out.trans (hb.mono HB4.out.size))
    have HBL5 := hid (HBL4.out.later hb HBL4.out.lt)
    clear hb b0 b1
    have b0 := HBL5.out.cell (i := 0) rfl
    have b1 := HBL5.out.cell (i := 1) rfl
    go_wp2_with fail
    refine (HT.out _ _ _ HBK5.out).mono ?_
    rintro e w6 ⟨rfl, hb⟩
    have HBK6 := hid (HBK5.out.later hb)
    have HJ6 := hid (HJ5.out.later hb)
    have HB6 := hid (HB5.out.trans (hb.mono HB5.out.size))
    have HBL6 := hid (HBL5.out.later hb HBL5.out.lt)
    clear hb b0 b1
    have b0 := HBL6.out.cell (i := 0) rfl
    have b1 := HBL6.out.cell (i := 1) rfl
    go_wp2_with fail
    refine (HC.out _ _ _ _ HBK6.out (by rw [← HNP.out]; exact HJ6.out)).mono ?_
    rintro e w7 ⟨rfl, hb⟩
    have HB7 := hid (HB6.out.trans (hb.mono HB6.out.size))
    clear hb b0 b1
    go_wp2_with fail
    go_ret
    exact ⟨rfl, HB7.out.alloc HB7.out.size _⟩
  · rcases change_cases hx HYE.out.symm with ⟨hn, _⟩ | ⟨_, lo, hi, hends, hch⟩
    · exact absurd hcs hn
    obtain ⟨a, b, e, hch2, he⟩ : ∃ a b e : Int, (∀ v1 v2 v3 W, BookIn W v1 v2 S T → SlcIn W v3 P.length (P.map (Value.int .i64)) → Calls Try.prog 20 #[.agg #[v1, v2], v3] W (Ret (.tuple #[.agg #[.int .i64 a, .int .i64 b], .int .i64 e]) W)) ∧ ((e = 0 ∧ a = lo ∧ b = hi) ∨ e = 4) := by
      rcases hch with ⟨_, _, h⟩ | ⟨_, h⟩
      · exact ⟨lo, hi, 0, h, .inl ⟨rfl, rfl, rfl⟩⟩
      · exact ⟨0, 0, 4, h, .inr rfl⟩
    have hnn0 : 0 < nn := by
      obtain ⟨A, hA⟩ := hcs
      have := List.length_pos_of_mem ((hpa A).2 hA)
      rw [HNN.out]; exact this
    have hfold := mn_ends hpa (by rw [← HNN.out]; omega) hends
    have HFOLD := hid hfold
    have HT := hid ht1
    have HI := hid hic
    have HC := hid hch2
    have HL := hid hL
    clear ht1 hic hch hch2 hx hpa hfold hends hcs hL
    go_wp2_with fail
    refine (HI.out _ _ _ HBK4.out).mono ?_
    rintro e1 w5 ⟨rfl, hb⟩
    have HBK5 := hid (HBK4.out.later hb)
    have HJ5 := hid (HJ4.out.later hb)
    have HP5 := hid (HP4.out.later hb)
    have HB5 := hid (HB4.out.trans (hb.mono HB4.out.size))
    have HBL5 := hid (HBL4.out.later hb HBL4.out.lt)
    clear hb b0 b1 HBK4 HJ4 HP4 HB4 HBL4
    have b0 := HBL5.out.cell (i := 0) rfl
    have b1 := HBL5.out.cell (i := 1) rfl
    go_wp2_with fail
    refine (HT.out _ _ _ HBK5.out).mono ?_
    rintro e1 w6 ⟨v6, rfl, ho, hb⟩
    have hLn : L.length = nt := by rw [HL.out.len, HNT.out]
    rw [hLn] at ho
    have HLN := hid hLn
    obtain ⟨p6, c6, rfl⟩ : ∃ p c, v6 = .slice p nt c := by
      obtain ⟨p, c, h, _⟩ := SlcIn.own ho
      exact ⟨p, c, h⟩
    have HO6 := hid ho
    have HBK6 := hid (HBK5.out.later hb)
    have HJ6 := hid (HJ5.out.later hb)
    have HP6 := hid (HP5.out.later hb)
    have HB6 := hid (HB5.out.trans (hb.mono HB5.out.size))
    have HBL6 := hid (HBL5.out.later hb HBL5.out.lt)
    clear hb b0 b1 HBK5 HJ5 HP5 HB5 HBL5 hLn ho
    have b0 := HBL6.out.cell (i := 0) rfl
    have b1 := HBL6.out.cell (i := 1) rfl
    go_wp2_with fail
    refine (HC.out _ _ _ _ HBK6.out (by rw [← HNP.out]; exact HJ6.out)).mono ?_
    rintro e1 w7 ⟨rfl, hb⟩
    have HO7 := hid (ownsRow_later HO6.out hb)
    have HBK7 := hid (HBK6.out.later hb)
    have HJ7 := hid (HJ6.out.later hb)
    have HP7 := hid (HP6.out.later hb)
    have HB7 := hid (HB6.out.trans (hb.mono HB6.out.size))
    have HBL7 := hid (HBL6.out.later hb HBL6.out.lt)
    obtain ⟨w8, hw8⟩ : ∃ w8, w8 = w7.alloc (.cells #[.int .i64 a, .int .i64 b] 38) := ⟨_, rfl⟩
    have hb8 : Below w7.heap.size w7 w8 := by rw [hw8]; exact below_new w7 _
    have HR8 : Hid (Blk w8 w7.heap.size #[.int .i64 a, .int .i64 b] 38) := hid (by rw [hw8]; exact Blk.new w7 _ _)
    have HO8 := hid (ownsRow_later HO7.out hb8)
    have HBK8 := hid (HBK7.out.later hb8)
    have HJ8 := hid (HJ7.out.later hb8)
    have HP8 := hid (HP7.out.later hb8)
    have HB8 := hid (HB7.out.trans (hb8.mono HB7.out.size))
    have HBL8 := hid (HBL7.out.later hb8 HBL7.out.lt)
    have HW8 := hid hw8
    have HR := hid (⟨w7.heap.size, rfl⟩ : ∃ n, n = w7.heap.size)
    clear hb hb8 hw8 b0 b1 HBK6 HJ6 HP6 HB6 HBL6 HO6 HBK7 HJ7 HP7 HB7 HBL7 HO7
    have b0 := HBL8.out.cell (i := 0) rfl
    have b1 := HBL8.out.cell (i := 1) rfl
    rcases he with ⟨rfl, rfl, rfl⟩ | rfl
    all_goals
      go_wp2_with (rw [← HW8.out])
      obtain ⟨A0, hA0⟩ : ∃ A, PP[0]? = some A := ⟨_, List.getElem?_eq_getElem (by rw [← HNN.out]; exact hnn0)⟩
      obtain ⟨g4, cc4, pa, ca, hv, ya, hel⟩ := HP8.out.at hA0
      injection hv with e1 e2 e3
      subst e1
      clear e2 e3
      have hg4 := World.block_lt_of_cell? w8 _ ya
      have HYA : Hid (∀ w', Below w8.heap.size w8 w' → w'.cell? ⟨g4, 0, none⟩ = some (.slice pa A0.length ca)) := hid (fun w' hb => (hb.cell (p := ⟨g4, 0, none⟩) hg4).trans ya)
      obtain ⟨G, hG⟩ : ∃ G, G = gainF T A0 P T.length := ⟨_, rfl⟩
      have HG0 : Hid (∀ w', Below w8.heap.size w8 w' → Calls Try.prog 38 #[.agg #[.slice p1 ns c1, .slice p2 nt c2], .slice pa A0.length ca, .slice p3 np c3] w' (Ret (.int .i64 G) w')) := hid (fun w' hb => by
        rw [hG]
        exact HGA.out A0 _ w' (List.mem_of_getElem? hA0) (HBK8.out.later hb) (hel.1.later hb) (by rw [← HNP.out]; exact HJ8.out.later hb))
      have HG1 : Hid (G = mnF (fun A => gainF T A P T.length) PP 0 ∧ G = mxF (fun A => gainF T A P T.length) PP 0) := hid (by
        have h9 : PP.getD 0 [] = A0 := by rw [List.getD_eq_getElem?_getD, hA0]; rfl
        constructor
        · show G = gainF T (PP.getD 0 []) P T.length; rw [h9]; exact hG
        · show G = gainF T (PP.getD 0 []) P T.length; rw [h9]; exact hG)
      have HA0 := hid hA0
      have HEL := hid hel
      clear hA0 ya hg4 hG hel
      go_cut [12] (fun s12 wx => ∃ bb : Nat, s12 = .pointer (some ⟨bb, 0, none⟩) ∧ Hid (RgAt w8 bb G G wx))
      case first =>
        have HS : Hid (Below w8.heap.size w8 w8.drew) := hid (Below.refl _ _).drew
        clear b0 b1
        refine region_held (fun w' => Below w8.heap.size w8 w') (by kernel_rfl) ?_
        refine' tkw 0 (v := .agg #[.slice p1 ns c1, .slice p2 nt c2]) rfl (by kernel_rfl) (by kernel_rfl) HS.out (fun _ _ _ h => h) (fun w' hS => by have q0 := (HBL8.out.later hS HBL8.out.lt).cell (i := 0) rfl; have q1 := (HBL8.out.later hS HBL8.out.lt).cell (i := 1) rfl; have q2 := HYA.out w' hS; clear hS; go_simp; (try with_reducible rfl)) ?_
        refine' tkw 1 (v := .slice (some ⟨g4, 0, none⟩) nn c4) rfl (by kernel_rfl) (by kernel_rfl) HS.out (fun _ _ _ h => h) (fun w' hS => by have q0 := (HBL8.out.later hS HBL8.out.lt).cell (i := 0) rfl; have q1 := (HBL8.out.later hS HBL8.out.lt).cell (i := 1) rfl; have q2 := HYA.out w' hS; clear hS; go_simp; (try with_reducible rfl)) ?_
        refine' tkw 2 (v := .pointer (some ⟨g4, 0, none⟩)) rfl (by kernel_rfl) (by kernel_rfl) HS.out (fun _ _ _ h => h) (fun w' hS => by have q0 := (HBL8.out.later hS HBL8.out.lt).cell (i := 0) rfl; have q1 := (HBL8.out.later hS HBL8.out.lt).cell (i := 1) rfl; have q2 := HYA.out w' hS; clear hS; go_simp; (try with_reducible rfl)) ?_
        refine' tkw 3 (v := .slice pa A0.length ca) rfl (by kernel_rfl) (by kernel_rfl) HS.out (fun _ _ _ h => h) (fun w' hS => by have q0 := (HBL8.out.later hS HBL8.out.lt).cell (i := 0) rfl; have q1 := (HBL8.out.later hS HBL8.out.lt).cell (i := 1) rfl; have q2 := HYA.out w' hS; clear hS; go_simp; (try with_reducible rfl)) ?_
        refine' tkw 4 (v := .slice p3 np c3) rfl (by kernel_rfl) (by kernel_rfl) HS.out (fun _ _ _ h => h) (fun w' hS => by have q0 := (HBL8.out.later hS HBL8.out.lt).cell (i := 0) rfl; have q1 := (HBL8.out.later hS HBL8.out.lt).cell (i := 1) rfl; have q2 := HYA.out w' hS; clear hS; go_simp; (try with_reducible rfl)) ?_
        refine' tkw 6 (v := .agg #[.slice p1 ns c1, .slice p2 nt c2]) rfl (by kernel_rfl) (by kernel_rfl) HS.out (fun _ _ _ h => h) (fun w' hS => by have q0 := (HBL8.out.later hS HBL8.out.lt).cell (i := 0) rfl; have q1 := (HBL8.out.later hS HBL8.out.lt).cell (i := 1) rfl; have q2 := HYA.out w' hS; clear hS; go_simp; (try with_reducible rfl)) ?_
        refine' tkw 7 (v := .slice (some ⟨g4, 0, none⟩) nn c4) rfl (by kernel_rfl) (by kernel_rfl) HS.out (fun _ _ _ h => h) (fun w' hS => by have q0 := (HBL8.out.later hS HBL8.out.lt).cell (i := 0) rfl; have q1 := (HBL8.out.later hS HBL8.out.lt).cell (i := 1) rfl; have q2 := HYA.out w' hS; clear hS; go_simp; (try with_reducible rfl)) ?_
        refine' tkw 8 (v := .pointer (some ⟨g4, 0, none⟩)) rfl (by kernel_rfl) (by kernel_rfl) HS.out (fun _ _ _ h => h) (fun w' hS => by have q0 := (HBL8.out.later hS HBL8.out.lt).cell (i := 0) rfl; have q1 := (HBL8.out.later hS HBL8.out.lt).cell (i := 1) rfl; have q2 := HYA.out w' hS; clear hS; go_simp; (try with_reducible rfl)) ?_
        refine' tkw 9 (v := .slice pa A0.length ca) rfl (by kernel_rfl) (by kernel_rfl) HS.out (fun _ _ _ h => h) (fun w' hS => by have q0 := (HBL8.out.later hS HBL8.out.lt).cell (i := 0) rfl; have q1 := (HBL8.out.later hS HBL8.out.lt).cell (i := 1) rfl; have q2 := HYA.out w' hS; clear hS; go_simp; (try with_reducible rfl)) ?_
        refine' tkw 10 (v := .slice p3 np c3) rfl (by kernel_rfl) (by kernel_rfl) HS.out (fun _ _ _ h => h) (fun w' hS => by have q0 := (HBL8.out.later hS HBL8.out.lt).cell (i := 0) rfl; have q1 := (HBL8.out.later hS HBL8.out.lt).cell (i := 1) rfl; have q2 := HYA.out w' hS; clear hS; go_simp; (try with_reducible rfl)) ?_
        try simp only [Act.put, List.setIfInBounds_toArray, List.set_cons_zero, List.set_cons_succ]
        refine wpAnyH_ready (rs := [5, 13]) (by kernel_rfl) (by simp) ?_
        refine AllReadyH.cons rfl (fun K hK => ?_) (AllReadyH.cons rfl (fun K hK => ?_) AllReadyH.nil)
        · go_simp
          refine (HG0.out _ HS.out).mono ?_
          rintro e wA ⟨rfl, hb⟩
          have HwA : Hid (Below w8.heap.size w8 wA) := hid (Below.trans HS.out (hb.mono (Below.size HS.out)))
          clear hb
          go_simp
          refine hK.out _ _ HwA.out (fun hHeld => ?_)
          clear hK hHeld
          try simp only [Act.put, List.setIfInBounds_toArray, List.set_cons_zero, List.set_cons_succ]
          refine wpAnyH_ready (rs := [11, 13]) (by kernel_rfl) (by simp) ?_
          refine AllReadyH.cons rfl (fun K hK => ?_) (AllReadyH.cons rfl (fun K hK => ?_) AllReadyH.nil)
          · go_simp
            refine (HG0.out _ HwA.out).mono ?_
            rintro e wB ⟨rfl, hb⟩
            have HwB : Hid (Below w8.heap.size w8 wB) := hid (Below.trans HwA.out (hb.mono (Below.size HwA.out)))
            clear hb
            go_simp
            refine hK.out _ _ HwB.out (fun hHeld => ?_)
            clear hK hHeld
            try simp only [Act.put, List.setIfInBounds_toArray, List.set_cons_zero, List.set_cons_succ]
            refine' tkw 12 (v := .agg #[.int .i64 G, .int .i64 G]) rfl (by kernel_rfl) (by kernel_rfl) HwB.out (fun _ _ _ h => h) (fun w' hS => by clear hS; go_simp; (try with_reducible rfl)) ?_
            try simp only [Act.put, List.setIfInBounds_toArray, List.set_cons_zero, List.set_cons_succ]
            refine wpAnyH_ready (rs := [13]) (by kernel_rfl) (by simp) ?_
            refine AllReadyH.cons rfl (fun K hK => ?_) AllReadyH.nil
            go_simp
            obtain ⟨bb, hbb⟩ : ∃ bb, bb = wB.heap.size := ⟨_, rfl⟩
            obtain ⟨wC, hwC⟩ : ∃ wC, wC = wB.alloc (.cells #[.int .i64 0, .int .i64 0] 38) := ⟨_, rfl⟩
            have HX : Hid (Blk wC bb #[.int .i64 0, .int .i64 0] 38) := hid (by rw [hwC]; exact Blk_newn _ _ _ hbb)
            have HwC : Hid (Below w8.heap.size w8 wC) := hid (by rw [hwC]; exact HwB.out.alloc HwB.out.size _)
            have HBB : Hid (w8.heap.size ≤ bb) := hid (by rw [hbb]; exact HwB.out.size)
            rw [← hwC, ← hbb]
            refine hK.out _ _ HwC.out (fun hHeld => ?_)
            clear hK hHeld hwC hbb
            try simp only [Act.put, List.setIfInBounds_toArray, List.set_cons_zero, List.set_cons_succ]
            refine wpAnyH_ready (rs := [14]) (by kernel_rfl) (by simp) ?_
            refine AllReadyH.cons rfl (fun K hK => ?_) AllReadyH.nil
            have t0 := HX.out.cell (i := 0) rfl
            have t1 := HX.out.cell (i := 1) rfl
            have z0 := HX.out.froz 0
            have z1 := HX.out.froz 1
            go_simp
            have HX8 := hid ((HX.out.set 0 (.int .i64 G)).set 1 (.int .i64 G))
            have HB9 := hid ((HwC.out.setCell (p := ⟨bb, 0, none⟩) (by have := HBB.out; simp; (try omega)) (.int .i64 G)).setCell (p := ⟨bb, 1, none⟩) (by have := HBB.out; simp; (try omega)) (.int .i64 G))
            refine hK.out _ _ HB9.out (fun hHeld => ?_)
            clear hK hHeld t0 t1 z0 z1
            try simp only [Act.put, List.setIfInBounds_toArray, List.set_cons_zero, List.set_cons_succ]
            refine wpAnyH_done (by kernel_rfl) ?_ _
            go_wp2_with fail
            go_meet
            exact ⟨bb, rfl, hid ⟨HX8.out, HBB.out, HB9.out⟩⟩
          · go_simp
            obtain ⟨bb, hbb⟩ : ∃ bb, bb = wA.heap.size := ⟨_, rfl⟩
            obtain ⟨wC, hwC⟩ : ∃ wC, wC = wA.alloc (.cells #[.int .i64 0, .int .i64 0] 38) := ⟨_, rfl⟩
            have HX : Hid (Blk wC bb #[.int .i64 0, .int .i64 0] 38) := hid (by rw [hwC]; exact Blk_newn _ _ _ hbb)
            have HwC : Hid (Below w8.heap.size w8 wC) := hid (by rw [hwC]; exact HwA.out.alloc HwA.out.size _)
            have HBB : Hid (w8.heap.size ≤ bb) := hid (by rw [hbb]; exact HwA.out.size)
            rw [← hwC, ← hbb]
            refine hK.out _ _ HwC.out (fun hHeld => ?_)
            clear hK hHeld hwC hbb
            try simp only [Act.put, List.setIfInBounds_toArray, List.set_cons_zero, List.set_cons_succ]
            refine wpAnyH_ready (rs := [11]) (by kernel_rfl) (by simp) ?_
            refine AllReadyH.cons rfl (fun K hK => ?_) AllReadyH.nil
            go_simp
            refine (HG0.out _ HwC.out).mono ?_
            rintro e wB ⟨rfl, hb⟩
            have HwB : Hid (Below w8.heap.size w8 wB) := hid (Below.trans HwC.out (hb.mono (Below.size HwC.out)))
            have HX := hid (HX.out.later hb HX.out.lt)
            clear hb
            go_simp
            refine hK.out _ _ HwB.out (fun hHeld => ?_)
            clear hK hHeld
            try simp only [Act.put, List.setIfInBounds_toArray, List.set_cons_zero, List.set_cons_succ]
            refine' tkw 12 (v := .agg #[.int .i64 G, .int .i64 G]) rfl (by kernel_rfl) (by kernel_rfl) HwB.out (fun _ _ _ h => h) (fun w' hS => by clear hS; go_simp; (try with_reducible rfl)) ?_
            try simp only [Act.put, List.setIfInBounds_toArray, List.set_cons_zero, List.set_cons_succ]
            refine wpAnyH_ready (rs := [14]) (by kernel_rfl) (by simp) ?_
            refine AllReadyH.cons rfl (fun K hK => ?_) AllReadyH.nil
            have t0 := HX.out.cell (i := 0) rfl
            have t1 := HX.out.cell (i := 1) rfl
            have z0 := HX.out.froz 0
            have z1 := HX.out.froz 1
            go_simp
            have HX8 := hid ((HX.out.set 0 (.int .i64 G)).set 1 (.int .i64 G))
            have HB9 := hid ((HwB.out.setCell (p := ⟨bb, 0, none⟩) (by have := HBB.out; simp; (try omega)) (.int .i64 G)).setCell (p := ⟨bb, 1, none⟩) (by have := HBB.out; simp; (try omega)) (.int .i64 G))
            refine hK.out _ _ HB9.out (fun hHeld => ?_)
            clear hK hHeld t0 t1 z0 z1
            try simp only [Act.put, List.setIfInBounds_toArray, List.set_cons_zero, List.set_cons_succ]
            refine wpAnyH_done (by kernel_rfl) ?_ _
            go_wp2_with fail
            go_meet
            exact ⟨bb, rfl, hid ⟨HX8.out, HBB.out, HB9.out⟩⟩
        · go_simp
          have HBC : Hid (Below w8.heap.size w8 (w8.drew.alloc (.cells #[.int .i64 0, .int .i64 0] 38))) := hid ((Below.refl _ _).drew.alloc (Nat.le_refl _) _)
          have HBC2 : Hid (Below w8.heap.size w8 (w8.alloc (.cells #[.int .i64 0, .int .i64 0] 38)).drew) := hid ((Below.refl _ _).alloc (Nat.le_refl _) _).drew
          have HXC : Hid (Blk (w8.drew.alloc (.cells #[.int .i64 0, .int .i64 0] 38)) w8.heap.size #[.int .i64 0, .int .i64 0] 38) := hid (Blk_newn _ _ _ rfl)
          have HXC2 : Hid (Blk (w8.alloc (.cells #[.int .i64 0, .int .i64 0] 38)).drew w8.heap.size #[.int .i64 0, .int .i64 0] 38) := hid (Blk_newn _ _ _ rfl).drew
          have HBB : Hid (w8.heap.size ≤ w8.heap.size) := hid (Nat.le_refl _)
          refine hK.out _ _ HBC.out (fun hHeld => ?_)
          clear hK hHeld
          try simp only [Act.put, List.setIfInBounds_toArray, List.set_cons_zero, List.set_cons_succ]
          refine wpAnyH_ready (rs := [5]) (by kernel_rfl) (by simp) ?_
          refine AllReadyH.cons rfl (fun K hK => ?_) AllReadyH.nil
          go_simp
          first
            | (refine (HG0.out _ HBC2.out).mono ?_; rintro e wA ⟨rfl, hb⟩; have HwA : Hid (Below w8.heap.size w8 wA) := hid (HBC2.out.trans (hb.mono HBC2.out.size)); have HX := hid (HXC2.out.later hb HXC2.out.lt); clear hb)
            | (refine (HG0.out _ HBC.out).mono ?_; rintro e wA ⟨rfl, hb⟩; have HwA : Hid (Below w8.heap.size w8 wA) := hid (HBC.out.trans (hb.mono HBC.out.size)); have HX := hid (HXC.out.later hb HXC.out.lt); clear hb)
          go_simp
          refine hK.out _ _ HwA.out (fun hHeld => ?_)
          clear hK hHeld
          try simp only [Act.put, List.setIfInBounds_toArray, List.set_cons_zero, List.set_cons_succ]
          refine wpAnyH_ready (rs := [11]) (by kernel_rfl) (by simp) ?_
          refine AllReadyH.cons rfl (fun K hK => ?_) AllReadyH.nil
          go_simp
          refine (HG0.out _ HwA.out).mono ?_
          rintro e wB ⟨rfl, hb⟩
          have HwB : Hid (Below w8.heap.size w8 wB) := hid (Below.trans HwA.out (hb.mono (Below.size HwA.out)))
          have HX := hid (HX.out.later hb HX.out.lt)
          clear hb
          go_simp
          refine hK.out _ _ HwB.out (fun hHeld => ?_)
          clear hK hHeld
          try simp only [Act.put, List.setIfInBounds_toArray, List.set_cons_zero, List.set_cons_succ]
          refine' tkw 12 (v := .agg #[.int .i64 G, .int .i64 G]) rfl (by kernel_rfl) (by kernel_rfl) HwB.out (fun _ _ _ h => h) (fun w' hS => by clear hS; go_simp; (try with_reducible rfl)) ?_
          try simp only [Act.put, List.setIfInBounds_toArray, List.set_cons_zero, List.set_cons_succ]
          refine wpAnyH_ready (rs := [14]) (by kernel_rfl) (by simp) ?_
          refine AllReadyH.cons rfl (fun K hK => ?_) AllReadyH.nil
          have t0 := HX.out.cell (i := 0) rfl
          have t1 := HX.out.cell (i := 1) rfl
          have z0 := HX.out.froz 0
          have z1 := HX.out.froz 1
          go_simp
          have HX8 := hid ((HX.out.set 0 (.int .i64 G)).set 1 (.int .i64 G))
          have HB9 := hid ((HwB.out.setCell (p := ⟨w8.heap.size, 0, none⟩) (by have := HBB.out; simp; (try omega)) (.int .i64 G)).setCell (p := ⟨w8.heap.size, 1, none⟩) (by have := HBB.out; simp; (try omega)) (.int .i64 G))
          refine hK.out _ _ HB9.out (fun hHeld => ?_)
          clear hK hHeld t0 t1 z0 z1
          try simp only [Act.put, List.setIfInBounds_toArray, List.set_cons_zero, List.set_cons_succ]
          refine wpAnyH_done (by kernel_rfl) ?_ _
          go_wp2_with fail
          go_meet
          exact ⟨w8.heap.size, rfl, hid ⟨HX8.out, HBB.out, HB9.out⟩⟩
      case rest =>
        obtain ⟨bb, rfl, HRG⟩ := hcut
        clear b0 b1
        obtain ⟨fg, hfg⟩ : ∃ fg : List Int → Int, fg = fun A => gainF T A P T.length := ⟨_, rfl⟩
        rw [← hfg] at HG1 HFOLD
        have HFG := hid hfg
        have HRG0 : Hid (RgAt w8 bb (mnF fg PP 0) (mxF fg PP 0) wc) := hid (by rw [← HG1.out.1, ← HG1.out.2]; exact HRG.out)
        clear hfg HRG
        go_wp2_with fail
        go_loopw [13] (fun u wr => ∃ k : Nat, k ≤ nn ∧ u = .int .i64 k ∧ Hid (RgAt w8 bb (mnF fg PP k) (mxF fg PP k) wr)) (fun u _ => nn - (intOf u).toNat)
        case atStart => exact ⟨0, Nat.zero_le _, rfl, HRG0⟩
        case round =>
          obtain ⟨k, hk, rfl, HRK⟩ := hrel
          have HBLr := hid (HBL8.out.later HRK.out.old HBL8.out.lt)
          have b0 := HBLr.out.cell (i := 0) rfl
          have b1 := HBLr.out.cell (i := 1) rfl
          by_cases hlt : k < nn
          · obtain ⟨A, hA⟩ : ∃ A, PP[k]? = some A := ⟨_, List.getElem?_eq_getElem (by rw [← HNN.out]; exact hlt)⟩
            obtain ⟨g5, cc5, px, cx, hv, ya, hel⟩ := HP8.out.at hA
            injection hv with e1 e2 e3
            injection e1 with e1
            injection e1 with e1 _ _
            subst e1
            clear e2 e3
            have hg5 := World.block_lt_of_cell? w8 _ ya
            have y0 : wr.cell? ⟨g4, k, none⟩ = some (.slice px A.length cx) := (HRK.out.old.cell (p := ⟨g4, k, none⟩) hg5).trans ya
            obtain ⟨gv, hgv⟩ : ∃ gv, gv = fg A := ⟨_, rfl⟩
            have HBD : Hid (Below w8.heap.size w8 wr.drew) := hid HRK.out.old.drew
            have HG2 : Hid (Calls Try.prog 38 #[.agg #[.slice p1 ns c1, .slice p2 nt c2], .slice px A.length cx, .slice p3 np c3] wr.drew (Ret (.int .i64 gv) wr.drew)) := hid (by
              rw [hgv, HFG.out]
              exact HGA.out A _ _ (List.mem_of_getElem? hA) (HBK8.out.later HBD.out) (hel.1.later HBD.out) (by rw [← HNP.out]; exact HJ8.out.later HBD.out))
            obtain ⟨xm, hxm⟩ : ∃ x, x = mnF fg PP k := ⟨_, rfl⟩
            obtain ⟨xM, hxM⟩ : ∃ x, x = mxF fg PP k := ⟨_, rfl⟩
            have hpk : PP.getD k [] = A := by rw [List.getD_eq_getElem?_getD, hA]; rfl
            have HN1 : Hid (mnF fg PP (k + 1) = min xm gv) := hid (by show min (mnF fg PP k) (fg (PP.getD k [])) = _; rw [hpk, hxm, hgv])
            have HN2 : Hid (mxF fg PP (k + 1) = max xM gv) := hid (by show max (mxF fg PP k) (fg (PP.getD k [])) = _; rw [hpk, hxM, hgv])
            rw [← hxm, ← hxM] at HRK
            have HRD : Hid (Blk wr.drew bb #[.int .i64 xm, .int .i64 xM] 38) := hid HRK.out.box.drew
            have HGE : Hid (w8.heap.size ≤ bb) := hid HRK.out.ge
            clear hA ya hel hg5 hgv hxm hxM hpk
            go_wp2_with fail
            refine region_tail 6 (by kernel_rfl) (by kernel_rfl) ?_
            simp only [List.take_succ_cons, List.take_zero, List.drop_succ_cons, List.drop_zero]
            repeat still_step
            try refine wpStill_nil ?_
            go_wp2_with fail
            refine HG2.out.mono ?_
            rintro e w9 ⟨rfl, hb⟩
            have HB9 : Hid (Below w8.heap.size w8 w9) := hid (HBD.out.trans (hb.mono HBD.out.size))
            have HX9 := hid (HRD.out.later hb HRD.out.lt)
            clear hb y0 b0 b1
            have t0 := HX9.out.cell (i := 0) rfl
            have t1 := HX9.out.cell (i := 1) rfl
            have z0 := HX9.out.froz 0
            have z1 := HX9.out.froz 1
            have HNEW : Hid (RgAt w8 bb (mnF fg PP (k + 1)) (mxF fg PP (k + 1)) ((w9.setCell ⟨bb, 0, none⟩ (.int .i64 (min xm gv))).setCell ⟨bb, 1, none⟩ (.int .i64 (max xM gv)))) := hid (by
              rw [HN1.out, HN2.out]
              exact ⟨(HX9.out.set 0 (.int .i64 (min xm gv))).set 1 (.int .i64 (max xM gv)), HGE.out, (HB9.out.setCell (p := ⟨bb, 0, none⟩) (by have := HGE.out; simp; (try omega)) _).setCell (p := ⟨bb, 1, none⟩) (by have := HGE.out; simp; (try omega)) _⟩)
            go_wp2_with fail
            go_roundw
            case rel => exact ⟨k + 1, by omega, by go_num, HNEW⟩
            case measure => simp [intOf]; omega
          · have hkn : nn = k := by omega
            subst hkn
            have hF := HFOLD.out
            rw [← HNN.out] at hF
            rw [hF.1, hF.2] at HRK
            clear hF
            have c0 := (HR8.out.later HRK.out.old HR8.out.lt).cell (i := 0) rfl
            have c1 := (HR8.out.later HRK.out.old HR8.out.lt).cell (i := 1) rfl
            have t0 := HRK.out.box.cell (i := 0) rfl
            have t1 := HRK.out.box.cell (i := 1) rfl
            have HBX : Hid (Below w8.heap.size w8 wr) := hid HRK.out.old
            go_wp2_with fail
            clear t0 t1 c0 c1 b0 b1
            obtain ⟨wo, rfl⟩ : ∃ wo : World, wo = wr := ⟨_, rfl⟩
            go_loopw [15] (fun u wr => ∃ i : Nat, i ≤ nt ∧ u = .int .i64 i ∧ Hid (Below w8.heap.size w8 wr)) (fun u _ => nt - (intOf u).toNat)
            case atStart => exact ⟨0, Nat.zero_le _, rfl, HBX⟩
            case round =>
              obtain ⟨i, hi, rfl, HBI⟩ := hrel
              by_cases hil : i < nt
              · have hA0l : A0.length = nt := by rw [((HPA.out A0).1 (List.mem_of_getElem? HA0.out)).1, HNT.out]
                obtain ⟨x0, hx0⟩ : ∃ x, A0[i]? = some x := ⟨_, List.getElem?_eq_getElem (by omega)⟩
                obtain ⟨g7, o7, c7, hv, yb, _⟩ := int_at (HEL.out.1.later HBI.out) hx0
                injection hv with e1 e2 e3
                subst e1
                have y0 := HYA.out wr HBI.out
                have hil0 : i < A0.length := by omega
                obtain ⟨fi, hfi⟩ : ∃ fi : List Int → Int, fi = fun A => A.getD i 0 := ⟨_, rfl⟩
                have HFI := hid hfi
                have HM0 : Hid (x0 = mnF fi PP 0 ∧ x0 = mxF fi PP 0) := hid (by
                  have h9 : fi (PP.getD 0 []) = x0 := by rw [hfi, show PP.getD 0 [] = A0 by rw [List.getD_eq_getElem?_getD, HA0.out]; rfl]; show A0.getD i 0 = x0; rw [List.getD_eq_getElem?_getD, hx0]; rfl
                  exact ⟨h9.symm, h9.symm⟩)
                have HBY : Hid (∀ q, Below w8.heap.size w8 (wr.drewN q)) := hid (fun q => ⟨HBI.out.os, HBI.out.tape, HBI.out.output, HBI.out.size, HBI.out.block⟩)
                clear e2 e3 hx0 hfi hA0l
                go_wp2_with fail
                go_quiet (fail)
                obtain ⟨wi, hwi⟩ : ∃ wi, wi = wr.drewN nq := ⟨_, rfl⟩
                have HBW : Hid (Below w8.heap.size w8 wi) := hid (by rw [hwi]; exact HBY.out _)
                rw [← hwi]
                clear hwi yb y0 HBY
                go_wp2_with fail
                go_loopw [16, 17, 18] (fun a b u wr => ∃ j : Nat, j ≤ nn ∧ a = .int .i64 (mnF fi PP j) ∧ b = .int .i64 (mxF fi PP j) ∧ u = .int .i64 j ∧ Hid (Below w8.heap.size w8 wr)) (fun _ _ u _ => nn - (intOf u).toNat)
                case atStart => exact ⟨0, Nat.zero_le _, by rw [← HM0.out.1], by rw [← HM0.out.2], rfl, HBW⟩
                case round =>
                  obtain ⟨j, hj, rfl, rfl, rfl, HBJ⟩ := hrel
                  by_cases hjl : j < nn
                  · obtain ⟨A, hA⟩ : ∃ A, PP[j]? = some A := ⟨_, List.getElem?_eq_getElem (by rw [← HNN.out]; exact hjl)⟩
                    have hAl : A.length = nt := by rw [((HPA.out A).1 (List.mem_of_getElem? hA)).1, HNT.out]
                    obtain ⟨g5, cc5, px, cx, hv, ya, hel⟩ := HP8.out.at hA
                    injection hv with e1 e2 e3
                    injection e1 with e1
                    injection e1 with e1 _ _
                    subst e1
                    have hg5 := World.block_lt_of_cell? w8 _ ya
                    have y0 : wr.cell? ⟨g4, j, none⟩ = some (.slice px A.length cx) := (HBJ.out.cell (p := ⟨g4, j, none⟩) hg5).trans ya
                    obtain ⟨x, hx⟩ : ∃ x, A[i]? = some x := ⟨_, List.getElem?_eq_getElem (by omega)⟩
                    obtain ⟨g8, o8, c8, hv8, yb, _⟩ := int_at (hel.1.later HBJ.out) hx
                    injection hv8 with f1 f2 f3
                    subst f1
                    have hil1 : i < A.length := by omega
                    have hpk : fi (PP.getD j []) = x := by rw [HFI.out, show PP.getD j [] = A by rw [List.getD_eq_getElem?_getD, hA]; rfl]; show A.getD i 0 = x; rw [List.getD_eq_getElem?_getD, hx]; rfl
                    obtain ⟨xm, hxm⟩ : ∃ z, z = mnF fi PP j := ⟨_, rfl⟩
                    obtain ⟨xM, hxM⟩ : ∃ z, z = mxF fi PP j := ⟨_, rfl⟩
                    have HN1 : Hid (mnF fi PP (j + 1) = min xm x) := hid (by show min (mnF fi PP j) (fi (PP.getD j [])) = _; rw [hpk, hxm])
                    have HN2 : Hid (mxF fi PP (j + 1) = max xM x) := hid (by show max (mxF fi PP j) (fi (PP.getD j [])) = _; rw [hpk, hxM])
                    have HBY : Hid (∀ q, Below w8.heap.size w8 (wr.drewN q)) := hid (fun q => ⟨HBJ.out.os, HBJ.out.tape, HBJ.out.output, HBJ.out.size, HBJ.out.block⟩)
                    rw [← hxm, ← hxM]
                    clear e2 e3 f2 f3 hxm hxM hpk hx hA ya hel hg5 hAl
                    go_wp2_with fail
                    go_quiet (fail)
                    go_wp2_with fail
                    go_roundw
                    case rel => exact ⟨j + 1, by omega, by rw [HN1.out], by rw [HN2.out], by go_num, hid (HBY.out _)⟩
                    case measure => simp [intOf]; omega
                  · have hjn : nn = j := by omega
                    subst hjn
                    obtain ⟨r, hr⟩ : ∃ r, L[i]? = some r := ⟨_, List.getElem?_eq_getElem (by rw [HLN.out]; exact hil)⟩
                    have hends := HL.out.ends i r hr
                    obtain ⟨la, lb⟩ := r
                    have hF := mn_ends HPA.out (by rw [← HNN.out]; omega) hends
                    rw [← HNN.out, ← HFI.out] at hF
                    rw [hF.1, hF.2]
                    obtain ⟨g6, cc6, hv6, _⟩ := row_some HO8.out (by omega)
                    injection hv6 with f1 f2 f3
                    subst f1
                    have HOr := hid (ownsRow_later HO8.out HBJ.out)
                    obtain ⟨l0, l1⟩ : wr.cell? ⟨g6, i * 2, none⟩ = some (.int .i64 la) ∧ wr.cell? ⟨g6, i * 2 + 1, none⟩ = some (.int .i64 lb) := ⟨by rw [HOr.out.cellAt (i * 2) (by omega)]; exact rg_get L i _ hr 0 _ rfl, by rw [HOr.out.cellAt (i * 2 + 1) (by omega)]; exact rg_get L i _ hr 1 _ rfl⟩
                    clear f2 f3 hF hends hr
                    go_wp2_with fail
                    go_roundw
                    case rel => exact ⟨i + 1, by omega, by go_num, HBJ⟩
                    case measure => simp [intOf]; omega
              · have hin : nt = i := by omega
                subst hin
                go_wp2_with fail
                go_ret
                exact ⟨rfl, HB8.out.trans (HBI.out.mono HB8.out.size)⟩
end Go.Proofs.Ytncnpodanlhdkaa
