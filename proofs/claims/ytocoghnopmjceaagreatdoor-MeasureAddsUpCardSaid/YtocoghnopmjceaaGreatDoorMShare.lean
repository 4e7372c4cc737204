/-
  readShare.
-/
import Derived.Test.YtocoghnopmjceaaGreatDoorMMinMax
import Derived.WalkLawsBesides
import Derived.OneCell
import Derived.Test.YtocoghnopmjceaaGreatDoorMRules
import Derived.MapKept
import Derived.Maps.Own
import Derived.Sort.KeysCollected
namespace Go.Proofs.YtocoghnopmjceaaGreatDoor
open Go.RowKit

/-- The order of texts. -/
def strLe (a b : ByteArray) : Bool := Op.bytesLess a.toList b.toList || a.toList == b.toList

/-- The error of a share behind a lot. -/
def shareErr (before : ByteArray) (s : ByteArray × ByteArray) : Nat :=
  if isName s.1.data.toList = false then 8 else if strLe s.1 before = true then 11 else if checkR s.2.data.toList ≠ 0 then checkR s.2.data.toList else if (numQ s.2.data.toList).num ≤ 0 then 12 else 0

/-- What readShare answers. -/
def ShareOf (before : ByteArray) (s : ByteArray × ByteArray) (w : World) (e : Ending) (w' : World) : Prop :=
  (if shareErr before s = 0 then ∃ z : NV, e = .returned (.tuple #[.agg #[.bool z.b, .slice z.p z.k z.c, .slice z.q z.j z.d], .int .i64 0]) ∧ NumV w' (.agg #[.bool z.b, .slice z.p z.k z.c, .slice z.q z.j z.d]) (numQ s.2.data.toList)
    else e = .returned (.tuple #[.agg #[.bool false, .slice none 0 0, .slice none 0 0], .int .i64 (shareErr before s : Nat)])) ∧ Below w.heap.size w w'

theorem shareOf_bad {before : ByteArray} {s : ByteArray × ByteArray} {w w' : World} (k : Nat) {z : Int} (h : shareErr before s = k) (hk : k ≠ 0) (hz : z = k) (hb : Below w.heap.size w w') : ShareOf before s w (.returned (.tuple #[.agg #[.bool false, .slice none 0 0, .slice none 0 0], .int .i64 z])) w' := by
  unfold ShareOf
  rw [h, if_neg hk, hz]
  exact ⟨rfl, hb⟩

/-- Inside readShare: the box of the share, and the place of the result. -/
def ShIn (w : World) (s : ByteArray × ByteArray) (W : World) : Prop :=
  Below w.heap.size w W ∧ Own W w.heap.size 2 (two' (.string s.1) (.string s.2)) ∧ One W (w.heap.size + 1) ⟨false, none, 0, 0, none, 0, 0⟩

theorem ShIn.later {w W W' : World} {s : ByteArray × ByteArray} (h : ShIn w s W) (hb : Below W.heap.size W W') : ShIn w s W' :=
  ⟨h.1.trans (hb.mono h.1.size), h.2.1.later (hb.mono h.2.1.1), h.2.2.later (hb.mono h.2.2.1)⟩

theorem sh_start (w : World) (s : ByteArray × ByteArray) (t : TypeId) : ShIn w s ((w.alloc (.cells #[.string s.1, .string s.2] t)).alloc (.cells #[.bool false, .slice none 0 0, .slice none 0 0] 75)) := by
  have h1 : Below w.heap.size w (w.alloc (.cells #[.string s.1, .string s.2] t)) := (Below.refl _ _).alloc (Nat.le_refl _) _
  have p1 := own_two w t (.string s.1) (.string s.2)
  have p2 := own3 (w.alloc (.cells #[.string s.1, .string s.2] t)) false (.slice none 0 0) (.slice none 0 0)
  rw [World.size_alloc] at p2
  exact ⟨h1.alloc (by rw [World.size_alloc]; omega) _, p1.later ((Below.refl _ _).alloc (by rw [World.size_alloc]; omega) _), p2⟩

theorem ShIn.cells {w W : World} {s : ByteArray × ByteArray} (h : ShIn w s W) : (W.cell? ⟨w.heap.size, 0, none⟩ = some (.string s.1) ∧ W.cell? ⟨w.heap.size, 1, none⟩ = some (.string s.2)) ∧
    (W.cell? ⟨w.heap.size + 1, 0, none⟩ = some (.bool false) ∧ W.cell? ⟨w.heap.size + 1, 1, none⟩ = some (.slice none 0 0) ∧ W.cell? ⟨w.heap.size + 1, 2, none⟩ = some (.slice none 0 0)) ∧
    W.frozen? ⟨w.heap.size + 1, 0, none⟩ = false ∧ W.frozen? ⟨w.heap.size + 1, 1, none⟩ = false ∧ W.frozen? ⟨w.heap.size + 1, 2, none⟩ = false :=
  ⟨two_cells' h.2.1, h.2.2.cells.1, h.2.2.cells.2⟩

theorem sgn_le {q : Rat} : sgn q ≤ 0 ↔ q.num ≤ 0 := by
  unfold sgn
  split
  · constructor <;> intro <;> omega
  · split <;> constructor <;> intro <;> omega

/-- The stores of no number into the place of the result. -/
theorem sh_none {w W : World} {s : ByteArray × ByteArray} (h : ShIn w s W) : Below w.heap.size w (((W.setCell ⟨w.heap.size + 1, 0, none⟩ (.bool false)).setCell ⟨w.heap.size + 1, 1, none⟩ (.slice none 0 0)).setCell ⟨w.heap.size + 1, 2, none⟩ (.slice none 0 0)) :=
  ((h.1.setCell (p := ⟨w.heap.size + 1, 0, none⟩) (by show w.heap.size ≤ w.heap.size + 1; omega) _).setCell (p := ⟨w.heap.size + 1, 1, none⟩) (by show w.heap.size ≤ w.heap.size + 1; omega) _).setCell (p := ⟨w.heap.size + 1, 2, none⟩) (by show w.heap.size ≤ w.heap.size + 1; omega) _

set_option maxRecDepth 100000 in
set_option maxHeartbeats 4000000 in
/-- readShare returns the part of a share behind that of the lot before, or its first error. -/
theorem readShare_any (before : ByteArray) (s : ByteArray × ByteArray) (w : World) (hg : GW w) (hs : s.2.size ≤ 1073741824) :
    Calls Tryz.prog 123 #[.agg #[.string s.1, .string s.2], .string before] w (ShareOf before s w) := by
  have HW0 := hid (sh_start w s 58)
  obtain ⟨⟨s0, s1⟩, ⟨r0, r1, r2⟩, g0, g1, g2⟩ := HW0.out.cells
  have HNA : Hid (Calls Tryz.prog 21 #[.string s.1] ((w.alloc (.cells #[.string s.1, .string s.2] 58)).alloc (.cells #[.bool false, .slice none 0 0, .slice none 0 0] 75)) fun e w' => e = .returned (.bool (isName s.1.data.toList)) ∧ ShIn w s w') := hid ((isName_any s.1 _).mono fun e w' ⟨h1, h2⟩ => ⟨h1, HW0.out.later h2⟩)
  by_cases hn : isName s.1.data.toList = false
  · have HFIN : Hid (∀ w', Below w.heap.size w w' → ShareOf before s w (.returned (.tuple #[.agg #[.bool false, .slice none 0 0, .slice none 0 0], .int .i64 8])) w') := hid fun w' hb => shareOf_bad 8 (by unfold shareErr; rw [if_pos hn]) (by omega) rfl hb
    rw [hn] at HNA
    clear hg hs hn
    go_enter Tryz.func123, Tryz.ntmps123
    go_wp2_with fail
    clear r0 r1 r2 g0 g1 g2 s0 s1
    refine HNA.out.mono ?_
    rintro e w1 ⟨rfl, ht⟩
    obtain ⟨⟨s0, s1⟩, ⟨r0, r1, r2⟩, g0, g1, g2⟩ := ShIn.cells ht
    have HB := hid (sh_none ht)
    clear ht
    go_wp2_with fail
    refine bodyPost_ret (v := .tuple #[.agg #[.bool false, .slice none 0 0, .slice none 0 0], .int .i64 8]) ?_ rfl ?_
    · simp [results, Tryz.results123, go_sem, r0, r1, r2]
    · exact HFIN.out _ HB.out
  · have hn' : isName s.1.data.toList = true := by simpa using hn
    rw [hn'] at HNA
    by_cases hle : strLe s.1 before = true
    · have HFIN : Hid (∀ w', Below w.heap.size w w' → ShareOf before s w (.returned (.tuple #[.agg #[.bool false, .slice none 0 0, .slice none 0 0], .int .i64 11])) w') := hid fun w' hb => shareOf_bad 11 (by unfold shareErr; rw [if_neg hn, if_pos hle]) (by omega) rfl hb
      have hAB : Op.bytesLess s.1.toList before.toList = true ∨ (Op.bytesLess s.1.toList before.toList = false ∧ (s.1.toList == before.toList) = true) := by
        unfold strLe at hle
        cases h : Op.bytesLess s.1.toList before.toList
        · right; rw [h] at hle; exact ⟨rfl, by simpa using hle⟩
        · exact .inl rfl
      clear hg hs hn hn' hle
      rcases hAB with hA | ⟨hA, hB⟩
      all_goals
        go_enter Tryz.func123, Tryz.ntmps123
        go_wp2_with fail
        clear r0 r1 r2 g0 g1 g2 s0 s1
        refine HNA.out.mono ?_
        rintro e w1 ⟨rfl, ht⟩
        obtain ⟨⟨s0, s1⟩, ⟨r0, r1, r2⟩, g0, g1, g2⟩ := ShIn.cells ht
        have HB := hid (sh_none ht)
        clear ht
        go_wp2_with fail
        refine bodyPost_ret (v := .tuple #[.agg #[.bool false, .slice none 0 0, .slice none 0 0], .int .i64 11]) ?_ rfl ?_
        · simp [results, Tryz.results123, go_sem, r0, r1, r2]
        · exact HFIN.out _ HB.out
    · obtain ⟨hA, hB⟩ : Op.bytesLess s.1.toList before.toList = false ∧ (s.1.toList == before.toList) = false := by
        unfold strLe at hle
        simpa [Bool.or_eq_true] using hle
      by_cases hc : checkR s.2.data.toList = 0
      · have HRD : Hid (∀ W, ShIn w s W → Calls Tryz.prog 32 #[.string s.2] W fun e w' => (∃ z : NV, e = .returned (.tuple #[.agg #[.bool z.b, .slice z.p z.k z.c, .slice z.q z.j z.d], .int .i64 0]) ∧ NumV w' (.agg #[.bool z.b, .slice z.p z.k z.c, .slice z.q z.j z.d]) (numQ s.2.data.toList)) ∧ ShIn w s w') := hid fun W hW => (readNum_ok s.2 W (hg.later hW.1) hs hc).mono fun e w' ⟨⟨v, he, hv⟩, hb⟩ => by
          obtain ⟨z, rfl⟩ := hv.nv
          exact ⟨⟨z, he, hv⟩, hW.later hb⟩
        by_cases hp : (numQ s.2.data.toList).num ≤ 0
        · have HFIN : Hid (∀ w', Below w.heap.size w w' → ShareOf before s w (.returned (.tuple #[.agg #[.bool false, .slice none 0 0, .slice none 0 0], .int .i64 12])) w') := hid fun w' hb => shareOf_bad 12 (by unfold shareErr; rw [if_neg hn, if_neg hle, if_neg (by omega), if_pos hp]) (by omega) rfl hb
          have hsg : sgn (numQ s.2.data.toList) ≤ 0 := sgn_le.2 hp
          clear hg hs hn hn' hle hc hp
          have HSG := hid (fun v W => sign_any v (numQ s.2.data.toList) W)
          generalize sgn (numQ s.2.data.toList) = sg at *
          go_enter Tryz.func123, Tryz.ntmps123
          go_wp2_with fail
          clear r0 r1 r2 g0 g1 g2 s0 s1
          refine HNA.out.mono ?_
          rintro e w1 ⟨rfl, ht⟩
          have HT1 := hid ht
          obtain ⟨⟨s0, s1⟩, ⟨r0, r1, r2⟩, g0, g1, g2⟩ := ShIn.cells ht
          clear ht HNA
          go_wp2_with fail
          clear r0 r1 r2 g0 g1 g2 s0 s1
          refine (HRD.out _ HT1.out).mono ?_
          rintro e w2 ⟨⟨z, rfl, hv⟩, ht⟩
          have hal : Below w2.heap.size w2 (w2.alloc (.cells #[.bool z.b, .slice z.p z.k z.c, .slice z.q z.j z.d] 75)) := (Below.refl _ _).alloc (Nat.le_refl _) _
          have HT2 := hid (ht.later hal)
          obtain ⟨q0, q1, q2⟩ := (one_new w2 z).cells.1
          have HS2 := hid (HSG.out _ _ (hv.later hal))
          clear ht hv hal HRD HSG
          go_wp2_with fail
          refine HS2.out.mono ?_
          rintro e w3 ⟨rfl, hb⟩
          have HT3 := hid (HT2.out.later hb)
          obtain ⟨⟨s0, s1⟩, ⟨r0, r1, r2⟩, g0, g1, g2⟩ := HT3.out.cells
          have HB := hid (sh_none HT3.out)
          clear hb q0 q1 q2 HS2
          go_wp2_with fail
          refine bodyPost_ret (v := .tuple #[.agg #[.bool false, .slice none 0 0, .slice none 0 0], .int .i64 12]) ?_ rfl ?_
          · simp [results, Tryz.results123, go_sem, r0, r1, r2]
          · exact HFIN.out _ HB.out
        · have HFIN : Hid (∀ w' (z : NV), NumV w' (.agg #[.bool z.b, .slice z.p z.k z.c, .slice z.q z.j z.d]) (numQ s.2.data.toList) → Below w.heap.size w w' → ShareOf before s w (.returned (.tuple #[.agg #[.bool z.b, .slice z.p z.k z.c, .slice z.q z.j z.d], .int .i64 0])) w') := hid fun w' z hv hb => by
            have h0 : shareErr before s = 0 := by unfold shareErr; rw [if_neg hn, if_neg hle, if_neg (by omega), if_neg hp]
            unfold ShareOf
            rw [if_pos h0]
            exact ⟨⟨z, rfl, hv⟩, hb⟩
          have hsg : ¬ sgn (numQ s.2.data.toList) ≤ 0 := fun h => hp (sgn_le.1 h)
          clear hg hs hn hn' hle hc hp
          have HSG := hid (fun v W => sign_any v (numQ s.2.data.toList) W)
          generalize sgn (numQ s.2.data.toList) = sg at *
          go_enter Tryz.func123, Tryz.ntmps123
          go_wp2_with fail
          clear r0 r1 r2 g0 g1 g2 s0 s1
          refine HNA.out.mono ?_
          rintro e w1 ⟨rfl, ht⟩
          have HT1 := hid ht
          obtain ⟨⟨s0, s1⟩, ⟨r0, r1, r2⟩, g0, g1, g2⟩ := ShIn.cells ht
          clear ht HNA
          go_wp2_with fail
          clear r0 r1 r2 g0 g1 g2 s0 s1
          refine (HRD.out _ HT1.out).mono ?_
          rintro e w2 ⟨⟨z, rfl, hv⟩, ht⟩
          have hal : Below w2.heap.size w2 (w2.alloc (.cells #[.bool z.b, .slice z.p z.k z.c, .slice z.q z.j z.d] 75)) := (Below.refl _ _).alloc (Nat.le_refl _) _
          have HT2 := hid (ht.later hal)
          have HO2 := hid (one_new w2 z)
          obtain ⟨q0, q1, q2⟩ := HO2.out.cells.1
          have HS2 := hid (HSG.out _ _ (hv.later hal))
          have HV2 := hid (hv.later hal)
          clear ht hv hal HRD HSG
          go_wp2_with fail
          clear q0 q1 q2
          refine HS2.out.mono ?_
          rintro e w3 ⟨rfl, hb⟩
          have HT3 := hid (HT2.out.later hb)
          have HV3 := hid (HV2.out.later hb)
          obtain ⟨⟨s0, s1⟩, ⟨r0, r1, r2⟩, g0, g1, g2⟩ := HT3.out.cells
          obtain ⟨q0, q1, q2⟩ := (One.cells (HO2.out.later (hb.mono HO2.out.1))).1
          have hput := HT3.out.2.2.put (x := z)
          have HNV := hid (hput.2.1 _ _ HV3.out)
          have HB := hid (hput.2.2.1 _ _ (by omega) HT3.out.1)
          clear hb HS2 hput
          go_wp2_with fail
          refine bodyPost_ret (v := .tuple #[.agg #[.bool z.b, .slice z.p z.k z.c, .slice z.q z.j z.d], .int .i64 0]) ?_ rfl ?_
          · simp [results, Tryz.results123, go_sem, r0, r1, r2]
          · exact HFIN.out _ _ HNV.out HB.out
      · have HRD : Hid (∀ W, ShIn w s W → Calls Tryz.prog 32 #[.string s.2] W fun e w' => e = .returned (.tuple #[.agg #[.bool false, .slice none 0 0, .slice none 0 0], .int .i64 (checkR s.2.data.toList : Nat)]) ∧ ShIn w s w') := hid fun W hW => (readNum_bad s.2 W (hg.later hW.1) hs hc).mono fun e w' ⟨h1, hb⟩ => ⟨h1, hW.later hb⟩
        have HFIN : Hid (∀ w', Below w.heap.size w w' → ShareOf before s w (.returned (.tuple #[.agg #[.bool false, .slice none 0 0, .slice none 0 0], .int .i64 (checkR s.2.data.toList : Nat)])) w') := hid fun w' hb => shareOf_bad _ (by unfold shareErr; rw [if_neg hn, if_neg hle, if_pos hc]) hc rfl hb
        have hb0 : ((checkR s.2.data.toList : Int) == 0) = false := beq_eq_false_iff_ne.2 (by omega)
        clear hg hs hn hn' hle hc
        generalize checkR s.2.data.toList = ck at *
        go_enter Tryz.func123, Tryz.ntmps123
        go_wp2_with fail
        clear r0 r1 r2 g0 g1 g2 s0 s1
        refine HNA.out.mono ?_
        rintro e w1 ⟨rfl, ht⟩
        have HT1 := hid ht
        obtain ⟨⟨s0, s1⟩, ⟨r0, r1, r2⟩, g0, g1, g2⟩ := ShIn.cells ht
        clear ht HNA
        go_wp2_with fail
        clear r0 r1 r2 g0 g1 g2 s0 s1
        refine (HRD.out _ HT1.out).mono ?_
        rintro e w2 ⟨rfl, ht⟩
        have hal : Below w2.heap.size w2 (w2.alloc (.cells #[.bool false, .slice none 0 0, .slice none 0 0] 75)) := (Below.refl _ _).alloc (Nat.le_refl _) _
        have HT2 := hid (ht.later hal)
        obtain ⟨⟨s0, s1⟩, ⟨r0, r1, r2⟩, g0, g1, g2⟩ := ShIn.cells HT2.out
        have HB := hid (sh_none HT2.out)
        clear ht hal HRD
        go_wp2_with fail
        refine bodyPost_ret (v := .tuple #[.agg #[.bool false, .slice none 0 0, .slice none 0 0], .int .i64 ck]) ?_ rfl ?_
        · simp [results, Tryz.results123, go_sem, r0, r1, r2]
        · exact HFIN.out _ HB.out
end Go.Proofs.YtocoghnopmjceaaGreatDoor

/-
  Blocks that are known whole; worlds that differ in two blocks.
-/
namespace Go.Proofs.YtocoghnopmjceaaGreatDoor
open Go.RowKit

/-- A block that is known whole. -/
def HBlk (W : World) (g : Nat) (cs : Array Value) (t : TypeId) : Prop := W.heap[g]? = some (.cells cs t (0, 0))

theorem HBlk.lt {W : World} {g : Nat} {cs : Array Value} {t : TypeId} (h : HBlk W g cs t) : g < W.heap.size := lt_of_block h
theorem HBlk.later {W W' : World} {g : Nat} {cs : Array Value} {t : TypeId} (h : HBlk W g cs t) (hb : Below W.heap.size W W') : HBlk W' g cs t := (hb.block g h.lt).trans h
theorem HBlk.later' {W W' : World} {g B : Nat} {cs : Array Value} {t : TypeId} (h : HBlk W g cs t) (hb : Below B W W') (hB : g < B) : HBlk W' g cs t := (hb.block g hB).trans h
theorem HBlk.other {W : World} {g g' : Nat} {cs : Array Value} {t : TypeId} (h : HBlk W g cs t) (hne : g ≠ g') (o : Nat) (v : Value) : HBlk (W.setCell ⟨g', o, none⟩ v) g cs t := (Below.heap_setCell _ _ _ _ hne).trans h
theorem HBlk.set {W : World} {g : Nat} {cs : Array Value} {t : TypeId} (h : HBlk W g cs t) (o : Nat) (v : Value) : HBlk (W.setCell ⟨g, o, none⟩ v) g (cs.setIfInBounds o v) t := by
  have hlt := h.lt
  have h' : W.heap[g] = .cells cs t (0, 0) := by
    have := h
    unfold HBlk at this
    simpa [Array.getElem?_eq_getElem hlt] using this
  show (W.heap.modify g _)[g]? = _
  rw [Array.getElem?_eq_getElem (by simpa using hlt), Array.getElem_modify_self, h']
  rfl
theorem HBlk.own {W : World} {g n : Nat} {cs : Array Value} {t : TypeId} {f : Nat → Value} (h : HBlk W g cs t) (hf : ∀ i, i < n → cs[i]? = some (f i)) : Own W g n f := by
  refine ⟨h.lt, fun i hi => ⟨?_, ?_⟩⟩
  · rw [cell_of_row W g i cs t (0, 0) h]; exact hf i hi
  · have := h
    unfold HBlk at this
    simp [World.frozen?, this]
theorem blk_new (W : World) (cs : Array Value) (t : TypeId) : HBlk (W.alloc (.cells cs t)) W.heap.size cs t := heap_alloc_new W _

theorem HBlk.own1 {W : World} {g : Nat} {v : Value} {t : TypeId} (h : HBlk W g #[v] t) : Own W g 1 (fun _ => v) := h.own fun i hi => by
  match i, hi with
  | 0, _ => rfl
theorem HBlk.one {W : World} {g : Nat} {x : NV} {t : TypeId} (h : HBlk W g #[.bool x.b, .slice x.p x.k x.c, .slice x.q x.j x.d] t) : One W g x := h.own fun i hi => by
  match i, hi with
  | 0, _ => rfl
  | 1, _ => rfl
  | 2, _ => rfl
theorem HBlk.str {W : World} {g : Nat} {s : ByteArray} {t : TypeId} (h : HBlk W g #[.string s] t) : W.cell? ⟨g, 0, none⟩ = some (.string s) ∧ W.frozen? ⟨g, 0, none⟩ = false := ⟨cell_of_one h, free_of_one h⟩
theorem HBlk.put3 {W : World} {g : Nat} {x z : NV} {t : TypeId} (h : HBlk W g #[.bool x.b, .slice x.p x.k x.c, .slice x.q x.j x.d] t) : HBlk (((W.setCell ⟨g, 0, none⟩ (.bool z.b)).setCell ⟨g, 1, none⟩ (.slice z.p z.k z.c)).setCell ⟨g, 2, none⟩ (.slice z.q z.j z.d)) g #[.bool z.b, .slice z.p z.k z.c, .slice z.q z.j z.d] t :=
  ((h.set 0 (.bool z.b)).set 1 (.slice z.p z.k z.c)).set 2 (.slice z.q z.j z.d)
theorem HBlk.other3 {W : World} {g g' : Nat} {cs : Array Value} {t : TypeId} (h : HBlk W g cs t) (hne : g ≠ g') (a b c : Value) : HBlk (((W.setCell ⟨g', 0, none⟩ a).setCell ⟨g', 1, none⟩ b).setCell ⟨g', 2, none⟩ c) g cs t :=
  ((h.other hne _ _).other hne _ _).other hne _ _

/-- Two worlds that differ in two blocks, and in new ones. -/
def Chg (g1 g2 : Nat) (W W' : World) : Prop := Below (min g1 g2) W W' ∧ ∀ k, k < W.heap.size → k ≠ g1 → k ≠ g2 → W'.heap[k]? = W.heap[k]?

theorem Chg.refl (g1 g2 : Nat) (W : World) : Chg g1 g2 W W := ⟨Below.refl _ _, fun _ _ _ _ => rfl⟩
theorem Chg.trans {g1 g2 : Nat} {a b c : World} (h : Chg g1 g2 a b) (k : Chg g1 g2 b c) : Chg g1 g2 a c := ⟨h.1.trans k.1, fun i h0 h1 h2 => (k.2 i (Nat.lt_of_lt_of_le h0 h.1.size) h1 h2).trans (h.2 i h0 h1 h2)⟩
theorem Chg.below {g1 g2 : Nat} {a b c : World} (h : Chg g1 g2 a b) (hg : min g1 g2 ≤ b.heap.size) (k : Below b.heap.size b c) : Chg g1 g2 a c := ⟨h.1.trans (k.mono hg), fun i h0 h1 h2 => (k.block i (Nat.lt_of_lt_of_le h0 h.1.size)).trans (h.2 i h0 h1 h2)⟩
theorem Chg.set {g1 g2 g : Nat} {a b : World} (h : Chg g1 g2 a b) (hg : g = g1 ∨ g = g2 ∨ a.heap.size ≤ g) (hm : min g1 g2 ≤ g) (o : Nat) (v : Value) : Chg g1 g2 a (b.setCell ⟨g, o, none⟩ v) :=
  ⟨h.1.setCell hm v, fun i h0 h1 h2 => (Below.heap_setCell _ _ _ _ (by intro e; subst e; rcases hg with e | e | e <;> omega)).trans (h.2 i h0 h1 h2)⟩

theorem blk_noInt {W : World} {g b o : Nat} {cs : Array Value} {t : TypeId} {k : IntKind} {z : Int} (h : HBlk W g cs t) (hc : ∀ c ∈ cs.toList, ∀ k z, c ≠ .int k z) (hcell : W.cell? ⟨b, o, none⟩ = some (.int k z)) : b ≠ g := by
  rintro rfl
  rw [cell_of_row W b o cs t (0, 0) h] at hcell
  rw [← Array.getElem?_toList] at hcell
  exact hc _ (List.mem_of_getElem? hcell) _ _ rfl

theorem Nat'.chg {g1 g2 : Nat} {W W' : World} {v : Value} {n : Nat} {c1 c2 : Array Value} {t1 t2 : TypeId} (h : Nat' W v n) (hc : Chg g1 g2 W W') (b1 : HBlk W g1 c1 t1) (b2 : HBlk W g2 c2 t2) (n1 : ∀ c ∈ c1.toList, ∀ k z, c ≠ .int k z) (n2 : ∀ c ∈ c2.toList, ∀ k z, c ≠ .int k z) : Nat' W' v n := by
  obtain ⟨h1, q, c, h2, h3, h4, h5⟩ := h
  refine ⟨h1, q, c, h2, h3, h4, ?_⟩
  rcases h5 with h5 | ⟨b, o, h6, h7⟩
  · exact .inl h5
  · refine .inr ⟨b, o, h6, fun i hi => ?_⟩
    have hcell := h7 i hi
    have hb := World.block_lt_of_cell? W _ hcell
    have e := hc.2 b hb (blk_noInt b1 n1 hcell) (blk_noInt b2 n2 hcell)
    rw [World.cell?_of_block (a := ⟨b, o + i, none⟩) e]
    exact hcell

theorem NumV.chg {g1 g2 : Nat} {W W' : World} {v : Value} {q : Rat} {c1 c2 : Array Value} {t1 t2 : TypeId} (h : NumV W v q) (hc : Chg g1 g2 W W') (b1 : HBlk W g1 c1 t1) (b2 : HBlk W g2 c2 t2) (n1 : ∀ c ∈ c1.toList, ∀ k z, c ≠ .int k z) (n2 : ∀ c ∈ c2.toList, ∀ k z, c ≠ .int k z) : NumV W' v q := by
  obtain ⟨t, b, e, h1, h2⟩ := h
  exact ⟨t, b, e, h1.chg hc b1 b2 n1 n2, h2.chg hc b1 b2 n1 n2⟩

theorem noInt_str (s : ByteArray) : ∀ c ∈ (#[Value.string s] : Array Value).toList, ∀ k z, c ≠ .int k z := by
  intro c hc
  simp only [List.mem_cons, List.not_mem_nil, or_false] at hc
  subst hc
  intro _ _ h; cases h
theorem noInt_nv (x : NV) : ∀ c ∈ (#[.bool x.b, .slice x.p x.k x.c, .slice x.q x.j x.d] : Array Value).toList, ∀ k z, c ≠ .int k z := by
  intro c hc
  simp only [List.mem_cons, List.not_mem_nil, or_false] at hc
  rcases hc with rfl | rfl | rfl <;> (intro _ _ h; cases h)
theorem noInt_none : ∀ c ∈ (#[.bool false, .slice none 0 0, .slice none 0 0] : Array Value).toList, ∀ k z, c ≠ .int k z := noInt_nv ⟨false, none, 0, 0, none, 0, 0⟩
end Go.Proofs.YtocoghnopmjceaaGreatDoor

/-
  Maps with texts as keys: stores at any key; their keys in order.
-/
namespace Go.Proofs.YtocoghnopmjceaaGreatDoor
open Go.RowKit

/-- Block r is a map whose entries, in the order of their first stores, are these. -/
def KMap (w : World) (r : Nat) (D : List (ByteArray × Value)) : Prop :=
  ∃ es clock, w.heap[r]? = some (.map es clock) ∧ es.toList.map (fun e => (e.key, e.val)) = D.map (fun p => (Value.string p.1, p.2)) ∧ MapKept.Stamped es clock

theorem KMap.smap {w : World} {r : Nat} {D : List (ByteArray × Value)} (h : KMap w r D) : SMap w r D := by
  obtain ⟨es, clock, h1, h2, _⟩ := h
  exact ⟨es, clock, h1, h2⟩

theorem KMap.lt {w : World} {r : Nat} {D : List (ByteArray × Value)} (h : KMap w r D) : r < w.heap.size := by
  obtain ⟨es, clock, h1, _⟩ := h
  exact lt_of_block h1

theorem KMap.later {w w' : World} {r : Nat} {D : List (ByteArray × Value)} (h : KMap w r D) (hb : Below w.heap.size w w') : KMap w' r D := by
  have hlt := h.lt
  obtain ⟨es, clock, h1, h2, h3⟩ := h
  exact ⟨es, clock, by rw [hb.block r hlt]; exact h1, h2, h3⟩

theorem kmap_made (w : World) : KMap (w.alloc (.map #[] 0)) w.heap.size [] := ⟨#[], 0, heap_alloc_new w _, rfl, MapKept.stamped_empty 0⟩

/-- A store. -/
def kput (D : List (ByteArray × Value)) (k : ByteArray) (v : Value) : List (ByteArray × Value) :=
  if D.any (fun p => k == p.1) then D.map (fun p => if k == p.1 then (p.1, v) else p) else D ++ [(k, v)]

theorem bytes_eq_iff (a b : ByteArray) : (a == b) = true ↔ a = b := MapKept.bytes_beq a b

theorem entry_key {es : List MapEntry} {D : List (ByteArray × Value)} (h : es.map (fun e => (e.key, e.val)) = D.map (fun p => (Value.string p.1, p.2))) (i : Nat) :
    (∀ e, es[i]? = some e → ∃ p, D[i]? = some p ∧ e.key = .string p.1 ∧ e.val = p.2) ∧ (∀ p, D[i]? = some p → ∃ e, es[i]? = some e ∧ e.key = .string p.1 ∧ e.val = p.2) := by
  have h1 : (es.map (fun e => (e.key, e.val)))[i]? = (D.map (fun p => (Value.string p.1, p.2)))[i]? := by rw [h]
  rw [List.getElem?_map, List.getElem?_map] at h1
  constructor
  · intro e he
    rw [he] at h1
    cases hd : D[i]? with
    | none => rw [hd] at h1; cases h1
    | some p =>
      rw [hd] at h1
      simp only [Option.map_some, Option.some.injEq, Prod.mk.injEq] at h1
      exact ⟨p, rfl, h1.1, h1.2⟩
  · intro p hp
    rw [hp] at h1
    cases he : es[i]? with
    | none => rw [he] at h1; cases h1
    | some e =>
      rw [he] at h1
      simp only [Option.map_some, Option.some.injEq, Prod.mk.injEq] at h1
      exact ⟨e, rfl, h1.1, h1.2⟩

section
variable {P : Program}

theorem run_kput (w : World) (t kt et : TypeId) (ht : P.underlying t = some (.map kt et)) (hk : P.underlying kt = some .string) (r : Nat) (D : List (ByteArray × Value)) (hm : KMap w r D) (k : ByteArray) (v : Value) :
    ∃ w', (Instr.mapUpdate t (.map (some r)) (.string k) v).run P w = .ok () w' ∧ KMap w' r (kput D k v) ∧ Below r w w' ∧ w'.heap.size = w.heap.size ∧ ∀ j, j ≠ r → w'.heap[j]? = w.heap[j]? := by
  obtain ⟨es, clock, h1, h2, h3⟩ := hm
  have hik : MapKept.IsKey .string (.string k) := by simp [MapKept.IsKey]
  have hks : ∀ x ∈ es.toList, MapKept.IsKey .string x.key := by
    intro x hx
    obtain ⟨i, hi⟩ := List.getElem?_of_mem hx
    obtain ⟨p, _, e, _⟩ := (entry_key h2 i).1 x hi
    rw [e]; simp [MapKept.IsKey]
  rcases MapKept.findNow_spec hik es.toList 0 hks with ⟨g1, g2⟩ | ⟨j, e, g1, g2, g3⟩
  · have hno : D.any (fun p => k == p.1) = false := by
      rw [List.any_eq_false]
      intro p hp
      obtain ⟨i, hi⟩ := List.getElem?_of_mem hp
      obtain ⟨x, hx, e1, _⟩ := (entry_key h2 i).2 p hi
      intro hb
      exact g2 x (List.mem_of_getElem? hx) (by rw [e1, (bytes_eq_iff _ _).1 hb])
    refine ⟨_, by simp [Instr.mapUpdate, run_underlying ht, MapKept.run_getObj_map h1, MapKept.run_checkKey hk hik, MapKept.run_findKey hk g1, MapKept.run_setObj_map _ h1, Result.andThen]; rfl, ?_, ?_, ?_, ?_⟩
    · refine ⟨_, _, (MapKept.heap_set h1).1, ?_, MapKept.stamped_push h3 g2⟩
      unfold kput
      rw [hno]
      simp [h2]
    · exact ⟨rfl, rfl, rfl, by simp, fun j hj => (MapKept.heap_set h1).2 j (by omega)⟩
    · simp
    · exact fun j hj => (MapKept.heap_set h1).2 j hj
  · have hj : es[j]? = some e := by simpa using g2
    obtain ⟨p, hp, e1, e2⟩ := (entry_key h2 j).1 e g2
    have hpk : p.1 = k := by rw [g3] at e1; simpa using e1.symm
    have hyes : D.any (fun p => k == p.1) = true := by
      rw [List.any_eq_true]
      exact ⟨p, List.mem_of_getElem? hp, (bytes_eq_iff _ _).2 hpk.symm⟩
    have hkey : ∀ e', es[j]? = some e' → ({ e' with key := .string k, val := v } : MapEntry).key = e'.key := fun e' he' => by rw [hj] at he'; cases he'; exact g3.symm
    refine ⟨_, by simp [Instr.mapUpdate, run_underlying ht, MapKept.run_getObj_map h1, MapKept.run_checkKey hk hik, MapKept.run_findKey hk g1, hj, g3, MapKept.run_keyThatStays hik, MapKept.run_setObj_map _ h1, Result.andThen]; rfl, ?_, ?_, ?_, ?_⟩
    · refine ⟨_, _, (MapKept.heap_set h1).1, ?_, MapKept.stamped_modify h3 _ _ (fun _ _ => rfl) (fun e' _ he' => hkey e' he')⟩
      unfold kput
      rw [if_pos hyes]
      refine List.ext_getElem? fun i => ?_
      rw [List.getElem?_map, List.getElem?_map, List.getElem?_map, Array.toList_modify, List.getElem?_modify]
      by_cases hij : j = i
      · subst hij
        rw [g2, hp]
        simp [hpk, (bytes_eq_iff k k).2 rfl]
      · simp only [hij, if_false, Option.map_eq_map, Option.map_id']
        cases hd : D[i]? with
        | none =>
          have : es.toList[i]? = none := by
            cases he : es.toList[i]? with
            | none => rfl
            | some e' => obtain ⟨p', hp', _⟩ := (entry_key h2 i).1 e' he; rw [hd] at hp'; cases hp'
          rw [this]; rfl
        | some p' =>
          obtain ⟨e', he', f1, f2⟩ := (entry_key h2 i).2 p' hd
          rw [he']
          have hne : (k == p'.1) = false := by
            rw [Bool.eq_false_iff]
            intro hb
            have hk1 := (bytes_eq_iff _ _).1 hb
            have hnd := h3.2.2
            have hi1 : i < (es.toList.map (·.key)).length := by rw [List.length_map]; exact (List.getElem?_eq_some_iff.1 he').1
            have hj1 : j < (es.toList.map (·.key)).length := by rw [List.length_map]; exact (List.getElem?_eq_some_iff.1 g2).1
            have hg : (es.toList.map (·.key))[i] = (es.toList.map (·.key))[j] := by
              rw [List.getElem_map, List.getElem_map]
              have a1 := (List.getElem?_eq_some_iff.1 he').2
              have a2 := (List.getElem?_eq_some_iff.1 g2).2
              rw [a1, a2, f1, g3, ← hk1]
            exact hij ((List.getElem_inj hnd).1 hg).symm
          simp [f1, f2, hne]
    · exact ⟨rfl, rfl, rfl, by simp, fun j' hj' => (MapKept.heap_set h1).2 j' (by omega)⟩
    · simp
    · exact fun j' hj' => (MapKept.heap_set h1).2 j' hj'
end

/-- The keys, as the library's laws read them. -/
theorem KMap.owns {H : Type} {P : Program} {kt : TypeId} {w : World} {r : Nat} {D : List (ByteArray × Value)} (h : KMap w r D) (hk : P.underlying kt = some .string) (hl : ∀ p ∈ D, p.1.size ≤ maxLen) (hn : D.length ≤ 1048576) :
    ∃ D0 : DataW H, w.ownsMap P kt (fun _ => some (.nil, [])) r D.length D0 ∧ (Go.strKeys D0).Perm (D.map fun p => p.1.data.toList) ∧ Maps.size D0 = D.length := by
  obtain ⟨es, clock, h1, h2, h3⟩ := h
  have hlen : es.toList.length = D.length := by
    have := congrArg List.length h2
    rwa [List.length_map, List.length_map] at this
  have hrd : ∀ x ∈ es.toList, ∃ p ∈ D, x.key = .string p.1 ∧ WideElems.rd (H := H) P kt (fun _ => some (.nil, [])) x = some (.string p.1.data.toList, .nil) := by
    intro x hx
    obtain ⟨i, hi⟩ := List.getElem?_of_mem hx
    obtain ⟨p, hp, e, _⟩ := (entry_key h2 i).1 x hi
    refine ⟨p, List.mem_of_getElem? hp, e, ?_⟩
    unfold WideElems.rd
    rw [e, WideMaps.keyOf_string_mk hk (hl p (List.mem_of_getElem? hp))]
    rfl
  refine ⟨_, ⟨es, clock, h1, ⟨by rw [← Array.length_toList, hlen]; unfold maxLen; omega, h3, fun x hx => ?_⟩, by rw [← Array.length_toList, hlen]; exact Nat.le_refl _, rfl⟩, ?_, ?_⟩
  · obtain ⟨p, _, _, e⟩ := hrd x hx
    exact ⟨_, e⟩
  · show ((es.toList.map (WideElems.rg P kt _)).foldr DataW.insert []).map (fun p => Go.strOf p.1) |>.Perm _
    refine ((WideShapes.sorted_perm _).map _).trans ?_
    rw [List.map_map]
    refine List.Perm.of_eq (List.ext_getElem? fun i => ?_)
    rw [List.getElem?_map, List.getElem?_map]
    cases hd : es.toList[i]? with
    | none =>
      have : D[i]? = none := by
        rw [List.getElem?_eq_none_iff] at hd ⊢
        omega
      rw [this]; rfl
    | some x =>
      obtain ⟨p, hp, e, _⟩ := (entry_key h2 i).1 x hd
      rw [hp]
      have hr : WideElems.rd (H := H) P kt (fun _ => some (.nil, [])) x = some (.string p.1.data.toList, .nil) := by
        unfold WideElems.rd
        rw [e, WideMaps.keyOf_string_mk hk (hl p (List.mem_of_getElem? hp))]
        rfl
      simp [WideElems.rg, hr, Go.strOf]
  · show ((es.toList.map (WideElems.rg P kt _)).foldr DataW.insert []).length = _
    rw [(WideShapes.sorted_perm _).length_eq, List.length_map, hlen]
end Go.Proofs.YtocoghnopmjceaaGreatDoor

