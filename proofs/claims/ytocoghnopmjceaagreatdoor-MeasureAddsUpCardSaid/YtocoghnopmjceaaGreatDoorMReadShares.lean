/-
  The closure of readShares.
-/
import Derived.Test.YtocoghnopmjceaaGreatDoorMShare
import Derived.Test.YtocoghnopmjceaaGreatDoorMNv
import Derived.Test.YtocoghnopmjceaaGreatDoorMOpSpans
namespace Go.Proofs.YtocoghnopmjceaaGreatDoor
open Go.RowKit

/-- What the closure of readShares answers; gb, gs: the blocks of its variables. -/
def CloOf (gb gs : Nat) (bef : ByteArray) (q : Rat) (s : ByteArray × ByteArray) (w : World) (e : Ending) (w' : World) : Prop :=
  (if shareErr bef s = 0 then ∃ z m : NV, e = .returned (.tuple #[.agg #[.bool z.b, .slice z.p z.k z.c, .slice z.q z.j z.d], .int .i64 0]) ∧ NumV w' (.agg #[.bool z.b, .slice z.p z.k z.c, .slice z.q z.j z.d]) (numQ s.2.data.toList) ∧ HBlk w' gs #[.bool m.b, .slice m.p m.k m.c, .slice m.q m.j m.d] 75 ∧ NumV w' (.agg #[.bool m.b, .slice m.p m.k m.c, .slice m.q m.j m.d]) (q + numQ s.2.data.toList)
    else e = .returned (.tuple #[.agg #[.bool false, .slice none 0 0, .slice none 0 0], .int .i64 (shareErr bef s : Nat)])) ∧ HBlk w' gb #[.string s.1] 9 ∧ Chg gb gs w w'

theorem numV_zero' (w : World) : NumV w (.agg #[.bool false, .slice none 0 0, .slice none 0 0]) 0 := numV_whole w 0 false (.slice none 0 0) (.slice none 0 0) rfl (Nat'.nil w) (Nat'.nil w)
theorem rs_zero : rs 0 = 1 := by
  have := rs_whole 0
  rw [show wl (0 : Int).natAbs = 0 from wl_of_zero] at this
  exact this

set_option maxRecDepth 100000 in
set_option maxHeartbeats 8000000 in
theorem shareClo_any (gb gs : Nat) (bef : ByteArray) (m : NV) (q : Rat) (s : ByteArray × ByteArray) (w : World) (hg : GW w) (hs : s.2.size ≤ 1073741824) (bb : HBlk w gb #[.string bef] 9) (bs : HBlk w gs #[.bool m.b, .slice m.p m.k m.c, .slice m.q m.j m.d] 75) (hne : gb ≠ gs) (hm : NumV w (.agg #[.bool m.b, .slice m.p m.k m.c, .slice m.q m.j m.d]) q) (hcap : rs q + 1300 ≤ Cap) :
    Calls Tryz.prog 122 #[.agg #[.string s.1, .string s.2], .pointer (some ⟨gb, 0, none⟩), .pointer (some ⟨gs, 0, none⟩)] w (CloOf gb gs bef q s w) := by
  have HW0 := hid (sh_start w s 58)
  have HRS := hid ((readShare_any bef s _ (hg.later HW0.out.1) hs))
  obtain ⟨⟨s0, s1⟩, ⟨r0, r1, r2⟩, g0, g1, g2⟩ := HW0.out.cells
  have BB0 := hid (bb.later HW0.out.1)
  have BS0 := hid (bs.later HW0.out.1)
  have HM0 := hid (hm.later HW0.out.1)
  obtain ⟨hb0, fb0⟩ := BB0.out.str
  have hlb := bb.lt
  have hls := bs.lt
  have HC0 := hid (Chg.below (Chg.refl gb gs w) (by omega) HW0.out.1)
  by_cases h0 : shareErr bef s = 0
  · have HFIN : Hid (∀ w' (z m : NV), NumV w' (.agg #[.bool z.b, .slice z.p z.k z.c, .slice z.q z.j z.d]) (numQ s.2.data.toList) → HBlk w' gs #[.bool m.b, .slice m.p m.k m.c, .slice m.q m.j m.d] 75 → NumV w' (.agg #[.bool m.b, .slice m.p m.k m.c, .slice m.q m.j m.d]) (q + numQ s.2.data.toList) → HBlk w' gb #[.string s.1] 9 → Chg gb gs w w' → CloOf gb gs bef q s w (.returned (.tuple #[.agg #[.bool z.b, .slice z.p z.k z.c, .slice z.q z.j z.d], .int .i64 0])) w') := hid fun w' z m h1 h2 h3 h4 h5 => by
      unfold CloOf
      rw [if_pos h0]
      exact ⟨⟨z, m, rfl, h1, h2, h3⟩, h4, h5⟩
    have hc0 : checkR s.2.data.toList = 0 := by
      unfold shareErr at h0
      split at h0
      · cases h0
      · split at h0
        · cases h0
        · split at h0
          · rename_i h; exact absurd h0 h
          · omega
    have bq := (bd_num hc0).rs
    have HRD : Hid (Calls Tryz.prog 123 #[.agg #[.string s.1, .string s.2], .string bef] ((w.alloc (.cells #[.string s.1, .string s.2] 58)).alloc (.cells #[.bool false, .slice none 0 0, .slice none 0 0] 75)) fun e w' => (∃ z : NV, e = .returned (.tuple #[.agg #[.bool z.b, .slice z.p z.k z.c, .slice z.q z.j z.d], .int .i64 0]) ∧ NumV w' (.agg #[.bool z.b, .slice z.p z.k z.c, .slice z.q z.j z.d]) (numQ s.2.data.toList)) ∧ Below ((w.alloc (.cells #[.string s.1, .string s.2] 58)).alloc (.cells #[.bool false, .slice none 0 0, .slice none 0 0] 75)).heap.size ((w.alloc (.cells #[.string s.1, .string s.2] 58)).alloc (.cells #[.bool false, .slice none 0 0, .slice none 0 0] 75)) w') := hid (HRS.out.mono fun e w' h => by
      unfold ShareOf at h
      rw [if_pos h0] at h
      obtain ⟨⟨z, h1, h2⟩, h3⟩ := h
      exact ⟨⟨z, h1, h2⟩, h3⟩)
    clear h0 hc0 hg hs bb bs hm HRS
    generalize numQ s.2.data.toList = pq at *
    have hbs0 : w.heap.size < ((w.alloc (.cells #[.string s.1, .string s.2] 58)).alloc (.cells #[.bool false, .slice none 0 0, .slice none 0 0] 75)).heap.size := by have := HW0.out.2.1.1; exact this
    go_enter Tryz.func122, Tryz.ntmps122
    go_wp2_with fail
    clear r0 r1 r2 g0 g1 g2
    refine HRD.out.mono ?_
    rintro e w2 ⟨⟨z, rfl, hz⟩, hb⟩
    have hal : Below w2.heap.size w2 (w2.alloc (.cells #[.bool z.b, .slice z.p z.k z.c, .slice z.q z.j z.d] 75)) := (Below.refl _ _).alloc (Nat.le_refl _) _
    have hb' := hb.trans (hal.mono hb.size)
    have HT2 := hid (HW0.out.later hb')
    have BB2 := hid (BB0.out.later hb')
    have BS2 := hid (BS0.out.later hb')
    have HZ2 := hid (hz.later hal)
    have HM2 := hid (HM0.out.later hb')
    have BZ2 := hid (blk_new w2 #[.bool z.b, .slice z.p z.k z.c, .slice z.q z.j z.d] 75)
    have HC2 := hid (HC0.out.below (by have := HW0.out.1.size; omega) hb')
    have hw2 : w.heap.size + 1 < w2.heap.size := by have := HW0.out.2.2.1; have := hb.size; omega
    clear hz hb hal hb' s0 s1 hb0 fb0 HRD BB0 BS0 HM0 HC0
    generalize hgz : w2.heap.size = gz at *
    -- the store of the lot
    have BS3 := hid (BS2.out.other (Ne.symm hne) 0 (.string s.1))
    have BB3 : Hid (HBlk ((w2.alloc (.cells #[.bool z.b, .slice z.p z.k z.c, .slice z.q z.j z.d] 75)).setCell ⟨gb, 0, none⟩ (.string s.1)) gb #[.string s.1] 9) := hid (BB2.out.set 0 _)
    have BZ3 := hid (BZ2.out.other (show gz ≠ gb by omega) 0 (.string s.1))
    have HM3 := hid (numV_set HM2.out BB2.out.own1 0 (by omega) (by intro k z e; cases e) (.string s.1))
    have HZ3 := hid (numV_set HZ2.out BB2.out.own1 0 (by omega) (by intro k z e; cases e) (.string s.1))
    have HC3 := hid (HC2.out.set (g := gb) (.inl rfl) (Nat.min_le_left _ _) 0 (.string s.1))
    have HT3 : Hid (One ((w2.alloc (.cells #[.bool z.b, .slice z.p z.k z.c, .slice z.q z.j z.d] 75)).setCell ⟨gb, 0, none⟩ (.string s.1)) (w.heap.size + 1) ⟨false, none, 0, 0, none, 0, 0⟩) := hid (((Only.refl gb _).set 0 _).own HT2.out.2.2 (by omega))
    have HPL := hid (plus_any _ _ _ _ _ HM3.out HZ3.out (by unfold Cap at *; omega))
    obtain ⟨⟨s0, s1⟩, _⟩ := HT2.out.cells
    obtain ⟨hb0, fb0⟩ := BB2.out.str
    obtain ⟨⟨p0, p1, p2⟩, _⟩ := BZ2.out.one.cells
    obtain ⟨⟨q0, q1, q2⟩, _⟩ := BS3.out.one.cells
    obtain ⟨⟨t0, t1, t2⟩, _⟩ := BZ3.out.one.cells
    go_wp2_with fail
    clear s0 s1 hb0 fb0 p0 p1 p2 q0 q1 q2 t0 t1 t2
    refine HPL.out.mono ?_
    rintro e w4 ⟨⟨v4, rfl, hv⟩, hb⟩
    obtain ⟨m', rfl⟩ := hv.nv
    have BS4 := BS3.out.later hb
    have BB4 := BB3.out.later hb
    have BZ4 := BZ3.out.later hb
    have HT4 := HT3.out.later (hb.mono HT3.out.1)
    have HZ4 := HZ3.out.later hb
    have hput := BS4.one.put (x := m')
    have HM5 := hid (hput.2.1 _ _ hv)
    have HZ5 := hid (hput.2.1 _ _ HZ4)
    have BS5 := hid (BS4.put3 (z := m'))
    have BB5 := hid (BB4.other3 hne (.bool m'.b) (.slice m'.p m'.k m'.c) (.slice m'.q m'.j m'.d))
    have BZ5 := hid (BZ4.other3 (show gz ≠ gs by omega) (.bool m'.b) (.slice m'.p m'.k m'.c) (.slice m'.q m'.j m'.d))
    have HT5 : Hid (One (((w4.setCell ⟨gs, 0, none⟩ (.bool m'.b)).setCell ⟨gs, 1, none⟩ (.slice m'.p m'.k m'.c)).setCell ⟨gs, 2, none⟩ (.slice m'.q m'.j m'.d)) (w.heap.size + 1) ⟨false, none, 0, 0, none, 0, 0⟩) := hid (hput.2.2.2 _ _ _ (by omega) HT4)
    have HC4 := HC3.out.below (by have := HC3.out.1.size; have := Nat.min_le_left gb gs; simp; omega) hb
    have HC5 := hid (((HC4.set (g := gs) (.inr (.inl rfl)) (Nat.min_le_right _ _) 0 (.bool m'.b)).set (g := gs) (.inr (.inl rfl)) (Nat.min_le_right _ _) 1 (.slice m'.p m'.k m'.c)).set (g := gs) (.inr (.inl rfl)) (Nat.min_le_right _ _) 2 (.slice m'.q m'.j m'.d))
    obtain ⟨⟨q0, q1, q2⟩, f0, f1, f2⟩ := BS4.one.cells
    obtain ⟨⟨t0, t1, t2⟩, _⟩ := BZ5.out.one.cells
    obtain ⟨⟨r0, r1, r2⟩, g0, g1, g2⟩ := One.cells HT5.out
    clear hput hv hb BS4 BB4 BZ4 HT4 HZ4 HC4 HPL
    -- the stores of the result
    have hres := HT5.out.put (x := z)
    have HZ6 := hid (hres.2.1 _ _ HZ5.out)
    have HM6 := hid (hres.2.1 _ _ HM5.out)
    have BS6 := hid (BS5.out.other3 (show gs ≠ w.heap.size + 1 by omega) (.bool z.b) (.slice z.p z.k z.c) (.slice z.q z.j z.d))
    have BB6 := hid (BB5.out.other3 (show gb ≠ w.heap.size + 1 by omega) (.bool z.b) (.slice z.p z.k z.c) (.slice z.q z.j z.d))
    have hmin := Nat.min_le_left gb gs
    have HC6 := hid (((HC5.out.set (g := w.heap.size + 1) (.inr (.inr (by omega))) (by omega) 0 (.bool z.b)).set (g := w.heap.size + 1) (.inr (.inr (by omega))) (by omega) 1 (.slice z.p z.k z.c)).set (g := w.heap.size + 1) (.inr (.inr (by omega))) (by omega) 2 (.slice z.q z.j z.d))
    clear hres
    go_wp2_with fail
    refine bodyPost_ret (v := .tuple #[.agg #[.bool z.b, .slice z.p z.k z.c, .slice z.q z.j z.d], .int .i64 0]) ?_ rfl ?_
    · simp [results, Tryz.results122, go_sem, r0, r1, r2]
    · exact HFIN.out _ _ _ HZ6.out BS6.out HM6.out BB6.out HC6.out
  · have HFIN : Hid (∀ w', HBlk w' gb #[.string s.1] 9 → Chg gb gs w w' → CloOf gb gs bef q s w (.returned (.tuple #[.agg #[.bool false, .slice none 0 0, .slice none 0 0], .int .i64 (shareErr bef s : Nat)])) w') := hid fun w' h4 h5 => by
      unfold CloOf
      rw [if_neg h0]
      exact ⟨rfl, h4, h5⟩
    have HRD : Hid (Calls Tryz.prog 123 #[.agg #[.string s.1, .string s.2], .string bef] ((w.alloc (.cells #[.string s.1, .string s.2] 58)).alloc (.cells #[.bool false, .slice none 0 0, .slice none 0 0] 75)) fun e w' => e = .returned (.tuple #[.agg #[.bool false, .slice none 0 0, .slice none 0 0], .int .i64 (shareErr bef s : Nat)]) ∧ Below ((w.alloc (.cells #[.string s.1, .string s.2] 58)).alloc (.cells #[.bool false, .slice none 0 0, .slice none 0 0] 75)).heap.size ((w.alloc (.cells #[.string s.1, .string s.2] 58)).alloc (.cells #[.bool false, .slice none 0 0, .slice none 0 0] 75)) w') := hid (HRS.out.mono fun e w' h => by
      unfold ShareOf at h
      rw [if_neg h0] at h
      exact h)
    clear h0 hg hs bb bs hm HRS
    generalize shareErr bef s = ck at *
    go_enter Tryz.func122, Tryz.ntmps122
    go_wp2_with fail
    clear r0 r1 r2 g0 g1 g2
    refine HRD.out.mono ?_
    rintro e w2 ⟨rfl, hb⟩
    have hal : Below w2.heap.size w2 (w2.alloc (.cells #[.bool false, .slice none 0 0, .slice none 0 0] 75)) := (Below.refl _ _).alloc (Nat.le_refl _) _
    have hb' := hb.trans (hal.mono hb.size)
    have HT2 := hid (HW0.out.later hb')
    have BB2 := hid (BB0.out.later hb')
    have BS2 := hid (BS0.out.later hb')
    have HZ2 := hid (numV_zero' (w2.alloc (.cells #[.bool false, .slice none 0 0, .slice none 0 0] 75)))
    have HM2 := hid (HM0.out.later hb')
    have BZ2 : Hid (HBlk (w2.alloc (.cells #[.bool false, .slice none 0 0, .slice none 0 0] 75)) w2.heap.size #[.bool false, .slice none 0 0, .slice none 0 0] 75) := hid (blk_new w2 #[.bool false, .slice none 0 0, .slice none 0 0] 75)
    have HC2 := hid (HC0.out.below (by have := HW0.out.1.size; omega) hb')
    have hw2 : w.heap.size + 1 < w2.heap.size := by have := HW0.out.2.2.1; have := hb.size; omega
    clear hb hal hb' s0 s1 hb0 fb0 HRD BB0 BS0 HM0 HC0
    generalize hgz : w2.heap.size = gz at *
    have BS3 := hid (BS2.out.other (Ne.symm hne) 0 (.string s.1))
    have BB3 : Hid (HBlk ((w2.alloc (.cells #[.bool false, .slice none 0 0, .slice none 0 0] 75)).setCell ⟨gb, 0, none⟩ (.string s.1)) gb #[.string s.1] 9) := hid (BB2.out.set 0 _)
    have BZ3 := hid (BZ2.out.other (show gz ≠ gb by omega) 0 (.string s.1))
    have HM3 := hid (numV_set HM2.out BB2.out.own1 0 (by omega) (by intro k z e; cases e) (.string s.1))
    have HZ3 := hid (numV_set HZ2.out BB2.out.own1 0 (by omega) (by intro k z e; cases e) (.string s.1))
    have HC3 := hid (HC2.out.set (g := gb) (.inl rfl) (Nat.min_le_left _ _) 0 (.string s.1))
    have HT3 : Hid (One ((w2.alloc (.cells #[.bool false, .slice none 0 0, .slice none 0 0] 75)).setCell ⟨gb, 0, none⟩ (.string s.1)) (w.heap.size + 1) ⟨false, none, 0, 0, none, 0, 0⟩) := hid (((Only.refl gb _).set 0 _).own HT2.out.2.2 (by omega))
    have HPL := hid (plus_any _ _ _ _ _ HM3.out HZ3.out (by have : rs 0 = 1 := rs_zero; unfold Cap at *; omega))
    obtain ⟨⟨s0, s1⟩, _⟩ := HT2.out.cells
    obtain ⟨hb0, fb0⟩ := BB2.out.str
    obtain ⟨⟨p0, p1, p2⟩, _⟩ := (HBlk.one (x := ⟨false, none, 0, 0, none, 0, 0⟩) BZ2.out).cells
    obtain ⟨⟨q0, q1, q2⟩, _⟩ := BS3.out.one.cells
    obtain ⟨⟨t0, t1, t2⟩, _⟩ := (HBlk.one (x := ⟨false, none, 0, 0, none, 0, 0⟩) BZ3.out).cells
    go_wp2_with fail
    clear s0 s1 hb0 fb0 p0 p1 p2 q0 q1 q2 t0 t1 t2
    refine HPL.out.mono ?_
    rintro e w4 ⟨⟨v4, rfl, hv⟩, hb⟩
    obtain ⟨m', rfl⟩ := hv.nv
    have BS4 := BS3.out.later hb
    have BB4 := BB3.out.later hb
    have BZ4 := BZ3.out.later hb
    have HT4 := HT3.out.later (hb.mono HT3.out.1)
    have BB5 := hid (BB4.other3 hne (.bool m'.b) (.slice m'.p m'.k m'.c) (.slice m'.q m'.j m'.d))
    have BZ5 := hid (BZ4.other3 (show gz ≠ gs by omega) (.bool m'.b) (.slice m'.p m'.k m'.c) (.slice m'.q m'.j m'.d))
    have HT5 : Hid (One (((w4.setCell ⟨gs, 0, none⟩ (.bool m'.b)).setCell ⟨gs, 1, none⟩ (.slice m'.p m'.k m'.c)).setCell ⟨gs, 2, none⟩ (.slice m'.q m'.j m'.d)) (w.heap.size + 1) ⟨false, none, 0, 0, none, 0, 0⟩) := hid (BS4.one.put.2.2.2 _ _ _ (by omega) HT4)
    have HC4 := HC3.out.below (by have := HC3.out.1.size; have := Nat.min_le_left gb gs; simp; omega) hb
    have HC5 := hid (((HC4.set (g := gs) (.inr (.inl rfl)) (Nat.min_le_right _ _) 0 (.bool m'.b)).set (g := gs) (.inr (.inl rfl)) (Nat.min_le_right _ _) 1 (.slice m'.p m'.k m'.c)).set (g := gs) (.inr (.inl rfl)) (Nat.min_le_right _ _) 2 (.slice m'.q m'.j m'.d))
    obtain ⟨⟨q0, q1, q2⟩, f0, f1, f2⟩ := BS4.one.cells
    obtain ⟨⟨t0, t1, t2⟩, _⟩ := (HBlk.one (x := ⟨false, none, 0, 0, none, 0, 0⟩) BZ5.out).cells
    obtain ⟨⟨r0, r1, r2⟩, g0, g1, g2⟩ := One.cells HT5.out
    clear hv hb BS4 BB4 BZ4 HT4 HC4 HPL
    have BB6 := hid (BB5.out.other3 (show gb ≠ w.heap.size + 1 by omega) (.bool false) (.slice none 0 0) (.slice none 0 0))
    have hmin := Nat.min_le_left gb gs
    have HC6 := hid (((HC5.out.set (g := w.heap.size + 1) (.inr (.inr (by omega))) (by omega) 0 (.bool false)).set (g := w.heap.size + 1) (.inr (.inr (by omega))) (by omega) 1 (.slice none 0 0)).set (g := w.heap.size + 1) (.inr (.inr (by omega))) (by omega) 2 (.slice none 0 0))
    go_wp2_with fail
    refine bodyPost_ret (v := .tuple #[.agg #[.bool false, .slice none 0 0, .slice none 0 0], .int .i64 ck]) ?_ rfl ?_
    · simp [results, Tryz.results122, go_sem, r0, r1, r2]
    · exact HFIN.out _ BB6.out HC6.out
end Go.Proofs.YtocoghnopmjceaaGreatDoor

/-
  readEach of shares, with the closure of readShares.
-/
namespace Go.Proofs.YtocoghnopmjceaaGreatDoor
open Go.RowKit

/-- The lot before the next one, behind these shares. -/
def befOf (b : ByteArray) (l : List (ByteArray × ByteArray)) : ByteArray := l.foldl (fun _ s => s.1) b
/-- The sum of the parts. -/
def sumQ (l : List (ByteArray × ByteArray)) : Rat := l.foldl (fun a s => a + numQ s.2.data.toList) 0
/-- The errors of the shares of a list, each behind the lot before. -/
def shareErrs : ByteArray → List (ByteArray × ByteArray) → List Nat
  | _, [] => []
  | b, s :: l => shareErr b s :: shareErrs s.1 l

theorem befOf_snoc (b : ByteArray) (l : List (ByteArray × ByteArray)) (s : ByteArray × ByteArray) : befOf b (l ++ [s]) = s.1 := by unfold befOf; rw [List.foldl_append]; rfl
theorem sumQ_snoc (l : List (ByteArray × ByteArray)) (s : ByteArray × ByteArray) : sumQ (l ++ [s]) = sumQ l + numQ s.2.data.toList := by unfold sumQ; rw [List.foldl_append]; rfl
theorem shareErrs_append (l m : List (ByteArray × ByteArray)) : ∀ b, shareErrs b (l ++ m) = shareErrs b l ++ shareErrs (befOf b l) m := by
  induction l with
  | nil => intro b; rfl
  | cons s l ih => intro b; show shareErr b s :: shareErrs s.1 (l ++ m) = _; rw [ih s.1]; rfl

theorem shareErr_check {b : ByteArray} {s : ByteArray × ByteArray} (h : shareErr b s = 0) : checkR s.2.data.toList = 0 := by
  unfold shareErr at h
  split at h
  · cases h
  · split at h
    · cases h
    · split at h
      · rename_i h1; exact absurd h h1
      · omega

theorem firstE_zero_append {l m : List Nat} (h : firstE (l ++ m) = 0) : firstE l = 0 ∧ firstE m = 0 := by
  induction l with
  | nil => exact ⟨rfl, h⟩
  | cons e l ih =>
    have h1 : (if e = 0 then firstE (l ++ m) else e) = 0 := h
    by_cases he : e = 0
    · rw [if_pos he] at h1
      refine ⟨?_, (ih h1).2⟩
      show (if e = 0 then firstE l else e) = 0
      rw [if_pos he]; exact (ih h1).1
    · rw [if_neg he] at h1; exact absurd h1 he

theorem list_rev_ind {α : Type} {P : List α → Prop} (h0 : P []) (h1 : ∀ l x, P l → P (l ++ [x])) (l : List α) : P l := by
  have : ∀ l : List α, P l.reverse := by
    intro l
    induction l with
    | nil => exact h0
    | cons x l ih => rw [List.reverse_cons]; exact h1 _ _ ih
  have h := this l.reverse
  rwa [List.reverse_reverse] at h

theorem sumQ_bd (b : ByteArray) (l : List (ByteArray × ByteArray)) (h : firstE (shareErrs b l) = 0) : bd (sumQ l) (601 * l.length + 1) := by
  induction l using list_rev_ind with
  | h0 => exact bd_zero _ (by simp)
  | h1 l s ih =>
    rw [shareErrs_append] at h
    obtain ⟨h1, h2⟩ := firstE_zero_append h
    have h3 : shareErr (befOf b l) s = 0 := by
      have : (if shareErr (befOf b l) s = 0 then firstE [] else shareErr (befOf b l) s) = 0 := h2
      by_cases hz : shareErr (befOf b l) s = 0
      · exact hz
      · rw [if_neg hz] at this; exact absurd this hz
    rw [sumQ_snoc]
    refine (bd_add (ih h1) (bd_num (shareErr_check h3))).mono ?_
    rw [List.length_append]
    simp
    omega

theorem GW.chg {g1 g2 : Nat} {W W' : World} {c1 c2 : Array Value} {t1 t2 : TypeId} (h : GW W) (hc : Chg g1 g2 W W') (b1 : HBlk W g1 c1 t1) (b2 : HBlk W g2 c2 t2) (n1 : ∀ c ∈ c1.toList, ∀ k z, c ≠ .int k z) (n2 : ∀ c ∈ c2.toList, ∀ k z, c ≠ .int k z) : GW W' := by
  obtain ⟨h0, m, hm⟩ := h
  refine ⟨Nat.lt_of_lt_of_le h0 hc.1.size, m, ?_⟩
  have e := hc.2 _ (World.block_lt_of_cell? W _ hm) (blk_noInt b1 n1 hm) (blk_noInt b2 n2 hm)
  rw [World.cell?_of_block (a := ⟨_, 0, none⟩) e]
  exact hm

theorem Nums.chg {g1 g2 g cap : Nat} {W W' : World} {qs : List Rat} {c1 c2 : Array Value} {t1 t2 : TypeId} (h : Nums W g cap qs) (hc : Chg g1 g2 W W') (h1 : g ≠ g1) (h2 : g ≠ g2) (b1 : HBlk W g1 c1 t1) (b2 : HBlk W g2 c2 t2) (n1 : ∀ c ∈ c1.toList, ∀ k z, c ≠ .int k z) (n2 : ∀ c ∈ c2.toList, ∀ k z, c ≠ .int k z) : Nums W' g cap qs := by
  have hlt := h.lt
  obtain ⟨e1, cur, hg, e2, e3, e4⟩ := h
  refine ⟨e1, cur, (hc.2 g hlt h1 h2).trans hg, e2, e3, fun j q hq => ?_⟩
  obtain ⟨b, p1, k1, c1, p2, k2, c2, a1, a2, a3, hv⟩ := e4 j q hq
  exact ⟨b, p1, k1, c1, p2, k2, c2, a1, a2, a3, hv.chg hc b1 b2 n1 n2⟩

theorem Chg.cell {g1 g2 b o : Nat} {W W' : World} {v : Value} (hc : Chg g1 g2 W W') (h : W.cell? ⟨b, o, none⟩ = some v) (h1 : b ≠ g1) (h2 : b ≠ g2) : W'.cell? ⟨b, o, none⟩ = some v := by
  rw [World.cell?_of_block (a := ⟨b, o, none⟩) (hc.2 b (World.block_lt_of_cell? W _ h) h1 h2)]
  exact h

/-- What readEach with the closure answers. -/
def EachSh (gb gs : Nat) (b0 : ByteArray) (l : List (ByteArray × ByteArray)) (w : World) (e : Ending) (w' : World) : Prop :=
  (if firstE (shareErrs b0 l) = 0 then (∃ g, w.heap.size ≤ g ∧ e = .returned (.tuple #[.slice (some ⟨g, 0, none⟩) l.length l.length, .int .i64 0]) ∧ Nums w' g l.length (l.map fun s => numQ s.2.data.toList)) ∧ ∃ m : NV, HBlk w' gs #[.bool m.b, .slice m.p m.k m.c, .slice m.q m.j m.d] 75 ∧ NumV w' (.agg #[.bool m.b, .slice m.p m.k m.c, .slice m.q m.j m.d]) (sumQ l)
    else e = .returned (.tuple #[.slice none 0 0, .int .i64 (firstE (shareErrs b0 l))])) ∧ Chg gb gs w w'

theorem eachSh_bad {gb gs : Nat} {b0 : ByteArray} {l : List (ByteArray × ByteArray)} {w w' : World} {k : Nat} (h : firstE (shareErrs b0 l) = k) (hk : k ≠ 0) (hc : Chg gb gs w w') : EachSh gb gs b0 l w (.returned (.tuple #[.slice none 0 0, .int .i64 (k : Int)])) w' := by
  unfold EachSh
  rw [h, if_neg hk]
  exact ⟨rfl, hc⟩

theorem eachSh_good {gb gs : Nat} {b0 : ByteArray} {l : List (ByteArray × ByteArray)} {w w' : World} {m : NV} (h : firstE (shareErrs b0 l) = 0) (hn : Nums w' w.heap.size l.length (l.map fun s => numQ s.2.data.toList)) (hm : HBlk w' gs #[.bool m.b, .slice m.p m.k m.c, .slice m.q m.j m.d] 75 ∧ NumV w' (.agg #[.bool m.b, .slice m.p m.k m.c, .slice m.q m.j m.d]) (sumQ l)) (hc : Chg gb gs w w') :
    EachSh gb gs b0 l w (.returned (.tuple #[.slice (some ⟨w.heap.size, 0, none⟩) l.length l.length, .int .i64 0])) w' := by
  unfold EachSh
  rw [if_pos h]
  exact ⟨⟨⟨w.heap.size, Nat.le_refl _, rfl, hn⟩, m, hm⟩, hc⟩

theorem HBlkRow {W : World} {g g' : Nat} {cs cur : Array Value} {t : TypeId} (hr : ∀ kk, kk ≠ g' → (W.setRow g' cur).heap[kk]? = W.heap[kk]?) (h : HBlk W g cs t) (hne : g ≠ g') : HBlk (W.setRow g' cur) g cs t := (hr g hne).trans h

theorem chg_row {g1 g2 g : Nat} {w W : World} {cur : Array Value} (h : Chg g1 g2 w W) (hb : Below w.heap.size W (W.setRow g cur)) (hr : ∀ kk, kk ≠ g → (W.setRow g cur).heap[kk]? = W.heap[kk]?) (hg : w.heap.size ≤ g) (hm : min g1 g2 ≤ w.heap.size := by omega) : Chg g1 g2 w (W.setRow g cur) :=
  ⟨h.1.trans (hb.mono hm), fun i h0 h1 h2 => (hr i (by omega)).trans (h.2 i h0 h1 h2)⟩

theorem HNI2 {W : World} {g cap : Nat} {qs : List Rat} {cur : Array Value} (h : Nums W g cap qs) (hg : W.heap[g]? = some (.cells cur 75 (0, 0))) : ∀ c ∈ cur.toList, ∀ k z, c ≠ .int k z := by
  obtain ⟨_, cur', hg', _, h3, _⟩ := h
  rw [hg] at hg'
  cases hg'
  exact h3

set_option maxRecDepth 100000 in
set_option maxHeartbeats 8000000 in
/-- readEach with the closure of readShares. -/
theorem each_share (gb gs : Nat) (b0 : ByteArray) (m0 : NV) (l : List (ByteArray × ByteArray)) (b o c : Nat) (w : World) (hg : GW w) (hrow : SpansAt w b o l) (hl : l.length ≤ 64) (hs : ∀ s ∈ l, s.2.size ≤ 1073741824)
    (bb : HBlk w gb #[.string b0] 9) (bs : HBlk w gs #[.bool m0.b, .slice m0.p m0.k m0.c, .slice m0.q m0.j m0.d] 75) (hne : gb ≠ gs) (hm : NumV w (.agg #[.bool m0.b, .slice m0.p m0.k m0.c, .slice m0.q m0.j m0.d]) 0) (hb1 : b ≠ gb) (hb2 : b ≠ gs) :
    Calls Tryz.prog 121 #[.slice (some ⟨b, o, none⟩) l.length c, .func (.func 122) #[] #[.pointer (some ⟨gb, 0, none⟩), .pointer (some ⟨gs, 0, none⟩)]] w (EachSh gb gs b0 l w) := by
  have HG := hid hg
  have HROW := hid hrow
  have HS := hid hs
  have hmk := make_nums l.length (by omega)
  obtain ⟨i0, hi, hz0, hz1, hz2⟩ := info_parts (show (Tryz.prog.info? 75).map (fun i => (i.zero, i.size, i.bytes)) = some (some (.agg #[.bool false, .slice none 0 0, .slice none 0 0]), 3, 56) by kernel_rfl)
  have HI := hid hi
  have hal0 : Below w.heap.size w (w.alloc (.cells (madeCells #[.bool false, .slice none 0 0, .slice none 0 0] (l.length * 3)) 75)) := (Below.refl _ _).alloc (Nat.le_refl _) _
  have hgb := bb.lt
  have hgs := bs.lt
  have HN0 := hid (nums_start w l.length)
  have BBW := hid bb
  have BSW := hid bs
  have BB0 := hid (bb.later hal0)
  have BS0 := hid (bs.later hal0)
  have HM0 := hid (hm.later hal0)
  have HC0 := hid (Chg.below (Chg.refl gb gs w) (by omega) hal0)
  clear hrow hs hi hz0 hz2 bb bs hm hal0 hg
  go_enter Tryz.func121, Tryz.ntmps121
  go_wp2_with fail
  clear hmk
  generalize w.alloc (.cells (madeCells #[.bool false, .slice none 0 0, .slice none 0 0] (l.length * 3)) 75) = w0 at *
  go_loopw [6, 16] (fun r i wr => ∃ k : Nat, k ≤ l.length ∧ i = .int .i64 k ∧ r = .slice (some ⟨w.heap.size, 0, none⟩) k l.length ∧ Hid (Nums wr w.heap.size l.length ((l.take k).map fun s => numQ s.2.data.toList)) ∧ Hid (firstE (shareErrs b0 (l.take k)) = 0) ∧ Hid (Chg gb gs w wr) ∧ Hid (HBlk wr gb #[.string (befOf b0 (l.take k))] 9) ∧ ∃ m : NV, Hid (HBlk wr gs #[.bool m.b, .slice m.p m.k m.c, .slice m.q m.j m.d] 75 ∧ NumV wr (.agg #[.bool m.b, .slice m.p m.k m.c, .slice m.q m.j m.d]) (sumQ (l.take k)))) (fun _ i _ => l.length - (intOf i).toNat)
  case atStart => exact ⟨0, Nat.zero_le _, rfl, rfl, HN0, hid rfl, HC0, BB0, m0, hid ⟨BS0.out, HM0.out⟩⟩
  case round =>
    obtain ⟨k, hk, rfl, rfl, HN, HE, HC, BB, m, HM⟩ := hrel
    clear HN0 HC0 BB0 BS0 HM0
    by_cases hkl : k < l.length
    · obtain ⟨s, hsk⟩ : ∃ s, l[k]? = some s := ⟨l[k], List.getElem?_eq_getElem hkl⟩
      obtain ⟨e0, e1⟩ := HROW.out k s hsk
      have hc0 : wr.cell? ⟨b, o + k * 2, none⟩ = some (.string s.1) := HC.out.cell e0 hb1 hb2
      have hc1 : wr.cell? ⟨b, o + k * 2 + 1, none⟩ = some (.string s.2) := HC.out.cell e1 hb1 hb2
      have hal : Below wr.heap.size wr (wr.alloc (.cells #[.string s.1, .string s.2] 58)) := (Below.refl _ _).alloc (Nat.le_refl _) _
      have hss := HS.out s (List.mem_of_getElem? hsk)
      have hsz := HC.out.1.size
      have HTK : Hid (l.take (k + 1) = l.take k ++ [s]) := hid (take_next hsk)
      have HGR := hid ((HG.out.chg HC.out BBW.out BSW.out (noInt_str _) (noInt_nv _)).later hal)
      have BB1 := hid (BB.out.later hal)
      have BS1 := hid (HM.out.1.later hal)
      have HM1 := hid (HM.out.2.later hal)
      have HN1 := hid (HN.out.later hal)
      have HC1 := hid (HC.out.below (by omega) hal)
      have hcap := (sumQ_bd b0 _ HE.out).rs
      have htl : (l.take k).length ≤ k := List.length_take_le _ _
      have HCL := hid (shareClo_any gb gs (befOf b0 (l.take k)) m (sumQ (l.take k)) s _ HGR.out hss BB1.out BS1.out hne HM1.out (by unfold Cap; omega))
      obtain ⟨x0, x1⟩ := two_cells' (own_two wr 58 (.string s.1) (.string s.2))
      have HGNE : Hid (w.heap.size ≠ gb ∧ w.heap.size ≠ gs) := hid ⟨by omega, by omega⟩
      have HSN := hid (shareErrs_append (l.take k) [s] b0)
      have HBN := hid (befOf_snoc b0 (l.take k) s)
      have HQN := hid (sumQ_snoc (l.take k) s)
      have HALL : Hid (∃ d, l = l.take (k + 1) ++ d) := hid ⟨l.drop (k + 1), (List.take_append_drop _ _).symm⟩
      clear e0 e1 hal hss hcap htl hsk BB HM HN HC
      generalize befOf b0 (l.take k) = bef at *
      generalize sumQ (l.take k) = sq at *
      by_cases hc : shareErr bef s = 0
      · have HE2 : Hid (firstE (shareErrs b0 (l.take (k + 1))) = 0) := hid (by
          rw [HTK.out, HSN.out, firstE_append _ _ HE.out]
          show (if shareErr bef s = 0 then firstE [] else shareErr bef s) = 0
          rw [if_pos hc]; rfl)
        have HCL2 := hid (HCL.out.mono (R' := fun e w' => (∃ z m : NV, e = .returned (.tuple #[.agg #[.bool z.b, .slice z.p z.k z.c, .slice z.q z.j z.d], .int .i64 0]) ∧ NumV w' (.agg #[.bool z.b, .slice z.p z.k z.c, .slice z.q z.j z.d]) (numQ s.2.data.toList) ∧ HBlk w' gs #[.bool m.b, .slice m.p m.k m.c, .slice m.q m.j m.d] 75 ∧ NumV w' (.agg #[.bool m.b, .slice m.p m.k m.c, .slice m.q m.j m.d]) (sq + numQ s.2.data.toList)) ∧ HBlk w' gb #[.string s.1] 9 ∧ Chg gb gs (wr.alloc (.cells #[.string s.1, .string s.2] 58)) w') (fun e w' h => by
          unfold CloOf at h
          rw [if_pos hc] at h
          exact h))
        have hqs : ((l.take k).map fun s => numQ s.2.data.toList) ++ [numQ s.2.data.toList] = (l.take (k + 1)).map fun s => numQ s.2.data.toList := by
          rw [HTK.out, List.map_append]; rfl
        have HQS := hid hqs
        have hql : ((l.take k).map fun s => numQ s.2.data.toList).length = k := by rw [List.length_map, List.length_take]; omega
        clear HCL HE hc hqs
        generalize numQ s.2.data.toList = q at *
        generalize ((l.take k).map fun s => numQ s.2.data.toList) = qs at *
        go_wp2_with fail
        refine HCL2.out.mono ?_
        rintro e w1 ⟨⟨z, m', rfl, hz, hbs, hm'⟩, hbb, hch⟩
        have HN2 := HN1.out.chg hch HGNE.out.1 HGNE.out.2 BB1.out BS1.out (noInt_str _) (noInt_nv _)
        have HC2 := HC1.out.trans hch
        have hal : Below w1.heap.size w1 (w1.alloc (.cells #[.bool z.b, .slice z.p z.k z.c, .slice z.q z.j z.d] 75)) := (Below.refl _ _).alloc (Nat.le_refl _) _
        have hal2 : Below (w1.alloc (.cells #[.bool z.b, .slice z.p z.k z.c, .slice z.q z.j z.d] 75)).heap.size (w1.alloc (.cells #[.bool z.b, .slice z.p z.k z.c, .slice z.q z.j z.d] 75)) ((w1.alloc (.cells #[.bool z.b, .slice z.p z.k z.c, .slice z.q z.j z.d] 75)).alloc (.cells #[.bool z.b, .slice z.p z.k z.c, .slice z.q z.j z.d] 75)) := (Below.refl _ _).alloc (Nat.le_refl _) _
        have halb := hal.trans (hal2.mono (by simp))
        obtain ⟨y0, y1, y2⟩ := (one_new w1 z).cells.1
        obtain ⟨cur, hcur, hfit, hnew, hbel⟩ := (HN2.later halb).push (by rw [hql]; exact hkl) (hz.later halb)
        have hnb := heap_alloc_new (w1.alloc (.cells #[.bool z.b, .slice z.p z.k z.c, .slice z.q z.j z.d] 75)) (.cells #[.bool z.b, .slice z.p z.k z.c, .slice z.q z.j z.d] 75)
        rw [World.size_alloc] at hnb
        have hrowg := HN2.lt
        have hminw : min gb gs ≤ w1.heap.size := by have := HC2.1.size; omega
        have HC3 := HC2.below hminw halb
        rw [hql] at hfit hnew hbel
        simp only [List.append_assoc, List.cons_append, List.nil_append] at hnew hbel
        have hrows : ∀ kk, kk ≠ w.heap.size → (((w1.alloc (.cells #[.bool z.b, .slice z.p z.k z.c, .slice z.q z.j z.d] 75)).alloc (.cells #[.bool z.b, .slice z.p z.k z.c, .slice z.q z.j z.d] 75)).setRow w.heap.size (List.take (k * 3) cur.toList ++ .bool z.b :: .slice z.p z.k z.c :: .slice z.q z.j z.d :: List.drop (k * 3 + 3) cur.toList).toArray).heap[kk]? = ((w1.alloc (.cells #[.bool z.b, .slice z.p z.k z.c, .slice z.q z.j z.d] 75)).alloc (.cells #[.bool z.b, .slice z.p z.k z.c, .slice z.q z.j z.d] 75)).heap[kk]? := fun kk hkk => setRow_other _ _ _ _ hkk
        have BB4 := hid (HBlkRow hrows (hbb.later halb) (by omega))
        have BS4 := hid (HBlkRow hrows (hbs.later halb) (by omega))
        have HM4 := hid ((hm'.later halb).setRow hcur (HNI2 (HN2.later halb) hcur) (List.take (k * 3) cur.toList ++ .bool z.b :: .slice z.p z.k z.c :: .slice z.q z.j z.d :: List.drop (k * 3 + 3) cur.toList).toArray)
        have HC4 := hid (chg_row HC3 (hbel w.heap.size (Nat.le_refl _)) hrows (by omega))
        have HNEW := hid hnew
        have HCUR := hid hcur
        have HNB := hid hnb
        have HFIT := hid hfit
        clear hal hal2 halb hcur hfit hnew hbel hnb hql hz hbs hm' hbb hch HN2 HC2 HC3 hrows x0 x1 hc0 hc1 HCL2
        go_wp2_with (at_builtin; refine wpList_append_exact _ rfl _ _ 101 rfl 75 i0 3 Tryz.underlying101 HI.out hz1 w.heap.size k l.length cur rfl HCUR.out ⟨w1.heap.size + 1, 0, none⟩ 1 1 [.bool z.b, .slice z.p z.k z.c, .slice z.q z.j z.d] rfl rfl (World.news_of_block HNB.out) ?qc1 (by omega) HFIT.out ?_)
        case qc1 =>
          intro u hu
          simp only [List.mem_cons, List.not_mem_nil, or_false] at hu
          rcases hu with rfl | rfl | rfl <;> rfl
        clear y0 y1 y2
        go_wp2_with fail
        go_roundw
        case rel => exact ⟨k + 1, hkl, by go_num, rfl, hid (by rw [← HQS.out]; exact HNEW.out), HE2, HC4, hid (by rw [HTK.out, HBN.out]; exact BB4.out), m', hid ⟨BS4.out, by rw [HTK.out, HQN.out]; exact HM4.out⟩⟩
        case measure => simp [intOf]; omega
      · have HCL2 := hid (HCL.out.mono (R' := fun e w' => e = .returned (.tuple #[.agg #[.bool false, .slice none 0 0, .slice none 0 0], .int .i64 (shareErr bef s : Nat)]) ∧ Chg gb gs (wr.alloc (.cells #[.string s.1, .string s.2] 58)) w') (fun e w' h => by
          unfold CloOf at h
          rw [if_neg hc] at h
          exact ⟨h.1, h.2.2⟩))
        have HF : Hid (firstE (shareErrs b0 l) = shareErr bef s) := hid (by
          obtain ⟨d, hd⟩ := HALL.out
          rw [hd, HTK.out, shareErrs_append, HSN.out, List.append_assoc, firstE_append _ _ HE.out]
          show (if shareErr bef s = 0 then _ else shareErr bef s) = _
          rw [if_neg hc])
        clear HCL HE
        generalize shareErr bef s = ck at *
        have hck : ((ck : Int) == 0) = false := beq_eq_false_iff_ne.2 (by omega)
        have HCK := hid hc
        clear hc
        go_wp2_with fail
        refine HCL2.out.mono ?_
        rintro e w1 ⟨rfl, hch⟩
        have HC2 := HC1.out.trans hch
        have HC3 := hid (HC2.below (by have := HC2.1.size; omega) ((Below.refl w1.heap.size w1).alloc (Nat.le_refl _) (.cells #[.bool false, .slice none 0 0, .slice none 0 0] 75)))
        clear hch HC2 x0 x1 hc0 hc1 HCL2
        go_wp2_with fail
        go_ret2
        exact eachSh_bad HF.out HCK.out HC3.out
    · obtain rfl : k = l.length := by omega
      have hE := HE.out
      have hN := HN.out
      have hM := HM.out
      rw [List.take_length] at hE hN hM
      have HE' := hid hE
      have HN' := hid hN
      have HM' := hid hM
      clear hE hN hM HE HN HM
      go_wp2_with fail
      go_ret2
      exact eachSh_good HE'.out HN'.out HM'.out HC.out
end Go.Proofs.YtocoghnopmjceaaGreatDoor

/-
  readShares.
-/
namespace Go.Proofs.YtocoghnopmjceaaGreatDoor
open Go.RowKit

/-- The first error of a list of shares. -/
def sharesErr (l : List (ByteArray × ByteArray)) : Nat :=
  if l.length = 0 then 2 else if 64 < l.length then 5 else if firstE (shareErrs ⟨#[]⟩ l) ≠ 0 then firstE (shareErrs ⟨#[]⟩ l) else if sumQ l = 1 then 0 else 12

def partQ (s : ByteArray × ByteArray) : Rat := numQ s.2.data.toList

/-- What readShares answers. -/
def SharesOf (l : List (ByteArray × ByteArray)) (w : World) (e : Ending) (w' : World) : Prop :=
  (if sharesErr l = 0 then ∃ g, w.heap.size ≤ g ∧ e = .returned (.tuple #[.slice (some ⟨g, 0, none⟩) l.length l.length, .int .i64 0]) ∧ Nums w' g l.length (l.map partQ)
    else e = .returned (.tuple #[.slice none 0 0, .int .i64 (sharesErr l : Nat)])) ∧ Below w.heap.size w w'

theorem sharesOf_bad {l : List (ByteArray × ByteArray)} {w w' : World} (k : Nat) {z : Int} (h : sharesErr l = k) (hk : k ≠ 0) (hz : z = k) (hb : Below w.heap.size w w') : SharesOf l w (.returned (.tuple #[.slice none 0 0, .int .i64 z])) w' := by
  unfold SharesOf
  rw [h, if_neg hk, hz]
  exact ⟨rfl, hb⟩

theorem cmpQ_eq {a b : Rat} : cmpQ a b = 0 ↔ a = b := by
  rcases cmpQ_cases a b with ⟨h1, h2⟩ | ⟨h1, h2⟩ | ⟨h1, h2⟩
  · constructor
    · intro h; omega
    · rintro rfl; exact absurd h2 Rat.lt_irrefl
  · exact ⟨fun _ => h2, fun _ => h1⟩
  · constructor
    · intro h; omega
    · rintro rfl; exact absurd h2 Rat.lt_irrefl

set_option maxRecDepth 100000 in
set_option maxHeartbeats 4000000 in
/-- readShares returns the parts of shares, or their first error. -/
theorem readShares_any (v : Value) (l : List (ByteArray × ByteArray)) (w : World) (hg : GW w) (hv : SpansV w v l) (hs : ∀ s ∈ l, s.2.size ≤ 1073741824) :
    Calls Tryz.prog 80 #[v] w (SharesOf l w) := by
  obtain ⟨p, c, rfl, hc1, hc2, hcells⟩ := hv
  unfold maxLen at hc2
  by_cases h0 : l.length = 0
  · have HF : Hid (SharesOf l w (.returned (.tuple #[.slice none 0 0, .int .i64 2])) w) := hid (sharesOf_bad 2 (by unfold sharesErr; rw [if_pos h0]) (by omega) rfl (Below.refl _ _))
    have hb : ((l.length : Int) == 0) = true := by rw [h0]; rfl
    clear hcells hs hg
    go_enter Tryz.func80, Tryz.ntmps80
    go_wp2_with fail
    go_ret2
    exact HF.out
  have hb : ((l.length : Int) == 0) = false := beq_eq_false_iff_ne.2 (by omega)
  by_cases h1 : 64 < l.length
  · have HF : Hid (SharesOf l w (.returned (.tuple #[.slice none 0 0, .int .i64 5])) w) := hid (sharesOf_bad 5 (by unfold sharesErr; rw [if_neg h0, if_pos h1]) (by omega) rfl (Below.refl _ _))
    clear hcells hs hg
    go_enter Tryz.func80, Tryz.ntmps80
    go_wp2_with fail
    go_ret2
    exact HF.out
  obtain ⟨b, o, rfl, hrow⟩ := hcells.resolve_left h0
  have hal1 : Below w.heap.size w (w.alloc (.cells #[.string ⟨#[]⟩] 9)) := (Below.refl _ _).alloc (Nat.le_refl _) _
  have hal : Below w.heap.size w ((w.alloc (.cells #[.string ⟨#[]⟩] 9)).alloc (.cells #[.bool false, .slice none 0 0, .slice none 0 0] 75)) := hal1.alloc (by simp) _
  have hblt : b < w.heap.size := World.block_lt_of_cell? w _ (hrow 0 (l[0]) (List.getElem?_eq_getElem (by omega))).1
  have b1 := blk_new w #[.string ⟨#[]⟩] 9
  have b2 := blk_new (w.alloc (.cells #[.string ⟨#[]⟩] 9)) #[.bool false, .slice none 0 0, .slice none 0 0] 75
  rw [World.size_alloc] at b2
  have HE := hid (each_share w.heap.size (w.heap.size + 1) ⟨#[]⟩ ⟨false, none, 0, 0, none, 0, 0⟩ l b o c ((w.alloc (.cells #[.string ⟨#[]⟩] 9)).alloc (.cells #[.bool false, .slice none 0 0, .slice none 0 0] 75)) (hg.later hal) (hrow.later hal) (by omega) hs (b1.later ((Below.refl _ _).alloc (Nat.le_refl _) _)) b2 (by omega) (numV_zero' _) (by omega) (by omega))
  have HAL := hid hal
  have hmin : min w.heap.size (w.heap.size + 1) = w.heap.size := Nat.min_eq_left (by omega)
  have HCB : Hid (∀ w', Chg w.heap.size (w.heap.size + 1) ((w.alloc (.cells #[.string ⟨#[]⟩] 9)).alloc (.cells #[.bool false, .slice none 0 0, .slice none 0 0] 75)) w' → Below w.heap.size w w') := hid fun w' h => HAL.out.trans (by have := h.1; rwa [hmin] at this)
  clear hrow hs hg hcells hal hal1 b1 b2 hblt hmin
  by_cases he : firstE (shareErrs ⟨#[]⟩ l) = 0
  · have HE2 := hid (HE.out.mono (R' := fun e w' => ((∃ g, w.heap.size ≤ g ∧ e = .returned (.tuple #[.slice (some ⟨g, 0, none⟩) l.length l.length, .int .i64 0]) ∧ Nums w' g l.length (l.map partQ)) ∧ ∃ m : NV, HBlk w' (w.heap.size + 1) #[.bool m.b, .slice m.p m.k m.c, .slice m.q m.j m.d] 75 ∧ NumV w' (.agg #[.bool m.b, .slice m.p m.k m.c, .slice m.q m.j m.d]) (sumQ l)) ∧ Below w.heap.size w w') (fun e w' h => by
      unfold EachSh at h
      rw [if_pos he] at h
      obtain ⟨⟨⟨g, h1, h2, h3⟩, hm⟩, hc⟩ := h
      exact ⟨⟨⟨g, by simp at h1; omega, h2, h3⟩, hm⟩, HCB.out _ hc⟩))
    have bq := (sumQ_bd ⟨#[]⟩ l he).rs
    have b1 : rs (1 : Rat) ≤ 2 := (bd_whole 1 (by omega) (by omega)).rs
    have HCQ : Hid (∀ W vs vw, NumV W vs (sumQ l) → NumV W vw ((1 : Int) : Rat) → Calls Tryz.prog 38 #[vs, vw] W fun e w' => e = .returned (.int .i64 (cmpQ (sumQ l) 1)) ∧ Below W.heap.size W w') := hid fun W vs vw h1 h2 => compareQ_any vs vw _ _ W h1 h2 (by unfold Cap; omega)
    have HG1 : Hid (∀ w' g, sumQ l = 1 → w.heap.size ≤ g → Nums w' g l.length (l.map partQ) → Below w.heap.size w w' → SharesOf l w (.returned (.tuple #[.slice (some ⟨g, 0, none⟩) l.length l.length, .int .i64 0])) w') := hid fun w' g hq hg hn hb => by
      have hz : sharesErr l = 0 := by unfold sharesErr; rw [if_neg h0, if_neg h1, if_neg (by omega), if_pos hq]
      unfold SharesOf
      rw [if_pos hz]
      exact ⟨⟨g, hg, rfl, hn⟩, hb⟩
    have HG2 : Hid (∀ w', sumQ l ≠ 1 → Below w.heap.size w w' → SharesOf l w (.returned (.tuple #[.slice none 0 0, .int .i64 12])) w') := hid fun w' hq hb => sharesOf_bad 12 (by unfold sharesErr; rw [if_neg h0, if_neg h1, if_neg (by omega), if_neg hq]) (by omega) rfl hb
    have HWH := hid (fun W => whole_any 1 W (by omega) (by omega))
    have hcz := @cmpQ_eq (sumQ l) 1
    have HCZ := hid hcz
    clear HE he bq b1 hcz
    by_cases hq : cmpQ (sumQ l) 1 = 0
    · have HQ := hid (HCZ.out.1 hq)
      have hb0 : (cmpQ (sumQ l) 1 == 0) = true := beq_iff_eq.2 hq
      clear hq HCZ HG2
      generalize cmpQ (sumQ l) 1 = cr at *
      generalize sumQ l = sq at *
      generalize l.map partQ = qs at *
      go_enter Tryz.func80, Tryz.ntmps80
      go_wp2_with fail
      refine HE2.out.mono ?_
      rintro e w2 ⟨⟨⟨g, hgg, rfl, hn⟩, m, hm, hv⟩, hbl⟩
      obtain ⟨⟨m0, m1, m2⟩, _⟩ := hm.one.cells
      have c0 := hm.one.cells.1
      have HM2 := hid hm
      have HN2 := hid hn
      have HV2 := hid hv
      have HB2 := hid hbl
      clear hm hn hv hbl HE2
      go_wp2_with fail
      go_region_held3 (fun W => W.cell? ⟨w.heap.size + 1, 0, none⟩ = some (.bool m.b) ∧ W.cell? ⟨w.heap.size + 1, 1, none⟩ = some (.slice m.p m.k m.c) ∧ W.cell? ⟨w.heap.size + 1, 2, none⟩ = some (.slice m.q m.j m.d)) (first | with_reducible exact c1 | with_reducible exact c2 | exact c0)
        (first
          | (go_at_call 39; refine (HWH.out _).mono ?_; rintro e wA ⟨⟨v1, rfl, hn⟩, hb⟩; have HVA := hid hn; have HBA : Hid (Below w2.heap.size w2 wA) := hid ((Below.refl _ _).drew.trans hb); have c1 := ((HM2.out.later HBA.out).one.cells).1; clear hn hb)
          | (go_at_call 38; refine (HCQ.out _ _ _ (HV2.out.later HBA.out) HVA.out).mono ?_; rintro e wB ⟨rfl, hb⟩; have HBB := hid (HBA.out.trans (hb.mono HBA.out.size)); have c2 := ((HM2.out.later HBB.out).one.cells).1; clear hb))
      all_goals
        have HBF := hid (HB2.out.trans (HBB.out.mono HB2.out.size))
        have HNF := hid (HN2.out.later HBB.out)
        go_wp2_with fail
        go_ret2
        exact HG1.out _ _ HQ.out hgg HNF.out HBF.out
    · have HQ : Hid (sumQ l ≠ 1) := hid (fun h => hq (HCZ.out.2 h))
      have hb0 : (cmpQ (sumQ l) 1 == 0) = false := beq_eq_false_iff_ne.2 hq
      clear hq HCZ HG1
      generalize cmpQ (sumQ l) 1 = cr at *
      generalize sumQ l = sq at *
      generalize l.map partQ = qs at *
      go_enter Tryz.func80, Tryz.ntmps80
      go_wp2_with fail
      refine HE2.out.mono ?_
      rintro e w2 ⟨⟨⟨g, hgg, rfl, hn⟩, m, hm, hv⟩, hbl⟩
      obtain ⟨⟨m0, m1, m2⟩, _⟩ := hm.one.cells
      have c0 := hm.one.cells.1
      have HM2 := hid hm
      have HV2 := hid hv
      have HB2 := hid hbl
      clear hm hn hv hbl HE2
      go_wp2_with fail
      go_region_held3 (fun W => W.cell? ⟨w.heap.size + 1, 0, none⟩ = some (.bool m.b) ∧ W.cell? ⟨w.heap.size + 1, 1, none⟩ = some (.slice m.p m.k m.c) ∧ W.cell? ⟨w.heap.size + 1, 2, none⟩ = some (.slice m.q m.j m.d)) (first | with_reducible exact c1 | with_reducible exact c2 | exact c0)
        (first
          | (go_at_call 39; refine (HWH.out _).mono ?_; rintro e wA ⟨⟨v1, rfl, hn⟩, hb⟩; have HVA := hid hn; have HBA : Hid (Below w2.heap.size w2 wA) := hid ((Below.refl _ _).drew.trans hb); have c1 := ((HM2.out.later HBA.out).one.cells).1; clear hn hb)
          | (go_at_call 38; refine (HCQ.out _ _ _ (HV2.out.later HBA.out) HVA.out).mono ?_; rintro e wB ⟨rfl, hb⟩; have HBB := hid (HBA.out.trans (hb.mono HBA.out.size)); have c2 := ((HM2.out.later HBB.out).one.cells).1; clear hb))
      all_goals
        have HBF := hid (HB2.out.trans (HBB.out.mono HB2.out.size))
        go_wp2_with fail
        go_ret2
        exact HG2.out _ HQ.out HBF.out
  · have HE2 := hid (HE.out.mono (R' := fun e w' => e = .returned (.tuple #[.slice none 0 0, .int .i64 (firstE (shareErrs ⟨#[]⟩ l) : Nat)]) ∧ Below w.heap.size w w') (fun e w' h => by
      unfold EachSh at h
      rw [if_neg he] at h
      exact ⟨h.1, HCB.out _ h.2⟩))
    have HG : Hid (∀ w', Below w.heap.size w w' → SharesOf l w (.returned (.tuple #[.slice none 0 0, .int .i64 (firstE (shareErrs ⟨#[]⟩ l) : Nat)])) w') := hid fun w' hb => sharesOf_bad _ (by unfold sharesErr; rw [if_neg h0, if_neg h1, if_pos he]) he rfl hb
    have hb0 : ((firstE (shareErrs ⟨#[]⟩ l) : Int) == 0) = false := beq_eq_false_iff_ne.2 (by omega)
    clear HE he
    generalize firstE (shareErrs ⟨#[]⟩ l) = ck at *
    go_enter Tryz.func80, Tryz.ntmps80
    go_wp2_with fail
    refine HE2.out.mono ?_
    rintro e w2 ⟨rfl, hbl⟩
    have HB2 := hid hbl
    clear hbl HE2
    go_wp2_with fail
    go_ret2
    exact HG.out _ HB2.out
end Go.Proofs.YtocoghnopmjceaaGreatDoor

