/-
  The map of the masses of lots.
-/
import Derived.Test.YtocoghnopmjceaaGreatDoorMShare
import Derived.Test.YtocoghnopmjceaaGreatDoorMEachLayer
import Derived.Test.YtocoghnopmjceaaGreatDoorMMean
import Derived.Carry
namespace Go.Proofs.YtocoghnopmjceaaGreatDoor
open Go.RowKit

/-- Entries of a map of numbers: the key, the cells, the number. -/
abbrev Ent := List (ByteArray × NV × Rat)

def NMapE (W : World) (r : Nat) (E : Ent) : Prop := KMap W r (E.map fun e => (e.1, .agg #[.bool e.2.1.b, .slice e.2.1.p e.2.1.k e.2.1.c, .slice e.2.1.q e.2.1.j e.2.1.d])) ∧ ∀ e ∈ E, NumV W (.agg #[.bool e.2.1.b, .slice e.2.1.p e.2.1.k e.2.1.c, .slice e.2.1.q e.2.1.j e.2.1.d]) e.2.2
def dataE (E : Ent) : List (ByteArray × Rat) := E.map fun e => (e.1, e.2.2)
def zeroNV : NV := ⟨false, none, 0, 0, none, 0, 0⟩
def lookZ (E : Ent) (k : ByteArray) : NV := ((E.find? fun e => k == e.1).map (·.2.1)).getD zeroNV
def lookQ (E : Ent) (k : ByteArray) : Rat := ((E.find? fun e => k == e.1).map (·.2.2)).getD 0
def putE (E : Ent) (k : ByteArray) (z : NV) (d : Rat) : Ent :=
  if E.any (fun e => k == e.1) then E.map (fun e => if k == e.1 then (e.1, z, lookQ E k + d) else e) else E ++ [(k, z, lookQ E k + d)]

/-- A number that is added to that of a key. -/
def addD (D : List (ByteArray × Rat)) (k : ByteArray) (d : Rat) : List (ByteArray × Rat) :=
  if D.any (fun p => k == p.1) then D.map (fun p => if k == p.1 then (p.1, p.2 + d) else p) else D ++ [(k, 0 + d)]

theorem NMapE.later {W W' : World} {r : Nat} {E : Ent} (h : NMapE W r E) (hb : Below W.heap.size W W') : NMapE W' r E := ⟨h.1.later hb, fun e he => (h.2 e he).later hb⟩

theorem KMap.nodup {W : World} {r : Nat} {D : List (ByteArray × Value)} (h : KMap W r D) : (D.map (·.1)).Nodup := by
  obtain ⟨es, clock, _, h2, h3⟩ := h
  have e : es.toList.map (·.key) = (D.map (·.1)).map Value.string := by
    have := congrArg (List.map Prod.fst) h2
    rw [List.map_map, List.map_map] at this
    rw [List.map_map]
    exact this
  have hnd := h3.2.2
  rw [e] at hnd
  exact (List.pairwise_map.1 hnd).imp (fun hne he => hne (congrArg Value.string he))

theorem ent_unique {E : Ent} (h : (E.map (·.1)).Nodup) {e f : ByteArray × NV × Rat} (he : e ∈ E) (hf : f ∈ E) (hk : e.1 = f.1) : e = f := by
  induction E with
  | nil => cases he
  | cons a E ih =>
    rw [List.map_cons, List.nodup_cons] at h
    rcases List.mem_cons.1 he with rfl | he'
    · rcases List.mem_cons.1 hf with rfl | hf'
      · rfl
      · exact absurd (hk ▸ List.mem_map_of_mem (f := (·.1)) hf') h.1
    · rcases List.mem_cons.1 hf with rfl | hf'
      · exact absurd (hk ▸ List.mem_map_of_mem (f := (·.1)) he') h.1
      · exact ih h.2 he' hf'

theorem find_ent {E : Ent} {k : ByteArray} : (E.find? fun e => k == e.1) = none ∧ E.any (fun e => k == e.1) = false ∨ ∃ e, (E.find? fun e => k == e.1) = some e ∧ e ∈ E ∧ e.1 = k ∧ E.any (fun e => k == e.1) = true := by
  cases h : E.find? fun e => k == e.1 with
  | none =>
    left
    refine ⟨rfl, ?_⟩
    rw [List.any_eq_false]
    intro e he
    have := List.find?_eq_none.1 h e he
    exact this
  | some e =>
    right
    refine ⟨e, rfl, List.mem_of_find?_eq_some h, ?_, ?_⟩
    · exact ((bytes_eq_iff _ _).1 (List.find?_some (p := fun e : ByteArray × NV × Rat => k == e.1) h)).symm
    · rw [List.any_eq_true]
      exact ⟨e, List.mem_of_find?_eq_some h, List.find?_some (p := fun e : ByteArray × NV × Rat => k == e.1) h⟩

theorem NMapE.nodup {W : World} {r : Nat} {E : Ent} (h : NMapE W r E) : (E.map (·.1)).Nodup := by
  have := h.1.nodup
  rw [List.map_map] at this
  exact this

theorem lookQ_some {E : Ent} {k : ByteArray} {e : ByteArray × NV × Rat} (h : (E.find? fun e => k == e.1) = some e) : lookQ E k = e.2.2 ∧ lookZ E k = e.2.1 := by
  unfold lookQ lookZ; rw [h]; exact ⟨rfl, rfl⟩
theorem lookQ_none {E : Ent} {k : ByteArray} (h : (E.find? fun e => k == e.1) = none) : lookQ E k = 0 ∧ lookZ E k = zeroNV := by
  unfold lookQ lookZ; rw [h]; exact ⟨rfl, rfl⟩

theorem sfind_ent (E : Ent) (k : ByteArray) : sfind (E.map fun e => (e.1, Value.agg #[.bool e.2.1.b, .slice e.2.1.p e.2.1.k e.2.1.c, .slice e.2.1.q e.2.1.j e.2.1.d])) k = (E.find? fun e => k == e.1).map fun e => Value.agg #[.bool e.2.1.b, .slice e.2.1.p e.2.1.k e.2.1.c, .slice e.2.1.q e.2.1.j e.2.1.d] := by
  unfold sfind
  rw [List.find?_map, Option.map_map]
  rfl

theorem run_lookE {W : World} {r : Nat} {E : Ent} (h : NMapE W r E) (k : ByteArray) :
    (Instr.lookup 105 (.map (some r)) (.string k) false).run Tryz.prog W = .ok (.agg #[.bool (lookZ E k).b, .slice (lookZ E k).p (lookZ E k).k (lookZ E k).c, .slice (lookZ E k).q (lookZ E k).j (lookZ E k).d]) W ∧ NumV W (.agg #[.bool (lookZ E k).b, .slice (lookZ E k).p (lookZ E k).k (lookZ E k).c, .slice (lookZ E k).q (lookZ E k).j (lookZ E k).d]) (lookQ E k) := by
  rcases find_ent (E := E) (k := k) with ⟨h1, _⟩ | ⟨e, h1, h2, h3, _⟩
  · obtain ⟨q1, q2⟩ := lookQ_none h1
    rw [q1, q2]
    refine ⟨(run_slookup_none W 105 9 75 Tryz.underlying105 Tryz.underlying9 r _ h.1.smap k (.agg #[.bool false, .slice none 0 0, .slice none 0 0]) (by kernel_rfl) (by rw [sfind_ent, h1]; rfl)).2, ?_⟩
    exact numV_zero' W
  · obtain ⟨q1, q2⟩ := lookQ_some h1
    rw [q1, q2]
    exact ⟨(run_slookup W 105 9 75 Tryz.underlying105 Tryz.underlying9 r _ h.1.smap k _ (by rw [sfind_ent, h1]; rfl)).2, h.2 e h2⟩

theorem kput_ent (E : Ent) (k : ByteArray) (z : NV) (d : Rat) : kput (E.map fun e => (e.1, Value.agg #[.bool e.2.1.b, .slice e.2.1.p e.2.1.k e.2.1.c, .slice e.2.1.q e.2.1.j e.2.1.d])) k (.agg #[.bool z.b, .slice z.p z.k z.c, .slice z.q z.j z.d]) = (putE E k z d).map fun e => (e.1, Value.agg #[.bool e.2.1.b, .slice e.2.1.p e.2.1.k e.2.1.c, .slice e.2.1.q e.2.1.j e.2.1.d]) := by
  have hany : (E.map fun e => (e.1, Value.agg #[.bool e.2.1.b, .slice e.2.1.p e.2.1.k e.2.1.c, .slice e.2.1.q e.2.1.j e.2.1.d])).any (fun p => k == p.1) = E.any (fun e => k == e.1) := by rw [List.any_map]; rfl
  unfold kput putE
  rw [hany]
  by_cases h : E.any (fun e => k == e.1) = true
  · rw [if_pos h, if_pos h, List.map_map, List.map_map]
    refine List.map_congr_left fun e _ => ?_
    show (if (k == e.1) = true then _ else _) = _
    by_cases hk : (k == e.1) = true
    · simp [hk]
    · simp [hk]
  · rw [if_neg h, if_neg h, List.map_append]
    rfl

theorem dataE_put {W : World} {r : Nat} {E : Ent} (h : NMapE W r E) (k : ByteArray) (z : NV) (d : Rat) : dataE (putE E k z d) = addD (dataE E) k d := by
  have hany : (dataE E).any (fun p => k == p.1) = E.any (fun e => k == e.1) := by unfold dataE; rw [List.any_map]; rfl
  unfold addD
  rw [hany]
  unfold dataE putE
  rcases find_ent (E := E) (k := k) with ⟨h1, h2⟩ | ⟨e, h1, h2, h3, h4⟩
  · rw [if_neg (by rw [h2]; decide), if_neg (by rw [h2]; decide), List.map_append, (lookQ_none h1).1]
    rfl
  · rw [if_pos h4, if_pos h4, List.map_map, List.map_map]
    refine List.map_congr_left fun f hf => ?_
    show _ = (if (k == f.1) = true then _ else _)
    by_cases hk : (k == f.1) = true
    · have hfe := ent_unique h.nodup hf h2 (by rw [h3]; exact ((bytes_eq_iff _ _).1 hk).symm)
      subst hfe
      simp [hk, (lookQ_some h1).1]
    · simp [hk]

theorem cell_not_map {W : World} {r b o : Nat} {D : List (ByteArray × Value)} {v : Value} (h : KMap W r D) (hc : W.cell? ⟨b, o, none⟩ = some v) : b ≠ r := by
  rintro rfl
  obtain ⟨es, clock, h1, _⟩ := h
  simp [World.cell?, h1] at hc

theorem KMap.cell {W W' : World} {r b o : Nat} {D : List (ByteArray × Value)} {v : Value} (h : KMap W r D) (hch : Chg r r W W') (hc : W.cell? ⟨b, o, none⟩ = some v) : W'.cell? ⟨b, o, none⟩ = some v :=
  hch.cell hc (cell_not_map h hc) (cell_not_map h hc)

theorem KMap.nat {W W' : World} {r : Nat} {D : List (ByteArray × Value)} {v : Value} {n : Nat} (h : KMap W r D) (hch : Chg r r W W') (hn : Nat' W v n) : Nat' W' v n := by
  obtain ⟨h1, q, c, h2, h3, h4, h5⟩ := hn
  refine ⟨h1, q, c, h2, h3, h4, ?_⟩
  rcases h5 with h5 | ⟨b, o, h6, h7⟩
  · exact .inl h5
  · exact .inr ⟨b, o, h6, fun i hi => h.cell hch (h7 i hi)⟩

theorem KMap.num {W W' : World} {r : Nat} {D : List (ByteArray × Value)} {v : Value} {q : Rat} (h : KMap W r D) (hch : Chg r r W W') (hn : NumV W v q) : NumV W' v q := by
  obtain ⟨t, b, e, h1, h2⟩ := hn
  exact ⟨t, b, e, h.nat hch h1, h.nat hch h2⟩

theorem run_putE {W : World} {r : Nat} {E : Ent} (h : NMapE W r E) (k : ByteArray) (z : NV) (d : Rat) (hz : NumV W (.agg #[.bool z.b, .slice z.p z.k z.c, .slice z.q z.j z.d]) (lookQ E k + d)) :
    ∃ w', (Instr.mapUpdate 105 (.map (some r)) (.string k) (.agg #[.bool z.b, .slice z.p z.k z.c, .slice z.q z.j z.d])).run Tryz.prog W = .ok () w' ∧ NMapE w' r (putE E k z d) ∧ Chg r r W w' ∧ w'.heap.size = W.heap.size := by
  obtain ⟨w', h1, h2, h3, h4, h5⟩ := run_kput (P := Tryz.prog) W 105 9 75 Tryz.underlying105 Tryz.underlying9 r _ h.1 k (.agg #[.bool z.b, .slice z.p z.k z.c, .slice z.q z.j z.d])
  have hch : Chg r r W w' := ⟨by rw [Nat.min_self]; exact h3, fun j _ hj _ => h5 j hj⟩
  refine ⟨w', h1, ⟨by rw [← kput_ent E k z d]; exact h2, fun e he => ?_⟩, hch, h4⟩
  unfold putE at he
  split at he
  · rw [List.mem_map] at he
    obtain ⟨f, hf, rfl⟩ := he
    split
    · exact h.1.num hch hz
    · exact h.1.num hch (h.2 f hf)
  · rw [List.mem_append, List.mem_singleton] at he
    rcases he with he | rfl
    · exact h.1.num hch (h.2 e he)
    · exact h.1.num hch hz

theorem putE_bd {E : Ent} {k : ByteArray} {z : NV} {d : Rat} {m n : Nat} (h : ∀ e ∈ E, bd e.2.2 m) (hm : 1 ≤ m) (hd : bd d n) : ∀ e ∈ putE E k z d, bd e.2.2 (m + n + 1) := by
  have hl : bd (lookQ E k) m := by
    rcases find_ent (E := E) (k := k) with ⟨h1, _⟩ | ⟨e, h1, h2, _⟩
    · rw [(lookQ_none h1).1]; exact bd_zero _ hm
    · rw [(lookQ_some h1).1]; exact h e h2
  intro e he
  unfold putE at he
  split at he
  · rw [List.mem_map] at he
    obtain ⟨f, hf, rfl⟩ := he
    split
    · exact bd_add hl hd
    · exact (h f hf).mono (by omega)
  · rw [List.mem_append, List.mem_singleton] at he
    rcases he with he | rfl
    · exact (h e he).mono (by omega)
    · exact bd_add hl hd

/-- The masses of the lots of some shares of a layer, and of layers. -/
def sharesD (m : Int) (D : List (ByteArray × Rat)) (ss : List (ByteArray × ByteArray)) : List (ByteArray × Rat) := ss.foldl (fun D s => addD D s.1 (partQ s * ((m : Int) : Rat))) D
def massD (ls : List Lay) : List (ByteArray × Rat) := ls.foldl (fun D x => sharesD x.mass D x.shares) []

theorem sharesD_snoc (m : Int) (D : List (ByteArray × Rat)) (ss : List (ByteArray × ByteArray)) (s : ByteArray × ByteArray) : sharesD m D (ss ++ [s]) = addD (sharesD m D ss) s.1 (partQ s * ((m : Int) : Rat)) := by unfold sharesD; rw [List.foldl_append]; rfl
theorem massD_snoc (ls : List Lay) (x : Lay) : massD (ls ++ [x]) = sharesD x.mass (massD ls) x.shares := by unfold massD; rw [List.foldl_append]; rfl

theorem layErr_parts {x : Lay} (h : layErr x = 0) : 0 < x.mass ∧ x.mass ≤ 999999999 ∧ 1 ≤ x.shares.length ∧ x.shares.length ≤ 64 ∧ ∀ s ∈ x.shares, checkR s.2.data.toList = 0 := by
  unfold layErr at h
  split at h
  · cases h
  · split at h
    · cases h
    · unfold sharesErr at h
      split at h
      · cases h
      · split at h
        · cases h
        · split at h
          · rename_i h1; exact absurd h h1
          · refine ⟨by omega, by omega, by omega, by omega, fun s hs => ?_⟩
            have hz : firstE (shareErrs ⟨#[]⟩ x.shares) = 0 := by omega
            clear h
            have key : ∀ (l : List (ByteArray × ByteArray)) b, firstE (shareErrs b l) = 0 → ∀ s ∈ l, checkR s.2.data.toList = 0 := by
              intro l
              induction l with
              | nil => intro b _ s hs; cases hs
              | cons a l ih =>
                intro b hf s hs
                have h1 : (if shareErr b a = 0 then firstE (shareErrs a.1 l) else shareErr b a) = 0 := hf
                by_cases ha : shareErr b a = 0
                · rw [if_pos ha] at h1
                  rcases List.mem_cons.1 hs with rfl | hs
                  · exact shareErr_check ha
                  · exact ih _ h1 s hs
                · rw [if_neg ha] at h1; exact absurd h1 ha
            exact key _ _ hz s hs
end Go.Proofs.YtocoghnopmjceaaGreatDoor

/-
  massesOfLots.
-/
namespace Go.Proofs.YtocoghnopmjceaaGreatDoor
open Go.RowKit

/-- Cells that the region of the store reads. -/
def MCells (s : ByteArray × ByteArray) (ms : Int) (nn gs gl gp g k j : Nat) (y : NV) (W : World) : Prop := W.cell? ⟨gs, 0, none⟩ = some (.string s.1) ∧ W.cell? ⟨gl, 1, none⟩ = some (.int .i64 ms) ∧ W.cell? ⟨gp, k, none⟩ = some (.slice (some ⟨g, 0, none⟩) nn nn) ∧ W.cell? ⟨g, j * 3, none⟩ = some (.bool y.b) ∧ W.cell? ⟨g, j * 3 + 1, none⟩ = some (.slice y.p y.k y.c) ∧ W.cell? ⟨g, j * 3 + 2, none⟩ = some (.slice y.q y.j y.d)
theorem MCells.later {s : ByteArray × ByteArray} {ms : Int} {nn gs gl gp g k j : Nat} {y : NV} {W W' : World} (h : MCells s ms nn gs gl gp g k j y W) (hb : Below W.heap.size W W') : MCells s ms nn gs gl gp g k j y W' := by
  obtain ⟨h0, h1, h2, h3, h4, h5⟩ := h
  refine ⟨?_, ?_, ?_, ?_, ?_, ?_⟩
  · rw [hb.cell (World.block_lt_of_cell? W _ h0)]; exact h0
  · rw [hb.cell (World.block_lt_of_cell? W _ h1)]; exact h1
  · rw [hb.cell (World.block_lt_of_cell? W _ h2)]; exact h2
  · rw [hb.cell (World.block_lt_of_cell? W _ h3)]; exact h3
  · rw [hb.cell (World.block_lt_of_cell? W _ h4)]; exact h4
  · rw [hb.cell (World.block_lt_of_cell? W _ h5)]; exact h5
theorem MCells.keep {s : ByteArray × ByteArray} {ms : Int} {nn gs gl gp g k j r : Nat} {y : NV} {W W' : World} {D : List (ByteArray × Value)} (h : MCells s ms nn gs gl gp g k j y W) (hm : KMap W r D) (hc : Chg r r W W') : MCells s ms nn gs gl gp g k j y W' := by
  obtain ⟨h0, h1, h2, h3, h4, h5⟩ := h
  exact ⟨hm.cell hc h0, hm.cell hc h1, hm.cell hc h2, hm.cell hc h3, hm.cell hc h4, hm.cell hc h5⟩

theorem lookQ_bd {E : Ent} {k : ByteArray} {m : Nat} (h : ∀ e ∈ E, bd e.2.2 m) (hm : 1 ≤ m) : bd (lookQ E k) m := by
  rcases find_ent (E := E) (k := k) with ⟨h1, _⟩ | ⟨e, h1, h2, _⟩
  · rw [(lookQ_none h1).1]; exact bd_zero _ hm
  · rw [(lookQ_some h1).1]; exact h e h2

set_option maxRecDepth 100000 in
set_option maxHeartbeats 8000000 in
theorem massesOf_any (l : List Lay) (b o c gp : Nat) (w : World) (hrow : LayersAt w b o l) (hl : l.length ≤ 64) (hok : ∀ x ∈ l, layErr x = 0) (hr : RowOf rowK w gp l.length (l.map layQ)) :
    Calls Tryz.prog 47 #[.slice (some ⟨b, o, none⟩) l.length c, .slice (some ⟨gp, 0, none⟩) l.length l.length] w fun e w' => (∃ E, e = .returned (.map (some w.heap.size)) ∧ NMapE w' w.heap.size E ∧ dataE E = massD l ∧ ∀ e ∈ E, bd e.2.2 (602 * 64 * 64 + 1)) ∧ Below w.heap.size w w' := by
  have hmm := @run_makeMap Tryz.prog
  have HROW := hid hrow
  have HOK := hid hok
  have HR := hid hr
  have HM0 := hid (kmap_made w)
  have HB0 : Hid (Below w.heap.size w (w.alloc (.map #[] 0))) := hid ((Below.refl _ _).alloc (Nat.le_refl _) _)
  clear hrow hok hr
  go_enter Tryz.func47, Tryz.ntmps47
  go_wp2_with fail
  clear hmm
  generalize w.alloc (.map #[] 0) = w0 at *
  go_loopw [13] (fun i wr => ∃ k : Nat, k ≤ l.length ∧ i = .int .i64 k ∧ ∃ E : Ent, Hid (NMapE wr w.heap.size E) ∧ Hid (dataE E = massD (l.take k)) ∧ Hid (∀ e ∈ E, bd e.2.2 (602 * 64 * k + 1)) ∧ Hid (Below w.heap.size w wr)) (fun i _ => l.length - (intOf i).toNat)
  case atStart => exact ⟨0, Nat.zero_le _, rfl, [], hid ⟨HM0.out, by intro e he; cases he⟩, hid rfl, hid (by intro e he; cases he), HB0⟩
  case round =>
    obtain ⟨k, hk, rfl, E0, HN, HD, HBD, HB⟩ := hrel
    clear HM0 HB0
    by_cases hkl : k < l.length
    · obtain ⟨x, hsk⟩ : ∃ x, l[k]? = some x := ⟨l[k], List.getElem?_eq_getElem hkl⟩
      obtain ⟨e0, e1, p, cc, e2, hv⟩ := HROW.out k x hsk
      obtain ⟨hm0, hm1, hs0, hs1, hsc⟩ := layErr_parts (HOK.out x (List.mem_of_getElem? hsk))
      have hc0 : wr.cell? ⟨b, o + k * 3, none⟩ = some (.string x.grain) := by rw [HB.out.cell (World.block_lt_of_cell? w _ e0)]; exact e0
      have hc1 : wr.cell? ⟨b, o + k * 3 + 1, none⟩ = some (.int .i64 x.mass) := by rw [HB.out.cell (World.block_lt_of_cell? w _ e1)]; exact e1
      have hc2 : wr.cell? ⟨b, o + k * 3 + 2, none⟩ = some (.slice p x.shares.length cc) := by rw [HB.out.cell (World.block_lt_of_cell? w _ e2)]; exact e2
      have hal : Below wr.heap.size wr (wr.alloc (.cells #[.string x.grain, .int .i64 x.mass, .slice p x.shares.length cc] 53)) := (Below.refl _ _).alloc (Nat.le_refl _) _
      have ho := own_three wr 53 (.string x.grain) (.int .i64 x.mass) (.slice p x.shares.length cc)
      obtain ⟨a1, _⟩ := ho.2 1 (by omega)
      obtain ⟨a2, _⟩ := ho.2 2 (by omega)
      simp only [three', if_pos, Nat.one_ne_zero] at a1 a2
      obtain ⟨p', cc', hpe, _, _, hcells⟩ := hv
      obtain ⟨bs, os, rfl, hspan⟩ := hcells.resolve_left (by omega)
      cases hpe
      obtain ⟨cs, ⟨g, rfl, hnums⟩, hcc⟩ := HR.out.get k (layQ x) (by rw [List.getElem?_map, hsk]; rfl)
      have hp0 := hcc 0 _ rfl
      simp only [rowK, Nat.mul_one, Nat.add_zero] at hp0
      have hqs : (layQ x).length = x.shares.length := by unfold layQ; rw [List.length_map]
      have HSP := hid hspan
      have HNUMS := hid hnums
      have HP0 := hid hp0
      have HSC := hid hsc
      have HTK : Hid (massD (l.take (k + 1)) = sharesD x.mass (massD (l.take k)) x.shares) := hid (by rw [take_next hsk, massD_snoc])
      have HN1 := hid (HN.out.later hal)
      have HB1 := hid (HB.out.trans (hal.mono HB.out.size))
      have HGL : Hid (w.heap.size < wr.heap.size) := hid HN.out.1.lt
      have HA1 := hid a1
      have HLQ : Hid (layQ x = x.shares.map partQ) := hid rfl
      clear e0 e1 e2 hsk hal ho hcells hcc hp0 hnums hspan HN HB hsc a1
      generalize layQ x = qs at *
      generalize hss : x.shares = ss at *
      generalize hms : x.mass = ms at *
      generalize hnn : qs.length = nn at *
      have bm := bd_int ms (by omega) hm1
      go_wp2_with fail
      clear a2 hc0 hc1 hc2
      generalize wr.alloc (.cells #[.string x.grain, .int .i64 ms, .slice (some ⟨bs, os, none⟩) ss.length cc] 53) = w1 at *
      generalize hgl : wr.heap.size = gl at *
      go_loopw [21] (fun i wi => ∃ j : Nat, j ≤ ss.length ∧ i = .int .i64 j ∧ ∃ E : Ent, Hid (NMapE wi w.heap.size E) ∧ Hid (dataE E = sharesD ms (massD (l.take k)) (ss.take j)) ∧ Hid (∀ e ∈ E, bd e.2.2 (602 * 64 * k + 1 + 602 * j)) ∧ Hid (Below w.heap.size w wi) ∧ Hid (wi.cell? ⟨gl, 1, none⟩ = some (.int .i64 ms))) (fun i _ => ss.length - (intOf i).toNat)
      case atStart => exact ⟨0, Nat.zero_le _, rfl, E0, HN1, HD, HBD, HB1, HA1⟩
      case round =>
        obtain ⟨j, hj, rfl, E, HNM, HDE, HBE, HBW, HCL⟩ := hrel
        clear HN1 HB1 HA1 HD HBD
        by_cases hjl : j < ss.length
        · obtain ⟨s, hs⟩ : ∃ s, ss[j]? = some s := ⟨ss[j], List.getElem?_eq_getElem hjl⟩
          obtain ⟨f0, f1⟩ := HSP.out j s hs
          have c0 : wr.cell? ⟨bs, os + j * 2, none⟩ = some (.string s.1) := by rw [HBW.out.cell (World.block_lt_of_cell? w _ f0)]; exact f0
          have c1 : wr.cell? ⟨bs, os + j * 2 + 1, none⟩ = some (.string s.2) := by rw [HBW.out.cell (World.block_lt_of_cell? w _ f1)]; exact f1
          have hal : Below wr.heap.size wr (wr.alloc (.cells #[.string s.1, .string s.2] 58)) := (Below.refl _ _).alloc (Nat.le_refl _) _
          have hbw := HBW.out.trans (hal.mono HBW.out.size)
          obtain ⟨x0, x1⟩ := two_cells' (own_two wr 58 (.string s.1) (.string s.2))
          obtain ⟨y, ⟨n0, n1, n2⟩, hy⟩ := (HNUMS.out.later hbw).nv j (partQ s) (by rw [HLQ.out, List.getElem?_map, hs]; rfl)
          rw [Nat.zero_add] at n0 n1 n2
          have hpc : (wr.alloc (.cells #[.string s.1, .string s.2] 58)).cell? ⟨gp, k, none⟩ = some (.slice (some ⟨g, 0, none⟩) nn nn) := by
            rw [hbw.cell (p := ⟨gp, k, none⟩) (World.block_lt_of_cell? w _ HP0.out)]; exact HP0.out
          have hlc : (wr.alloc (.cells #[.string s.1, .string s.2] 58)).cell? ⟨gl, 1, none⟩ = some (.int .i64 ms) := by
            rw [hal.cell (p := ⟨gl, 1, none⟩) (World.block_lt_of_cell? wr _ HCL.out)]; exact HCL.out
          have bq := bd_num (HSC.out s (List.mem_of_getElem? hs))
          have bq' : bd (partQ s) 600 := bq
          have HWH := hid (call_nv (whole_any ms (wr.alloc (.cells #[.string s.1, .string s.2] 58)).drew (by omega) (by omega)))
          have HNM1 := hid (HNM.out.later (hal.trans ((Below.refl _ _).drew)))
          have HC0 : Hid (MCells s ms nn wr.heap.size gl gp g k j y (wr.alloc (.cells #[.string s.1, .string s.2] 58)).drew) := hid ⟨x0, hlc, hpc, n0, n1, n2⟩
          have HY := hid (hy.later ((Below.refl _ _).drew))
          have HBW1 := hid (hbw.trans (((Below.refl _ _).drew).mono hbw.size))
          have HTJ : Hid (sharesD ms (massD (l.take k)) (ss.take (j + 1)) = addD (sharesD ms (massD (l.take k)) (ss.take j)) s.1 (partQ s * ((ms : Int) : Rat))) := hid (by rw [take_next hs, sharesD_snoc])
          have hjn : j < nn := by rw [hqs]; exact hjl
          clear f0 f1 hal hbw x1 hpc hlc bq hs hy HNM HBW HCL
          generalize partQ s = q at *
          generalize hgs : wr.heap.size = gs at *
          go_wp2_with fail
          try rw [hgs]
          clear c0 c1
          generalize (wr.alloc (.cells #[.string s.1, .string s.2] 58)) = w2 at *
          have e0 : w2.drew.cell? ⟨gs, 0, none⟩ = some (.string s.1) ∧ w2.drew.cell? ⟨gl, 1, none⟩ = some (.int .i64 ms) ∧ w2.drew.cell? ⟨gp, k, none⟩ = some (.slice (some ⟨g, 0, none⟩) nn nn) ∧ w2.drew.cell? ⟨g, j * 3, none⟩ = some (.bool y.b) ∧ w2.drew.cell? ⟨g, j * 3 + 1, none⟩ = some (.slice y.p y.k y.c) ∧ w2.drew.cell? ⟨g, j * 3 + 2, none⟩ = some (.slice y.q y.j y.d) := HC0.out
          obtain ⟨L0, HZ0⟩ := run_lookE HNM1.out s.1
          have bl := (lookQ_bd (k := s.1) HBE.out (by omega)).rs
          have bqm := (bd_mul bq' bm).rs
          have bq1 := bq'.rs
          have bm1 := bm.rs
          have HCAP : Hid (rs (lookQ E s.1) + rs (q * ((ms : Int) : Rat)) + 2 ≤ Cap ∧ rs q + rs ((ms : Int) : Rat) ≤ Cap) := hid (by unfold Cap; omega)
          clear bl bqm bq1 bm1 n0 n1 n2
          go_region_held3 (fun W => W.cell? ⟨gs, 0, none⟩ = some (.string s.1) ∧ W.cell? ⟨gl, 1, none⟩ = some (.int .i64 ms) ∧ W.cell? ⟨gp, k, none⟩ = some (.slice (some ⟨g, 0, none⟩) nn nn) ∧ W.cell? ⟨g, j * 3, none⟩ = some (.bool y.b) ∧ W.cell? ⟨g, j * 3 + 1, none⟩ = some (.slice y.p y.k y.c) ∧ W.cell? ⟨g, j * 3 + 2, none⟩ = some (.slice y.q y.j y.d)) (first | with_reducible exact eA | with_reducible exact eB | with_reducible exact eC | with_reducible exact eD | exact e0)
            (first
              | (go_at_call 39; ((with_reducible refine HWH.out.mono ?_); rintro e wA ⟨⟨t1, rfl, hn⟩, hb⟩; have HV1 := hid hn; have HYA := hid (HY.out.later hb); have HBA := hid (HBW1.out.trans (hb.mono HBW1.out.size)); have HNA := hid (HNM1.out.later hb); have HCA := hid (HC0.out.later hb); have eA : wA.cell? ⟨gs, 0, none⟩ = some (.string s.1) ∧ wA.cell? ⟨gl, 1, none⟩ = some (.int .i64 ms) ∧ wA.cell? ⟨gp, k, none⟩ = some (.slice (some ⟨g, 0, none⟩) nn nn) ∧ wA.cell? ⟨g, j * 3, none⟩ = some (.bool y.b) ∧ wA.cell? ⟨g, j * 3 + 1, none⟩ = some (.slice y.p y.k y.c) ∧ wA.cell? ⟨g, j * 3 + 2, none⟩ = some (.slice y.q y.j y.d) := HCA.out; obtain ⟨LA, HZA⟩ := run_lookE HNA.out s.1; clear hn hb))
              | (go_at_call 41; ((with_reducible refine (call_nv (times_any _ _ _ _ wA HYA.out HV1.out HCAP.out.2)).mono ?_); rintro e wB ⟨⟨t2, rfl, hn⟩, hb⟩; have HV2 := hid hn; have HBB := hid (HBA.out.trans (hb.mono HBA.out.size)); have HNB := hid (HNA.out.later hb); have HCB := hid (HCA.out.later hb); have eB : wB.cell? ⟨gs, 0, none⟩ = some (.string s.1) ∧ wB.cell? ⟨gl, 1, none⟩ = some (.int .i64 ms) ∧ wB.cell? ⟨gp, k, none⟩ = some (.slice (some ⟨g, 0, none⟩) nn nn) ∧ wB.cell? ⟨g, j * 3, none⟩ = some (.bool y.b) ∧ wB.cell? ⟨g, j * 3 + 1, none⟩ = some (.slice y.p y.k y.c) ∧ wB.cell? ⟨g, j * 3 + 2, none⟩ = some (.slice y.q y.j y.d) := HCB.out; obtain ⟨LB, HZB⟩ := run_lookE HNB.out s.1; clear hn hb))
              | (go_at_call 68; ((with_reducible refine (call_nv (plus_any _ _ _ _ wB HZB HV2.out HCAP.out.1)).mono ?_); rintro e wC ⟨⟨t3, rfl, hn⟩, hb⟩; have HBC := hid (HBB.out.trans (hb.mono HBB.out.size)); have HNC := hid (HNB.out.later hb); have HCC := hid (HCB.out.later hb); have eC : wC.cell? ⟨gs, 0, none⟩ = some (.string s.1) ∧ wC.cell? ⟨gl, 1, none⟩ = some (.int .i64 ms) ∧ wC.cell? ⟨gp, k, none⟩ = some (.slice (some ⟨g, 0, none⟩) nn nn) ∧ wC.cell? ⟨g, j * 3, none⟩ = some (.bool y.b) ∧ wC.cell? ⟨g, j * 3 + 1, none⟩ = some (.slice y.p y.k y.c) ∧ wC.cell? ⟨g, j * 3 + 2, none⟩ = some (.slice y.q y.j y.d) := HCC.out; obtain ⟨LC, HZC⟩ := run_lookE HNC.out s.1; obtain ⟨wD, hrunD, hND, hchD, hszD⟩ := run_putE HNC.out s.1 t3 _ hn; have HND := hid hND; have HBD := hid (hchD.1); have eD : wD.cell? ⟨gs, 0, none⟩ = some (.string s.1) ∧ wD.cell? ⟨gl, 1, none⟩ = some (.int .i64 ms) ∧ wD.cell? ⟨gp, k, none⟩ = some (.slice (some ⟨g, 0, none⟩) nn nn) ∧ wD.cell? ⟨g, j * 3, none⟩ = some (.bool y.b) ∧ wD.cell? ⟨g, j * 3 + 1, none⟩ = some (.slice y.p y.k y.c) ∧ wD.cell? ⟨g, j * 3 + 2, none⟩ = some (.slice y.q y.j y.d) := HCC.out.keep HNC.out.1 hchD; clear hn hb hchD hszD hND)))
          all_goals
            have HBF := hid (HBC.out.trans (HBD.out.mono (by rw [Nat.min_self]; exact Nat.le_refl _)))
            have HDF : Hid (dataE (putE E s.1 t3 (q * ((ms : Int) : Rat))) = sharesD ms (massD (l.take k)) (ss.take (j + 1))) := hid (by rw [dataE_put HNC.out, HDE.out, HTJ.out])
            have HBEF : Hid (∀ e ∈ putE E s.1 t3 (q * ((ms : Int) : Rat)), bd e.2.2 (602 * 64 * k + 1 + 602 * (j + 1))) := hid (fun e he => (putE_bd HBE.out (by omega) (bd_mul bq' bm) e he).mono (by omega))
            have HCF : Hid (wD.cell? ⟨gl, 1, none⟩ = some (.int .i64 ms)) := hid eD.2.1
            go_wp2_with fail
            go_roundw
            case rel => exact ⟨j + 1, by omega, by go_num, _, HND, HDF, HBEF, HBF, HCF⟩
            case measure => simp [intOf]; omega
        · obtain rfl : j = ss.length := by omega
          have hD := HDE.out
          rw [List.take_length, ← HTK.out] at hD
          have HD2 := hid hD
          have HBE2 : Hid (∀ e ∈ E, bd e.2.2 (602 * 64 * (k + 1) + 1)) := hid (fun e he => (HBE.out e he).mono (by omega))
          clear hD HDE HBE
          go_wp2_with fail
          go_roundw
          case rel => exact ⟨k + 1, by omega, by go_num, E, HNM, HD2, HBE2, HBW⟩
          case measure => simp [intOf]; omega
    · obtain rfl : k = l.length := by omega
      have hD := HD.out
      rw [List.take_length] at hD
      have HD2 := hid hD
      have HBE2 : Hid (∀ e ∈ E0, bd e.2.2 (602 * 64 * 64 + 1)) := hid (fun e he => (HBD.out e he).mono (by omega))
      clear hD HD HBD
      go_wp2_with fail
      go_ret
      exact ⟨⟨E0, rfl, HN.out, HD2.out, HBE2.out⟩, HB.out⟩
end Go.Proofs.YtocoghnopmjceaaGreatDoor

