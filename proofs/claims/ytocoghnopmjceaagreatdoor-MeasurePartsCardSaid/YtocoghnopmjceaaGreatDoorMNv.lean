/-
  Numbers by their cells; intervals.
-/
import Derived.Test.YtocoghnopmjceaaGreatDoorMSpans
namespace Go.Proofs.YtocoghnopmjceaaGreatDoor
open Go.RowKit

/-- The cells of a number. -/
structure NV where
  b : Bool
  p : Option Addr
  k : Nat
  c : Nat
  q : Option Addr
  j : Nat
  d : Nat

theorem NumV.nv {w : World} {v : Value} {a : Rat} (h : NumV w v a) : ∃ x : NV, v = .agg #[.bool x.b, .slice x.p x.k x.c, .slice x.q x.j x.d] := by
  obtain ⟨p1, k1, c1, p2, k2, c2, rfl, _, _⟩ := h.parts
  exact ⟨⟨_, p1, k1, c1, p2, k2, c2⟩, rfl⟩

theorem SpanV.nv {w : World} {v : Value} {lo hi : Rat} (h : SpanV w v lo hi) : ∃ x y : NV, v = .agg #[.bool x.b, .slice x.p x.k x.c, .slice x.q x.j x.d, .bool y.b, .slice y.p y.k y.c, .slice y.q y.j y.d] ∧ NumV w (.agg #[.bool x.b, .slice x.p x.k x.c, .slice x.q x.j x.d]) lo ∧ NumV w (.agg #[.bool y.b, .slice y.p y.k y.c, .slice y.q y.j y.d]) hi := by
  obtain ⟨b, p1, k1, c1, p2, k2, c2, b', p1', k1', c1', p2', k2', c2', e, h1, h2⟩ := h
  exact ⟨⟨b, p1, k1, c1, p2, k2, c2⟩, ⟨b', p1', k1', c1', p2', k2', c2'⟩, e, h1, h2⟩

theorem spanV_mk {w : World} {lo hi : Rat} {x y : NV} (h1 : NumV w (.agg #[.bool x.b, .slice x.p x.k x.c, .slice x.q x.j x.d]) lo) (h2 : NumV w (.agg #[.bool y.b, .slice y.p y.k y.c, .slice y.q y.j y.d]) hi) : SpanV w (.agg #[.bool x.b, .slice x.p x.k x.c, .slice x.q x.j x.d, .bool y.b, .slice y.p y.k y.c, .slice y.q y.j y.d]) lo hi :=
  ⟨_, _, _, _, _, _, _, _, _, _, _, _, _, _, rfl, h1, h2⟩

/-- A block with the cells of two numbers. -/
def Pair (W : World) (g : Nat) (x y : NV) : Prop := Own W g 6 (sixCell x.b (.slice x.p x.k x.c) (.slice x.q x.j x.d) y.b (.slice y.p y.k y.c) (.slice y.q y.j y.d))

/-- A block for two numbers that is still empty. -/
def Hole (W : World) (g : Nat) : Prop := Own W g 6 (sixCell false (.slice none 0 0) (.slice none 0 0) false (.slice none 0 0) (.slice none 0 0))

/-- The cells of a pair, as they are loaded. -/
abbrev SixC (g : Nat) (x y : NV) (W : World) : Prop :=
  W.cell? ⟨g, 0, none⟩ = some (.bool x.b) ∧ W.cell? ⟨g, 1, none⟩ = some (.slice x.p x.k x.c) ∧ W.cell? ⟨g, 2, none⟩ = some (.slice x.q x.j x.d) ∧
  W.cell? ⟨g, 3, none⟩ = some (.bool y.b) ∧ W.cell? ⟨g, 4, none⟩ = some (.slice y.p y.k y.c) ∧ W.cell? ⟨g, 5, none⟩ = some (.slice y.q y.j y.d)

theorem Pair.cells {W : World} {g : Nat} {x y : NV} (h : Pair W g x y) : SixC g x y W :=
  ⟨(h.2 0 (by omega)).1, (h.2 1 (by omega)).1, (h.2 2 (by omega)).1, (h.2 3 (by omega)).1, (h.2 4 (by omega)).1, (h.2 5 (by omega)).1⟩

/-- Inside a function of two intervals: their boxes, and the place of the result. -/
def IvIn (w : World) (x y x' y' : NV) (W : World) : Prop :=
  Below w.heap.size w W ∧ Pair W w.heap.size x y ∧ Pair W (w.heap.size + 1) x' y' ∧ Hole W (w.heap.size + 1 + 1)

theorem IvIn.later {w W W' : World} {x y x' y' : NV} (h : IvIn w x y x' y' W) (hb : Below W.heap.size W W') : IvIn w x y x' y' W' :=
  ⟨h.1.trans (hb.mono h.1.size), h.2.1.later (hb.mono h.2.1.1), h.2.2.1.later (hb.mono h.2.2.1.1), h.2.2.2.later (hb.mono h.2.2.2.1)⟩

theorem iv_start (w : World) (x y x' y' : NV) (t1 t2 t3 : TypeId) : IvIn w x y x' y' (((w.alloc (.cells #[.bool x.b, .slice x.p x.k x.c, .slice x.q x.j x.d, .bool y.b, .slice y.p y.k y.c, .slice y.q y.j y.d] t1)).alloc (.cells #[.bool x'.b, .slice x'.p x'.k x'.c, .slice x'.q x'.j x'.d, .bool y'.b, .slice y'.p y'.k y'.c, .slice y'.q y'.j y'.d] t2)).alloc (.cells #[.bool false, .slice none 0 0, .slice none 0 0, .bool false, .slice none 0 0, .slice none 0 0] t3)) := by
  have h1 : Below w.heap.size w (w.alloc (.cells #[.bool x.b, .slice x.p x.k x.c, .slice x.q x.j x.d, .bool y.b, .slice y.p y.k y.c, .slice y.q y.j y.d] t1)) := (Below.refl _ _).alloc (Nat.le_refl _) _
  have p1 := own_six w x.b (.slice x.p x.k x.c) (.slice x.q x.j x.d) y.b (.slice y.p y.k y.c) (.slice y.q y.j y.d) t1
  have p2 := own_six (w.alloc (.cells #[.bool x.b, .slice x.p x.k x.c, .slice x.q x.j x.d, .bool y.b, .slice y.p y.k y.c, .slice y.q y.j y.d] t1)) x'.b (.slice x'.p x'.k x'.c) (.slice x'.q x'.j x'.d) y'.b (.slice y'.p y'.k y'.c) (.slice y'.q y'.j y'.d) t2
  have p3 := own_six ((w.alloc (.cells #[.bool x.b, .slice x.p x.k x.c, .slice x.q x.j x.d, .bool y.b, .slice y.p y.k y.c, .slice y.q y.j y.d] t1)).alloc (.cells #[.bool x'.b, .slice x'.p x'.k x'.c, .slice x'.q x'.j x'.d, .bool y'.b, .slice y'.p y'.k y'.c, .slice y'.q y'.j y'.d] t2)) false (.slice none 0 0) (.slice none 0 0) false (.slice none 0 0) (.slice none 0 0) t3
  have s1 : (w.alloc (.cells #[.bool x.b, .slice x.p x.k x.c, .slice x.q x.j x.d, .bool y.b, .slice y.p y.k y.c, .slice y.q y.j y.d] t1)).heap.size = w.heap.size + 1 := World.size_alloc _ _
  have s2 : ((w.alloc (.cells #[.bool x.b, .slice x.p x.k x.c, .slice x.q x.j x.d, .bool y.b, .slice y.p y.k y.c, .slice y.q y.j y.d] t1)).alloc (.cells #[.bool x'.b, .slice x'.p x'.k x'.c, .slice x'.q x'.j x'.d, .bool y'.b, .slice y'.p y'.k y'.c, .slice y'.q y'.j y'.d] t2)).heap.size = w.heap.size + 1 + 1 := by rw [World.size_alloc, s1]
  rw [s1] at p2
  rw [s2] at p3
  refine ⟨(h1.alloc (by rw [s1]; omega) _).alloc (by rw [s2]; omega) _, ?_, ?_, p3⟩
  · exact Own.later (Own.later p1 ((Below.refl _ _).alloc (by rw [s1]; omega) _)) ((Below.refl _ _).alloc (by rw [s2]; omega) _)
  · exact Own.later p2 ((Below.refl _ _).alloc (by rw [s2]; omega) _)

theorem iv_call {w W : World} {x y x' y' : NV} {f : FuncId} {args : Array Value} {_R : Ending → Prop} {q : Rat} (hW : IvIn w x y x' y' W)
    (h : Calls Tryz.prog f args W fun e w' => (∃ v', e = .returned v' ∧ NumV w' v' q) ∧ Below W.heap.size W w') :
    Calls Tryz.prog f args W fun e w' => (∃ z : NV, e = .returned (.agg #[.bool z.b, .slice z.p z.k z.c, .slice z.q z.j z.d]) ∧ NumV w' (.agg #[.bool z.b, .slice z.p z.k z.c, .slice z.q z.j z.d]) q) ∧ IvIn w x y x' y' w' ∧ Below W.heap.size W w' :=
  h.mono fun e w' ⟨⟨v', he, hn⟩, hb⟩ => by
    obtain ⟨z, rfl⟩ := hn.nv
    exact ⟨⟨z, he, hn⟩, hW.later hb, hb⟩

theorem six_keep {W : World} {g g' : Nat} {x y : NV} (h : SixC g x y W) (hne : g' ≠ g) (x0 x1 x2 x3 x4 x5 : Value) :
    SixC g x y ((((((W.setCell ⟨g', 0, none⟩ x0).setCell ⟨g', 1, none⟩ x1).setCell ⟨g', 2, none⟩ x2).setCell ⟨g', 3, none⟩ x3).setCell ⟨g', 4, none⟩ x4).setCell ⟨g', 5, none⟩ x5) := by
  have k : ∀ (V : World) (i o : Nat) (v : Value), (V.setCell ⟨g', i, none⟩ v).cell? ⟨g, o, none⟩ = V.cell? ⟨g, o, none⟩ := fun V i o v => World.cell?_setCell_other _ _ _ _ (by intro e; injection e with e; exact hne e)
  unfold SixC at h ⊢
  simp only [k]
  exact h
end Go.Proofs.YtocoghnopmjceaaGreatDoor

/-
  Rows of values of several cells each, in memory of the call's own.
-/
namespace Go.Proofs.YtocoghnopmjceaaGreatDoor
open Go.RowKit

/-- A kind of elements: their type, the number of their cells, which cells a row of them has, and what an element is. -/
structure Kind (α : Type) where
  ty : TypeId
  size : Nat
  ok : Value → Prop
  E : World → List Value → α → Prop

structure Kind.Law {α : Type} (K : Kind α) : Prop where
  pos : 0 < K.size
  cells : ∀ W cs x, K.E W cs x → cs.length = K.size ∧ ∀ c ∈ cs, K.ok c ∧ c.oneCell' = true
  later : ∀ W W' cs x, K.E W cs x → Below W.heap.size W W' → K.E W' cs x
  set : ∀ W g cur ty fr cs x cs', K.E W cs x → W.heap[g]? = some (.cells cur ty fr) → (∀ c ∈ cur.toList, K.ok c) → K.E (W.setRow g cs') cs x

/-- A row of elements in block g, with room for cap. -/
def RowOf {α : Type} (K : Kind α) (W : World) (g cap : Nat) (l : List α) : Prop :=
  l.length ≤ cap ∧ ∃ cur : Array Value, W.heap[g]? = some (.cells cur K.ty (0, 0)) ∧ cur.size = cap * K.size ∧ (∀ c ∈ cur.toList, K.ok c) ∧
    ∀ (j : Nat) (x : α), l[j]? = some x → ∃ cs, K.E W cs x ∧ ∀ i c, cs[i]? = some c → cur.toList[j * K.size + i]? = some c

theorem RowOf.lt {α : Type} {K : Kind α} {W : World} {g cap : Nat} {l : List α} (h : RowOf K W g cap l) : g < W.heap.size := by
  obtain ⟨_, cur, hg, _⟩ := h
  rcases Nat.lt_or_ge g W.heap.size with h1 | h1
  · exact h1
  · rw [Array.getElem?_eq_none h1] at hg; cases hg

theorem RowOf.later {α : Type} {K : Kind α} (L : K.Law) {W W' : World} {g cap : Nat} {l : List α} (h : RowOf K W g cap l) (hb : Below W.heap.size W W') : RowOf K W' g cap l := by
  have hlt := h.lt
  obtain ⟨h1, cur, hg, h2, h3, h4⟩ := h
  refine ⟨h1, cur, (hb.block g hlt).trans hg, h2, h3, fun j x hx => ?_⟩
  obtain ⟨cs, e, hc⟩ := h4 j x hx
  exact ⟨cs, L.later _ _ _ _ e hb, hc⟩

theorem rowOf_start {α : Type} {K : Kind α} (L : K.Law) (w : World) (cap n : Nat) (zs : Array Value) (hn : n = cap * K.size) (hz : zs.size = K.size) (ho : ∀ c ∈ zs.toList, K.ok c) :
    RowOf K (w.alloc (.cells (madeCells zs n) K.ty)) w.heap.size cap [] := by
  refine ⟨Nat.zero_le _, _, heap_alloc_new w _, by rw [size_madeCells, hn], fun c hc => ?_, fun j x h => by simp at h⟩
  unfold madeCells at hc
  simp only [Array.toList_map, Array.toList_range, List.mem_map] at hc
  obtain ⟨i, _, rfl⟩ := hc
  have hi : i % zs.size < zs.size := Nat.mod_lt _ (by rw [hz]; exact L.pos)
  refine ho _ ?_
  simp [hi]

/-- What a store of one more element makes of the row. -/
theorem RowOf.push {α : Type} {K : Kind α} (L : K.Law) {W : World} {g cap : Nat} {l : List α} {cs : List Value} {x : α} (h : RowOf K W g cap l) (hk : l.length < cap) (hv : K.E W cs x) :
    ∃ cur : Array Value, W.heap[g]? = some (.cells cur K.ty (0, 0)) ∧ l.length * K.size + cs.length ≤ cur.size ∧
      RowOf K (W.setRow g (cur.toList.take (l.length * K.size) ++ cs ++ cur.toList.drop (l.length * K.size + cs.length)).toArray) g cap (l ++ [x]) ∧
      ∀ B, B ≤ g → Below B W (W.setRow g (cur.toList.take (l.length * K.size) ++ cs ++ cur.toList.drop (l.length * K.size + cs.length)).toArray) := by
  obtain ⟨h1, cur, hg, h2, h3, h4⟩ := h
  obtain ⟨hlen, hok⟩ := L.cells _ _ _ hv
  have hpos := L.pos
  have hmul : l.length * K.size + K.size ≤ cap * K.size := by
    have := Nat.mul_le_mul_right K.size (Nat.succ_le_of_lt hk)
    rw [Nat.succ_mul] at this
    exact this
  have hfit : l.length * K.size + cs.length ≤ cur.size := by rw [hlen, h2]; exact hmul
  have hfit' : l.length * K.size + cs.length ≤ cur.toList.length := by rw [Array.length_toList]; exact hfit
  have htl : (cur.toList.take (l.length * K.size)).length = l.length * K.size := by rw [List.length_take]; omega
  refine ⟨cur, hg, hfit, ⟨by rw [List.length_append]; simp; omega, _, setRow_heap W g cur _ _ _ hg, ?_, ?_, ?_⟩, fun B hB => ⟨rfl, rfl, rfl, by simp [World.setRow], fun k hk => setRow_other W g k _ (by omega)⟩⟩
  · simp only [List.size_toArray, List.length_append, htl, List.length_drop, Array.length_toList]
    omega
  · intro c hc
    rw [List.mem_append, List.mem_append] at hc
    rcases hc with (hc | hc) | hc
    · exact h3 c (List.mem_of_mem_take hc)
    · exact (hok c hc).1
    · exact h3 c (List.mem_of_mem_drop hc)
  · intro j y hy
    rcases Nat.lt_or_ge j l.length with hj | hj
    · rw [List.getElem?_append_left hj] at hy
      obtain ⟨cs', e, hc⟩ := h4 j y hy
      refine ⟨cs', L.set _ _ _ _ _ _ _ _ e hg h3, fun i c hi => ?_⟩
      have hi1 : i < K.size := by
        rw [← (L.cells _ _ _ e).1]
        exact (List.getElem?_eq_some_iff.1 hi).1
      have hlt : j * K.size + i < l.length * K.size := by
        have := Nat.mul_le_mul_right K.size (Nat.succ_le_of_lt hj)
        rw [Nat.succ_mul] at this
        omega
      show (cur.toList.take (l.length * K.size) ++ cs ++ cur.toList.drop (l.length * K.size + cs.length))[j * K.size + i]? = some c
      rw [List.append_assoc, List.getElem?_append_left (by rw [htl]; exact hlt), List.getElem?_take_of_lt hlt]
      exact hc i c hi
    · have hj' : j = l.length := by
        have := (List.getElem?_eq_some_iff.1 hy).1
        rw [List.length_append] at this
        simp at this
        omega
      subst hj'
      have hxy : y = x := by
        rw [List.getElem?_append_right (Nat.le_refl _), Nat.sub_self] at hy
        simpa using hy.symm
      subst hxy
      refine ⟨cs, L.set _ _ _ _ _ _ _ _ hv hg h3, fun i c hi => ?_⟩
      have hi1 : i < cs.length := (List.getElem?_eq_some_iff.1 hi).1
      show (cur.toList.take (l.length * K.size) ++ cs ++ cur.toList.drop (l.length * K.size + cs.length))[l.length * K.size + i]? = some c
      rw [List.append_assoc, List.getElem?_append_right (by rw [htl]; omega), htl, Nat.add_sub_cancel_left, List.getElem?_append_left hi1]
      exact hi

/-- An element of the row, as it is loaded. -/
theorem RowOf.get {α : Type} {K : Kind α} {W : World} {g cap : Nat} {l : List α} (h : RowOf K W g cap l) (j : Nat) (x : α) (hx : l[j]? = some x) : ∃ cs, K.E W cs x ∧ ∀ i c, cs[i]? = some c → W.cell? ⟨g, j * K.size + i, none⟩ = some c := by
  obtain ⟨_, cur, hg, _, _, h4⟩ := h
  obtain ⟨cs, e, hc⟩ := h4 j x hx
  refine ⟨cs, e, fun i c hi => ?_⟩
  rw [cell_of_row W g _ cur _ (0, 0) hg, ← Array.getElem?_toList]
  exact hc i c hi

/-- The answer of a call of readEach whose elements have these errors. -/
def EachK {α : Type} (K : Kind α) (errs : List Nat) (l : List α) (w : World) (e : Ending) (w' : World) : Prop :=
  (if firstE errs = 0 then ∃ g, w.heap.size ≤ g ∧ e = .returned (.tuple #[.slice (some ⟨g, 0, none⟩) l.length l.length, .int .i64 0]) ∧ RowOf K w' g l.length l
    else e = .returned (.tuple #[.slice none 0 0, .int .i64 (firstE errs)])) ∧ Below w.heap.size w w'

theorem eachK_bad {α : Type} {K : Kind α} {errs : List Nat} {l : List α} {w w' : World} {k : Nat} {e : Ending} (h : firstE errs = k) (hk : k ≠ 0) (he : e = .returned (.tuple #[.slice none 0 0, .int .i64 (k : Int)])) (hb : Below w.heap.size w w') : EachK K errs l w e w' := by
  unfold EachK
  rw [if_neg (by omega), h]
  exact ⟨he, hb⟩

theorem eachK_good {α : Type} {K : Kind α} {errs : List Nat} {l : List α} {w w' : World} {g n : Nat} {e : Ending} (h : firstE errs = 0) (hn : l.length = n) (hg : w.heap.size ≤ g) (he : e = .returned (.tuple #[.slice (some ⟨g, 0, none⟩) n n, .int .i64 0])) (hv : RowOf K w' g n l) (hb : Below w.heap.size w w') : EachK K errs l w e w' := by
  unfold EachK
  rw [if_pos h, hn]
  exact ⟨⟨g, hg, he, hv⟩, hb⟩

theorem noInt_bool (b : Bool) : ∀ k z, Value.bool b ≠ .int k z := fun _ _ h => by cases h
theorem noInt_slice (p : Option Addr) (n c : Nat) : ∀ k z, Value.slice p n c ≠ .int k z := fun _ _ h => by cases h

/-- Intervals as elements. -/
def ivK : Kind (Rat × Rat) where
  ty := 91
  size := 6
  ok := fun c => ∀ k z, c ≠ .int k z
  E := fun W cs r => ∃ x y : NV, cs = [.bool x.b, .slice x.p x.k x.c, .slice x.q x.j x.d, .bool y.b, .slice y.p y.k y.c, .slice y.q y.j y.d] ∧ NumV W (.agg #[.bool x.b, .slice x.p x.k x.c, .slice x.q x.j x.d]) r.1 ∧ NumV W (.agg #[.bool y.b, .slice y.p y.k y.c, .slice y.q y.j y.d]) r.2

theorem ivK_law : ivK.Law where
  pos := by show 0 < 6; omega
  cells := by
    rintro W cs r ⟨x, y, rfl, _, _⟩
    refine ⟨rfl, fun c hc => ?_⟩
    simp only [List.mem_cons, List.not_mem_nil, or_false] at hc
    rcases hc with rfl | rfl | rfl | rfl | rfl | rfl <;> exact ⟨fun _ _ h => (by cases h), rfl⟩
  later := by
    rintro W W' cs r ⟨x, y, rfl, h1, h2⟩ hb
    exact ⟨x, y, rfl, h1.later hb, h2.later hb⟩
  set := by
    rintro W g cur ty fr cs r cs' ⟨x, y, rfl, h1, h2⟩ hg hc
    exact ⟨x, y, rfl, h1.setRow hg hc cs', h2.setRow hg hc cs'⟩
end Go.Proofs.YtocoghnopmjceaaGreatDoor

/-
  readEach of spans; readSpans.
-/
namespace Go.Proofs.YtocoghnopmjceaaGreatDoor
open Go.RowKit

/-- The error of a span. -/
def spErr (s : ByteArray × ByteArray) : Nat := checkS s.1 s.2
/-- The ends of a span. -/
def spQ (s : ByteArray × ByteArray) : Rat × Rat := (numQ s.1.data.toList, numQ s.2.data.toList)

/-- The texts of spans in a row. -/
def SpansAt (W : World) (b o : Nat) (l : List (ByteArray × ByteArray)) : Prop :=
  ∀ (j : Nat) (s : ByteArray × ByteArray), l[j]? = some s → W.cell? ⟨b, o + j * 2, none⟩ = some (.string s.1) ∧ W.cell? ⟨b, o + j * 2 + 1, none⟩ = some (.string s.2)

theorem make_ivs (n : Nat) (hn : n ≤ 1048576) (w : World) :
    (Instr.makeSlice 92 (.int .i64 0) (.int .i64 (n : Int))).run Tryz.prog w = .ok (.slice (some ⟨w.heap.size, 0, none⟩) 0 n) (w.alloc (.cells (madeCells #[.bool false, .slice none 0 0, .slice none 0 0, .bool false, .slice none 0 0, .slice none 0 0] (n * 6)) 91)) := by
  obtain ⟨i0, hi, hz0, hz1, hz2⟩ := info_parts (show (Tryz.prog.info? 91).map (fun i => (i.zero, i.size, i.bytes)) = some (some (.agg #[.bool false, .slice none 0 0, .slice none 0 0, .bool false, .slice none 0 0, .slice none 0 0]), 6, 112) by kernel_rfl)
  have h := run_make (P := Tryz.prog) w 92 91 i0 _ Tryz.underlying92 hi hz0 .i64 .i64 0 (n : Int) (Int.le_refl _) (by omega) (by rw [hz2]; omega) (by omega)
  rw [hz1] at h
  simpa [Value.cells] using h

theorem readSpan_good {s : ByteArray × ByteArray} {w : World} (h : Calls Tryz.prog 70 #[.agg #[.string s.1, .string s.2]] w (SpanOf s.1 s.2 w)) (hc : spErr s = 0) :
    Calls Tryz.prog 70 #[.agg #[.string s.1, .string s.2]] w fun e w' => (∃ x y : NV, e = .returned (.tuple #[.agg #[.bool x.b, .slice x.p x.k x.c, .slice x.q x.j x.d, .bool y.b, .slice y.p y.k y.c, .slice y.q y.j y.d], .int .i64 0]) ∧ ivK.E w' [.bool x.b, .slice x.p x.k x.c, .slice x.q x.j x.d, .bool y.b, .slice y.p y.k y.c, .slice y.q y.j y.d] (spQ s)) ∧ Below w.heap.size w w' := by
  refine h.mono ?_
  rintro e w' ⟨h1, h2⟩
  unfold spErr at hc
  rw [if_pos hc] at h1
  obtain ⟨v, he, hv⟩ := h1
  obtain ⟨x, y, rfl, hx, hy⟩ := hv.nv
  exact ⟨⟨x, y, he, x, y, rfl, hx, hy⟩, h2⟩

theorem readSpan_bad {s : ByteArray × ByteArray} {w : World} (h : Calls Tryz.prog 70 #[.agg #[.string s.1, .string s.2]] w (SpanOf s.1 s.2 w)) (hc : spErr s ≠ 0) :
    Calls Tryz.prog 70 #[.agg #[.string s.1, .string s.2]] w fun e w' => e = .returned (.tuple #[.agg #[.bool false, .slice none 0 0, .slice none 0 0, .bool false, .slice none 0 0, .slice none 0 0], .int .i64 (spErr s : Nat)]) ∧ Below w.heap.size w w' := by
  refine h.mono ?_
  rintro e w' ⟨h1, h2⟩
  unfold spErr at hc
  rw [if_neg hc] at h1
  exact ⟨h1, h2⟩

set_option maxRecDepth 100000 in
set_option maxHeartbeats 4000000 in
/-- readEach with readSpan. -/
theorem each_span (l : List (ByteArray × ByteArray)) (b o c : Nat) (w : World) (hg : GW w) (hrow : SpansAt w b o l) (hl : l.length ≤ 1048576) (hs : ∀ s ∈ l, s.1.size ≤ 1073741824 ∧ s.2.size ≤ 1073741824) :
    Calls Tryz.prog 69 #[.slice (some ⟨b, o, none⟩) l.length c, .func (.func 70) #[] #[]] w
      (EachK ivK (l.map spErr) (l.map spQ) w) := by
  have HG := hid hg
  have HROW := hid hrow
  have HS := hid hs
  have hmk := make_ivs l.length hl
  obtain ⟨i0, hi, hz0, hz1, hz2⟩ := info_parts (show (Tryz.prog.info? 91).map (fun i => (i.zero, i.size, i.bytes)) = some (some (.agg #[.bool false, .slice none 0 0, .slice none 0 0, .bool false, .slice none 0 0, .slice none 0 0]), 6, 112) by kernel_rfl)
  have HI := hid hi
  clear hrow hs hi hz0 hz2
  have HN0 := hid (rowOf_start ivK_law w l.length (l.length * 6) #[.bool false, .slice none 0 0, .slice none 0 0, .bool false, .slice none 0 0, .slice none 0 0] rfl rfl (by
    intro c hc
    simp only [List.mem_cons, List.not_mem_nil, or_false] at hc
    rcases hc with rfl | rfl | rfl | rfl | rfl | rfl <;> (intro _ _ h; cases h)))
  have HB0 : Hid (Below w.heap.size w (w.alloc (.cells (madeCells #[.bool false, .slice none 0 0, .slice none 0 0, .bool false, .slice none 0 0, .slice none 0 0] (l.length * 6)) 91))) := hid ((Below.refl _ _).alloc (Nat.le_refl _) _)
  clear hg
  go_enter Tryz.func69, Tryz.ntmps69
  go_wp2_with fail
  clear hmk
  replace HN0 : Hid (RowOf ivK (w.alloc (.cells (madeCells #[.bool false, .slice none 0 0, .slice none 0 0, .bool false, .slice none 0 0, .slice none 0 0] (l.length * 6)) 91)) w.heap.size l.length []) := HN0
  generalize w.alloc (.cells (madeCells #[.bool false, .slice none 0 0, .slice none 0 0, .bool false, .slice none 0 0, .slice none 0 0] (l.length * 6)) 91) = w0 at *
  go_loopw [6, 16] (fun r i wr => ∃ k : Nat, k ≤ l.length ∧ i = .int .i64 k ∧ r = .slice (some ⟨w.heap.size, 0, none⟩) k l.length ∧ Hid (RowOf ivK wr w.heap.size l.length ((l.take k).map spQ)) ∧ Hid (firstE ((l.take k).map spErr) = 0) ∧ Hid (Below w.heap.size w wr)) (fun _ i _ => l.length - (intOf i).toNat)
  case atStart => exact ⟨0, Nat.zero_le _, rfl, rfl, HN0, hid rfl, HB0⟩
  case round =>
    obtain ⟨k, hk, rfl, rfl, HN, HE, HB⟩ := hrel
    clear HN0 HB0
    by_cases hkl : k < l.length
    · obtain ⟨s, hsk⟩ : ∃ s, l[k]? = some s := ⟨l[k], List.getElem?_eq_getElem hkl⟩
      obtain ⟨e0, e1⟩ := HROW.out k s hsk
      have hc0 : wr.cell? ⟨b, o + k * 2, none⟩ = some (.string s.1) := by rw [HB.out.cell (World.block_lt_of_cell? w _ e0)]; exact e0
      have hc1 : wr.cell? ⟨b, o + k * 2 + 1, none⟩ = some (.string s.2) := by rw [HB.out.cell (World.block_lt_of_cell? w _ e1)]; exact e1
      have hal : Below wr.heap.size wr (wr.alloc (.cells #[.string s.1, .string s.2] 44)) := (Below.refl _ _).alloc (Nat.le_refl _) _
      have hss := HS.out s (List.mem_of_getElem? hsk)
      have HRD := hid (readSpan_any s.1 s.2 (wr.alloc (.cells #[.string s.1, .string s.2] 44)) ((HG.out.later HB.out).later hal) hss.1 hss.2)
      obtain ⟨x0, x1⟩ := two_cells' (own_two wr 44 (.string s.1) (.string s.2))
      have HAL := hid hal
      have HSK := hid hsk
      clear e0 e1 hsk hal hss
      by_cases hc : spErr s = 0
      · have HRD2 := hid (readSpan_good HRD.out hc)
        have HE2 := hid (first_good spErr HSK.out HE.out hc)
        have hqs : ((l.take k).map spQ) ++ [spQ s] = (l.take (k + 1)).map spQ := by
          rw [take_next HSK.out, List.map_append]; rfl
        have HQS := hid hqs
        have hql : ((l.take k).map spQ).length = k := by rw [List.length_map, List.length_take]; omega
        have HN1 := hid (HN.out.later ivK_law HAL.out)
        have HB1 := hid (HB.out.trans (HAL.out.mono HB.out.size))
        clear HRD HE hc hqs HN HB HAL
        generalize spQ s = q at *
        generalize ((l.take k).map spQ) = qs at *
        go_wp2_with fail
        refine HRD2.out.mono ?_
        rintro e w1 ⟨⟨x, y, rfl, hv⟩, hb⟩
        have hal : Below w1.heap.size w1 (w1.alloc (.cells #[.bool x.b, .slice x.p x.k x.c, .slice x.q x.j x.d, .bool y.b, .slice y.p y.k y.c, .slice y.q y.j y.d] 91)) := (Below.refl _ _).alloc (Nat.le_refl _) _
        have HN2 := hid ((HN1.out.later ivK_law hb).later ivK_law hal)
        have HV2 := hid (ivK_law.later _ _ _ _ hv hal)
        have HBB := hid (HB1.out.trans (hb.mono HB1.out.size))
        have hbs : w.heap.size ≤ w1.heap.size := HBB.out.size
        have HB2 := hid (HBB.out.trans (hal.mono hbs))
        obtain ⟨⟨y0, _⟩, ⟨y1, _⟩, ⟨y2, _⟩, ⟨y3, _⟩, ⟨y4, _⟩, ⟨y5, _⟩⟩ := six_out (own_six w1 x.b (.slice x.p x.k x.c) (.slice x.q x.j x.d) y.b (.slice y.p y.k y.c) (.slice y.q y.j y.d) 91)
        have hal2 : Below (w1.alloc (.cells #[.bool x.b, .slice x.p x.k x.c, .slice x.q x.j x.d, .bool y.b, .slice y.p y.k y.c, .slice y.q y.j y.d] 91)).heap.size (w1.alloc (.cells #[.bool x.b, .slice x.p x.k x.c, .slice x.q x.j x.d, .bool y.b, .slice y.p y.k y.c, .slice y.q y.j y.d] 91)) ((w1.alloc (.cells #[.bool x.b, .slice x.p x.k x.c, .slice x.q x.j x.d, .bool y.b, .slice y.p y.k y.c, .slice y.q y.j y.d] 91)).alloc (.cells #[.bool x.b, .slice x.p x.k x.c, .slice x.q x.j x.d, .bool y.b, .slice y.p y.k y.c, .slice y.q y.j y.d] 91)) := (Below.refl _ _).alloc (Nat.le_refl _) _
        obtain ⟨cur, hcur, hfit, hnew, hbel⟩ := (HN2.out.later ivK_law hal2).push ivK_law (by rw [hql]; exact hkl) (ivK_law.later _ _ _ _ HV2.out hal2)
        have hnb := heap_alloc_new (w1.alloc (.cells #[.bool x.b, .slice x.p x.k x.c, .slice x.q x.j x.d, .bool y.b, .slice y.p y.k y.c, .slice y.q y.j y.d] 91)) (.cells #[.bool x.b, .slice x.p x.k x.c, .slice x.q x.j x.d, .bool y.b, .slice y.p y.k y.c, .slice y.q y.j y.d] 91)
        rw [World.size_alloc] at hnb
        rw [hql] at hfit hnew hbel
        simp only [List.append_assoc, List.cons_append, List.nil_append, ivK, List.length_cons, List.length_nil, Nat.zero_add, Nat.reduceAdd] at hnew hbel hfit hcur
        have HNEW : Hid (RowOf ivK _ _ _ _) := hid hnew
        have HBEL := hid (HB2.out.trans ((hal2.mono (by rw [World.size_alloc]; omega)).trans (hbel w.heap.size (Nat.le_refl _))))
        have HCUR := hid hcur
        have HNB := hid hnb
        have HFIT := hid hfit
        clear hal hal2 hbs hcur hfit hnew hbel hnb HN1 HB1 HN2 HV2 HB2 hql hv hb HBB x0 x1 hc0 hc1 HRD2
        go_wp2_with (at_builtin; refine wpList_append_exact _ rfl _ _ 92 rfl 91 i0 6 Tryz.underlying92 HI.out hz1 w.heap.size k l.length cur rfl HCUR.out ⟨w1.heap.size + 1, 0, none⟩ 1 1 [.bool x.b, .slice x.p x.k x.c, .slice x.q x.j x.d, .bool y.b, .slice y.p y.k y.c, .slice y.q y.j y.d] rfl rfl (World.news_of_block HNB.out) ?qc1 (by omega) HFIT.out ?_)
        case qc1 =>
          intro u hu
          simp only [List.mem_cons, List.not_mem_nil, or_false] at hu
          rcases hu with rfl | rfl | rfl | rfl | rfl | rfl <;> rfl
        clear y0 y1 y2 y3 y4 y5
        go_wp2_with fail
        go_roundw
        case rel => exact ⟨k + 1, hkl, by go_num, rfl, hid (by rw [← HQS.out]; exact HNEW.out), HE2, HBEL⟩
        case measure => simp [intOf]; omega
      · have HRD2 := hid (readSpan_bad HRD.out hc)
        have HF := hid (first_bad spErr HSK.out HE.out hc)
        clear HRD HE
        generalize spErr s = ck at *
        have hck : ((ck : Int) == 0) = false := beq_eq_false_iff_ne.2 (by omega)
        have HCK := hid hc
        clear hc
        go_wp2_with fail
        refine HRD2.out.mono ?_
        rintro e w1 ⟨rfl, hb⟩
        have h1 := HB.out.trans ((HAL.out.trans (hb.mono HAL.out.size)).mono HB.out.size)
        have HB1 := hid (h1.trans ((Below.refl w.heap.size w1).alloc h1.size (.cells #[.bool false, .slice none 0 0, .slice none 0 0, .bool false, .slice none 0 0, .slice none 0 0] 91)))
        clear hb HB HRD2 x0 x1 hc0 hc1 h1
        go_wp2_with fail
        go_ret2
        exact eachK_bad HF.out HCK.out rfl HB1.out
    · obtain rfl : k = l.length := by omega
      have hE := HE.out
      have hN := HN.out
      rw [List.take_length] at hE hN
      have HE' := hid hE
      have HN' := hid hN
      clear hE hN HE HN
      go_wp2_with fail
      go_ret2
      exact eachK_good HE'.out (by rw [List.length_map]) (Nat.le_refl _) rfl HN'.out HB.out
end Go.Proofs.YtocoghnopmjceaaGreatDoor

