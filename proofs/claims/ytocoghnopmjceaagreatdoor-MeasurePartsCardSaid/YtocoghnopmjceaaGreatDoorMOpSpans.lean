/-
  readSpans.
-/
import Derived.Test.YtocoghnopmjceaaGreatDoorMNv
namespace Go.Proofs.YtocoghnopmjceaaGreatDoor
open Go.RowKit

/-- A slice of spans. -/
def SpansV (w : World) (v : Value) (l : List (ByteArray × ByteArray)) : Prop :=
  ∃ p c, v = .slice p l.length c ∧ l.length ≤ c ∧ c ≤ maxLen ∧ (l.length = 0 ∨ ∃ b o, p = some ⟨b, o, none⟩ ∧ SpansAt w b o l)

theorem SpansAt.later {w w' : World} {b o : Nat} {l : List (ByteArray × ByteArray)} (h : SpansAt w b o l) (hb : Below w.heap.size w w') : SpansAt w' b o l := fun j s hj => by
  obtain ⟨e0, e1⟩ := h j s hj
  rw [hb.cell (World.block_lt_of_cell? w _ e0), hb.cell (World.block_lt_of_cell? w _ e1)]
  exact ⟨e0, e1⟩

theorem SpansV.later {w w' : World} {v : Value} {l : List (ByteArray × ByteArray)} (h : SpansV w v l) (hb : Below w.heap.size w w') : SpansV w' v l := by
  obtain ⟨p, c, h1, h2, h3, h4⟩ := h
  refine ⟨p, c, h1, h2, h3, ?_⟩
  rcases h4 with h4 | ⟨b, o, h5, h6⟩
  · exact .inl h4
  · exact .inr ⟨b, o, h5, h6.later hb⟩

/-- The first error of a list of spans. -/
def spansErr (l : List (ByteArray × ByteArray)) : Nat := if l.length = 0 then 2 else if 256 < l.length then 5 else firstE (l.map spErr)

/-- What readSpans answers. -/
def SpansOf (l : List (ByteArray × ByteArray)) (w : World) (e : Ending) (w' : World) : Prop :=
  (if spansErr l = 0 then ∃ g, w.heap.size ≤ g ∧ e = .returned (.tuple #[.slice (some ⟨g, 0, none⟩) l.length l.length, .int .i64 0]) ∧ RowOf ivK w' g l.length (l.map spQ)
    else e = .returned (.tuple #[.slice none 0 0, .int .i64 (spansErr l : Nat)])) ∧ Below w.heap.size w w'

theorem spansOf_bad {l : List (ByteArray × ByteArray)} {w : World} (k : Nat) {z : Int} (h : spansErr l = k) (hk : k ≠ 0) (hz : z = k) : SpansOf l w (.returned (.tuple #[.slice none 0 0, .int .i64 z])) w := by
  unfold SpansOf
  rw [h, if_neg hk, hz]
  exact ⟨rfl, Below.refl _ _⟩

theorem spansOf_each {l : List (ByteArray × ByteArray)} {w w' : World} {e : Ending} (hs : spansErr l = firstE (l.map spErr)) (h : EachK ivK (l.map spErr) (l.map spQ) w e w') : SpansOf l w e w' := by
  unfold SpansOf
  rw [hs]
  unfold EachK at h
  rw [List.length_map] at h
  exact h

theorem each_open {l : List (ByteArray × ByteArray)} {w w' : World} {e : Ending} (h : SpansOf l w e w') : ∃ (p : Option Addr) (n c : Nat) (z : Int), e = .returned (.tuple #[.slice p n c, .int .i64 z]) := by
  unfold SpansOf at h
  obtain ⟨h, _⟩ := h
  split at h
  · obtain ⟨g, _, he, _⟩ := h
    exact ⟨_, _, _, _, he⟩
  · exact ⟨_, _, _, _, h⟩

set_option maxRecDepth 100000 in
set_option maxHeartbeats 1000000 in
/-- readSpans returns the intervals of a list of spans, or its first error. -/
theorem readSpans_any (v : Value) (l : List (ByteArray × ByteArray)) (w : World) (hg : GW w) (hv : SpansV w v l) (hs : ∀ s ∈ l, s.1.size ≤ 1073741824 ∧ s.2.size ≤ 1073741824) :
    Calls Tryz.prog 37 #[v] w (SpansOf l w) := by
  obtain ⟨p, c, rfl, hc1, hc2, hcells⟩ := hv
  unfold maxLen at hc2
  by_cases h0 : l.length = 0
  · have HF : Hid (SpansOf l w (.returned (.tuple #[.slice none 0 0, .int .i64 2])) w) := hid (spansOf_bad 2 (by unfold spansErr; rw [if_pos h0]) (by omega) rfl)
    have hb : ((l.length : Int) == 0) = true := by rw [h0]; rfl
    clear hcells hs hg
    go_enter Tryz.func37, Tryz.ntmps37
    go_wp2_with fail
    go_ret2
    exact HF.out
  · have hb : ((l.length : Int) == 0) = false := beq_eq_false_iff_ne.2 (by omega)
    by_cases h1 : 256 < l.length
    · have HF : Hid (SpansOf l w (.returned (.tuple #[.slice none 0 0, .int .i64 5])) w) := hid (spansOf_bad 5 (by unfold spansErr; rw [if_neg h0, if_pos h1]) (by omega) rfl)
      clear hcells hs hg
      go_enter Tryz.func37, Tryz.ntmps37
      go_wp2_with fail
      go_ret2
      exact HF.out
    · obtain ⟨b, o, rfl, hrow⟩ := hcells.resolve_left h0
      have HE := hid ((each_span l b o c w hg hrow (by omega) hs).mono fun e w' h => spansOf_each (by unfold spansErr; rw [if_neg h0, if_neg h1]) h)
      clear hrow hs hg hcells
      go_enter Tryz.func37, Tryz.ntmps37
      go_wp2_with fail
      refine HE.out.mono ?_
      rintro e w1 hq
      obtain ⟨p, n, c', z, rfl⟩ := each_open hq
      have HQ := hid hq
      clear hq HE
      go_wp2_with fail
      go_ret2
      exact HQ.out
end Go.Proofs.YtocoghnopmjceaaGreatDoor

/-
  Operations with two spans: what they have in common.
-/
namespace Go.Proofs.YtocoghnopmjceaaGreatDoor
open Go.RowKit

/-- What an operation with two spans answers. -/
def OperS (lo hi : Rat) (a b : ByteArray × ByteArray) (w : World) (e : Ending) (w' : World) : Prop :=
  if firstE [spErr a, spErr b] ≠ 0 then e = .returned (.tuple #[.agg #[.string ⟨#[]⟩, .string ⟨#[]⟩], .int .i64 (firstE [spErr a, spErr b])]) ∧ Below w.heap.size w w'
  else WSpanOf lo hi w e w'

/-- Inside an operation: the boxes of the spans, and the place of the result. -/
def OsIn (w : World) (a b : ByteArray × ByteArray) (W : World) : Prop :=
  Below w.heap.size w W ∧ Own W w.heap.size 2 (two' (.string a.1) (.string a.2)) ∧ Own W (w.heap.size + 1) 2 (two' (.string b.1) (.string b.2)) ∧ Own W (w.heap.size + 1 + 1) 2 (two' (.string ⟨#[]⟩) (.string ⟨#[]⟩))

theorem OsIn.later {w W W' : World} {a b : ByteArray × ByteArray} (h : OsIn w a b W) (hb : Below W.heap.size W W') : OsIn w a b W' :=
  ⟨h.1.trans (hb.mono h.1.size), h.2.1.later (hb.mono h.2.1.1), h.2.2.1.later (hb.mono h.2.2.1.1), h.2.2.2.later (hb.mono h.2.2.2.1)⟩

theorem os_start (w : World) (a b : ByteArray × ByteArray) (t1 t2 t3 : TypeId) : OsIn w a b (((w.alloc (.cells #[.string a.1, .string a.2] t1)).alloc (.cells #[.string b.1, .string b.2] t2)).alloc (.cells #[.string ⟨#[]⟩, .string ⟨#[]⟩] t3)) := by
  have h1 : Below w.heap.size w (w.alloc (.cells #[.string a.1, .string a.2] t1)) := (Below.refl _ _).alloc (Nat.le_refl _) _
  have p1 := own_two w t1 (.string a.1) (.string a.2)
  have p2 := own_two (w.alloc (.cells #[.string a.1, .string a.2] t1)) t2 (.string b.1) (.string b.2)
  have p3 := own_two ((w.alloc (.cells #[.string a.1, .string a.2] t1)).alloc (.cells #[.string b.1, .string b.2] t2)) t3 (.string ⟨#[]⟩) (.string ⟨#[]⟩)
  have s1 : (w.alloc (.cells #[.string a.1, .string a.2] t1)).heap.size = w.heap.size + 1 := World.size_alloc _ _
  have s2 : ((w.alloc (.cells #[.string a.1, .string a.2] t1)).alloc (.cells #[.string b.1, .string b.2] t2)).heap.size = w.heap.size + 1 + 1 := by rw [World.size_alloc, s1]
  rw [s1] at p2
  rw [s2] at p3
  refine ⟨(h1.alloc (by rw [s1]; omega) _).alloc (by rw [s2]; omega) _, ?_, ?_, p3⟩
  · exact Own.later (Own.later p1 ((Below.refl _ _).alloc (by rw [s1]; omega) _)) ((Below.refl _ _).alloc (by rw [s2]; omega) _)
  · exact Own.later p2 ((Below.refl _ _).alloc (by rw [s2]; omega) _)

theorem os_size (w : World) (o1 o2 o3 : Obj) : (((w.alloc o1).alloc o2).alloc o3).heap.size = w.heap.size + 1 + 1 + 1 := by
  rw [World.size_alloc, World.size_alloc, World.size_alloc]

theorem spansAt_two (W : World) (a b : ByteArray × ByteArray) (ty : TypeId) : SpansAt (W.alloc (.cells #[.string a.1, .string a.2, .string b.1, .string b.2] ty)) W.heap.size 0 [a, b] := by
  intro j s hj
  match j, hj with
  | 0, hj => cases hj; constructor <;> (rw [World.cell?_alloc_at _ _ _ _ rfl]; rfl)
  | 1, hj => cases hj; constructor <;> (rw [World.cell?_alloc_at _ _ _ _ rfl]; rfl)

/-- Two spans that are read, or the first error. -/
theorem os_read {w W : World} {a b : ByteArray × ByteArray} (hW : OsIn w a b W) (hs : W.heap.size = w.heap.size + 1 + 1 + 1) (hg : GW w) (ha : a.1.size ≤ 1073741824 ∧ a.2.size ≤ 1073741824) (hb : b.1.size ≤ 1073741824 ∧ b.2.size ≤ 1073741824) :
    Calls Tryz.prog 69 #[.slice (some ⟨w.heap.size + 1 + 1 + 1, 0, none⟩) 2 2, .func (.func 70) #[] #[]] (W.alloc (.cells #[.string a.1, .string a.2, .string b.1, .string b.2] 44))
      (fun e w' => (if firstE [spErr a, spErr b] = 0 then ∃ g, w.heap.size + 1 + 1 < g ∧ e = .returned (.tuple #[.slice (some ⟨g, 0, none⟩) 2 2, .int .i64 0]) ∧ RowOf ivK w' g 2 [spQ a, spQ b]
        else e = .returned (.tuple #[.slice none 0 0, .int .i64 (firstE [spErr a, spErr b])])) ∧ OsIn w a b w') := by
  rw [← hs]
  have hal : Below W.heap.size W (W.alloc (.cells #[.string a.1, .string a.2, .string b.1, .string b.2] 44)) := (Below.refl _ _).alloc (Nat.le_refl _) _
  refine (each_span [a, b] W.heap.size 0 2 _ ((hg.later hW.1).later hal) (spansAt_two W a b _) (by simp) (by
    intro s hs
    simp only [List.mem_cons, List.not_mem_nil, or_false] at hs
    rcases hs with rfl | rfl <;> assumption)).mono ?_
  rintro e w' ⟨h1, h2⟩
  refine ⟨?_, hW.later (hal.trans (h2.mono (by rw [World.size_alloc]; omega)))⟩
  split at h1
  · rename_i h0
    have h0' : firstE [spErr a, spErr b] = 0 := h0
    rw [if_pos h0']
    obtain ⟨g, hgs, he, hr⟩ := h1
    rw [World.size_alloc] at hgs
    exact ⟨g, by omega, he, hr⟩
  · rename_i h0
    have h0' : ¬ firstE [spErr a, spErr b] = 0 := h0
    rw [if_neg h0']
    exact h1

/-- Two intervals of a row, as they are loaded. -/
theorem rowOf_two {W : World} {g : Nat} {p q : Rat × Rat} (h : RowOf ivK W g 2 [p, q]) : ∃ x y x' y' : NV,
    (∀ W', Below W.heap.size W W' → W'.cell? ⟨g, 0, none⟩ = some (.bool x.b) ∧ W'.cell? ⟨g, 1, none⟩ = some (.slice x.p x.k x.c) ∧ W'.cell? ⟨g, 2, none⟩ = some (.slice x.q x.j x.d) ∧
      W'.cell? ⟨g, 3, none⟩ = some (.bool y.b) ∧ W'.cell? ⟨g, 4, none⟩ = some (.slice y.p y.k y.c) ∧ W'.cell? ⟨g, 5, none⟩ = some (.slice y.q y.j y.d) ∧
      W'.cell? ⟨g, 6, none⟩ = some (.bool x'.b) ∧ W'.cell? ⟨g, 7, none⟩ = some (.slice x'.p x'.k x'.c) ∧ W'.cell? ⟨g, 8, none⟩ = some (.slice x'.q x'.j x'.d) ∧
      W'.cell? ⟨g, 9, none⟩ = some (.bool y'.b) ∧ W'.cell? ⟨g, 10, none⟩ = some (.slice y'.p y'.k y'.c) ∧ W'.cell? ⟨g, 11, none⟩ = some (.slice y'.q y'.j y'.d)) ∧
    SpanV W (.agg #[.bool x.b, .slice x.p x.k x.c, .slice x.q x.j x.d, .bool y.b, .slice y.p y.k y.c, .slice y.q y.j y.d]) p.1 p.2 ∧ SpanV W (.agg #[.bool x'.b, .slice x'.p x'.k x'.c, .slice x'.q x'.j x'.d, .bool y'.b, .slice y'.p y'.k y'.c, .slice y'.q y'.j y'.d]) q.1 q.2 := by
  obtain ⟨cs, ⟨x, y, rfl, h1, h2⟩, hc⟩ := h.get 0 p rfl
  obtain ⟨cs', ⟨x', y', rfl, h3, h4⟩, hc'⟩ := h.get 1 q rfl
  refine ⟨x, y, x', y', fun W' hb => ?_, spanV_mk h1 h2, spanV_mk h3 h4⟩
  have key : ∀ (o : Nat), W'.cell? ⟨g, o, none⟩ = W.cell? ⟨g, o, none⟩ := fun o => hb.cell h.lt
  simp only [key]
  exact ⟨hc 0 _ rfl, hc 1 _ rfl, hc 2 _ rfl, hc 3 _ rfl, hc 4 _ rfl, hc 5 _ rfl, hc' 0 _ rfl, hc' 1 _ rfl, hc' 2 _ rfl, hc' 3 _ rfl, hc' 4 _ rfl, hc' 5 _ rfl⟩

theorem twelve_keep {W : World} {g g' : Nat} {c0 c1 c2 c3 c4 c5 c6 c7 c8 c9 c10 c11 : Option Value} (h : W.cell? ⟨g, 0, none⟩ = c0 ∧ W.cell? ⟨g, 1, none⟩ = c1 ∧ W.cell? ⟨g, 2, none⟩ = c2 ∧ W.cell? ⟨g, 3, none⟩ = c3 ∧ W.cell? ⟨g, 4, none⟩ = c4 ∧ W.cell? ⟨g, 5, none⟩ = c5 ∧ W.cell? ⟨g, 6, none⟩ = c6 ∧ W.cell? ⟨g, 7, none⟩ = c7 ∧ W.cell? ⟨g, 8, none⟩ = c8 ∧ W.cell? ⟨g, 9, none⟩ = c9 ∧ W.cell? ⟨g, 10, none⟩ = c10 ∧ W.cell? ⟨g, 11, none⟩ = c11) (hne : g' ≠ g) (x y : Value) :
    ((W.setCell ⟨g', 0, none⟩ x).setCell ⟨g', 1, none⟩ y).cell? ⟨g, 0, none⟩ = c0 ∧ ((W.setCell ⟨g', 0, none⟩ x).setCell ⟨g', 1, none⟩ y).cell? ⟨g, 1, none⟩ = c1 ∧ ((W.setCell ⟨g', 0, none⟩ x).setCell ⟨g', 1, none⟩ y).cell? ⟨g, 2, none⟩ = c2 ∧ ((W.setCell ⟨g', 0, none⟩ x).setCell ⟨g', 1, none⟩ y).cell? ⟨g, 3, none⟩ = c3 ∧ ((W.setCell ⟨g', 0, none⟩ x).setCell ⟨g', 1, none⟩ y).cell? ⟨g, 4, none⟩ = c4 ∧ ((W.setCell ⟨g', 0, none⟩ x).setCell ⟨g', 1, none⟩ y).cell? ⟨g, 5, none⟩ = c5 ∧ ((W.setCell ⟨g', 0, none⟩ x).setCell ⟨g', 1, none⟩ y).cell? ⟨g, 6, none⟩ = c6 ∧ ((W.setCell ⟨g', 0, none⟩ x).setCell ⟨g', 1, none⟩ y).cell? ⟨g, 7, none⟩ = c7 ∧ ((W.setCell ⟨g', 0, none⟩ x).setCell ⟨g', 1, none⟩ y).cell? ⟨g, 8, none⟩ = c8 ∧ ((W.setCell ⟨g', 0, none⟩ x).setCell ⟨g', 1, none⟩ y).cell? ⟨g, 9, none⟩ = c9 ∧ ((W.setCell ⟨g', 0, none⟩ x).setCell ⟨g', 1, none⟩ y).cell? ⟨g, 10, none⟩ = c10 ∧ ((W.setCell ⟨g', 0, none⟩ x).setCell ⟨g', 1, none⟩ y).cell? ⟨g, 11, none⟩ = c11 := by
  have k : ∀ (V : World) (i o : Nat) (v : Value), (V.setCell ⟨g', i, none⟩ v).cell? ⟨g, o, none⟩ = V.cell? ⟨g, o, none⟩ := fun V i o v => World.cell?_setCell_other _ _ _ _ (by intro e; injection e with e; exact hne e)
  simp only [k]
  exact h

/-- The ends of a span without an error have at most 600 words. -/
theorem spErr_bd {a : ByteArray × ByteArray} (h : spErr a = 0) : bd (spQ a).1 600 ∧ bd (spQ a).2 600 ∧ (spQ a).1 ≤ (spQ a).2 := by
  unfold spErr checkS at h
  split at h
  · rename_i h1; exact absurd h h1
  · rename_i h1
    obtain ⟨c1, c2⟩ := firstE_two (by omega : firstE [checkR a.1.data.toList, checkR a.2.data.toList] = 0)
    split at h
    · cases h
    · rename_i h2
      exact ⟨bd_num c1, bd_num c2, cmpQ_le.1 (show cmpQ (numQ a.1.data.toList) (numQ a.2.data.toList) ≤ 0 by omega)⟩

theorem operS_open {lo hi : Rat} {a b : ByteArray × ByteArray} {w w' : World} {e : Ending} (h : OperS lo hi a b w e w') : ∃ (t1 t2 : ByteArray) (ec : Int), e = .returned (.tuple #[.agg #[.string t1, .string t2], .int .i64 ec]) ∧ OperS lo hi a b w (.returned (.tuple #[.agg #[.string t1, .string t2], .int .i64 ec])) w' ∧ Below w.heap.size w w' := by
  have h0 := h
  unfold OperS at h
  split at h
  · obtain ⟨rfl, hb⟩ := h
    exact ⟨_, _, _, rfl, h0, hb⟩
  · obtain ⟨t1, t2, ec, rfl, h2⟩ := wspanOf_open h
    exact ⟨t1, t2, ec, rfl, h0, h2.2⟩

theorem operS_move {lo hi : Rat} {a b : ByteArray × ByteArray} {w0 w1 w w' : World} {e : Ending} (h : OperS lo hi a b w0 e w1) (hb : Below w.heap.size w w') : OperS lo hi a b w e w' := by
  unfold OperS at h ⊢
  split at h
  · rename_i h0; rw [if_pos h0]; exact ⟨h.1, hb⟩
  · rename_i h0; rw [if_neg h0]; exact ⟨h.1, hb⟩

/-- Two stores into an empty span. -/
theorem two_stored {W : World} {g : Nat} {w : World} (h : Below w.heap.size w W) (hg : w.heap.size ≤ g) (x y : Value) : Below w.heap.size w ((W.setCell ⟨g, 0, none⟩ x).setCell ⟨g, 1, none⟩ y) :=
  (h.setCell (p := ⟨g, 0, none⟩) hg x).setCell (p := ⟨g, 1, none⟩) hg y
end Go.Proofs.YtocoghnopmjceaaGreatDoor

