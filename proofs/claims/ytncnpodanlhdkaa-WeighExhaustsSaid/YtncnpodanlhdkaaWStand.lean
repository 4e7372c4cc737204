/-
  What way holds in memory.
-/
import Derived.Test.YtncnpodanlhdkaaWSteps
import Derived.Test.YtncnpodanlhdkaaWQueue
import Derived.Test.YtncnpodanlhdkaaWFence
import Derived.Test.YtncnpodanlhdkaaWBfs
import Derived.Test.YtncnpodanlhdkaaWRound
import Derived.RangeFuncBox
import Derived.RangeFuncLeaves
import Derived.Sort.QuietIn
import Derived.Deep.Onto
import Derived.RangeFuncWrites
namespace Go.Proofs.Ytncnpodanlhdkaa
set_option linter.all false
open Go.RowKit Go.Shelf
attribute [local go_sem] Oper.semAt_some

def steps (l : List Step) : Array Value := (l.flatMap stepC).toArray
def noS : List Step := List.replicate 34 noStep
theorem zero_steps : (Try.prog.info? 132).map (fun i => (i.zero, i.size)) = some (some (.agg (steps noS)), 170) := by kernel_rfl

theorem steps_size (l : List Step) : (steps l).size = l.length * 5 := by
  unfold steps
  rw [List.size_toArray]
  induction l with
  | nil => rfl
  | cons x l ih => rw [List.flatMap_cons, List.length_append, ih, List.length_cons]; show 5 + _ = _; omega
theorem noS_len : noS.length = 34 := rfl

/-- The nodes before k that are marked. -/
def marked (m : List Bool) (k : Nat) : List Nat := (List.range k).filter fun i => m.getD i false
theorem marked_next (m : List Bool) (k : Nat) {b : Bool} (h : m[k]? = some b) : marked m (k + 1) = marked m k ++ (if b = true then [k] else []) := by
  unfold marked
  rw [List.range_succ, List.filter_append, List.filter_cons, List.getD_eq_getElem?_getD, h, Option.getD_some, List.filter_nil]
theorem marked_len (m : List Bool) (k : Nat) : (marked m k).length ≤ k := by
  unfold marked
  exact Nat.le_trans (List.length_filter_le _ _) (by rw [List.length_range]; exact Nat.le_refl _)

/-- What way holds in memory: its two arguments, its second result, what is reached, the last steps, and the queue. -/
structure WayAt (w wr : World) (frm to reached : List Bool) (last : List Step) (v : Value) (q : List Nat) : Prop where
  b0 : Blk wr w.heap.size (bools frm) 85
  b1 : Blk wr (w.heap.size + 1) (bools to) 85
  b2 : Blk wr (w.heap.size + 1 + 1) (bools noM) 85
  b3 : Blk wr (w.heap.size + 1 + 1 + 1) (bools reached) 85
  b4 : Blk wr (w.heap.size + 1 + 1 + 1 + 1) (steps last) 132
  b5 : Blk wr (w.heap.size + 1 + 1 + 1 + 1 + 1) #[v] 36
  qa : QAt (w.heap.size + 1 + 1 + 1 + 1 + 1 + 1) wr v q
  l3 : reached.length = 34
  l4 : last.length = 34
  below : Below w.heap.size w wr

theorem Blk.grown {w w' : World} {row : Option Nat} {g : Nat} {cs : Array Value} {t : TypeId} (h : Blk w g cs t) (hg : w.grownBy w' row) (hr : row ≠ some g) : Blk w' g cs t := (hg.block g h.lt (Ne.symm hr)).trans h

theorem WayAt.grown {w W W' : World} {frm to reached : List Bool} {last : List Step} {v : Value} {q : List Nat} {row : Option Nat} (h : WayAt w W frm to reached last v q) (hg : W.grownBy W' row) (hr : ∀ k, row = some k → w.heap.size + 1 + 1 + 1 + 1 + 1 + 1 ≤ k ∧ v.ownBlock ≠ some k) : WayAt w W' frm to reached last v q := by
  have hne : ∀ k, k < w.heap.size + 1 + 1 + 1 + 1 + 1 + 1 → row ≠ some k := fun k hk e => by have := (hr k e).1; omega
  exact ⟨h.b0.grown hg (hne _ (by omega)), h.b1.grown hg (hne _ (by omega)), h.b2.grown hg (hne _ (by omega)), h.b3.grown hg (hne _ (by omega)), h.b4.grown hg (hne _ (by omega)), h.b5.grown hg (hne _ (by omega)),
    h.qa.kept hg (fun k hk e => (hr k e).2 hk), h.l3, h.l4, h.below.grown hg h.below.size (fun k e => by have := (hr k e).1; omega)⟩

theorem WayAt.alloc {w W : World} {frm to reached : List Bool} {last : List Step} {v : Value} {q : List Nat} (h : WayAt w W frm to reached last v q) (o : Obj) : WayAt w (W.alloc o) frm to reached last v q :=
  h.grown (World.grownBy_alloc W o none) (fun k e => by cases e)

theorem WayAt.top {w W : World} {frm to reached : List Bool} {last : List Step} {v : Value} {q : List Nat} (h : WayAt w W frm to reached last v q) : w.heap.size + 1 + 1 + 1 + 1 + 1 + 1 ≤ W.heap.size := h.b5.lt

/-- The queue is replaced by another one. -/
theorem WayAt.queue {w W W' : World} {frm to reached : List Bool} {last : List Step} {v v' : Value} {q q' : List Nat} (h : WayAt w W frm to reached last v q) (hg : W.grownBy W' v.ownBlock) (hq : QAt (w.heap.size + 1 + 1 + 1 + 1 + 1 + 1) W' v' q') :
    WayAt w (W'.setCell ⟨w.heap.size + 1 + 1 + 1 + 1 + 1, 0, none⟩ v') frm to reached last v' q' := by
  have hv := h.qa.lt
  have hne : ∀ k, k < w.heap.size + 1 + 1 + 1 + 1 + 1 + 1 → v.ownBlock ≠ some k := fun k hk e => by have := (hv k e).1; omega
  have hs : W'.grownBy (W'.setCell ⟨w.heap.size + 1 + 1 + 1 + 1 + 1, 0, none⟩ v') (some (w.heap.size + 1 + 1 + 1 + 1 + 1)) := ⟨rfl, rfl, rfl, by rw [World.size_setCell]; exact Nat.le_refl _, fun k hk hne => Below.heap_setCell _ _ _ _ (fun e => hne (by rw [e]))⟩
  refine ⟨(h.b0.grown hg (hne _ (by omega))).grown hs (fun e => by injection e; omega), (h.b1.grown hg (hne _ (by omega))).grown hs (fun e => by injection e; omega), (h.b2.grown hg (hne _ (by omega))).grown hs (fun e => by injection e; omega), (h.b3.grown hg (hne _ (by omega))).grown hs (fun e => by injection e; omega),
    (h.b4.grown hg (hne _ (by omega))).grown hs (fun e => by injection e; omega), ?_, hq.kept hs (fun k hk e => by cases e; have := (hq.lt _ hk).1; omega), h.l3, h.l4,
    (h.below.grown hg h.below.size (fun k e => by have := (hv k e).1; omega)).setCell (by simp; omega) _⟩
  exact (h.b5.grown hg (hne _ (by omega))).set 0 v'

theorem way_start (w : World) (frm to : List Bool) (hf : frm.length = 34) :
    WayAt w ((((((w.alloc (.cells (bools frm) 85)).alloc (.cells (bools to) 85)).alloc (.cells (bools noM) 85)).alloc (.cells (bools frm) 85)).alloc (.cells (steps noS) 132)).alloc (.cells #[.slice none 0 0] 36)) frm to frm noS (.slice none 0 0) (marked frm 0) :=
  ⟨(((((Blk_newn _ _ _ rfl).alloc _).alloc _).alloc _).alloc _).alloc _, ((((Blk_newn _ _ _ (by simp)).alloc _).alloc _).alloc _).alloc _, (((Blk_newn _ _ _ (by simp)).alloc _).alloc _).alloc _, ((Blk_newn _ _ _ (by simp)).alloc _).alloc _, (Blk_newn _ _ _ (by simp)).alloc _, Blk_newn _ _ _ (by simp),
    QAt.nil _ _, hf, noS_len, ((((((Below.refl _ _).alloc (Nat.le_refl _) _).alloc (by simp) _).alloc (by simp; omega) _).alloc (by simp; omega) _).alloc (by simp; omega) _).alloc (by simp; omega) _⟩


def calls (D : Nat) : Deferred := { target := .collected D, args := #[] }
/-- The marks that the loops over a function left among the calls that are put off: blocks between lo and hi, each above those before it. -/
def Marks (lo : Nat) (W : World) : Nat → List Deferred → Prop
  | _, [] => True
  | hi, d :: ds => ∃ D, d = calls D ∧ lo ≤ D ∧ D < hi ∧ W.heap[D]? = some (.deferred (some [])) ∧ Marks lo W D ds
theorem Marks.mono {lo : Nat} {W : World} {hi hi' : Nat} : ∀ {ds : List Deferred}, Marks lo W hi ds → hi ≤ hi' → Marks lo W hi' ds
  | [], _, _ => trivial
  | _ :: _, ⟨D, h1, h2, h3, h4, h5⟩, h => ⟨D, h1, h2, Nat.lt_of_lt_of_le h3 h, h4, h5⟩
theorem Marks.others {lo : Nat} {W W' : World} (h : KeepsOthers W W') : ∀ {hi : Nat} {ds : List Deferred}, Marks lo W hi ds → Marks lo W' hi ds
  | _, [], _ => trivial
  | _, _ :: _, ⟨D, h1, h2, h3, h4, h5⟩ => ⟨D, h1, h2, h3, h.same D _ h4 rfl, h5.others h⟩
theorem Marks.far {lo B : Nat} {W W' : World} {row : Option Nat} (hg : W.grownBy W' row) (hr : ∀ r, row = some r → B ≤ r) : ∀ {hi : Nat} {ds : List Deferred}, Marks lo W hi ds → hi ≤ B → Marks lo W' hi ds
  | _, [], _, _ => trivial
  | hi, _ :: _, ⟨D, h1, h2, h3, h4, h5⟩, h => ⟨D, h1, h2, h3, (hg.block D (Array.getElem?_eq_some_iff.1 h4).1 (fun e => by have := hr D e.symm; omega)).trans h4, h5.far hg hr (by omega)⟩

theorem Blk.far {w w' : World} {row : Option Nat} {g : Nat} {cs : Array Value} {t : TypeId} (h : Blk w g cs t) (hg : w.grownBy w' row) (hr : ∀ r, row = some r → ∃ o : Obj, w.heap[r]? = some o ∧ o.isCells = false) : Blk w' g cs t :=
  h.grown hg fun e => by
    obtain ⟨o, h1, h2⟩ := hr g e
    have := h1.symm.trans h
    cases this
    cases h2

/-- The search stands at s; block E says what was found; the queue lies in none of the blocks ks. -/
structure Stand (w W : World) (frm to : List Bool) (s : Bfs) (v : Value) (E : Nat) (e : Int) (ks : List Nat) : Prop where
  way : WayAt w W frm to s.reached s.last v s.queue
  blk : Blk W E #[.int .i64 e] 3
  low : w.heap.size + 1 + 1 + 1 + 1 + 1 + 1 ≤ E
  apart : ∀ k ∈ E :: ks, v.ownBlock ≠ some k

theorem WayAt.far {w W W' : World} {frm to reached : List Bool} {last : List Step} {v : Value} {q : List Nat} {row : Option Nat} {B : Nat} (h : WayAt w W frm to reached last v q) (hg : W.grownBy W' row) (hr : ∀ r, row = some r → B ≤ r ∧ ∃ o : Obj, W.heap[r]? = some o ∧ o.isCells = false) (hB : w.heap.size ≤ B) : WayAt w W' frm to reached last v q := by
  have hr2 := fun r e => (hr r e).2
  refine ⟨h.b0.far hg hr2, h.b1.far hg hr2, h.b2.far hg hr2, h.b3.far hg hr2, h.b4.far hg hr2, h.b5.far hg hr2, h.qa.kept hg (fun k hk e => ?_), h.l3, h.l4, h.below.grown hg h.below.size (fun r e => Nat.le_trans hB (hr r e).1)⟩
  obtain ⟨cs, hb⟩ := h.qa.blk k hk
  obtain ⟨o, h1, h2⟩ := hr2 k e
  have := h1.symm.trans hb
  cases this
  cases h2
theorem Stand.far {w W W' : World} {frm to : List Bool} {s : Bfs} {v : Value} {E : Nat} {e : Int} {ks : List Nat} {row : Option Nat} {B : Nat} (h : Stand w W frm to s v E e ks) (hg : W.grownBy W' row) (hr : ∀ r, row = some r → B ≤ r ∧ ∃ o : Obj, W.heap[r]? = some o ∧ o.isCells = false) (hB : w.heap.size ≤ B) : Stand w W' frm to s v E e ks :=
  ⟨h.way.far hg hr hB, h.blk.far hg (fun r e => (hr r e).2), h.low, h.apart⟩
theorem Stand.alloc {w W : World} {frm to : List Bool} {s : Bfs} {v : Value} {E : Nat} {e : Int} {ks : List Nat} (h : Stand w W frm to s v E e ks) (o : Obj) : Stand w (W.alloc o) frm to s v E e ks :=
  ⟨h.way.alloc o, h.blk.alloc o, h.low, h.apart⟩
theorem Stand.same {w W W' : World} {frm to : List Bool} {s : Bfs} {v : Value} {E : Nat} {e : Int} {ks : List Nat} (h : Stand w W frm to s v E e ks) (hg : W.grownBy W' none) : Stand w W' frm to s v E e ks :=
  ⟨h.way.grown hg (fun k e => by cases e), h.blk.grown hg (by simp), h.low, h.apart⟩
/-- The queue is replaced. -/
theorem Stand.queue {w W W' : World} {frm to : List Bool} {s : Bfs} {v v' : Value} {q' : List Nat} {E : Nat} {e : Int} {ks : List Nat} (h : Stand w W frm to s v E e ks) (hg : W.grownBy W' v.ownBlock) (hq : QAt (w.heap.size + 1 + 1 + 1 + 1 + 1 + 1) W' v' q') (hk : ∀ k ∈ E :: ks, v'.ownBlock ≠ some k) :
    Stand w (W'.setCell ⟨w.heap.size + 1 + 1 + 1 + 1 + 1, 0, none⟩ v') frm to ⟨s.reached, s.last, q'⟩ v' E e ks :=
  ⟨h.way.queue hg hq, (h.blk.grown hg (h.apart E List.mem_cons_self)).setOther 0 v' (by have := h.low; omega), h.low, hk⟩
/-- What is found. -/
theorem Stand.found {w W : World} {frm to : List Bool} {s : Bfs} {v : Value} {E : Nat} {e e' : Int} {ks : List Nat} (h : Stand w W frm to s v E e ks) : Stand w (W.setCell ⟨E, 0, none⟩ (.int .i64 e')) frm to s v E e' ks := by
  have hs : W.grownBy (W.setCell ⟨E, 0, none⟩ (.int .i64 e')) (some E) := ⟨rfl, rfl, rfl, by rw [World.size_setCell]; exact Nat.le_refl _, fun k hk hne => Below.heap_setCell _ _ _ _ (fun e => hne (by rw [e]))⟩
  exact ⟨h.way.grown hs (fun k hk => by cases hk; exact ⟨h.low, h.apart E List.mem_cons_self⟩), h.blk.set 0 _, h.low, h.apart⟩
theorem stepC_len (x : Step) : (stepC x).length = 5 := rfl
theorem steps_cell : ∀ {l : List Step} {i j : Nat} {x : Step} {u : Value}, l[i]? = some x → (stepC x)[j]? = some u → (steps l)[i * 5 + j]? = some u := by
  intro l
  unfold steps
  simp only [List.getElem?_toArray]
  induction l with
  | nil => intro i j x u h; simp at h
  | cons y l ih =>
    intro i j x u h hu
    have hj : j < 5 := (List.getElem?_eq_some_iff.1 hu).1
    cases i with
    | zero =>
      simp at h
      subst h
      rw [List.flatMap_cons, List.getElem?_append_left (by rw [stepC_len]; omega), Nat.zero_mul, Nat.zero_add]
      exact hu
    | succ i =>
      rw [List.flatMap_cons, List.getElem?_append_right (by rw [stepC_len]; omega), stepC_len, show (i + 1) * 5 + j - 5 = i * 5 + j by omega]
      exact ih (by simpa using h) hu
/-- A step is reached: two stores, in either order. -/
theorem steps_set {l : List Step} {i : Nat} (hi : i < l.length) (x : Step) : (((((steps l).setIfInBounds (i * 5) (.int .i64 x.arc)).setIfInBounds (i * 5 + 1) (.int .i64 x.sign)).setIfInBounds (i * 5 + 2) (.int .i64 x.src)).setIfInBounds (i * 5 + 3) (.int .i64 x.dst)).setIfInBounds (i * 5 + 4) (.int .i64 x.room) = steps (l.set i x) := by
  apply Array.ext_getElem?
  intro j
  have hs := steps_size l
  have hs2 := steps_size (l.set i x)
  rw [List.length_set] at hs2
  simp only [Array.getElem?_setIfInBounds, Array.size_setIfInBounds]
  by_cases hj : j < l.length * 5
  · have hx : (l.set i x)[i]? = some x := by rw [List.getElem?_set_self hi]
    have key : ∀ k u, k < 5 → (stepC x)[k]? = some u → j = i * 5 + k → (steps (l.set i x))[j]? = some u := fun k u _ hu e => by rw [e]; exact steps_cell hx hu
    by_cases e0 : i * 5 = j
    · rw [if_neg (by omega), if_neg (by omega), if_neg (by omega), if_neg (by omega), if_pos e0, if_pos (by omega), key 0 _ (by omega) rfl (by omega)]
    by_cases e1 : i * 5 + 1 = j
    · rw [if_neg (by omega), if_neg (by omega), if_neg (by omega), if_pos e1, if_pos (by omega), key 1 _ (by omega) rfl (by omega)]
    by_cases e2 : i * 5 + 2 = j
    · rw [if_neg (by omega), if_neg (by omega), if_pos e2, if_pos (by omega), key 2 _ (by omega) rfl (by omega)]
    by_cases e3 : i * 5 + 3 = j
    · rw [if_neg (by omega), if_pos e3, if_pos (by omega), key 3 _ (by omega) rfl (by omega)]
    by_cases e4 : i * 5 + 4 = j
    · rw [if_pos e4, if_pos (by omega), key 4 _ (by omega) rfl (by omega)]
    rw [if_neg e4, if_neg e3, if_neg e2, if_neg e1, if_neg e0]
    have hq : j / 5 ≠ i := fun e => by omega
    obtain ⟨y, hy⟩ : ∃ y, l[j / 5]? = some y := ⟨l[j / 5]'(by omega), List.getElem?_eq_getElem _⟩
    have hy2 : (l.set i x)[j / 5]? = some y := by rw [List.getElem?_set_ne (Ne.symm hq)]; exact hy
    obtain ⟨u, hu⟩ : ∃ u, (stepC y)[j % 5]? = some u := ⟨(stepC y)[j % 5]'(by rw [stepC_len]; omega), List.getElem?_eq_getElem _⟩
    have h1 := steps_cell hy hu
    have h2 := steps_cell hy2 hu
    rw [show j / 5 * 5 + j % 5 = j by omega] at h1 h2
    rw [h1, h2]
  · rw [Array.getElem?_eq_none (show (steps (l.set i x)).size ≤ j by omega), Array.getElem?_eq_none (show (steps l).size ≤ j by omega)]
    repeat (split; · omega)
    rfl

/-- All that is cells stays; so does all below lo. -/
def Shuts (lo : Nat) (W W' : World) : Prop := (∀ (g : Nat) (cs : Array Value) (t : TypeId) (f : Nat × Nat), W.heap[g]? = some (Obj.cells cs t f) → W'.heap[g]? = some (Obj.cells cs t f)) ∧ Below lo W W'
theorem leaves_marks {F : Fence} {n : Nat} {fn : Func} {tmps : Array Value} {R : Ending → World → Prop} {lo : Nat} : ∀ (ds : List Deferred) (hi : Nat) (W : World), Marks lo W hi ds → (∀ W', Shuts lo W W' → ∃ v, (results fn tmps).run Try.prog W' = .ok v W' ∧ R (.returned v) W') → LeavesInM F n Try.prog fn tmps R ds .returning W
  | [], hi, W, _, h => by
    obtain ⟨v, h1, h2⟩ := h W ⟨fun _ _ _ _ h => h, Below.refl _ _⟩
    exact ⟨v, h1, h2⟩
  | d :: ds, hi, W, ⟨D, hd, h2, h3, h4, h5⟩, h => by
    subst hd
    have hg := grownBy_putObj' W D (.deferred none)
    refine ⟨by simp, .inl ⟨D, _, rfl, run_takeDeferred h4, ?_⟩⟩
    refine leaves_marks ds D _ (h5.far (B := D) hg (fun r e => by cases e; exact Nat.le_refl _) (Nat.le_refl _)) fun W' hW' => h W' ⟨fun g cs t f hgg => hW'.1 g cs t f ?_, ?_⟩
    · refine (hg.block g (Array.getElem?_eq_some_iff.1 hgg).1 (fun e => ?_)).trans hgg
      cases e
      rw [h4] at hgg
      cases hgg
    · exact ((Below.refl lo W).grown hg (Nat.le_trans h2 (Nat.le_of_lt (Array.getElem?_eq_some_iff.1 h4).1)) (fun k e => by cases e; exact h2)).trans hW'.2
theorem Shuts.blk {lo : Nat} {W W' : World} (h : Shuts lo W W') {g : Nat} {cs : Array Value} {t : TypeId} (hb : Blk W g cs t) : Blk W' g cs t := h.1 g cs t (0, 0) hb

def WayPost (w : World) (p : List Step) (mk : List Bool) (e : Ending) (W' : World) : Prop := ∃ v, e = .returned (.tuple #[v, .agg (bools mk)]) ∧ W'.ownsRow w.heap.size 129 5 v p.length (p.flatMap stepC) ∧ Below w.heap.size w W'
theorem wayPost_in (w W : World) (p : List Step) (mk : List Bool) : ¬ WayPost w p mk .outgrown W := by
  rintro ⟨v, h, _⟩
  cases h

theorem grown_row {W : World} {g : Nat} {cs : Array Value} : W.grownBy (W.setRow g cs) (some g) := ⟨rfl, rfl, rfl, by simp, fun k _ hne => setRow_other W g k cs (fun e => hne (by rw [e]))⟩
theorem others_row {W : World} {g : Nat} {cs : Array Value} {t : TypeId} (h : Blk W g cs t) (cs' : Array Value) : KeepsOthers W (W.setRow g cs') :=
  KeepsOthers.of_grownBy grown_row fun j o e hj => by cases e; have := hj.symm.trans h; cases this; rfl

theorem Marks.below {lo B : Nat} {W W' : World} (hb : Below B W W') : ∀ {hi : Nat} {ds : List Deferred}, Marks lo W hi ds → hi ≤ B → Marks lo W' hi ds
  | _, [], _, _ => trivial
  | hi, _ :: _, ⟨D, h1, h2, h3, h4, h5⟩, h => ⟨D, h1, h2, h3, (hb.block D (by omega)).trans h4, h5.below hb (by omega)⟩
theorem Shuts.own {lo : Nat} {W W' : World} (h : Shuts lo W W') {base : Nat} {e : TypeId} {size : Nat} {v : Value} {n : Nat} {xs : List Value} (ho : W.ownsRow base e size v n xs) : W'.ownsRow base e size v n xs := by
  obtain ⟨h1, h2⟩ := ho
  refine ⟨h1, ?_⟩
  rcases h2 with h2 | ⟨g, cap, cur, h3, h4, h5, h6⟩
  · exact .inl h2
  · exact .inr ⟨g, cap, cur, h3, h4, h.1 g _ _ _ h5, h6⟩

theorem kpw_trans {n₀ bn bv : Nat} {A B C : World} (h : KpW n₀ bn bv A B) (k : KpW n₀ bn bv B C) : KpW n₀ bn bv A C :=
  ⟨h.1.trans k.1, fun cs t f e => k.2.1 _ _ _ (h.2.1 _ _ _ e), fun cs t f e => k.2.2 _ _ _ (h.2.2 _ _ _ e)⟩
theorem kpw_of {n₀ bn bv : Nat} {W W' : World} {row : Option Nat} (hg : W.grownBy W' row) (hn : n₀ ≤ W.heap.size) (hr : ∀ r, row = some r → n₀ ≤ r ∧ r ≠ bn ∧ r ≠ bv) : KpW n₀ bn bv W W' :=
  ⟨(Below.refl n₀ W).grown hg hn (fun k e => (hr k e).1), fun cs t f e => (hg.block bn (Array.getElem?_eq_some_iff.1 e).1 (fun h => (hr bn h.symm).2.1 rfl)).trans e, fun cs t f e => (hg.block bv (Array.getElem?_eq_some_iff.1 e).1 (fun h => (hr bv h.symm).2.2 rfl)).trans e⟩
theorem kpw_alloc {n₀ bn bv : Nat} (W : World) (o : Obj) (hn : n₀ ≤ W.heap.size) : KpW n₀ bn bv W (W.alloc o) :=
  kpw_of (World.grownBy_alloc W o none) hn (fun r e => by cases e)
theorem kpw_put {n₀ bn bv : Nat} {w : World} (hn : n₀ ≤ w.heap.size) (W : World) (l : Nat) (o o' : Obj) (hl : w.heap.size ≤ l) (h : W.heap[l]? = some o) (hc : o.isCells = false) (_ : o.isWalk = false) : KpW n₀ bn bv W (W.putObj l o') := by
  have hg := grownBy_putObj' W l o'
  have hne : ∀ k cs t f, W.heap[k]? = some (Obj.cells cs t f) → some k ≠ some l := fun k cs t f e hk => by
    cases hk
    rw [h] at e
    cases e
    cases hc
  exact ⟨(Below.refl n₀ W).grown hg (Nat.le_trans hn (Nat.le_trans hl (Nat.le_of_lt (Array.getElem?_eq_some_iff.1 h).1))) (fun k e => by cases e; omega), fun cs t f e => (hg.block bn (Array.getElem?_eq_some_iff.1 e).1 (hne _ _ _ _ e)).trans e, fun cs t f e => (hg.block bv (Array.getElem?_eq_some_iff.1 e).1 (hne _ _ _ _ e)).trans e⟩

theorem Blk.ne_type {w : World} {g k : Nat} {cs cs' : Array Value} {t t' : TypeId} (h : Blk w g cs t) (h' : Blk w k cs' t') (ht : t ≠ t') : g ≠ k := fun e => by
  subst e
  have := h.symm.trans h'
  cases this
  exact ht rfl
theorem QAt.move {base : Nat} {W W' : World} {v : Value} {l : List Nat} (h : QAt base W v l) (hb : ∀ k, v.ownBlock = some k → W'.heap[k]? = W.heap[k]?) : QAt base W' v l := by
  rcases h with h' | ⟨g, o, c, rfl, h1, ⟨cs, h2⟩, h3, h4, h5, h6⟩
  · exact .inl h'
  · have hg := hb g rfl
    exact .inr ⟨g, o, c, rfl, h1, ⟨cs, hg.trans h2⟩, h3, h4, fun j i hj => by rw [World.cell?_of_block (w := W) hg]; exact h5 j i hj, fun j hj => by rw [World.cell?_of_block (w := W) hg, World.frozen?_of_block (w := W) hg]; exact h6 j hj⟩
/-- The world behind the two stores by which a node is reached. -/
def reachW (w W : World) (x : Step) : World :=
  (((((W.setCell ⟨w.heap.size + 1 + 1 + 1, x.dst, none⟩ (.bool true)).setCell ⟨w.heap.size + 1 + 1 + 1 + 1, x.dst * 5, none⟩ (.int .i64 x.arc)).setCell ⟨w.heap.size + 1 + 1 + 1 + 1, x.dst * 5 + 1, none⟩ (.int .i64 x.sign)).setCell ⟨w.heap.size + 1 + 1 + 1 + 1, x.dst * 5 + 2, none⟩ (.int .i64 x.src)).setCell ⟨w.heap.size + 1 + 1 + 1 + 1, x.dst * 5 + 3, none⟩ (.int .i64 x.dst)).setCell ⟨w.heap.size + 1 + 1 + 1 + 1, x.dst * 5 + 4, none⟩ (.int .i64 x.room)
theorem grown_set (W : World) (g i : Nat) (v : Value) : W.grownBy (W.setCell ⟨g, i, none⟩ v) (some g) := ⟨rfl, rfl, rfl, by rw [World.size_setCell]; exact Nat.le_refl _, fun k hk hne => Below.heap_setCell _ _ _ _ (fun e => hne (by rw [e]))⟩
theorem reach_grown {w W : World} {x : Step} {k : Nat} {cs : Array Value} {t : TypeId} (h : Blk W k cs t) (h3 : k ≠ w.heap.size + 1 + 1 + 1) (h4 : k ≠ w.heap.size + 1 + 1 + 1 + 1) : Blk (reachW w W x) k cs t :=
  (((((h.setOther _ _ h3).setOther _ _ h4).setOther _ _ h4).setOther _ _ h4).setOther _ _ h4).setOther _ _ h4
theorem reach_others (w W : World) (x : Step) : KeepsOthers W (reachW w W x) :=
  (((((KeepsOthers.setCell _ _ _).trans (KeepsOthers.setCell _ _ _)).trans (KeepsOthers.setCell _ _ _)).trans (KeepsOthers.setCell _ _ _)).trans (KeepsOthers.setCell _ _ _)).trans (KeepsOthers.setCell _ _ _)
theorem reach_block (w W : World) (x : Step) {k : Nat} (h3 : k ≠ w.heap.size + 1 + 1 + 1) (h4 : k ≠ w.heap.size + 1 + 1 + 1 + 1) : (reachW w W x).heap[k]? = W.heap[k]? := by
  unfold reachW
  rw [Below.heap_setCell _ _ _ _ h4, Below.heap_setCell _ _ _ _ h4, Below.heap_setCell _ _ _ _ h4, Below.heap_setCell _ _ _ _ h4, Below.heap_setCell _ _ _ _ h4, Below.heap_setCell _ _ _ _ h3]
theorem reach_size (w W : World) (x : Step) : (reachW w W x).heap.size = W.heap.size := by
  unfold reachW
  simp only [World.size_setCell]
theorem reach_below {a w W : World} {x : Step} {B : Nat} (h : Below B a W) (hB : B ≤ w.heap.size) : Below B a (reachW w W x) := by
  have h3 : B ≤ w.heap.size + 1 + 1 + 1 := by omega
  have h4 : B ≤ w.heap.size + 1 + 1 + 1 + 1 := by omega
  unfold reachW
  exact (((((h.setCell (p := ⟨_, _, none⟩) h3 _).setCell (p := ⟨_, _, none⟩) h4 _).setCell (p := ⟨_, _, none⟩) h4 _).setCell (p := ⟨_, _, none⟩) h4 _).setCell (p := ⟨_, _, none⟩) h4 _).setCell (p := ⟨_, _, none⟩) h4 _
theorem reach_kpw {w W : World} {x : Step} {bn bv : Nat} (hn : w.heap.size + 1 + 1 + 1 + 1 < bn) (hv : w.heap.size + 1 + 1 + 1 + 1 < bv) : KpW w.heap.size bn bv W (reachW w W x) :=
  ⟨reach_below (Below.refl _ _) (Nat.le_refl _), fun _ _ _ e => (reach_block w W x (by omega) (by omega)).trans e, fun _ _ _ e => (reach_block w W x (by omega) (by omega)).trans e⟩
theorem Stand.reach {w W : World} {frm to : List Bool} {s : Bfs} {v : Value} {E : Nat} {e : Int} {ks : List Nat} (h : Stand w W frm to s v E e ks) {x : Step} (hx : x.dst < 34) : Stand w (reachW w W x) frm to (s.take x) v E e ks := by
  have hv := h.way.qa.lt
  have hl := h.low
  have hs : W.grownBy (W.setCell ⟨w.heap.size + 1 + 1 + 1, x.dst, none⟩ (.bool true)) (some (w.heap.size + 1 + 1 + 1)) := grown_set _ _ _ _
  refine ⟨⟨reach_grown h.way.b0 (by omega) (by omega), reach_grown h.way.b1 (by omega) (by omega), reach_grown h.way.b2 (by omega) (by omega), ?_, ?_, reach_grown h.way.b5 (by omega) (by omega), ?_, ?_, ?_, ?_⟩, reach_grown h.blk (by omega) (by omega), h.low, h.apart⟩
  · have h1 := h.way.b3.set x.dst (.bool true)
    rw [bools_set] at h1
    have hne : w.heap.size + 1 + 1 + 1 ≠ w.heap.size + 1 + 1 + 1 + 1 := by omega
    exact ((((h1.setOther _ _ hne).setOther _ _ hne).setOther _ _ hne).setOther _ _ hne).setOther _ _ hne
  · have h1 := h.way.b4.setOther x.dst (.bool true) (show w.heap.size + 1 + 1 + 1 + 1 ≠ w.heap.size + 1 + 1 + 1 by omega)
    have h2 := ((((h1.set (x.dst * 5) (.int .i64 x.arc)).set (x.dst * 5 + 1) (.int .i64 x.sign)).set (x.dst * 5 + 2) (.int .i64 x.src)).set (x.dst * 5 + 3) (.int .i64 x.dst)).set (x.dst * 5 + 4) (.int .i64 x.room)
    rw [steps_set (by rw [h.way.l4]; exact hx)] at h2
    exact h2
  · exact h.way.qa.move fun k hk => reach_block w W x (by have := (hv k hk).1; omega) (by have := (hv k hk).1; omega)
  · show (s.reached.set x.dst true).length = 34
    rw [List.length_set]; exact h.way.l3
  · show (s.last.set x.dst x).length = 34
    rw [List.length_set]; exact h.way.l4
  · exact reach_below h.way.below (Nat.le_refl _)

theorem five_of {W : World} {g : Nat} {v0 v1 v2 v3 v4 : Value} {t : TypeId} (h : Blk W g #[v0, v1, v2, v3, v4] t) : W.cell? ⟨g, 0, none⟩ = some v0 ∧ W.cell? ⟨g, 1, none⟩ = some v1 ∧ W.cell? ⟨g, 2, none⟩ = some v2 ∧ W.cell? ⟨g, 3, none⟩ = some v3 ∧ W.cell? ⟨g, 4, none⟩ = some v4 :=
  ⟨h.cell rfl, h.cell rfl, h.cell rfl, h.cell rfl, h.cell rfl⟩

theorem grown_drew (W : World) : W.grownBy W.drew none := ⟨rfl, rfl, rfl, Nat.le_refl _, fun _ _ _ => rfl⟩
theorem kpw_drew {n₀ bn bv : Nat} (W : World) : KpW n₀ bn bv W W.drew := ⟨Below.drew (Below.refl _ _), fun _ _ _ h => h, fun _ _ _ h => h⟩
theorem kpw_refl {n₀ bn bv : Nat} (W : World) : KpW n₀ bn bv W W := ⟨Below.refl _ _, fun _ _ _ h => h, fun _ _ _ h => h⟩
theorem size_drew (W : World) : W.drew.heap.size = W.heap.size := rfl
/-- The same, behind a draw. -/
theorem reach_all {w W : World} {frm to : List Bool} {s : Bfs} {v : Value} {E Bx bn bv : Nat} {e : Int} {ks : List Nat} {cs : Array Value} {t : TypeId} (h : Stand w W frm to s v E e ks) {x : Step} (hx : x.dst < 34) (hb : Blk W Bx cs t) (h3 : Bx ≠ w.heap.size + 1 + 1 + 1) (h4 : Bx ≠ w.heap.size + 1 + 1 + 1 + 1) (hn : w.heap.size + 1 + 1 + 1 + 1 < bn) (hv : w.heap.size + 1 + 1 + 1 + 1 < bv) :
    Stand w (reachW w W x).drew frm to (s.take x) v E e ks ∧ Blk (reachW w W x).drew Bx cs t ∧ KeepsOthers W (reachW w W x).drew ∧ KpW w.heap.size bn bv W (reachW w W x).drew ∧ (reachW w W x).drew.heap.size = W.heap.size :=
  ⟨(h.reach hx).same (grown_drew _), (reach_grown hb h3 h4).drew, (reach_others w W x).trans (KeepsOthers.drew _), kpw_trans (reach_kpw hn hv) (kpw_drew _), (size_drew _).trans (reach_size w W x)⟩

theorem Stand.few {w W : World} {frm to : List Bool} {s : Bfs} {v : Value} {E : Nat} {e : Int} {ks : List Nat} (h : Stand w W frm to s v E e ks) : Stand w W frm to s v E e [] :=
  ⟨h.way, h.blk, h.low, fun k hk => h.apart k (by rw [List.mem_singleton.1 hk]; exact List.mem_cons_self)⟩
end Go.Proofs.Ytncnpodanlhdkaa
