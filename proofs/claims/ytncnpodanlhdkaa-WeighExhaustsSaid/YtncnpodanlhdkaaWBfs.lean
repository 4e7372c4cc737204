/-
  The search for a way, as lists.
-/
import Derived.Test.YtncnpodanlhdkaaWNet
namespace Go.Proofs.Ytncnpodanlhdkaa
set_option linter.all false

/-- What is reached, by which steps, and from which nodes the search goes on. -/
structure Bfs where
  reached : List Bool
  last : List Step
  queue : List Nat
/-- A step to a node that was not reached. -/
def Bfs.take (s : Bfs) (x : Step) : Bfs := ⟨s.reached.set x.dst true, s.last.set x.dst x, s.queue⟩
def Bfs.push (s : Bfs) (x : Step) : Bfs := ⟨s.reached.set x.dst true, s.last.set x.dst x, s.queue ++ [x.dst]⟩
/-- The steps from one node, as far as one leads to a node that is wanted. -/
def scan (to : List Bool) : Bfs → List Step → Bfs × Option Nat
  | s, [] => (s, none)
  | s, x :: l => if s.reached.getD x.dst true = true then scan to s l else if to.getD x.dst false = true then (s.take x, some x.dst) else scan to (s.push x) l
def bfs (N : Net) (to : List Bool) : Nat → Bfs → Option (Bfs × Option Nat)
  | 0, _ => none
  | m + 1, s => match s.queue with
    | [] => some (s, none)
    | v :: q => match scan to ⟨s.reached, s.last, q⟩ (N.steps v) with
      | (s', some e) => some (s', some e)
      | (s', none) => bfs N to m s'

theorem scan_cons (to : List Bool) (s : Bfs) (x : Step) (l : List Step) : scan to s (x :: l) = if s.reached.getD x.dst true = true then scan to s l else if to.getD x.dst false = true then (s.take x, some x.dst) else scan to (s.push x) l := rfl
theorem scan_on {to : List Bool} : ∀ {l : List Step} {s s' : Bfs} (m : List Step), scan to s l = (s', none) → scan to s (l ++ m) = scan to s' m
  | [], s, s', m, h => by
    unfold scan at h
    cases h
    rfl
  | x :: l, s, s', m, h => by
    rw [List.cons_append, scan_cons]
    rw [scan_cons] at h
    split
    · rename_i h1; rw [if_pos h1] at h; exact scan_on m h
    · rename_i h1
      rw [if_neg h1] at h
      split
      · rename_i h2; rw [if_pos h2] at h; cases h
      · rename_i h2; rw [if_neg h2] at h; exact scan_on m h
theorem scan_stop {to : List Bool} : ∀ {l : List Step} {s s' : Bfs} {e : Nat} (m : List Step), scan to s l = (s', some e) → scan to s (l ++ m) = (s', some e)
  | [], s, s', e, m, h => by
    unfold scan at h
    cases h
  | x :: l, s, s', e, m, h => by
    rw [List.cons_append, scan_cons]
    rw [scan_cons] at h
    split
    · rename_i h1; rw [if_pos h1] at h; exact scan_stop m h
    · rename_i h1
      rw [if_neg h1] at h
      split
      · rename_i h2; rw [if_pos h2] at h; exact h
      · rename_i h2; rw [if_neg h2] at h; exact scan_stop m h
theorem scan_skip {to : List Bool} {s : Bfs} {x : Step} (h : s.reached[x.dst]? = some true) : scan to s [x] = (s, none) := by
  rw [scan_cons, if_pos (by rw [List.getD_eq_getElem?_getD, h]; rfl)]
  rfl
theorem scan_end {to : List Bool} {s : Bfs} {x : Step} (h : s.reached[x.dst]? = some false) (ht : to[x.dst]? = some true) : scan to s [x] = (s.take x, some x.dst) := by
  rw [scan_cons, if_neg (by rw [List.getD_eq_getElem?_getD, h]; simp), if_pos (by rw [List.getD_eq_getElem?_getD, ht]; rfl)]
theorem scan_push {to : List Bool} {s : Bfs} {x : Step} (h : s.reached[x.dst]? = some false) (ht : to[x.dst]? = some false) : scan to s [x] = (s.push x, none) := by
  rw [scan_cons, if_neg (by rw [List.getD_eq_getElem?_getD, h]; simp), if_neg (by rw [List.getD_eq_getElem?_getD, ht]; simp)]
  rfl

/-- The way back from a node to one of the first ones. -/
def back (frm : List Bool) (last : List Step) : Nat → Nat → Option (List Step)
  | 0, _ => none
  | m + 1, v => if frm.getD v true = true then some [] else (back frm last m (last.getD v noStep).src).map fun l => last.getD v noStep :: l
/-- What way returns. -/
def found (frm : List Bool) (m : Nat) : Bfs × Option Nat → Option (List Step × List Bool)
  | (s, none) => some ([], s.reached)
  | (s, some e) => (back frm s.last m e).map fun l => (l.reverse, noM)

/-- All steps that are kept begin at nodes, and what is found is one. -/
def Srcs (l : List Step) : Prop := ∀ (i : Nat) (x : Step), l[i]? = some x → x.src < 34
theorem srcs_set {l : List Step} (h : Srcs l) (j : Nat) {x : Step} (hx : x.src < 34) : Srcs (l.set j x) := by
  intro i y hy
  rw [List.getElem?_set] at hy
  split at hy
  · split at hy
    · cases hy; exact hx
    · cases hy
  · exact h i y hy
theorem scan_src {to : List Bool} : ∀ {l : List Step} {s s' : Bfs} {e : Option Nat}, scan to s l = (s', e) → (∀ x ∈ l, x.src < 34 ∧ x.dst < 34) → Srcs s.last → Srcs s'.last ∧ ∀ d, e = some d → d < 34
  | [], s, s', e, h, _, hs => by
    unfold scan at h
    cases h
    exact ⟨hs, fun d h => by cases h⟩
  | x :: l, s, s', e, h, hl, hs => by
    rw [scan_cons] at h
    have hx := hl x List.mem_cons_self
    have hl' := fun y hy => hl y (List.mem_cons_of_mem x hy)
    split at h
    · exact scan_src h hl' hs
    · split at h
      · cases h
        exact ⟨srcs_set hs _ hx.1, fun d h => by cases h; exact hx.2⟩
      · exact scan_src h hl' (srcs_set hs _ hx.1)
theorem steps_ok {N : Net} (h : N.Ok) {v : Nat} (hv : v < 34) : ∀ x ∈ N.steps v, x.src < 34 ∧ x.dst < 34 := by
  intro x hx
  unfold Net.steps at hx
  obtain ⟨hx, _⟩ := List.mem_filter.1 hx
  obtain ⟨i, hi, rfl⟩ := List.mem_map.1 hx
  obtain ⟨l, hl⟩ : ∃ l, N.ends[v]? = some l := ⟨N.ends[v]'(by rw [h.len]; exact hv), List.getElem?_eq_getElem _⟩
  rw [List.getD_eq_getElem?_getD, hl, Option.getD_some] at hi
  have hiN := (h.less v l hl).2 i hi
  have ha := h.arc i _ (List.getElem?_eq_getElem hiN)
  unfold stepOf
  rw [List.getD_eq_getElem?_getD, List.getElem?_eq_getElem hiN, Option.getD_some]
  dsimp only
  split
  · exact ⟨hv, ha.1⟩
  · exact ⟨hv, ha.2.1⟩
theorem bfs_src {N : Net} {to : List Bool} (h : N.Ok) : ∀ {m : Nat} {s : Bfs} {R : Bfs × Option Nat}, bfs N to m s = some R → Srcs s.last → Srcs R.1.last ∧ ∀ d, R.2 = some d → d < 34
  | 0, s, R, hb, _ => by cases hb
  | m + 1, s, R, hb, hs => by
    unfold bfs at hb
    split at hb
    · cases hb
      exact ⟨hs, fun d h => by cases h⟩
    · rename_i v q hq
      by_cases hv : v < 34
      · split at hb
        · rename_i s' e he
          cases hb
          exact scan_src he (steps_ok h hv) hs
        · rename_i s' he
          exact bfs_src h hb (scan_src he (steps_ok h hv) hs).1
      · have hN : N.steps v = [] := by
          unfold Net.steps
          rw [List.getD_eq_getElem?_getD, List.getElem?_eq_none (by rw [h.len]; omega)]
          rfl
        rw [hN] at hb
        exact bfs_src h hb hs
theorem back_cons {frm : List Bool} {last : List Step} {m v : Nat} {l : List Step} {b : Bool} {x : Step} (hb : frm[v]? = some b) (hx : last[v]? = some x) (h : back frm last (m + 1) v = some l) : (b = true ∧ l = []) ∨ (b = false ∧ ∃ r, back frm last m x.src = some r ∧ l = x :: r) := by
  unfold back at h
  rw [List.getD_eq_getElem?_getD, hb, Option.getD_some, List.getD_eq_getElem?_getD, hx, Option.getD_some] at h
  cases b with
  | true => rw [if_pos rfl] at h; cases h; exact .inl ⟨rfl, rfl⟩
  | false =>
    rw [if_neg (by simp)] at h
    cases hr : back frm last m x.src with
    | none => rw [hr] at h; cases h
    | some r => rw [hr] at h; cases h; exact .inr ⟨rfl, r, rfl, rfl⟩

theorem found_out {frm : List Bool} {m d : Nat} {s : Bfs} {p : List Step} {mk : List Bool} (h : found frm m (s, some d) = some (p, mk)) : ∃ pl, back frm s.last m d = some pl ∧ p = pl.reverse ∧ mk = noM := by
  have h' : (back frm s.last m d).map (fun l => (l.reverse, noM)) = some (p, mk) := h
  cases hb : back frm s.last m d with
  | none => rw [hb] at h'; cases h'
  | some pl => rw [hb] at h'; cases h'; exact ⟨pl, rfl, rfl, rfl⟩

theorem back_len {frm : List Bool} {last : List Step} : ∀ {m v : Nat} {l : List Step}, back frm last m v = some l → l.length < m
  | 0, _, _, h => by cases h
  | m + 1, v, l, h => by
    unfold back at h
    split at h
    · cases h; simp
    · cases hr : back frm last m (last.getD v noStep).src with
      | none => rw [hr] at h; cases h
      | some r =>
        rw [hr] at h
        cases h
        have := back_len hr
        simp only [List.length_cons]
        omega

/-- The queue holds nodes, and not too many. -/
def Qok (s : Bfs) : Prop := (∀ x ∈ s.queue, x < 34) ∧ s.queue.length + s.reached.count false ≤ 68
theorem qok_pop {s : Bfs} {v : Nat} {q : List Nat} (h : Qok s) (hq : s.queue = v :: q) : Qok ⟨s.reached, s.last, q⟩ ∧ v < 34 := by
  obtain ⟨h1, h2⟩ := h
  rw [hq] at h1 h2
  simp only [List.length_cons] at h2
  exact ⟨⟨fun x hx => h1 x (List.mem_cons_of_mem v hx), by show q.length + s.reached.count false ≤ 68; omega⟩, h1 v List.mem_cons_self⟩
theorem qok_push {s : Bfs} {x : Step} (h : Qok s) (hx : x.dst < 34) (hr : s.reached[x.dst]? = some false) : Qok (s.push x) := by
  obtain ⟨h1, h2⟩ := h
  obtain ⟨hl, hv⟩ := List.getElem?_eq_some_iff.1 hr
  refine ⟨fun y hy => ?_, ?_⟩
  · rcases List.mem_append.1 hy with hy | hy
    · exact h1 y hy
    · rw [List.mem_singleton.1 hy]; exact hx
  · show (s.queue ++ [x.dst]).length + (s.reached.set x.dst true).count false ≤ 68
    have hc := List.count_set (a := true) (b := false) (l := s.reached) (i := x.dst) hl
    rw [hv] at hc
    have hpos : 0 < s.reached.count false := List.count_pos_iff.2 (by rw [← hv]; exact List.getElem_mem hl)
    rw [hc, List.length_append]
    simp
    omega
theorem bfs_nil {N : Net} {to : List Bool} {m : Nat} {s : Bfs} {R : Bfs × Option Nat} (h : bfs N to (m + 1) s = some R) (hq : s.queue = []) : R = (s, none) := by
  unfold bfs at h
  rw [hq] at h
  exact (Option.some.inj h).symm
theorem bfs_end {N : Net} {to : List Bool} {m v d : Nat} {q : List Nat} {s s' : Bfs} {R : Bfs × Option Nat} (h : bfs N to (m + 1) s = some R) (hq : s.queue = v :: q) (hs : scan to ⟨s.reached, s.last, q⟩ (N.steps v) = (s', some d)) : R = (s', some d) := by
  unfold bfs at h
  rw [hq] at h
  dsimp only at h
  rw [hs] at h
  exact (Option.some.inj h).symm
theorem bfs_on {N : Net} {to : List Bool} {m v : Nat} {q : List Nat} {s s' : Bfs} {R : Bfs × Option Nat} (h : bfs N to (m + 1) s = some R) (hq : s.queue = v :: q) (hs : scan to ⟨s.reached, s.last, q⟩ (N.steps v) = (s', none)) : bfs N to m s' = some R := by
  unfold bfs at h
  rw [hq] at h
  dsimp only at h
  rw [hs] at h
  exact h
end Go.Proofs.Ytncnpodanlhdkaa
