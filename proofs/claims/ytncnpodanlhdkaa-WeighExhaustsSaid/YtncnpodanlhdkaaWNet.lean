/-
  Networks: as lists, and in memory.
-/
import Derived.Test.YtncnpodanlhdkaaWBase
namespace Go.Proofs.Ytncnpodanlhdkaa
set_option linter.all false
open Go.RowKit

/-- An arc with its range and its mass; a step over one. -/
structure Arc where
  low : Int
  high : Int
  src : Nat
  dst : Nat
  mass : Int
structure Step where
  arc : Nat
  sign : Int
  src : Nat
  dst : Nat
  room : Int
def noStep : Step := ⟨0, 0, 0, 0, 0⟩
def noArc : Arc := ⟨0, 0, 0, 0, 0⟩
/-- A network: its arcs, and for each node the numbers of those that begin or end there. -/
structure Net where
  arcs : List Arc
  ends : List (List Nat)
def big : Int := 1125899906842624
structure Net.Ok (N : Net) : Prop where
  len : N.ends.length = 34
  few : N.arcs.length ≤ 1000
  less : ∀ (v : Nat) (l : List Nat), N.ends[v]? = some l → l.length ≤ 1000 ∧ ∀ i ∈ l, i < N.arcs.length
  arc : ∀ (i : Nat) (x : Arc), N.arcs[i]? = some x → x.src < 34 ∧ x.dst < 34 ∧ x.low ≤ x.mass ∧ x.mass ≤ x.high ∧ -1099511627776 ≤ x.low ∧ x.high ≤ 1099511627776
def stepOf (L : List Arc) (v i : Nat) : Step :=
  let a := L.getD i noArc
  if a.dst = v then ⟨i, -1, v, a.src, a.mass - a.low⟩ else ⟨i, 1, v, a.dst, a.high - a.mass⟩
def roomy (s : Step) : Bool := decide (0 < s.room)
def Net.steps (N : Net) (v : Nat) : List Step := ((N.ends.getD v []).map (stepOf N.arcs v)).filter roomy

def arcC (x : Arc) : List Value := [.int .i64 x.low, .int .i64 x.high, .int .i64 x.src, .int .i64 x.dst, .int .i64 x.mass]
def stepC (x : Step) : List Value := [.int .i64 x.arc, .int .i64 x.sign, .int .i64 x.src, .int .i64 x.dst, .int .i64 x.room]
def natC (l : List Nat) : List Value := l.map fun (i : Nat) => Value.int .i64 (i : Int)

theorem ownsRow_later {w w' : World} {base : Nat} {e : TypeId} {size : Nat} {v : Value} {n : Nat} {xs : List Value} (h : w.ownsRow base e size v n xs) (hb : Below w.heap.size w w') : w'.ownsRow base e size v n xs := by
  obtain ⟨h1, h2⟩ := h
  refine ⟨h1, ?_⟩
  rcases h2 with h2 | ⟨g, cap, cur, h3, h4, h5, h6⟩
  · exact .inl h2
  · exact .inr ⟨g, cap, cur, h3, h4, (hb.block g (Array.getElem?_eq_some_iff.1 h5).1).trans h5, h6⟩

/-- A network in memory: block a; the value of its arcs, and those of the lists of its nodes. -/
structure NetIn (base : Nat) (w : World) (a : Nat) (N : Net) (va : Value) (vs : List Value) : Prop where
  blk : Blk w a (va :: vs).toArray 113
  low : base ≤ a
  len : vs.length = 34
  arcs : w.ownsRow base 115 5 va N.arcs.length (N.arcs.flatMap arcC)
  ends : ∀ (v : Nat) (l : List Nat), N.ends[v]? = some l → ∃ x, vs[v]? = some x ∧ w.ownsRow base 3 1 x l.length (natC l)
  apart : ∀ (i j : Nat) (x y : Value) (k : Nat), vs[i]? = some x → vs[j]? = some y → x.ownBlock = some k → y.ownBlock = some k → i = j
  alone : ∀ (i : Nat) (x : Value) (k : Nat), vs[i]? = some x → x.ownBlock = some k → va.ownBlock ≠ some k ∧ k ≠ a
  other : va.ownBlock ≠ some a

theorem NetIn.later {base : Nat} {w w' : World} {a : Nat} {N : Net} {va : Value} {vs : List Value} (h : NetIn base w a N va vs) (hb : Below w.heap.size w w') : NetIn base w' a N va vs :=
  ⟨h.blk.later hb h.blk.lt, h.low, h.len, ownsRow_later h.arcs hb, fun v l hl => by
    obtain ⟨x, h1, h2⟩ := h.ends v l hl
    exact ⟨x, h1, ownsRow_later h2 hb⟩, h.apart, h.alone, h.other⟩

theorem flat_get : ∀ (L : List Arc) (i : Nat) (x : Arc), L[i]? = some x → ∀ (j : Nat) (v : Value), (arcC x)[j]? = some v → (L.flatMap arcC)[i * 5 + j]? = some v
  | [], _, _, h, _, _, _ => by simp at h
  | y :: L, 0, x, h, j, v, hv => by
    simp at h
    subst h
    have hj : j < (arcC y).length := (List.getElem?_eq_some_iff.1 hv).1
    rw [List.flatMap_cons, List.getElem?_append_left (by omega), Nat.zero_mul, Nat.zero_add]
    exact hv
  | y :: L, i + 1, x, h, j, v, hv => by
    have h' : L[i]? = some x := by simpa using h
    rw [List.flatMap_cons, List.getElem?_append_right (by show 5 ≤ _; omega), show (i + 1) * 5 + j - (arcC y).length = i * 5 + j by show (i + 1) * 5 + j - 5 = _; omega]
    exact flat_get L i x h' j v hv

/-- What is read of arc i. -/
theorem NetIn.arcAt {base : Nat} {w : World} {a : Nat} {N : Net} {va : Value} {vs : List Value} (h : NetIn base w a N va vs) {i : Nat} {x : Arc} (hx : N.arcs[i]? = some x) :
    ∃ g c, va = .slice (some ⟨g, 0, none⟩) N.arcs.length c ∧ base ≤ g ∧ N.arcs.length ≤ c ∧ c ≤ maxLen ∧ w.cell? ⟨g, i * 5, none⟩ = some (.int .i64 x.low) ∧ w.cell? ⟨g, i * 5 + 1, none⟩ = some (.int .i64 x.high) ∧
      w.cell? ⟨g, i * 5 + 2, none⟩ = some (.int .i64 x.src) ∧ w.cell? ⟨g, i * 5 + 3, none⟩ = some (.int .i64 x.dst) ∧ w.cell? ⟨g, i * 5 + 4, none⟩ = some (.int .i64 x.mass) ∧ ∀ j, w.frozen? ⟨g, j, none⟩ = false := by
  have hi : i < N.arcs.length := (List.getElem?_eq_some_iff.1 hx).1
  have ho := h.arcs
  obtain ⟨h1, h2⟩ := h.arcs
  rcases h2 with ⟨_, h2⟩ | ⟨g, c, cur, h3, h4, h5, h6, h7, h8, h9⟩
  · omega
  · subst h3
    refine ⟨g, c, rfl, h4, h6, h7, ?_, ?_, ?_, ?_, ?_, fun j => ho.frozenAt j⟩
    · rw [ho.cellAt (i * 5) (by omega)]; exact flat_get _ i x hx 0 _ rfl
    · rw [ho.cellAt (i * 5 + 1) (by omega)]; exact flat_get _ i x hx 1 _ rfl
    · rw [ho.cellAt (i * 5 + 2) (by omega)]; exact flat_get _ i x hx 2 _ rfl
    · rw [ho.cellAt (i * 5 + 3) (by omega)]; exact flat_get _ i x hx 3 _ rfl
    · rw [ho.cellAt (i * 5 + 4) (by omega)]; exact flat_get _ i x hx 4 _ rfl

/-- What is read of the list of node v. -/
theorem NetIn.endsAt {base : Nat} {w : World} {a : Nat} {N : Net} {va : Value} {vs : List Value} (h : NetIn base w a N va vs) {v : Nat} {l : List Nat} (hl : N.ends[v]? = some l) :
    ∃ p c, w.cell? ⟨a, 1 + v, none⟩ = some (.slice p l.length c) ∧ l.length ≤ c ∧ c ≤ maxLen ∧ (l = [] ∧ p = none ∨ ∃ g, p = some ⟨g, 0, none⟩ ∧ ∀ (j i : Nat), l[j]? = some i → w.cell? ⟨g, j, none⟩ = some (.int .i64 (i : Int))) := by
  obtain ⟨x, h1, h2⟩ := h.ends v l hl
  have hc : w.cell? ⟨a, 1 + v, none⟩ = some x := h.blk.cell (by rw [Nat.add_comm 1 v]; simpa using h1)
  obtain ⟨h3, h4⟩ := h2
  rcases h4 with ⟨rfl, h4⟩ | ⟨g, c, cur, rfl, h5, h6, h7, h8, h9⟩
  · have hl0 : l = [] := List.length_eq_zero_iff.1 h4
    subst hl0
    exact ⟨none, 0, hc, Nat.le_refl _, by decide, .inl ⟨rfl, rfl⟩⟩
  · refine ⟨_, c, hc, h7, h8, .inr ⟨g, rfl, fun j i hj => ?_⟩⟩
    have hjl : j < l.length := (List.getElem?_eq_some_iff.1 hj).1
    have ho : w.ownsRow base 3 1 (.slice (some ⟨g, 0, none⟩) l.length c) l.length (natC l) := ⟨h3, .inr ⟨g, c, cur, rfl, h5, h6, h7, h8, h9⟩⟩
    rw [ho.cellAt j (by omega)]
    unfold natC
    rw [List.getElem?_map, hj]; rfl
end Go.Proofs.Ytncnpodanlhdkaa
