/-
  Flows as lists: masses that are moved along ways.
-/
import Derived.Test.YtncnpodanlhdkaaWStand
import Derived.Test.YtncnpodanlhdkaaWSigns
namespace Go.Proofs.Ytncnpodanlhdkaa
set_option linter.all false
open Go.RowKit

/-- Another mass of arc i. -/
def Net.mass (N : Net) (i : Nat) (m : Int) : Net := ⟨N.arcs.set i { N.arcs.getD i noArc with mass := m }, N.ends⟩
def small (m : Int) : Bool := decide (-4503599627370496 ≤ m) && decide (m ≤ 4503599627370496)
theorem small_iff {m : Int} : small m = true ↔ -4503599627370496 ≤ m ∧ m ≤ 4503599627370496 := by simp [small]
def okArc (x : Arc) : Bool := decide (x.src < 34) && decide (x.dst < 34) && decide (x.low ≤ x.mass) && decide (x.mass ≤ x.high) && decide (-1099511627776 ≤ x.low) && decide (x.high ≤ 1099511627776)
def Net.okB (N : Net) : Bool := decide (N.ends.length = 34) && decide (N.arcs.length ≤ 1000) && N.ends.all (fun l => decide (l.length ≤ 1000) && l.all fun i => decide (i < N.arcs.length)) && N.arcs.all okArc
theorem ok_of {N : Net} (h : N.okB = true) : N.Ok := by
  unfold Net.okB at h
  simp only [Bool.and_eq_true, decide_eq_true_eq, List.all_eq_true] at h
  obtain ⟨⟨⟨h1, h2⟩, h3⟩, h4⟩ := h
  refine ⟨h1, h2, fun v l hl => h3 l (List.mem_of_getElem? hl), fun i x hx => ?_⟩
  have := h4 x (List.mem_of_getElem? hx)
  unfold okArc at this
  simp only [Bool.and_eq_true, decide_eq_true_eq] at this
  obtain ⟨⟨⟨⟨⟨a, b⟩, c⟩, d⟩, e⟩, f⟩ := this
  exact ⟨a, b, c, d, e, f⟩

/-- A way between two sets of nodes, or what is reached. -/
def wayF (N : Net) (frm to : List Bool) : Option (List Step × List Bool) :=
  match bfs N to 70 ⟨frm, noS, marked frm 34⟩ with
  | some R => found frm 70 R
  | none => none
def stepB (N : Net) (x : Step) : Bool := decide (x.arc < N.arcs.length) && decide (x.src < 34) && decide (x.dst < 34) && (decide (x.sign = 1) || decide (x.sign = -1)) && small x.room
/-- What can flow along a way. -/
def least (m : Int) (p : List Step) : Int := p.foldl (fun m x => min m x.room) m
/-- What flows along a way, one step after another. -/
def pushF (m : Int) : Net → List Step → Option Net
  | N, [] => some N
  | N, x :: p => let k := (N.arcs.getD x.arc noArc).mass + x.sign * m; if small k = true then pushF m (N.mass x.arc k) p else none
def evenF : Nat → Net → List Int → Option (Net × List Int × List Bool)
  | 0, _, _ => none
  | k + 1, N, left =>
    if (N.okB && left.all small && decide (left.length = 34)) = true then
      match wayF N (over left) (under left) with
      | none => none
      | some ([], mk) => some (N, left, mk)
      | some (x :: p, _) =>
        if ((x :: p).all (stepB N) && decide (p.length ≤ 100)) = true then
          let st := x.src
          let en := ((x :: p).getLast (by simp)).dst
          let m := least (min (left.getD st 0) (-(left.getD en 0))) (x :: p)
          match pushF m N (x :: p) with
          | none => none
          | some N' => evenF k N' ((left.set st (left.getD st 0 - m)).set en ((left.set st (left.getD st 0 - m)).getD en 0 + m))
        else none
    else none

theorem flat_set : ∀ (L : List Arc) (i : Nat) (x : Arc) (m : Int), L[i]? = some x → (L.flatMap arcC).set (i * 5 + 4) (.int .i64 m) = (L.set i { x with mass := m }).flatMap arcC
  | [], _, _, _, h => by simp at h
  | y :: L, 0, x, m, h => by
    simp at h
    subst h
    rfl
  | y :: L, i + 1, x, m, h => by
    have h' : L[i]? = some x := by simpa using h
    rw [List.flatMap_cons, List.set_append_right _ _ (by show 5 ≤ _; omega), show (i + 1) * 5 + 4 - (arcC y).length = i * 5 + 4 by show (i + 1) * 5 + 4 - 5 = _; omega, flat_set L i x m h']
    rfl

theorem NetIn.bump {base : Nat} {W : World} {a : Nat} {N : Net} {vs : List Value} {g c : Nat} (h : NetIn base W a N (.slice (some ⟨g, 0, none⟩) N.arcs.length c) vs) {i : Nat} {x : Arc} (hx : N.arcs[i]? = some x) (m : Int) :
    NetIn base (W.setCell ⟨g, i * 5 + 4, none⟩ (.int .i64 m)) a (N.mass i m) (.slice (some ⟨g, 0, none⟩) N.arcs.length c) vs := by
  have hg := grown_set W g (i * 5 + 4) (.int .i64 m)
  have hga : g ≠ a := fun e => h.other (by rw [e]; rfl)
  have hl : (N.mass i m).arcs.length = N.arcs.length := List.length_set
  refine ⟨h.blk.grown hg (fun e => hga (Option.some.inj e)), h.low, h.len, ?_, fun v l hl => ?_, h.apart, h.alone, h.other⟩
  · rw [hl]
    have h1 := (h.arcs.stored (i * 5 + 4) (.int .i64 m)).1
    rw [flat_set _ i x m hx] at h1
    unfold Net.mass
    rw [List.getD_eq_getElem?_getD, hx, Option.getD_some]
    exact h1
  · obtain ⟨y, h1, h2⟩ := h.ends v l hl
    refine ⟨y, h1, h2.kept hg ?_⟩
    rcases hb : y.ownBlock with _ | k
    · exact .inl rfl
    · refine .inr fun e => ?_
      have := (h.alone v y k h1 hb).1
      exact this e.symm
end Go.Proofs.Ytncnpodanlhdkaa
