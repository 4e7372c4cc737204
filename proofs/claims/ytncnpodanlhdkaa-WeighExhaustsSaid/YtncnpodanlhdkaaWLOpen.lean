/-
  What came in: a book.
-/
import Derived.Test.YtncnpodanlhdkaaWLRow
import Derived.Deep.Slices
import Derived.OpenShut
namespace Go.Proofs.Ytncnpodanlhdkaa
set_option linter.all false
open Go.RowKit Go.ChangeShapes Go.WideShapes Go.ChangeAt

theorem tk_split : ∀ (L : List Tk) (j : Nat) (u : Value), (L.flatMap tkC)[j]? = some u → ∃ i x r, L[i]? = some x ∧ (tkC x)[r]? = some u ∧ j = i * 5 + r
  | [], j, u, h => by simp at h
  | x :: L, j, u, h => by
    rw [List.flatMap_cons] at h
    by_cases hj : j < 5
    · rw [List.getElem?_append_left (by simpa [tkC] using hj)] at h
      exact ⟨0, x, j, rfl, h, by omega⟩
    · rw [List.getElem?_append_right (by simp [tkC]; omega)] at h
      obtain ⟨i, y, r, h1, h2, h3⟩ := tk_split L _ u h
      have h5 : (tkC x).length = 5 := rfl
      exact ⟨i + 1, y, r, h1, h2, by omega⟩
section
variable {H : Type} {enc : TypeId × Value → H} {W : World} {base : Nat} {spare : Nat → Bool} {held : Bool}
theorem open_rgs {fuel : Nat} {v : Value} {x : DataW H × List MemPlace} (h : DataW.trod enc Try.prog W base spare held fuel 22 [v] = some x) : ∃ S : List (Int × Int), SlcIn W v S.length (S.flatMap rgC) := by
  rcases Go.Deep.open_slice_pairs Try.underlying22 Try.underlying38 (by kernel_rfl) rfl rfl (by kernel_rfl) (by kernel_rfl) h with ⟨hcs, _⟩ | ⟨a, len, cap, m, n, V0, V1, D0, D1, P0, P1, hcs, _, hl, hm, hmm, _, hcell⟩
  · injection hcs with hcs _
    subst hcs
    exact ⟨[], nil_slc0 W _⟩
  · injection hcs with hcs _
    subst hcs
    have hlm : len ≤ m := by rw [hmm]; split <;> omega
    obtain ⟨S, h1, h2⟩ := slc_rgs (V0 := V0) (V1 := V1) hl hm fun i hi => by
      obtain ⟨c0, c1, t0, t1⟩ := hcell i (by omega)
      obtain ⟨s0, e0, -, -⟩ := DataW.trod_int Try.underlying3 t0
      obtain ⟨s1, e1, -, -⟩ := DataW.trod_int Try.underlying3 t1
      exact ⟨c0, c1, ⟨s0, by simpa using e0⟩, s1, by simpa using e1⟩
    exact ⟨S, by rw [h1]; exact h2⟩
set_option maxRecDepth 100000 in
theorem open_tk {fuel : Nat} {cs : List Value} {x : DataW H × List MemPlace} (hl : cs.length = 5) (h : DataW.trod enc Try.prog W base spare held fuel 59 cs = some x) : ∃ t : Tk, cs = tkC t := by
  have cS : Try.prog.cellsOf 9 = 1 := by kernel_rfl
  have cI : Try.prog.cellsOf 3 = 1 := by kernel_rfl
  have cR : Try.prog.cellsOf 38 = 2 := by kernel_rfl
  obtain ⟨xs, k, _, _, _, hxl, hf⟩ := DataW.trod_struct Try.underlying59 h
  clear h
  match cs, hl with
  | [v0, v1, v2, v3, v4], _ =>
    match xs, hxl with
    | [y0, y1, y2, y3], _ =>
      have g0 := hf 0 _ rfl
      have g1 := hf 1 _ rfl
      have g2 := hf 2 _ rfl
      have g3 := hf 3 _ rfl
      clear hf
      simp only [cS, cI, cR, List.drop_zero, List.drop_succ_cons, List.take_succ_cons, List.take_zero, List.getElem?_cons_zero, List.getElem?_cons_succ] at g0 g1 g2 g3
      obtain ⟨s, e0, -, -⟩ := DataW.trod_string Try.underlying9 g0
      obtain ⟨a, e1, -, -⟩ := DataW.trod_int Try.underlying3 g1
      obtain ⟨b, e2, -, -⟩ := DataW.trod_int Try.underlying3 g2
      obtain ⟨zs, k2, _, _, _, hzl, hg⟩ := DataW.trod_struct Try.underlying38 g3
      clear g0 g1 g2 g3
      match zs, hzl with
      | [z0, z1], _ =>
        have q0 := hg 0 _ rfl
        have q1 := hg 1 _ rfl
        clear hg
        simp only [cI, List.drop_zero, List.drop_succ_cons, List.take_succ_cons, List.take_zero, List.getElem?_cons_zero, List.getElem?_cons_succ] at q0 q1
        obtain ⟨c, e3, -, -⟩ := DataW.trod_int Try.underlying3 q0
        obtain ⟨d, e4, -, -⟩ := DataW.trod_int Try.underlying3 q1
        refine ⟨⟨s, a, b, c, d⟩, ?_⟩
        injection e0 with e0 _
        injection e1 with e1 _
        injection e2 with e2 _
        injection e3 with e3 _
        injection e4 with e4 _
        rw [e0, e1, e2, e3, e4]
        rfl
instance : Inhabited Tk := ⟨⟨⟨#[]⟩, 0, 0, 0, 0⟩⟩
set_option maxRecDepth 100000 in
theorem open_tks {fuel : Nat} {v : Value} {x : DataW H × List MemPlace} (h : DataW.trod enc Try.prog W base spare held fuel 23 [v] = some x) : ∃ T : List Tk, SlcIn W v T.length (T.flatMap tkC) := by
  have cT : Try.prog.cellsOf 59 = 5 := by kernel_rfl
  rcases Go.Deep.open_slice Try.underlying23 h with ⟨hcs, _⟩ | ⟨a, len, cap, m, n, D, Pl, hcs, hb, hl, hm, hmm, _, hx⟩
  · injection hcs with hcs _
    subst hcs
    exact ⟨[], nil_slc0 W _⟩
  · injection hcs with hcs _
    subst hcs
    have hlm : len ≤ m := by rw [hmm]; split <;> omega
    have each : ∀ i, i < len → ∃ t : Tk, ∀ (r : Nat) (u : Value), (tkC t)[r]? = some u → W.cell? ((a.add (i * 5)).add r) = some u := fun i hi => by
      obtain ⟨cs', h1, h2⟩ := hx i (by omega)
      rw [cT] at h1
      obtain ⟨_, hlen, hcell⟩ := World.cells?_some h1
      obtain ⟨t, rfl⟩ := open_tk hlen h2
      refine ⟨t, fun r u hu => ?_⟩
      rw [hcell r (by have := (List.getElem?_eq_some_iff.1 hu).1; exact this)]
      exact hu
    obtain ⟨q, hq⟩ := Go.Deep.choose_lt each
    refine ⟨(List.range len).map q, ?_⟩
    have hlen : ((List.range len).map q).length = len := by rw [List.length_map, List.length_range]
    rw [hlen]
    refine ⟨some a, cap, rfl, hl, hm, ?_⟩
    by_cases hn : len = 0
    · exact .inl hn
    · obtain ⟨b, o, sp⟩ := a
      obtain rfl : sp = none := by
        have h0 := hq 0 (by omega) 0 _ rfl
        simpa [Addr.add] using World.cell?_spot h0
      refine .inr ⟨b, o, rfl, fun j u hu => ?_⟩
      obtain ⟨i, t, r, h1, h2, h3⟩ := tk_split _ j u hu
      have hi : i < len := by have := (List.getElem?_eq_some_iff.1 h1).1; rwa [hlen] at this
      rw [List.getElem?_map, List.getElem?_range hi] at h1
      have h1' : q i = t := Option.some.inj h1
      rw [← h1'] at h2
      have h4 := hq i hi r u h2
      rw [add_two9, add_two9] at h4
      rw [h3, ← Nat.add_assoc]
      exact h4
end
end Go.Proofs.Ytncnpodanlhdkaa
