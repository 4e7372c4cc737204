/-
  slices.Reverse over steps.
-/
import Derived.Test.YtncnpodanlhdkaaWStand
namespace Go.Proofs.Ytncnpodanlhdkaa
set_option linter.all false
open Go.RowKit Go.Shelf

def RowS (base : Nat) (W : World) (v : Value) (l : List Step) : Prop := W.ownsRow base 129 5 v l.length (l.flatMap stepC)

theorem flatS_len (l : List Step) : (l.flatMap stepC).length = l.length * 5 := by
  have := steps_size l
  unfold steps at this
  rw [List.size_toArray] at this
  exact this
theorem flatS_set {l : List Step} {i : Nat} (hi : i < l.length) (x : Step) : ((((((l.flatMap stepC).set (i * 5) (.int .i64 x.arc)).set (i * 5 + 1) (.int .i64 x.sign)).set (i * 5 + 2) (.int .i64 x.src)).set (i * 5 + 3) (.int .i64 x.dst)).set (i * 5 + 4) (.int .i64 x.room)) = (l.set i x).flatMap stepC := by
  have h := congrArg Array.toList (steps_set hi x)
  unfold steps at h
  simpa using h
theorem flatS_cell {l : List Step} {i j : Nat} {x : Step} {u : Value} (h : l[i]? = some x) (hu : (stepC x)[j]? = some u) : (l.flatMap stepC)[i * 5 + j]? = some u := by
  have := steps_cell h hu
  unfold steps at this
  rwa [List.getElem?_toArray] at this

/-- Step x is stored at place i of a row. -/
theorem RowS.put {base : Nat} {W : World} {g c i : Nat} {l : List Step} (h : RowS base W (.slice (some ⟨g, 0, none⟩) l.length c) l) (hi : i < l.length) (x : Step) :
    RowS base (((((W.setCell ⟨g, i * 5, none⟩ (.int .i64 x.arc)).setCell ⟨g, i * 5 + 1, none⟩ (.int .i64 x.sign)).setCell ⟨g, i * 5 + 2, none⟩ (.int .i64 x.src)).setCell ⟨g, i * 5 + 3, none⟩ (.int .i64 x.dst)).setCell ⟨g, i * 5 + 4, none⟩ (.int .i64 x.room)) (.slice (some ⟨g, 0, none⟩) l.length c) (l.set i x) := by
  unfold RowS at *
  rw [List.length_set, ← flatS_set hi x]
  exact (((((((((h.stored _ _).1.stored _ _).1).stored _ _).1).stored _ _).1).stored _ _).1)
theorem RowS.cells {base : Nat} {W : World} {g c i : Nat} {l : List Step} (h : RowS base W (.slice (some ⟨g, 0, none⟩) l.length c) l) {x : Step} (hx : l[i]? = some x) :
    W.cell? ⟨g, i * 5, none⟩ = some (.int .i64 x.arc) ∧ W.cell? ⟨g, i * 5 + 1, none⟩ = some (.int .i64 x.sign) ∧ W.cell? ⟨g, i * 5 + 2, none⟩ = some (.int .i64 x.src) ∧ W.cell? ⟨g, i * 5 + 3, none⟩ = some (.int .i64 x.dst) ∧ W.cell? ⟨g, i * 5 + 4, none⟩ = some (.int .i64 x.room) ∧ ∀ j, W.frozen? ⟨g, j, none⟩ = false := by
  have hi : i < l.length := (List.getElem?_eq_some_iff.1 hx).1
  unfold RowS at h
  refine ⟨?_, ?_, ?_, ?_, ?_, fun j => h.frozenAt j⟩
  · rw [h.cellAt (i * 5) (by omega)]; exact flatS_cell hx (j := 0) rfl
  · rw [h.cellAt (i * 5 + 1) (by omega)]; exact flatS_cell hx (j := 1) rfl
  · rw [h.cellAt (i * 5 + 2) (by omega)]; exact flatS_cell hx (j := 2) rfl
  · rw [h.cellAt (i * 5 + 3) (by omega)]; exact flatS_cell hx (j := 3) rfl
  · rw [h.cellAt (i * 5 + 4) (by omega)]; exact flatS_cell hx (j := 4) rfl

theorem rowS_drew {base : Nat} {W : World} {v : Value} {l : List Step} (h : RowS base W v l) : RowS base W.drew v l := World.ownsRow.drew h

/-- The first k places and the last k ones have changed places. -/
def Turned (l c : List Step) (k : Nat) : Prop := c.length = l.length ∧ ∀ i, i < l.length → c[i]? = if i < k ∨ l.length ≤ i + k then l[l.length - 1 - i]? else l[i]?
theorem turned_zero (l : List Step) : Turned l l 0 := ⟨rfl, fun i hi => by rw [if_neg (by omega)]⟩
theorem turned_all {l c : List Step} {k : Nat} (h : Turned l c k) (hk : l.length ≤ k + k + 1) : c = l.reverse := by
  apply List.ext_getElem?
  intro i
  by_cases hi : i < l.length
  · rw [h.2 i hi, List.getElem?_reverse hi]
    split
    · rfl
    · rw [show l.length - 1 - i = i by omega]
  · rw [List.getElem?_eq_none (by rw [h.1]; omega), List.getElem?_eq_none (by rw [List.length_reverse]; omega)]
theorem turned_next {l c : List Step} {k : Nat} {x y : Step} (h : Turned l c k) (hk : k + k + 1 < l.length) (hx : c[k]? = some x) (hy : c[l.length - 1 - k]? = some y) : Turned l ((c.set k y).set (l.length - 1 - k) x) (k + 1) := by
  refine ⟨by rw [List.length_set, List.length_set]; exact h.1, fun i hi => ?_⟩
  have e1 := h.2 k (by omega)
  have e2 := h.2 (l.length - 1 - k) (by omega)
  rw [if_neg (by omega)] at e1 e2
  rw [e1] at hx
  rw [e2] at hy
  by_cases i1 : i = l.length - 1 - k
  · subst i1
    rw [List.getElem?_set_self (by rw [List.length_set, h.1]; omega), if_pos (by omega), show l.length - 1 - (l.length - 1 - k) = k by omega]
    exact hx.symm
  · rw [List.getElem?_set_ne (Ne.symm i1)]
    by_cases i2 : i = k
    · subst i2
      rw [List.getElem?_set_self (by rw [h.1]; omega), if_pos (by omega)]
      exact hy.symm
    · rw [List.getElem?_set_ne (Ne.symm i2), h.2 i hi]
      by_cases i3 : i < k ∨ l.length ≤ i + k
      · rw [if_pos i3, if_pos (by omega)]
      · rw [if_neg i3, if_neg (by omega)]

def RevPost (base : Nat) (v : Value) (l : List Step) (W : World) (e : Ending) (W' : World) : Prop := (∃ u, e = .returned u) ∧ RowS base W' v l.reverse ∧ Below base W W'
theorem revPost_in {base : Nat} {v : Value} {l : List Step} {W W' : World} : ¬ RevPost base v l W .outgrown W' := by
  rintro ⟨⟨u, h⟩, _⟩
  cases h

set_option maxRecDepth 100000 in
set_option maxHeartbeats 2000000 in
theorem reverse_in (F : Fence) (n : Nat) (h77 : F.fn 96) (hro : F.round = none) (base : Nat) (v : Value) (l : List Step) (w : World) (hr : RowS base w v l) :
    CallsIn F n Try.prog 96 #[v] w (RevPost base v l w) := by
  have hr0 := hr
  obtain ⟨h1, h2⟩ := hr
  rcases h2 with ⟨rfl, h2⟩ | ⟨g, c, cur, rfl, h3, h4, h5, h6, h7, h8⟩
  · have hl : l = [] := List.length_eq_zero_iff.1 h2
    subst hl
    refine callsIn_of_wp Try.func96 rfl h77 ?_ hro
    simp only [Try.ntmps96, List.size_toArray, List.length_cons, List.length_nil, Nat.reduceAdd, Nat.reduceSub, Array.replicate_succ, Array.replicate_zero, List.push_toArray, List.append_toArray, List.nil_append, List.cons_append]
    have HR := hid hr0
    clear hr0 h1 h2
    gi_wp2_with fail
    gi_loopw [2, 3] (fun i j wr => i = .int .i64 0 ∧ j = .int .i64 (-1) ∧ wr = w) (fun _ _ _ => 0)
    case atStart => exact ⟨rfl, rfl, rfl⟩
    case round =>
      obtain ⟨rfl, rfl, rfl⟩ := hrel
      gi_wp2_with fail
      refine bodyPost_ret (results_none rfl _ _ _) rfl ?_
      exact ⟨⟨_, rfl⟩, HR.out, Below.refl _ _⟩
  · have HR := hid hr0
    have HG := hid h3
    clear hr0 h1 h4 h7 h8 cur
    unfold maxLen at h6
    refine callsIn_of_wp Try.func96 rfl h77 ?_ hro
    simp only [Try.ntmps96, List.size_toArray, List.length_cons, List.length_nil, Nat.reduceAdd, Nat.reduceSub, Array.replicate_succ, Array.replicate_zero, List.push_toArray, List.append_toArray, List.nil_append, List.cons_append]
    gi_wp2_with fail
    gi_loopw [2, 3] (fun i j wr => ∃ (k : Nat) (cs : List Step), k + k ≤ l.length + 1 ∧ i = .int .i64 k ∧ j = .int .i64 ((l.length : Int) - 1 - k) ∧ Hid (Turned l cs k) ∧ Hid (RowS base wr (.slice (some ⟨g, 0, none⟩) cs.length c) cs) ∧ Hid (Below base w wr)) (fun i _ _ => l.length + 1 - (intOf i).toNat)
    case atStart => exact ⟨0, l, by omega, rfl, by simp, hid (turned_zero l), HR, hid (Below.refl _ _)⟩
    case round =>
      obtain ⟨k, cs, hk, rfl, rfl, HT, HRW, HBW⟩ := hrel
      have hlen := HT.out.1
      by_cases hlt : k + k + 1 < l.length
      · obtain ⟨x, hx⟩ : ∃ x, cs[k]? = some x := ⟨cs[k]'(by omega), List.getElem?_eq_getElem _⟩
        obtain ⟨y, hy⟩ : ∃ y, cs[l.length - 1 - k]? = some y := ⟨cs[l.length - 1 - k]'(by omega), List.getElem?_eq_getElem _⟩
        obtain ⟨j, hj⟩ : ∃ j : Nat, j = l.length - 1 - k := ⟨_, rfl⟩
        have hje : ((l.length : Int) - 1 - k) = (j : Int) := by omega
        rw [← hj] at hy
        obtain ⟨x0, x1, x2, x3, x4, hf⟩ := HRW.out.cells hx
        obtain ⟨y0, y1, y2, y3, y4, _⟩ := HRW.out.cells hy
        have f0 := hf (k * 5)
        have f1 := hf (k * 5 + 1)
        have f2 := hf (k * 5 + 2)
        have f3 := hf (k * 5 + 3)
        have f4 := hf (k * 5 + 4)
        have e0 := hf (j * 5)
        have e1 := hf (j * 5 + 1)
        have e2 := hf (j * 5 + 2)
        have e3 := hf (j * 5 + 3)
        have e4 := hf (j * 5 + 4)
        have HX := hid hx
        have HY := hid hy
        have HJ := hid hj
        have HLN := hid hlen
        have hkj : k < j := by omega
        have hjl : j < l.length := by omega
        have hkl : k < l.length := by omega
        rw [hje]
        clear hx hy hf hj hje hlen
        have HTN : Hid (Turned l ((cs.set k y).set j x) (k + 1)) := hid (by rw [HJ.out]; exact turned_next HT.out hlt HX.out (by rw [← HJ.out]; exact HY.out))
        have hkc : k < cs.length := by rw [HLN.out]; omega
        have hjc : j < (cs.set k y).length := by rw [List.length_set, HLN.out]; omega
        have h1 := HRW.out.put hkc y
        have h2 := RowS.put (c := c) (l := cs.set k y) (by rw [List.length_set]; exact h1) hjc x
        have h3 : ((cs.set k y).set j x).length = (cs.set k y).length := List.length_set
        rw [← h3] at h2
        have HRN := hid (rowS_drew h2)
        have HBN := hid (Below.drew ((((((((((HBW.out.setCell (p := ⟨g, k * 5, none⟩) HG.out (.int .i64 y.arc)).setCell (p := ⟨g, k * 5 + 1, none⟩) HG.out (.int .i64 y.sign)).setCell (p := ⟨g, k * 5 + 2, none⟩) HG.out (.int .i64 y.src)).setCell (p := ⟨g, k * 5 + 3, none⟩) HG.out (.int .i64 y.dst)).setCell (p := ⟨g, k * 5 + 4, none⟩) HG.out (.int .i64 y.room)).setCell (p := ⟨g, j * 5, none⟩) HG.out (.int .i64 x.arc)).setCell (p := ⟨g, j * 5 + 1, none⟩) HG.out (.int .i64 x.sign)).setCell (p := ⟨g, j * 5 + 2, none⟩) HG.out (.int .i64 x.src)).setCell (p := ⟨g, j * 5 + 3, none⟩) HG.out (.int .i64 x.dst)).setCell (p := ⟨g, j * 5 + 4, none⟩) HG.out (.int .i64 x.room)))
        have hje2 := hid (show (j : Int) - 1 = ((l.length : Int) - 1 - (k + 1 : Nat)) by have := HJ.out; omega)
        clear h1 h2 h3 hkc hjc
        gi_wp2_with fail
        refine region_round (fun _ => True) (by kernel_rfl) (by kernel_rfl) ?nq ?_
        case nq =>
          rintro ⟨a', w', h⟩
          exact revPost_in h
        refine' tkw 0 (v := _) rfl (by kernel_rfl) (by kernel_rfl) trivial (fun _ _ _ h => h) ?_ ?_
        rotate_left
        · intro w hSw; clear hSw; go_simp; (try with_reducible rfl)
        try simp only [Act.put, List.setIfInBounds_toArray, List.set_cons_zero, List.set_cons_succ]
        refine' tkw 1 (v := _) rfl (by kernel_rfl) (by kernel_rfl) trivial (fun _ _ _ h => h) ?_ ?_
        rotate_left
        · intro w hSw; clear hSw; go_simp; (try with_reducible rfl)
        try simp only [Act.put, List.setIfInBounds_toArray, List.set_cons_zero, List.set_cons_succ]
        refine' tkw 2 (v := _) rfl (by kernel_rfl) (by kernel_rfl) trivial (fun _ _ _ h => h) ?_ ?_
        rotate_left
        · intro w hSw; clear hSw; go_simp; (try with_reducible rfl)
        try simp only [Act.put, List.setIfInBounds_toArray, List.set_cons_zero, List.set_cons_succ]
        refine' tkw 3 (v := _) rfl (by kernel_rfl) (by kernel_rfl) trivial (fun _ _ _ h => h) ?_ ?_
        rotate_left
        · intro w hSw; clear hSw; go_simp; (try with_reducible rfl)
        try simp only [Act.put, List.setIfInBounds_toArray, List.set_cons_zero, List.set_cons_succ]
        refine' tkw 4 (v := _) rfl (by kernel_rfl) (by kernel_rfl) trivial (fun _ _ _ h => h) ?_ ?_
        rotate_left
        · intro w hSw; clear hSw; go_simp; (try with_reducible rfl)
        try simp only [Act.put, List.setIfInBounds_toArray, List.set_cons_zero, List.set_cons_succ]
        refine' tkw 5 (v := _) rfl (by kernel_rfl) (by kernel_rfl) trivial (fun _ _ _ h => h) ?_ ?_
        rotate_left
        · intro w hSw; clear hSw; go_simp; (try with_reducible rfl)
        try simp only [Act.put, List.setIfInBounds_toArray, List.set_cons_zero, List.set_cons_succ]
        refine' tkw 8 (v := _) rfl (by kernel_rfl) (by kernel_rfl) trivial (fun _ _ _ h => h) ?_ ?_
        rotate_left
        · intro w hSw; clear hSw; go_simp; (try with_reducible rfl)
        try simp only [Act.put, List.setIfInBounds_toArray, List.set_cons_zero, List.set_cons_succ]
        refine' tkw 9 (v := _) rfl (by kernel_rfl) (by kernel_rfl) trivial (fun _ _ _ h => h) ?_ ?_
        rotate_left
        · intro w hSw; clear hSw; go_simp; (try with_reducible rfl)
        try simp only [Act.put, List.setIfInBounds_toArray, List.set_cons_zero, List.set_cons_succ]
        refine' tkw 6 (v := _) rfl (by kernel_rfl) (by kernel_rfl) trivial (fun _ _ _ h => h) ?_ ?_
        rotate_left
        · intro w hSw; clear hSw; go_simp; (try with_reducible rfl)
        try simp only [Act.put, List.setIfInBounds_toArray, List.set_cons_zero, List.set_cons_succ]
        refine' tkw 10 (v := _) rfl (by kernel_rfl) (by kernel_rfl) trivial (fun _ _ _ h => h) ?_ ?_
        rotate_left
        · intro w hSw; clear hSw; go_simp; (try with_reducible rfl)
        try simp only [Act.put, List.setIfInBounds_toArray, List.set_cons_zero, List.set_cons_succ]
        refine wpAnyH_ready (rs := [7, 11]) (by kernel_rfl) (by simp) ?_
        refine AllReadyH.cons rfl (fun K hK => ?_) ?_
        · go_simp
          refine hK.out _ _ trivial (fun _ => ?_)
          clear hK
          refine wpAnyH_ready (rs := [11]) (by kernel_rfl) (by simp) ?_
          refine AllReadyH.cons rfl (fun K hK => ?_) ?_
          · go_simp
            refine hK.out _ _ trivial (fun _ => ?_)
            clear hK
            refine' tkw 12 (v := _) rfl (by kernel_rfl) (by kernel_rfl) trivial (fun _ _ _ h => h) ?_ ?_
            rotate_left
            · intro w hSw; clear hSw; go_simp; (try with_reducible rfl)
            try simp only [Act.put, List.setIfInBounds_toArray, List.set_cons_zero, List.set_cons_succ]
            refine wpAnyH_ready (rs := [13]) (by kernel_rfl) (by simp) ?_
            refine AllReadyH.cons rfl (fun K hK => ?_) ?_
            · go_simp
              refine hK.out _ _ trivial (fun _ => ?_)
              clear hK
              refine' tkw 14 (v := _) rfl (by kernel_rfl) (by kernel_rfl) trivial (fun _ _ _ h => h) ?_ ?_
              rotate_left
              · intro w hSw; clear hSw; go_simp; (try with_reducible rfl)
              try simp only [Act.put, List.setIfInBounds_toArray, List.set_cons_zero, List.set_cons_succ]
              refine wpAnyH_ready (rs := [15]) (by kernel_rfl) (by simp) ?_
              refine AllReadyH.cons rfl (fun K hK => ?_) ?_
              · go_simp
                refine hK.out _ _ trivial (fun _ => ?_)
                clear hK
                refine wpAnyH_done (by kernel_rfl) ?_ _
                gi_wp2_with fail
                go_roundw
                · exact ⟨k + 1, (cs.set k y).set j x, by omega, by go_num, by rw [hje2.out], HTN, HRN, HBN⟩
                · simp [intOf]; omega
              exact AllReadyH.nil
            exact AllReadyH.nil
          exact AllReadyH.nil
        refine AllReadyH.cons rfl (fun K hK => ?_) ?_
        · go_simp
          refine hK.out _ _ trivial (fun _ => ?_)
          clear hK
          refine wpAnyH_ready (rs := [7]) (by kernel_rfl) (by simp) ?_
          refine AllReadyH.cons rfl (fun K hK => ?_) ?_
          · go_simp
            refine hK.out _ _ trivial (fun _ => ?_)
            clear hK
            refine' tkw 12 (v := _) rfl (by kernel_rfl) (by kernel_rfl) trivial (fun _ _ _ h => h) ?_ ?_
            rotate_left
            · intro w hSw; clear hSw; go_simp; (try with_reducible rfl)
            try simp only [Act.put, List.setIfInBounds_toArray, List.set_cons_zero, List.set_cons_succ]
            refine wpAnyH_ready (rs := [13]) (by kernel_rfl) (by simp) ?_
            refine AllReadyH.cons rfl (fun K hK => ?_) ?_
            · go_simp
              refine hK.out _ _ trivial (fun _ => ?_)
              clear hK
              refine' tkw 14 (v := _) rfl (by kernel_rfl) (by kernel_rfl) trivial (fun _ _ _ h => h) ?_ ?_
              rotate_left
              · intro w hSw; clear hSw; go_simp; (try with_reducible rfl)
              try simp only [Act.put, List.setIfInBounds_toArray, List.set_cons_zero, List.set_cons_succ]
              refine wpAnyH_ready (rs := [15]) (by kernel_rfl) (by simp) ?_
              refine AllReadyH.cons rfl (fun K hK => ?_) ?_
              · go_simp
                refine hK.out _ _ trivial (fun _ => ?_)
                clear hK
                refine wpAnyH_done (by kernel_rfl) ?_ _
                gi_wp2_with fail
                go_roundw
                · exact ⟨k + 1, (cs.set k y).set j x, by omega, by go_num, by rw [hje2.out], HTN, HRN, HBN⟩
                · simp [intOf]; omega
              exact AllReadyH.nil
            exact AllReadyH.nil
          exact AllReadyH.nil
        exact AllReadyH.nil
      · have HE : Hid (cs = l.reverse) := hid (turned_all HT.out (by omega))
        have hnl : ¬ ((k : Int) < (l.length : Int) - 1 - k) := by omega
        have HLN := hid hlen
        clear hlen
        gi_wp2_with fail
        refine bodyPost_ret (results_none rfl _ _ _) rfl ?_
        exact ⟨⟨_, rfl⟩, by rw [← HE.out]; have h := HRW.out; rw [HLN.out] at h; exact h, HBW.out⟩
end Go.Proofs.Ytncnpodanlhdkaa
