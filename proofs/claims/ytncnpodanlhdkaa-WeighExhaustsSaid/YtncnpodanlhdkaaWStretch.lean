/-
  stretch: the greatest, or the least, mass of an arc.
-/
import Derived.Test.YtncnpodanlhdkaaWSettle
namespace Go.Proofs.Ytncnpodanlhdkaa
set_option linter.all false
open Go.RowKit

def Net.put (N : Net) (i : Nat) (y : Arc) : Net := ⟨N.arcs.set i y, N.ends⟩
theorem flat_step (y : Arc) (M : List Value) (i j : Nat) (v : Value) : (arcC y ++ M).set ((i + 1) * 5 + j) v = arcC y ++ M.set (i * 5 + j) v := by
  rw [List.set_append_right _ _ (by show 5 ≤ _; omega), show (i + 1) * 5 + j - (arcC y).length = i * 5 + j by show (i + 1) * 5 + j - 5 = _; omega]
theorem flat_step0 (y : Arc) (M : List Value) (i : Nat) (v : Value) : (arcC y ++ M).set ((i + 1) * 5) v = arcC y ++ M.set (i * 5) v := flat_step y M i 0 v
theorem flat_put : ∀ (L : List Arc) (i : Nat) (x y : Arc), L[i]? = some x → ((((((L.flatMap arcC).set (i * 5) (.int .i64 y.low)).set (i * 5 + 1) (.int .i64 y.high)).set (i * 5 + 2) (.int .i64 y.src)).set (i * 5 + 3) (.int .i64 y.dst)).set (i * 5 + 4) (.int .i64 y.mass)) = (L.set i y).flatMap arcC
  | [], _, _, _, h => by simp at h
  | z :: L, 0, x, y, h => rfl
  | z :: L, i + 1, x, y, h => by
    have h' : L[i]? = some x := by simpa using h
    rw [List.flatMap_cons, flat_step0, flat_step, flat_step, flat_step, flat_step, flat_put L i x y h']
    rfl
theorem flat_range : ∀ (L : List Arc) (i : Nat) (x : Arc) (l h : Int), L[i]? = some x → ((L.flatMap arcC).set (i * 5) (.int .i64 l)).set (i * 5 + 1) (.int .i64 h) = (L.set i { x with low := l, high := h }).flatMap arcC
  | [], _, _, _, _, h => by simp at h
  | z :: L, 0, x, l, h, e => by
    simp at e
    subst e
    rfl
  | z :: L, i + 1, x, l, h, e => by
    have e' : L[i]? = some x := by simpa using e
    rw [List.flatMap_cons, flat_step0, flat_step, flat_range L i x l h e']
    rfl
/-- Other arcs in the block of the arcs. -/
theorem NetIn.anew {base : Nat} {W W' : World} {a : Nat} {N : Net} {vs : List Value} {g c : Nat} (h : NetIn base W a N (.slice (some ⟨g, 0, none⟩) N.arcs.length c) vs) (hg : W.grownBy W' (some g)) {L : List Arc} (hl : L.length = N.arcs.length)
    (ho : W'.ownsRow base 115 5 (.slice (some ⟨g, 0, none⟩) N.arcs.length c) N.arcs.length (L.flatMap arcC)) : NetIn base W' a ⟨L, N.ends⟩ (.slice (some ⟨g, 0, none⟩) N.arcs.length c) vs := by
  have hga : g ≠ a := fun e => h.other (by rw [e]; rfl)
  refine ⟨(hg.block a h.blk.lt (fun e => hga (Option.some.inj e).symm)).trans h.blk, h.low, h.len, by rw [hl]; exact ho, fun v l hv => ?_, h.apart, h.alone, h.other⟩
  obtain ⟨y, h1, h2⟩ := h.ends v l hv
  refine ⟨y, h1, ownsRow_kept h2 fun k hk => hg.block k (World.ownsRow.lt h2 k hk).2 fun e => ?_⟩
  have := (h.alone v y k h1 hk).1
  exact this (by rw [← Option.some.inj e]; rfl)
theorem NetIn.range {base : Nat} {W : World} {a : Nat} {N : Net} {vs : List Value} {g c : Nat} (h : NetIn base W a N (.slice (some ⟨g, 0, none⟩) N.arcs.length c) vs) {i : Nat} {x : Arc} (hx : N.arcs[i]? = some x) (l u : Int) :
    NetIn base ((W.setCell ⟨g, i * 5, none⟩ (.int .i64 l)).setCell ⟨g, i * 5 + 1, none⟩ (.int .i64 u)) a (N.put i { x with low := l, high := u }) (.slice (some ⟨g, 0, none⟩) N.arcs.length c) vs := by
  refine h.anew (grown_trans (grown_set W g _ _) (grown_set _ g _ _)) List.length_set ?_
  rw [← flat_range _ i x l u hx]
  exact ((h.arcs.stored _ _).1.stored _ _).1
theorem NetIn.arc {base : Nat} {W : World} {a : Nat} {N : Net} {vs : List Value} {g c : Nat} (h : NetIn base W a N (.slice (some ⟨g, 0, none⟩) N.arcs.length c) vs) {i : Nat} {x : Arc} (hx : N.arcs[i]? = some x) (y : Arc) :
    NetIn base (((((W.setCell ⟨g, i * 5, none⟩ (.int .i64 y.low)).setCell ⟨g, i * 5 + 1, none⟩ (.int .i64 y.high)).setCell ⟨g, i * 5 + 2, none⟩ (.int .i64 y.src)).setCell ⟨g, i * 5 + 3, none⟩ (.int .i64 y.dst)).setCell ⟨g, i * 5 + 4, none⟩ (.int .i64 y.mass)) a (N.put i y) (.slice (some ⟨g, 0, none⟩) N.arcs.length c) vs := by
  refine h.anew (grown_trans (grown_trans (grown_trans (grown_trans (grown_set W g _ _) (grown_set _ g _ _)) (grown_set _ g _ _)) (grown_set _ g _ _)) (grown_set _ g _ _)) List.length_set ?_
  rw [← flat_put _ i x y hx]
  exact (((((h.arcs.stored _ _).1.stored _ _).1.stored _ _).1.stored _ _).1.stored _ _).1

theorem row_len {w : World} {base : Nat} {e : TypeId} {size : Nat} {p : Addr} {n m c : Nat} {xs : List Value} (h : w.ownsRow base e size (.slice (some p) n c) m xs) : n = m := by
  obtain ⟨_, h2⟩ := h
  rcases h2 with ⟨h2, _⟩ | ⟨g, cap, cur, h3, _⟩
  · cases h2
  · injection h3
/-- What more (or less) an arc is wanted to have. -/
def want (x : Arc) (hi : Bool) : Int := (if hi then x.high else x.low) - x.mass
def pull (x : Arc) (m : Int) : List Int := (noB.set x.dst m).set x.src (-m)
def stretchF (k : Nat) (N : Net) (i : Nat) (hi : Bool) : Option (Net × Int) :=
  match N.arcs[i]? with
  | none => none
  | some x =>
    match evenF k (N.put i { x with low := x.mass, high := x.mass }) (pull x (want x hi)) with
    | none => none
    | some (N2, left, _) =>
      let m := x.mass + (want x hi - left.getD x.dst 0)
      if (small m && small (want x hi - left.getD x.dst 0)) = true then some (N2.put i { x with mass := m }, m) else none
theorem stretch_out {k : Nat} {N N3 : Net} {i : Nat} {hi : Bool} {m : Int} (h : stretchF k N i hi = some (N3, m)) : ∃ x N2 left mk, N.arcs[i]? = some x ∧ evenF k (N.put i { x with low := x.mass, high := x.mass }) (pull x (want x hi)) = some (N2, left, mk) ∧
    m = x.mass + (want x hi - left.getD x.dst 0) ∧ small m = true ∧ small (want x hi - left.getD x.dst 0) = true ∧ N3 = N2.put i { x with mass := m } := by
  unfold stretchF at h
  split at h
  · cases h
  · rename_i x hx
    split at h
    · cases h
    · rename_i N2 left mk he
      dsimp only at h
      split at h
      · rename_i hs
        rw [Bool.and_eq_true] at hs
        cases h
        exact ⟨x, N2, left, mk, hx, he, rfl, hs.1, hs.2, rfl⟩
      · cases h

set_option maxRecDepth 100000 in
set_option maxHeartbeats 20000000 in
theorem stretch_any (base a g c k : Nat) (N N3 : Net) (i : Nat) (hi : Bool) (m : Int) (vs : List Value) (W : World) (hnet : NetIn base W a N (.slice (some ⟨g, 0, none⟩) N.arcs.length c) vs) (hok : N.Ok) (h : stretchF k N i hi = some (N3, m)) :
    Calls Try.prog 58 #[.pointer (some ⟨a, 0, none⟩), .int .i64 i, .bool hi] W fun e W' => e = .returned (.int .i64 m) ∧ NetIn base W' a N3 (.slice (some ⟨g, 0, none⟩) N.arcs.length c) vs ∧ W.grownBy W' (some g) := by
  have hz2 := (zero_of_info zero_bal).1
  have hz := (zero_of_info zero_marks).1
  obtain ⟨x, N2, left, mk, hx, he, hm, hms, hds, hN3⟩ := stretch_out h
  obtain ⟨n, hn⟩ : ∃ n, n = N.arcs.length := ⟨_, rfl⟩
  have hin : i < n := by rw [hn]; exact (List.getElem?_eq_some_iff.1 hx).1
  have hfew : n ≤ 1000 := by rw [hn]; exact hok.few
  have hlow := hnet.below hok.len
  obtain ⟨hxs, hxd, hlo, hhi, hl1, hh1⟩ := hok.arc i x hx
  obtain ⟨g', c', hva, _, _, _, x0, x1, x2, x3, x4, hf⟩ := hnet.arcAt hx
  have e1 : g' = g := by
    injection hva with h _ _
    injection h with h
    injection h with h _ _
    exact h.symm
  rw [e1] at x0 x1 x2 x3 x4 hf
  rw [← hn] at hnet hlow ⊢
  have hc0 : W.cell? ⟨a, 0, none⟩ = some (.slice (some ⟨g, 0, none⟩) n c) := hnet.blk.cell rfl
  have hf0 := hf (i * 5)
  have hf1 := hf (i * 5 + 1)
  have hf2 := hf (i * 5 + 2)
  have hf3 := hf (i * 5 + 3)
  have hf4 := hf (i * 5 + 4)
  have HNET := hid hnet
  have HLOW := hid hlow
  have HX := hid hx
  have HE := hid he
  have HN := hid hn
  have HM := hid hm
  have HMS := hid hms
  have HDS := hid hds
  have HN3 := hid hN3
  have HF := hid hf
  have HXI : Hid ((x.src : Int) < 34) := hid (by omega)
  have HDI : Hid ((x.dst : Int) < 34) := hid (by omega)
  obtain ⟨w1, hw1⟩ : ∃ w1, w1 = (W.alloc (.cells #[.int .i64 x.low, .int .i64 x.high, .int .i64 x.src, .int .i64 x.dst, .int .i64 x.mass] 115)).drew := ⟨_, rfl⟩
  have hb1 : Below W.heap.size W w1 := by rw [hw1]; exact ((Below.refl _ _).alloc (Nat.le_refl _) _).drew
  have hA1 : Blk w1 W.heap.size #[.int .i64 x.low, .int .i64 x.high, .int .i64 x.src, .int .i64 x.dst, .int .i64 x.mass] 115 := by rw [hw1]; exact (Blk.new W _ _).drew
  have HNET1 := hid (hnet.later hb1)
  have hc1 : w1.cell? ⟨a, 0, none⟩ = some (.slice (some ⟨g, 0, none⟩) n c) := HNET1.out.blk.cell rfl
  have a4 := hA1.cell (i := 4) rfl
  have HB1 := hid hb1
  have HA1 := hid hA1
  have HW1 := hid hw1
  obtain ⟨wt, hwt⟩ : ∃ wt, wt = want x hi := ⟨_, rfl⟩
  have HWT := hid hwt
  have hfz := by have h := HNET1.out.arcs; rw [← HN.out] at h; exact (fun j => h.frozenAt j : ∀ j, w1.frozen? ⟨g, j, none⟩ = false)
  obtain ⟨z0, z1⟩ : w1.cell? ⟨g, i * 5, none⟩ = some (.int .i64 x.low) ∧ w1.cell? ⟨g, i * 5 + 1, none⟩ = some (.int .i64 x.high) := by
    obtain ⟨g', c', hva, _, _, _, y0, y1, _⟩ := HNET1.out.arcAt HX.out
    have e1 : g' = g := by
      injection hva with h _ _
      injection h with h
      injection h with h _ _
      exact h.symm
    rw [e1] at y0 y1
    exact ⟨y0, y1⟩
  have q0 := hfz (i * 5)
  have q1 := hfz (i * 5 + 1)
  clear hfz hnet hlow hx he hn hm hms hds hN3 hf hva h hok hb1 hA1 hw1 hwt
  go_enter Try.func58, Try.ntmps58
  have hwe : (if hi = true then x.high else x.low) - x.mass = wt := HWT.out.symm
  obtain ⟨w2, hw2⟩ : ∃ w2, w2 = (w1.setCell ⟨g, i * 5, none⟩ (.int .i64 x.mass)).setCell ⟨g, i * 5 + 1, none⟩ (.int .i64 x.mass) := ⟨_, rfl⟩
  have HW2 := hid hw2
  clear hw2
  have hns : w1.heap.size = W.heap.size + 1 := by rw [HW1.out]; simp
  have hsz2 : w2.heap.size = w1.heap.size := by rw [HW2.out]; simp
  have hgl : g < W.heap.size := HLOW.out.2.1 g rfl
  obtain ⟨w4, hw4⟩ : ∃ w4, w4 = (w2.alloc (.cells (ints noB) 94)).drew := ⟨_, rfl⟩
  have hA2 : Blk w2 W.heap.size #[.int .i64 x.low, .int .i64 x.high, .int .i64 x.src, .int .i64 x.dst, .int .i64 x.mass] 115 := by rw [HW2.out]; exact (HA1.out.setOther _ _ (by omega)).setOther _ _ (by omega)
  have hA4 : Blk w4 W.heap.size #[.int .i64 x.low, .int .i64 x.high, .int .i64 x.src, .int .i64 x.dst, .int .i64 x.mass] 115 := by rw [hw4]; exact (hA2.alloc _).drew
  have hE4 : Blk w4 w2.heap.size (ints noB) 94 := by rw [hw4]; exact (Blk.new w2 _ _).drew
  have HA4 := hid hA4
  have HE4 := hid hE4
  have HW4 := hid hw4
  have HSZ : Hid (W.heap.size < w2.heap.size) := hid (by omega)
  have HGL := hid hgl
  have HZC : Hid (∀ v : Nat, v < 34 → (ints noB)[v]? = some (.int .i64 0)) := hid (fun v hv => ints_get (by unfold noB; rw [List.getElem?_replicate, if_pos hv]))
  have HWB : Hid (-4503599627370496 ≤ wt ∧ wt ≤ 4503599627370496) := hid (by rw [HWT.out]; unfold want; split <;> omega)
  obtain ⟨w45, hw45⟩ : ∃ w45, w45 = w4.setCell ⟨w2.heap.size, x.dst, none⟩ (.int .i64 wt) := ⟨_, rfl⟩
  have hE45 : Blk w45 w2.heap.size (ints (noB.set x.dst wt)) 94 := by rw [hw45, ← ints_set]; exact hE4.set _ _
  have hA45 : Blk w45 W.heap.size #[.int .i64 x.low, .int .i64 x.high, .int .i64 x.src, .int .i64 x.dst, .int .i64 x.mass] 115 := by rw [hw45]; exact hA4.setOther _ _ (by omega)
  obtain ⟨v0, hv0⟩ : ∃ v0, (noB.set x.dst wt)[x.src]? = some v0 := ⟨_, List.getElem?_eq_getElem (by rw [List.length_set]; exact hxs)⟩
  obtain ⟨w5, hw5⟩ : ∃ w5, w5 = w45.setCell ⟨w2.heap.size, x.src, none⟩ (.int .i64 (-wt)) := ⟨_, rfl⟩
  have hE5 : Blk w5 w2.heap.size (ints (pull x wt)) 94 := by rw [hw5]; unfold pull; rw [← ints_set _ x.src]; exact hE45.set _ _
  have hA5 : Blk w5 W.heap.size #[.int .i64 x.low, .int .i64 x.high, .int .i64 x.src, .int .i64 x.dst, .int .i64 x.mass] 115 := by rw [hw5]; exact hA45.setOther _ _ (by omega)
  have hbel : Below W.heap.size w2 w5 := by
    rw [hw5, hw45, hw4]
    exact ((((Below.refl _ _).alloc (by omega) _).drew).setCell (p := ⟨w2.heap.size, x.dst, none⟩) (by show W.heap.size ≤ w2.heap.size; omega) _).setCell (p := ⟨w2.heap.size, x.src, none⟩) (by show W.heap.size ≤ w2.heap.size; omega) _
  have hnet2 : NetIn base w2 a (N.put i { x with low := x.mass, high := x.mass }) (.slice (some ⟨g, 0, none⟩) (N.put i { x with low := x.mass, high := x.mass }).arcs.length c) vs := by
    have h := HNET1.out
    rw [HN.out] at h
    have h2 := h.range HX.out x.mass x.mass
    rw [← HW2.out] at h2
    rw [show (N.put i { x with low := x.mass, high := x.mass }).arcs.length = N.arcs.length from List.length_set]
    exact h2
  have hnl : (N.put i { x with low := x.mass, high := x.mass }).arcs.length = n := by rw [HN.out]; exact List.length_set
  rw [hnl] at hnet2
  have hpl : (pull x wt).length = 34 := by unfold pull; rw [List.length_set, List.length_set]; rfl
  have HPL := hid hpl
  have HC := hid (even_any base a g c k _ N2 vs (pull x wt) left mk w5 (by rw [hnl]; exact hnet2.kept HLOW.out hbel) hpl (by rw [HWT.out]; exact HE.out))
  have cE := hE4.cell (HZC.out x.dst (by omega))
  have fE := hE4.froz x.dst
  have cE2 := hE45.cell (ints_get hv0)
  have fE2 := hE45.froz x.src
  have HA45 := hid hA45
  have HE45 := hid hE45
  have HA5 := hid hA5
  have HE5 := hid hE5
  have HW45 := hid hw45
  have HW5 := hid hw5
  have HNL := hid hnl
  have HBEL := hid hbel
  have HG12 : Hid (w1.grownBy w2 (some g)) := hid (by rw [HW2.out]; exact grown_trans (grown_set w1 g _ _) (grown_set _ g _ _))
  clear hns hsz2 hgl hA2 hA4 hE4 hw4 hw45 hE45 hA45 hv0 hw5 hE5 hA5 hbel hnet2 hnl hpl
  cases hi
  all_goals
    simp only [Bool.false_eq_true, if_true, if_false] at hwe
    go_wp2_with fail
    refine region_tail 12 (by kernel_rfl) (by kernel_rfl) ?_
    rw [← HW1.out]
    try rw [hwe]
    simp only [List.take_succ_cons, List.take_zero, List.drop_succ_cons, List.drop_zero]
    repeat still_step
    try refine wpStill_nil ?_
    go_wp2_with (rw [← HW2.out])
    refine region_held (fun w' => Blk w' W.heap.size #[.int .i64 x.low, .int .i64 x.high, .int .i64 x.src, .int .i64 x.dst, .int .i64 x.mass] 115) (by kernel_rfl) ?_
    rw [← HW4.out]
    clear HW1 HW2 HW4 x0 x1 x2 x3 x4 hf0 hf1 hf2 hf3 hf4 q0 q1 z0 z1 hc0 hc1 a4
    have hwb := HWB.out
    refine' tkw 0 (v := _) rfl (by kernel_rfl) (by kernel_rfl) HA4.out (fun _ _ _ h => h) ?_ ?_
    rotate_left
    · intro w hSw; have c2 := hSw.cell (i := 2) rfl; have c3 := hSw.cell (i := 3) rfl; clear hSw; go_simp; (try with_reducible rfl)
    try simp only [Act.put, List.setIfInBounds_toArray, List.set_cons_zero, List.set_cons_succ]
    refine' tkw 1 (v := _) rfl (by kernel_rfl) (by kernel_rfl) HA4.out (fun _ _ _ h => h) ?_ ?_
    rotate_left
    · intro w hSw; have c2 := hSw.cell (i := 2) rfl; have c3 := hSw.cell (i := 3) rfl; clear hSw; go_simp; (try with_reducible rfl)
    try simp only [Act.put, List.setIfInBounds_toArray, List.set_cons_zero, List.set_cons_succ]
    refine' tkw 2 (v := _) rfl (by kernel_rfl) (by kernel_rfl) HA4.out (fun _ _ _ h => h) ?_ ?_
    rotate_left
    · intro w hSw; have c2 := hSw.cell (i := 2) rfl; have c3 := hSw.cell (i := 3) rfl; clear hSw; go_simp; (try with_reducible rfl)
    try simp only [Act.put, List.setIfInBounds_toArray, List.set_cons_zero, List.set_cons_succ]
    refine' tkw 3 (v := _) rfl (by kernel_rfl) (by kernel_rfl) HA4.out (fun _ _ _ h => h) ?_ ?_
    rotate_left
    · intro w hSw; have c2 := hSw.cell (i := 2) rfl; have c3 := hSw.cell (i := 3) rfl; clear hSw; go_simp; (try with_reducible rfl)
    try simp only [Act.put, List.setIfInBounds_toArray, List.set_cons_zero, List.set_cons_succ]
    refine' tkw 4 (v := _) rfl (by kernel_rfl) (by kernel_rfl) HA4.out (fun _ _ _ h => h) ?_ ?_
    rotate_left
    · intro w hSw; have c2 := hSw.cell (i := 2) rfl; have c3 := hSw.cell (i := 3) rfl; clear hSw; go_simp; (try with_reducible rfl)
    try simp only [Act.put, List.setIfInBounds_toArray, List.set_cons_zero, List.set_cons_succ]
    refine' tkw 5 (v := _) rfl (by kernel_rfl) (by kernel_rfl) HA4.out (fun _ _ _ h => h) ?_ ?_
    rotate_left
    · intro w hSw; have c2 := hSw.cell (i := 2) rfl; have c3 := hSw.cell (i := 3) rfl; clear hSw; go_simp; (try with_reducible rfl)
    try simp only [Act.put, List.setIfInBounds_toArray, List.set_cons_zero, List.set_cons_succ]
    refine' tkw 6 (v := .int .i64 (-wt)) rfl (by kernel_rfl) (by kernel_rfl) HA4.out (fun _ _ _ h => h) ?_ ?_
    · intro w hSw; have c2 := hSw.cell (i := 2) rfl; have c3 := hSw.cell (i := 3) rfl; clear hSw; go_simp; rw [IntKind.wrap_i64]; omega
    try simp only [Act.put, List.setIfInBounds_toArray, List.set_cons_zero, List.set_cons_succ]
    refine' tkw 7 (v := _) rfl (by kernel_rfl) (by kernel_rfl) HA4.out (fun _ _ _ h => h) ?_ ?_
    rotate_left
    · intro w hSw; have c2 := hSw.cell (i := 2) rfl; have c3 := hSw.cell (i := 3) rfl; clear hSw; go_simp; rw [if_pos HDI.out]
    try simp only [Act.put, List.setIfInBounds_toArray, List.set_cons_zero, List.set_cons_succ]
    refine wpAnyH_ready (rs := [8]) (by kernel_rfl) (by simp) ?_
    refine AllReadyH.cons rfl (fun K hK => ?_) AllReadyH.nil
    go_simp
    rw [← HW45.out]
    refine hK.out _ _ HA45.out (fun _ => ?_)
    clear hK cE fE
    refine' tkw 9 (v := _) rfl (by kernel_rfl) (by kernel_rfl) HA45.out (fun _ _ _ h => h) ?_ ?_
    rotate_left
    · intro w hSw; clear hSw; go_simp; rw [if_pos HXI.out]
    try simp only [Act.put, List.setIfInBounds_toArray, List.set_cons_zero, List.set_cons_succ]
    refine wpAnyH_ready (rs := [10]) (by kernel_rfl) (by simp) ?_
    refine AllReadyH.cons rfl (fun K hK => ?_) AllReadyH.nil
    go_simp
    rw [← HW5.out]
    refine hK.out _ _ HA5.out (fun _ => ?_)
    clear hK cE2 fE2 HW45 HW5
    refine wpAnyH_done (by kernel_rfl) ?_ _
    go_wp2_with (with_reducible refine ld_bal _ rfl rfl ?e1 HE5.out HPL.out ?_)
    case e1 => rfl
    refine HC.out.mono ?_
    rintro e w6 ⟨rfl, hnet6, hg6⟩
    have hlt := (even_len HE.out).1
    have hml := (even_len HE.out).2
    obtain ⟨d0, hd0⟩ : ∃ d0, left[x.dst]? = some d0 := ⟨left[x.dst]'(by rw [hlt]; exact hxd), List.getElem?_eq_getElem _⟩
    have hdd : left.getD x.dst 0 = d0 := by rw [List.getD_eq_getElem?_getD, hd0]; rfl
    have hgl := HGL.out
    rw [HNL.out] at hnet6
    have hn2 : n = N2.arcs.length := row_len hnet6.arcs
    obtain ⟨y, hy⟩ : ∃ y, N2.arcs[i]? = some y := ⟨N2.arcs[i]'(by rw [← hn2]; exact hin), List.getElem?_eq_getElem _⟩
    have hA6 : Blk w6 W.heap.size #[.int .i64 x.low, .int .i64 x.high, .int .i64 x.src, .int .i64 x.dst, .int .i64 x.mass] 115 := (hg6.block _ HA5.out.lt (fun e => by have h : W.heap.size = g := Option.some.inj e; omega)).trans HA5.out
    obtain ⟨w7, hw7⟩ : ∃ w7, w7 = (w6.alloc (.cells (ints noB) 94)).alloc (.cells (bools noM) 85) := ⟨_, rfl⟩
    have R1 : Hid ((storeVar 94 ⟨w6.heap.size, 0, none⟩ (.agg (ints left))).run Try.prog w7 = .ok () (w7.setRow w6.heap.size (ints left))) := hid (put_bal w7 (by rw [hw7]; exact Blk_new01 _ _ _ _) noB_len hlt)
    have R2 : Hid ((storeVar 85 ⟨w6.heap.size + 1, 0, none⟩ (.agg (bools mk))).run Try.prog (w7.setRow w6.heap.size (ints left)) = .ok () ((w7.setRow w6.heap.size (ints left)).setRow (w6.heap.size + 1) (bools mk))) := hid (put_marks _ (by rw [hw7]; exact (Blk_new11 _ _ _ _).rowOther _ (by omega)) noM_len hml)
    obtain ⟨w9, hw9⟩ : ∃ w9, w9 = ((w7.setRow w6.heap.size (ints left)).setRow (w6.heap.size + 1) (bools mk)).drew := ⟨_, rfl⟩
    have hs6 : W.heap.size < w6.heap.size := hA6.lt
    have hA9 : Blk w9 W.heap.size #[.int .i64 x.low, .int .i64 x.high, .int .i64 x.src, .int .i64 x.dst, .int .i64 x.mass] 115 := by rw [hw9, hw7]; exact ((((hA6.alloc _).alloc _).rowOther _ (by omega)).rowOther _ (by omega)).drew
    have hL9 : Blk w9 w6.heap.size (ints left) 94 := by rw [hw9, hw7]; exact (((Blk_new01 _ _ _ _).row _).rowOther _ (by omega)).drew
    obtain ⟨w10, hw10⟩ : ∃ w10, w10 = (w9.setCell ⟨W.heap.size, 4, none⟩ (.int .i64 m)).drew := ⟨_, rfl⟩
    have hA10 : Blk w10 W.heap.size #[.int .i64 x.low, .int .i64 x.high, .int .i64 x.src, .int .i64 x.dst, .int .i64 m] 115 := by rw [hw10]; exact (hA9.set 4 (.int .i64 m)).drew
    have k1 : Below W.heap.size w6 w7 := by rw [hw7]; exact ((Below.refl _ _).alloc (by omega) _).alloc (by simp; omega) _
    have k2 : Below W.heap.size w6 w9 := by rw [hw9]; exact (below_setRow (below_setRow k1 (by omega) _) (by omega) _).drew
    have hb10 : Below W.heap.size w6 w10 := by rw [hw10]; exact (k2.setCell (p := ⟨W.heap.size, 4, none⟩) (Nat.le_refl _) _).drew
    have hnet10 := hnet6.kept HLOW.out hb10
    have ha10 : w10.cell? ⟨a, 0, none⟩ = some (.slice (some ⟨g, 0, none⟩) n c) := hnet10.blk.cell rfl
    obtain ⟨g', c', hva, _, _, _, y0, y1, y2, y3, y4, hyf⟩ := hnet10.arcAt hy
    have e1 : g' = g := by
      injection hva with h _ _
      injection h with h
      injection h with h _ _
      exact h.symm
    rw [e1] at y0 y1 y2 y3 y4 hyf
    have yf0 := hyf (i * 5)
    have yf1 := hyf (i * 5 + 1)
    have yf2 := hyf (i * 5 + 2)
    have yf3 := hyf (i * 5 + 3)
    have yf4 := hyf (i * 5 + 4)
    have hfin := hnet10
    rw [hn2] at hfin
    have hfin := hfin.arc hy { x with mass := m }
    rw [← hn2] at hfin
    have hgw : W.grownBy w10 (some g) := grown_kept (grown_trans (grown_kept (grown_trans (grown_below HB1.out (some g)) HG12.out) HBEL.out) hg6) hb10
    have hmm : m = x.mass + (wt - d0) := by rw [HM.out, hdd, HWT.out]
    have hms := small_iff.1 HMS.out
    have hds := small_iff.1 HDS.out
    rw [hdd, ← HWT.out] at hds
    have a94 := hA9.cell (i := 4) rfl
    have a93 := hA9.cell (i := 3) rfl
    have f94 := hA9.froz 4
    have hms2 : -4503599627370496 ≤ x.mass + (wt - d0) ∧ x.mass + (wt - d0) ≤ 4503599627370496 := by rw [← hmm]; exact hms
    obtain ⟨w11, hw11⟩ : ∃ w11, w11 = ((((w10.setCell ⟨g, i * 5, none⟩ (.int .i64 x.low)).setCell ⟨g, i * 5 + 1, none⟩ (.int .i64 x.high)).setCell ⟨g, i * 5 + 2, none⟩ (.int .i64 x.src)).setCell ⟨g, i * 5 + 3, none⟩ (.int .i64 x.dst)).setCell ⟨g, i * 5 + 4, none⟩ (.int .i64 m) := ⟨_, rfl⟩
    have hA11 : Blk w11 W.heap.size #[.int .i64 x.low, .int .i64 x.high, .int .i64 x.src, .int .i64 x.dst, .int .i64 m] 115 := by
      rw [hw11]
      exact ((((hA10.setOther _ _ (by omega)).setOther _ _ (by omega)).setOther _ _ (by omega)).setOther _ _ (by omega)).setOther _ _ (by omega)
    have b114 := hA11.cell (i := 4) rfl
    have HW11 := hid hw11
    have HN11 : Hid (NetIn base w11 a N3 (.slice (some ⟨g, 0, none⟩) n c) vs) := hid (by rw [hw11, HN3.out]; exact hfin)
    have HG11 : Hid (W.grownBy w11 (some g)) := hid (by rw [hw11]; exact grown_trans (grown_trans (grown_trans (grown_trans (grown_trans hgw (grown_set _ g _ _)) (grown_set _ g _ _)) (grown_set _ g _ _)) (grown_set _ g _ _)) (grown_set _ g _ _))
    have l9 := hL9.cell (ints_get hd0)
    have b0 := hA10.cell (i := 0) rfl
    have b1 := hA10.cell (i := 1) rfl
    have b2 := hA10.cell (i := 2) rfl
    have b3 := hA10.cell (i := 3) rfl
    have b4 := hA10.cell (i := 4) rfl
    have HA9 := hid hA9
    have HA10 := hid hA10
    have HFIN := hid hfin
    have HGW := hid hgw
    have HW7 := hid hw7
    have HW9 := hid hw9
    have HW10 := hid hw10
    have HMM := hid hmm
    have HN2 := hid hn2
    clear hw11 hA11 hlt hml hd0 hdd hn2 hy hA6 hw7 hw9 hs6 hA9 hL9 hw10 hA10 k1 k2 hb10 hnet10 hva hyf e1 hfin hgw hnet6 hg6 hmm hgl
    go_wp2_with (first | (rw [← HW7.out]; with_reducible refine stP 94 _ _ rfl rfl (by with_unfolding_all rfl) (by with_unfolding_all rfl) R1.out ?_) | (with_reducible refine stP 85 _ _ rfl rfl (by with_unfolding_all rfl) (by with_unfolding_all rfl) R2.out ?_))
    refine region_tail 10 (by kernel_rfl) (by kernel_rfl) ?_
    rw [← HW9.out]
    simp only [List.take_succ_cons, List.take_zero, List.drop_succ_cons, List.drop_zero]
    repeat still_step
    refine wpStill_step (fun K hK => ?_)
    go_simp
    rw [if_pos HDI.out]
    refine ⟨rfl, hK _ ?_⟩
    clear hK K
    repeat still_step
    try refine wpStill_nil ?_
    go_wp2_with fail
    refine region_tail 7 (by kernel_rfl) (by kernel_rfl) ?_
    rw [← HMM.out, ← HW10.out]
    clear a93 a94 f94 l9 HW9
    simp only [List.take_succ_cons, List.take_zero, List.drop_succ_cons, List.drop_zero]
    repeat still_step
    try refine wpStill_nil ?_
    go_wp2_with (rw [← HW11.out])
    refine bodyPost_ret (v := .int .i64 m) ?_ rfl ⟨rfl, HN11.out, HG11.out⟩
    simp [results, Try.results58, asAddr, Act.put]
end Go.Proofs.Ytncnpodanlhdkaa
