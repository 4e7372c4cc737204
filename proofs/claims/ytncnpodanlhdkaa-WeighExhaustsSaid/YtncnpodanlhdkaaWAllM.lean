/-
  All masses of a small book in a row of rows: the list, and what lies in memory.
-/
import Derived.Test.YtncnpodanlhdkaaWRefGain
import Derived.Test.YtncnpodanlhdkaaWRefNum
import Derived.Test.YtncnpodanlhdkaaWSetM
import Derived.Test.YtncnpodanlhdkaaWAwk
import Derived.Test.YtncnpodanlhdkaaWAdd
namespace Go.Proofs.Ytncnpodanlhdkaa
set_option linter.all false
open Go.RowKit

def grow (t : Tk) (A : List Int) (q : Nat) : List (List Int) := (List.range q).map fun j => A ++ [t.low + (j : Nat)]
def wideN (t : Tk) : Nat := (t.high + 1 - t.low).toNat
def stepL (t : Tk) (LL : List (List Int)) (i : Nat) : List (List Int) := (LL.take i).flatMap fun A => grow t A (wideN t)
def allL (T : List Tk) : Nat → List (List Int)
  | 0 => [[]]
  | k + 1 => stepL (T.getD k noTk) (allL T k) (allL T k).length
theorem grow_succ (t : Tk) (A : List Int) (q : Nat) : grow t A (q + 1) = grow t A q ++ [A ++ [t.low + (q : Nat)]] := by
  unfold grow; rw [List.range_succ, List.map_append]; rfl
theorem grow_len (t : Tk) (A : List Int) (q : Nat) : (grow t A q).length = q := by unfold grow; simp
theorem stepL_succ {t : Tk} {LL : List (List Int)} {i : Nat} {A : List Int} (h : LL[i]? = some A) : stepL t LL (i + 1) = stepL t LL i ++ grow t A (wideN t) := by
  unfold stepL; rw [List.take_add_one, h, List.flatMap_append]; simp
theorem stepL_len (t : Tk) : ∀ (LL : List (List Int)) (i : Nat), wideN t ≤ 5 → i ≤ LL.length → (stepL t LL i).length ≤ 5 * i
  | LL, 0, _, _ => by simp [stepL]
  | LL, i + 1, h, hi => by
    rw [stepL_succ (List.getElem?_eq_getElem hi), List.length_append, grow_len]
    have := stepL_len t LL i h (by omega)
    omega
theorem allL_len (T : List Tk) (h : ∀ (i : Nat) (t : Tk), T[i]? = some t → wideN t ≤ 5) : ∀ k, k ≤ T.length → (allL T k).length ≤ 5 ^ k
  | 0, _ => by simp [allL]
  | k + 1, hk => by
    have h1 := allL_len T h k (by omega)
    have h2 := stepL_len (T.getD k noTk) (allL T k) (allL T k).length (by
      rw [List.getD_eq_getElem?_getD, List.getElem?_eq_getElem (by omega)]; exact h k _ (List.getElem?_eq_getElem (by omega))) (Nat.le_refl _)
    show (stepL _ _ _).length ≤ _
    rw [Nat.pow_succ]; omega
theorem allL_small (T : List Tk) (h : ∀ (i : Nat) (t : Tk), T[i]? = some t → wideN t ≤ 5) (h4 : T.length ≤ 4) {k : Nat} (hk : k ≤ T.length) : (allL T k).length ≤ 625 :=
  Nat.le_trans (allL_len T h k hk) (Nat.pow_le_pow_right (by omega) (show k ≤ 4 by omega))
theorem allL_mem (T : List Tk) : ∀ (k : Nat) (A : List Int), A ∈ allL T k ↔ A.length = k ∧ ∀ i, i < k → (T.getD i noTk).low ≤ A.getD i 0 ∧ A.getD i 0 ≤ (T.getD i noTk).high
  | 0, A => by
    show A ∈ [[]] ↔ _
    rw [List.mem_singleton]
    exact ⟨fun h => by subst h; exact ⟨rfl, fun i hi => absurd hi (by omega)⟩, fun h => List.length_eq_zero_iff.1 h.1⟩
  | k + 1, A => by
    show A ∈ stepL _ _ _ ↔ _
    unfold stepL
    rw [List.take_length, List.mem_flatMap]
    constructor
    · rintro ⟨B, hB, hA⟩
      obtain ⟨h1, h2⟩ := (allL_mem T k B).1 hB
      unfold grow at hA
      obtain ⟨j, hj, rfl⟩ := List.mem_map.1 hA
      have hj := List.mem_range.1 hj
      unfold wideN at hj
      refine ⟨by rw [List.length_append, h1]; rfl, fun i hi => ?_⟩
      by_cases e : i = k
      · subst e
        rw [show (B ++ [(T.getD i noTk).low + (j : Int)]).getD i 0 = (T.getD i noTk).low + (j : Int) by rw [List.getD_eq_getElem?_getD, List.getElem?_append_right (by omega), h1, Nat.sub_self]; rfl]
        omega
      · rw [show (B ++ [(T.getD k noTk).low + (j : Int)]).getD i 0 = B.getD i 0 by simp only [List.getD_eq_getElem?_getD]; rw [List.getElem?_append_left (by omega)]]
        exact h2 i (by omega)
    · rintro ⟨h1, h2⟩
      have h3 := h2 k (by omega)
      have e : A = A.take k ++ [A.getD k 0] := by
        have := List.take_append_drop k A
        rw [List.drop_eq_getElem_cons (by omega), List.drop_eq_nil_of_le (by omega)] at this
        rw [List.getD_eq_getElem?_getD, List.getElem?_eq_getElem (by omega)]
        exact this.symm
      refine ⟨A.take k, (allL_mem T k _).2 ⟨by rw [List.length_take]; omega, fun i hi => ?_⟩, ?_⟩
      · rw [show (A.take k).getD i 0 = A.getD i 0 by rw [List.getD_eq_getElem?_getD, List.getD_eq_getElem?_getD, List.getElem?_take, if_pos hi]]
        exact h2 i (by omega)
      · unfold grow wideN
        refine List.mem_map.2 ⟨(A.getD k 0 - (T.getD k noTk).low).toNat, List.mem_range.2 (by omega), ?_⟩
        rw [show (T.getD k noTk).low + (((A.getD k 0 - (T.getD k noTk).low).toNat : Nat) : Int) = A.getD k 0 by omega]
        exact e.symm
/-- The masses that hold, of all masses. -/
def ptsL (S : List (Int × Int)) (T : List Tk) (k : Nat) : List (List Int) := ((allL T T.length).take k).filter (holdsR S T)
theorem ptsL_succ {S : List (Int × Int)} {T : List Tk} {k : Nat} {A : List Int} (h : (allL T T.length)[k]? = some A) : ptsL S T (k + 1) = ptsL S T k ++ (if holdsR S T A = true then [A] else []) := by
  unfold ptsL; rw [List.take_add_one, h, List.filter_append]; cases hh : holdsR S T A <;> simp [hh]
theorem pts_asg {S : List (Int × Int)} {T : List Tk} (hx : bookErr S T = 0) (A : List Int) : A ∈ ptsL S T (allL T T.length).length ↔ Asg S T A := by
  have hok := (book_good hx).tks
  unfold ptsL
  rw [List.take_length, List.mem_filter, allL_mem, holds_same A hok]
  constructor
  · rintro ⟨⟨h1, _⟩, h2⟩; exact ⟨h1, h2⟩
  · rintro ⟨h1, h2⟩
    refine ⟨⟨h1, fun i hi => ?_⟩, h2⟩
    unfold holdsF at h2
    rw [Bool.and_eq_true, List.all_eq_true] at h2
    have h3 := h2.1 i (List.mem_range.2 hi)
    unfold tkIn inR at h3
    simp at h3
    rw [List.getD_eq_getElem?_getD, List.getD_eq_getElem?_getD]
    omega

theorem info_row : (Try.prog.info? 36).map (fun i => (i.zero, i.size, i.bytes)) = some (some (.slice none 0 0), 1, 24) := by kernel_rfl
/-- A row of integers whose block is not this one. -/
def Elem (w : World) (own : Option Nat) (x : Value) (A : List Int) : Prop := SlcIn w x A.length (A.map (Value.int .i64)) ∧ (A.length ≠ 0 → ∀ k, x.ownBlock = some k → own ≠ some k)
theorem Elem.kept {w w' : World} {own own' : Option Nat} {x : Value} {A : List Int} (h : Elem w own x A) (hk : ∀ k, k < w.heap.size → own ≠ some k → w'.heap[k]? = w.heap[k]?) (ho : ∀ k, own' = some k → own = some k ∨ w.heap.size ≤ k) : Elem w' own' x A := by
  obtain ⟨⟨p, c, rfl, h2, h3, h4⟩, h5⟩ := h
  by_cases h0 : A.length = 0
  · exact ⟨⟨p, c, rfl, h2, h3, .inl h0⟩, fun h => absurd h0 h⟩
  · obtain ⟨g, o, rfl, h6⟩ := h4.resolve_left h0
    have hg : g < w.heap.size := by
      have h7 : (A.map (Value.int .i64))[0]? = some ((A.map (Value.int .i64))[0]'(by rw [List.length_map]; omega)) := List.getElem?_eq_getElem _
      exact World.block_lt_of_cell? w _ (h6 0 _ h7)
    have hn : own ≠ some g := h5 h0 g rfl
    refine ⟨⟨_, c, rfl, h2, h3, .inr ⟨g, o, rfl, fun j u hu => ?_⟩⟩, fun _ k hk' e => ?_⟩
    · rw [World.cell?_of_block (w := w) (hk g hg hn)]
      exact h6 j u hu
    · have e2 : g = k := Option.some.inj hk'
      subst e2
      rcases ho _ e with h | h
      · exact hn h
      · omega
def PtsIn (base : Nat) (w : World) (v : Value) (PP : List (List Int)) : Prop := ∃ vs, w.ownsRow base 36 1 v PP.length vs ∧ ∀ (i : Nat) (A : List Int), PP[i]? = some A → ∃ x, vs[i]? = some x ∧ Elem w v.ownBlock x A
theorem PtsIn.later {base : Nat} {w w' : World} {v : Value} {PP : List (List Int)} (h : PtsIn base w v PP) (hb : Below w.heap.size w w') : PtsIn base w' v PP := by
  obtain ⟨vs, h1, h2⟩ := h
  refine ⟨vs, ownsRow_later h1 hb, fun i A hA => ?_⟩
  obtain ⟨x, hx, he⟩ := h2 i A hA
  exact ⟨x, hx, he.kept (fun k hk _ => hb.block k hk) fun k hk => .inl hk⟩
theorem PtsIn.mono {b b' : Nat} {w : World} {v : Value} {PP : List (List Int)} (h : PtsIn b w v PP) (hb : b' ≤ b) : PtsIn b' w v PP := by
  obtain ⟨vs, h1, h2⟩ := h
  exact ⟨vs, h1.mono hb, h2⟩
theorem PtsIn.shape {base : Nat} {w : World} {v : Value} {PP : List (List Int)} (h : PtsIn base w v PP) : ∃ p c, v = .slice p PP.length c := by
  obtain ⟨vs, h1, h2⟩ := h
  obtain ⟨p, c, h, _⟩ := SlcIn.own h1
  exact ⟨p, c, h⟩
theorem PtsIn.at {base : Nat} {w : World} {v : Value} {PP : List (List Int)} {i : Nat} {A : List Int} (h : PtsIn base w v PP) (hA : PP[i]? = some A) :
    ∃ g c p cx, v = .slice (some ⟨g, 0, none⟩) PP.length c ∧ w.cell? ⟨g, i, none⟩ = some (.slice p A.length cx) ∧ Elem w (some g) (.slice p A.length cx) A := by
  obtain ⟨vs, h1, h2⟩ := h
  obtain ⟨x, hx, he⟩ := h2 i A hA
  have hi := (List.getElem?_eq_some_iff.1 hA).1
  obtain ⟨g, c, rfl, _⟩ := row_some h1 (by omega)
  obtain ⟨⟨p, cx, rfl, _⟩, _⟩ := he
  exact ⟨g, c, p, cx, rfl, (h1.cellAt i (by omega)).trans hx, by
    obtain ⟨y, hy, he⟩ := h2 i A hA
    rw [hx] at hy; cases hy; exact he⟩
theorem pts_add {base : Nat} {w5 w6 : World} {v v' x : Value} {PP : List (List Int)} {A : List Int} {vs : List Value} (hl : vs.length = PP.length) (h2 : ∀ (i : Nat) (A : List Int), PP[i]? = some A → ∃ x, vs[i]? = some x ∧ Elem w5 v.ownBlock x A) (he : Elem w5 v.ownBlock x A)
    (ho : w6.ownsRow base 36 1 v' (PP.length + 1) (vs ++ [x])) (hg : w5.grownBy w6 v.ownBlock) (hv : ∀ k, v'.ownBlock = some k → v.ownBlock = some k ∨ w5.heap.size ≤ k) : PtsIn base w6 v' (PP ++ [A]) := by
  refine ⟨vs ++ [x], by rw [List.length_append]; exact ho, fun i B hB => ?_⟩
  have hk : ∀ k, k < w5.heap.size → v.ownBlock ≠ some k → w6.heap[k]? = w5.heap[k]? := fun k hk hne => hg.block k hk fun e => hne e.symm
  by_cases hi : i < PP.length
  · rw [List.getElem?_append_left hi] at hB
    obtain ⟨y, hy, hE⟩ := h2 i B hB
    exact ⟨y, by rw [List.getElem?_append_left (by omega)]; exact hy, hE.kept hk hv⟩
  · rw [List.getElem?_append_right (by omega)] at hB
    have h9 : i - PP.length = 0 := by
      have := (List.getElem?_eq_some_iff.1 hB).1
      simp at this
      omega
    rw [h9] at hB
    cases hB
    exact ⟨x, by rw [List.getElem?_append_right (by omega), hl, h9]; rfl, he.kept hk hv⟩
theorem PtsIn.nil (base : Nat) (w : World) : PtsIn base w (.slice none 0 0) [] := ⟨[], World.ownsRow_nil w _ _ 1, fun i A h => by simp at h⟩

/-- An append to a row of the call's own, in the walk of a region in its order. -/
theorem wpList_own {ops : Array Oper} {rest : List Oper} {o : Oper} {a : Act} {Q : Exit → Act → World → Prop} {W : World} {base : Nat} (hgd : o.guard = none) (s x : Operand) (t e : TypeId) (i : TypeInfo) (z : Value) (size bytes : Nat)
    (ho : o.op = .call { callee := .builtin .append, args := #[s, x], argTypes := #[t, t] }) (hu : Try.prog.underlying t = some (.slice e)) (hi : Try.prog.info? e = some i) (hz : i.zero = some z) (hsize : i.size = size) (hby : i.bytes = bytes) (hzs : z.cells.size = size) (hsz : 0 < size)
    {v : Value} {n : Nat} {xs : List Value} (hs : a.eval s = v) (h : W.ownsRow base e size v n xs) (hb : base ≤ W.heap.size) (ad : Addr) (m c : Nat) (news : List Value) (hx : a.eval x = .slice (some ad) m c) (hl : news.length = m * size) (hnews : ∀ j u, news[j]? = some u → W.cell? (ad.add j) = some u) (h1 : ∀ u ∈ news, u.oneCell' = true) (h63 : n + m ≤ maxLen) (hbytes : (n + m) * bytes ≤ 140737488355328)
    (hK : ∀ v' W', W'.ownsRow base e size v' (n + m) (xs ++ news) → W.grownBy W' v.ownBlock → (∀ k, v'.ownBlock = some k → v.ownBlock = some k ∨ W.heap.size ≤ k) → wpList Try.prog ops Q rest (a.put o.dst v') W') :
    wpList Try.prog ops Q (o :: rest) a W := by
  refine wpList_plain hgd fun K hK2 => ?_
  obtain ⟨v', W', hrun, r1, r2, r3⟩ := own_app t o.type e i z size bytes hu hi hz hsize hby hzs hsz h hb ad m c news hl hnews h1 h63 hbytes
  unfold Oper.wp execOp
  simp only [ho, resolve, invoke, builtin, Sem.run_bind, Sem.run_pure, Result.andThen_ok, List.map_toArray, List.map_cons, List.map_nil, hs, hx, hrun]
  exact hK2 _ _ (hK v' W' r1 r2 r3)
/-- An append of integers to an empty row that has just been made: none, or some. -/
theorem wpList_ints {ops : Array Oper} {rest : List Oper} {o : Oper} {a : Act} {Q : Exit → Act → World → Prop} {W : World} {base g0 : Nat} (hgd : o.guard = none) (s x : Operand)
    (ho : o.op = .call { callee := .builtin .append, args := #[s, x], argTypes := #[36, 36] }) {A : List Int} {vx : Value} (hs : a.eval s = .slice (some ⟨g0, 0, none⟩) 0 0) (h : W.ownsRow base 3 1 (.slice (some ⟨g0, 0, none⟩) 0 0) 0 []) (hb : base ≤ W.heap.size)
    (hx : a.eval x = vx) (hM : SlcIn W vx A.length (A.map (Value.int .i64))) (h1 : A.length ≤ 1000)
    (hK : ∀ p' c' W', W'.ownsRow base 3 1 (.slice p' A.length c') A.length (A.map (Value.int .i64)) → Below base W W' → W.heap.size ≤ W'.heap.size → wpList Try.prog ops Q rest (a.put o.dst (.slice p' A.length c')) W') :
    wpList Try.prog ops Q (o :: rest) a W := by
  obtain ⟨i0, g0', g1, g2, g3⟩ := info_parts info_int9
  refine wpList_plain hgd fun K hK2 => ?_
  obtain ⟨p, c, rfl, h2, h3, h4⟩ := hM
  rcases p with _ | ad
  · have hT : A = [] := by
      rcases h4 with h4 | ⟨_, _, h4, _⟩
      · exact List.length_eq_zero_iff.1 h4
      · cases h4
    subst hT
    have hrun : (Builtin.append_ #[36, 36] o.type #[.slice (some ⟨g0, 0, none⟩) 0 0, .slice none 0 c]).run Try.prog W = .ok (.slice (some ⟨g0, 0, none⟩) 0 0) W := by
      simp [Builtin.append_, run_underlying (P := Try.prog) (show Try.prog.underlying 36 = some (.slice 3) by kernel_rfl), sizeOf, typeInfo, g0', Builtin.lenOf, Builtin.firstCells, storeCells]
    unfold Oper.wp
    simp [execOp, ho, resolve, invoke, builtin, hs, hx, hrun, Result.andThen]
    exact hK2 _ _ (hK _ _ W h (Below.refl _ _) (Nat.le_refl _))
  · have hnews : ∀ (j : Nat) (u : Value), (A.map (Value.int .i64))[j]? = some u → W.cell? (ad.add j) = some u := fun j u hu => by
      rcases h4 with h4 | ⟨g, o2, h4, h5⟩
      · rw [List.length_eq_zero_iff.1 h4] at hu; simp at hu
      · rw [Option.some.inj h4, Addr.add_lit]; exact h5 j u hu
    obtain ⟨v', W', hrun, r1, r2, r3⟩ := own_app 36 o.type 3 i0 _ 1 8 (by kernel_rfl) g0' g1 g2 g3 rfl (by decide) h hb ad A.length c (A.map (Value.int .i64)) (by simp) hnews (by intro u hu; obtain ⟨y, _, rfl⟩ := List.mem_map.1 hu; rfl) (by unfold maxLen; omega) (by omega)
    unfold Oper.wp execOp
    simp only [ho, resolve, invoke, builtin, Sem.run_bind, Sem.run_pure, Result.andThen_ok, List.map_toArray, List.map_cons, List.map_nil, hs, hx, hrun]
    rw [Nat.zero_add, List.nil_append] at r1
    obtain ⟨p', c', rfl, _⟩ := SlcIn.own r1
    exact hK2 _ _ (hK p' c' W' r1 (grown_base h r2 hb) r2.size)
/-- A row that the call has just made, in a world that only grew. -/
theorem elem_new {wr w5 : World} {v x : Value} {A : List Int} {n : Nat} (hv : ∀ k, v.ownBlock = some k → k < wr.heap.size) (hn : n = A.length) (ho : w5.ownsRow wr.heap.size 3 1 x n (A.map (Value.int .i64))) : Elem w5 v.ownBlock x A := by
  subst hn
  refine ⟨SlcIn.own ho, fun _ k hk e => ?_⟩
  have h1 := hv k e
  have h2 := (ho.lt k hk).1
  omega
theorem elems_later {wr w5 : World} {v : Value} {vs : List Value} {PP : List (List Int)} (h2 : ∀ (i : Nat) (A : List Int), PP[i]? = some A → ∃ x, vs[i]? = some x ∧ Elem wr v.ownBlock x A) (hb : Below wr.heap.size wr w5) : ∀ (i : Nat) (A : List Int), PP[i]? = some A → ∃ x, vs[i]? = some x ∧ Elem w5 v.ownBlock x A := fun i A hA => by
  obtain ⟨x, hx, he⟩ := h2 i A hA
  exact ⟨x, hx, he.kept (fun k hk _ => hb.block k hk) fun k hk => .inl hk⟩
end Go.Proofs.Ytncnpodanlhdkaa
