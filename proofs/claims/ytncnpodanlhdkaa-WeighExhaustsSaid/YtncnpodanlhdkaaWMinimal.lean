/-
  Minimal: tickets that contradict each other.
-/
import Derived.Test.YtncnpodanlhdkaaWChange
import Derived.WalkSpells
namespace Go.Proofs.Ytncnpodanlhdkaa
set_option linter.all false
open Go.RowKit

def wide (t : Tk) : Tk := ⟨t.id, t.src, t.dst, 0, 999999999⟩
def withoutF (T : List Tk) (i : Nat) : List Tk := T.set i (wide (T.getD i noTk))
theorem tk_flat_len (T : List Tk) : (T.flatMap tkC).length = T.length * 5 := by
  induction T with
  | nil => rfl
  | cons t T ih => rw [List.flatMap_cons, List.length_append, ih, List.length_cons, Nat.add_mul, Nat.add_comm]; rfl
theorem tk_flat_one (T : List Tk) : ∀ u ∈ T.flatMap tkC, u.oneCell' = true := by
  intro u hu
  obtain ⟨t, _, hu⟩ := List.mem_flatMap.1 hu
  unfold tkC at hu
  simp only [List.mem_cons, List.not_mem_nil, or_false] at hu
  rcases hu with rfl | rfl | rfl | rfl | rfl <;> rfl
theorem tk_step (y : Tk) (M : List Value) (i j : Nat) (v : Value) : (tkC y ++ M).set ((i + 1) * 5 + j) v = tkC y ++ M.set (i * 5 + j) v := by
  rw [List.set_append_right _ _ (by show 5 ≤ _; omega), show (i + 1) * 5 + j - (tkC y).length = i * 5 + j by show (i + 1) * 5 + j - 5 = _; omega]
theorem tk_range : ∀ (L : List Tk) (i : Nat) (x : Tk) (l h : Int), L[i]? = some x → ((L.flatMap tkC).set (i * 5 + 3) (.int .i64 l)).set (i * 5 + 4) (.int .i64 h) = (L.set i ⟨x.id, x.src, x.dst, l, h⟩).flatMap tkC
  | [], _, _, _, _, h => by simp at h
  | z :: L, 0, x, l, h, e => by
    simp at e
    subst e
    rfl
  | z :: L, i + 1, x, l, h, e => by
    have e' : L[i]? = some x := by simpa using e
    rw [List.flatMap_cons, tk_step, tk_step, tk_range L i x l h e']
    rfl
theorem info_tk : (Try.prog.info? 59).map (fun i => (i.zero, i.size, i.bytes)) = some (some (.agg #[.string ⟨#[]⟩, .int .i64 0, .int .i64 0, .int .i64 0, .int .i64 0]), 5, 48) := by kernel_rfl
def OwnPost (W : World) (e : TypeId) (size : Nat) (n : Nat) (cs : List Value) (e' : Ending) (W' : World) : Prop := ∃ v, e' = .returned v ∧ W'.ownsRow W.heap.size e size v n cs ∧ Below W.heap.size W W'

set_option maxRecDepth 100000 in
set_option maxHeartbeats 4000000 in
theorem clone_any (T : List Tk) (v : Value) (W : World) (h : SlcIn W v T.length (T.flatMap tkC)) (h0 : T.length ≠ 0) (h1 : T.length ≤ 1000) : Calls Try.prog 87 #[v] W (OwnPost W 59 5 T.length (T.flatMap tkC)) := by
  obtain ⟨i0, g0, g1, g2, g3⟩ := info_parts info_tk
  have HI : Hid (Try.prog.info? 59 = some i0 ∧ i0.zero = some (.agg #[.string ⟨#[]⟩, .int .i64 0, .int .i64 0, .int .i64 0, .int .i64 0]) ∧ i0.size = 5 ∧ i0.bytes = 48) := hid ⟨g0, g1, g2, g3⟩
  obtain ⟨p, c, rfl, h2, h3, h4 | ⟨g, o, rfl, h5⟩⟩ := h
  · exact absurd h4 h0
  obtain ⟨n, hn⟩ : ∃ n, n = T.length := ⟨_, rfl⟩
  rw [← hn] at h0 h1 h2 ⊢
  have HC := hid h5
  have HN := hid hn
  have HM : Hid (World.ownsRow (W.alloc (.cells #[] 59)) W.heap.size 59 5 (.slice (some ⟨W.heap.size, 0, none⟩) 0 0) 0 []) := hid (World.ownsRow_made W #[] 0 (Nat.le_refl _) (Nat.zero_le _) rfl)
  have HLN : Hid ((T.flatMap tkC).length = n * 5) := hid (by rw [hn]; exact tk_flat_len T)
  have HON := hid (tk_flat_one T)
  have HB := hid (below_new W (.cells #[] 59))
  have HNW : Hid (∀ (j : Nat) (u : Value), (T.flatMap tkC)[j]? = some u → (W.alloc (.cells #[] 59)).cell? ((⟨g, o, none⟩ : Addr).add j) = some u) := hid (fun j u hu => by
    rw [Addr.add_lit]
    have h := h5 j u hu
    exact ((below_new W _).cell (p := ⟨g, o + j, none⟩) (World.block_lt_of_cell? W _ h)).trans h)
  clear g0 g1 g2 g3 h5 hn h3
  have hq := fun (w : World) => Lib.run_eql_slice_nil (P := Try.prog) w 23 59 (some ⟨g, o, none⟩) n c 0 0 (by kernel_rfl)
  go_enter Try.func87, Try.ntmps87
  go_wp2_with (at_builtin; refine wpList_append_own _ rfl _ _ 23 rfl W.heap.size 59 i0 (.agg #[.string ⟨#[]⟩, .int .i64 0, .int .i64 0, .int .i64 0, .int .i64 0]) 5 48 (by kernel_rfl) HI.out.1 HI.out.2.1 HI.out.2.2.1 HI.out.2.2.2 rfl (by decide) _ _ _ rfl HM.out ⟨g, o, none⟩ n c (T.flatMap tkC) rfl HLN.out HNW.out HON.out (by unfold maxLen; omega) (by omega) (by simp) ?_; intro v6 w6 ho6 hg6 _; have HB6 := hid (HB.out.trans ((grown_base HM.out hg6 (by simp)))); have HO6 := hid ho6; clear hg6 ho6)
  go_ret
  have ho := HO6.out
  rw [Nat.zero_add, List.nil_append] at ho
  exact ⟨v6, rfl, ho, HB6.out⟩

def WithoutPost (W : World) (v1 : Value) (n : Nat) (cs : List Value) (e : Ending) (W' : World) : Prop := ∃ v, e = .returned (.agg #[v1, v]) ∧ W'.ownsRow W.heap.size 59 5 v n cs ∧ Below W.heap.size W W'

set_option maxRecDepth 100000 in
set_option maxHeartbeats 4000000 in
theorem without_any (T : List Tk) (i : Nat) (v1 v2 : Value) (W : World) (h : SlcIn W v2 T.length (T.flatMap tkC)) (hi : i < T.length) (h1 : T.length ≤ 1000) (hv : v1.cells.size = 1) (hs : ∃ p n c, v1 = .slice p n c) : Calls Try.prog 63 #[.agg #[v1, v2], .int .i64 i] W (WithoutPost W v1 T.length ((withoutF T i).flatMap tkC)) := by
  obtain ⟨p1, n1, c1, rfl⟩ := hs
  obtain ⟨p2, c2, rfl, hm2⟩ := h.shape
  obtain ⟨n, hn⟩ : ∃ n, n = T.length := ⟨_, rfl⟩
  obtain ⟨w1, hw1⟩ : ∃ w1, w1 = (W.alloc (.cells #[.slice p1 n1 c1, .slice p2 n c2] 25)).alloc (.cells #[.slice none 0 0, .slice none 0 0] 25) := ⟨_, rfl⟩
  have hb1 : Below W.heap.size W w1 := by rw [hw1]; exact (below_new W _).alloc (by simp) _
  have hB1 : Blk w1 W.heap.size #[.slice p1 n1 c1, .slice p2 n c2] 25 := by rw [hw1]; exact (Blk.new W _ _).alloc _
  have hR1 : Blk w1 (W.heap.size + 1) #[.slice none 0 0, .slice none 0 0] 25 := by rw [hw1]; exact Blk_newn _ _ _ (by simp)
  obtain ⟨t, ht⟩ : ∃ t, T[i]? = some t := ⟨_, List.getElem?_eq_getElem hi⟩
  have HC := hid (clone_any T _ w1 (h.later hb1) (by omega) h1)
  have HWF : Hid (((T.flatMap tkC).set (i * 5 + 3) (.int .i64 0)).set (i * 5 + 4) (.int .i64 999999999) = (withoutF T i).flatMap tkC) := hid (by
    have e : withoutF T i = T.set i ⟨t.id, t.src, t.dst, 0, 999999999⟩ := by unfold withoutF wide; rw [List.getD_eq_getElem?_getD, ht]; rfl
    rw [e]
    exact tk_range T i t 0 999999999 ht)
  rw [← hn] at HC h1 hi ⊢
  have q0 := hB1.cell (i := 0) rfl
  have q1 := hB1.cell (i := 1) rfl
  have HB1 := hid hb1
  have HBL := hid hB1
  have HRL := hid hR1
  have HW1 := hid hw1
  have hge : W.heap.size + 1 < w1.heap.size := hR1.lt
  have HGT : Hid (∀ j, j < n * 5 → ∃ u, (T.flatMap tkC)[j]? = some u) := hid (fun j hj => ⟨_, List.getElem?_eq_getElem (by rw [tk_flat_len, ← hn]; exact hj)⟩)
  clear h hb1 hB1 hR1 hw1 hm2 ht hn hv
  go_enter Try.func63, Try.ntmps63
  go_wp2_with (first | (rw [← HW1.out]) | (go_at_call 87; (with_reducible refine HC.out.mono ?_); rintro e w2 ⟨v, rfl, ho, hb⟩; obtain ⟨g, cv, rfl, hg⟩ := row_some ho (by omega); have HO := hid ho; have HB2 := hid hb; have HBL2 := hid (HBL.out.later hb HBL.out.lt); have HRL2 := hid (HRL.out.later hb HRL.out.lt); have HG := hid hg; obtain ⟨u3, hu3⟩ := HGT.out (i * 5 + 3) (by omega); obtain ⟨u4, hu4⟩ := HGT.out (i * 5 + 4) (by omega); have k3 := (ho.cellAt (i * 5 + 3) (by omega)).trans hu3; have k4 := (ho.cellAt (i * 5 + 4) (by omega)).trans hu4; have f3 := ho.frozenAt (i * 5 + 3); have f4 := ho.frozenAt (i * 5 + 4); have HO2 := hid (((ho.stored (i * 5 + 3) (.int .i64 0)).1.stored (i * 5 + 4) (.int .i64 999999999)).1); have HBL3 := hid ((HBL2.out.setOther (k := g) (i * 5 + 3) (.int .i64 0) (by omega)).setOther (k := g) (i * 5 + 4) (.int .i64 999999999) (by omega)); have HRL3 := hid ((HRL2.out.setOther (k := g) (i * 5 + 3) (.int .i64 0) (by omega)).setOther (k := g) (i * 5 + 4) (.int .i64 999999999) (by omega)); have d0 := HBL3.out.cell (i := 0) rfl; have e0 := HRL3.out.cell (i := 0) rfl; have e1 := HRL3.out.cell (i := 1) rfl; have z0 := HRL3.out.froz 0; have z1 := HRL3.out.froz 1; clear ho hb hg hu3 hu4))
  have HE := hid (HO2.out)
  rw [HWF.out] at HE
  have HF : Hid (World.ownsRow ((((w2.setCell ⟨g, i * 5 + 3, none⟩ (.int .i64 0)).setCell ⟨g, i * 5 + 4, none⟩ (.int .i64 999999999)).setCell ⟨W.heap.size + 1, 0, none⟩ (.slice p1 n1 c1)).setCell ⟨W.heap.size + 1, 1, none⟩ (.slice (some ⟨g, 0, none⟩) n cv)) W.heap.size 59 5 (.slice (some ⟨g, 0, none⟩) n cv) n ((withoutF T i).flatMap tkC)) := hid (own_set (own_set (HE.out.mono (by omega)) (fun k hk => by have h1 : g = k := Option.some.inj hk; have := HG.out; omega)) (fun k hk => by have h1 : g = k := Option.some.inj hk; have := HG.out; omega))
  have HBE : Hid (Below W.heap.size W ((((w2.setCell ⟨g, i * 5 + 3, none⟩ (.int .i64 0)).setCell ⟨g, i * 5 + 4, none⟩ (.int .i64 999999999)).setCell ⟨W.heap.size + 1, 0, none⟩ (.slice p1 n1 c1)).setCell ⟨W.heap.size + 1, 1, none⟩ (.slice (some ⟨g, 0, none⟩) n cv))) := hid (((((HB1.out.trans (HB2.out.mono (by omega))).setCell (p := ⟨g, i * 5 + 3, none⟩) (show W.heap.size ≤ g by have := HG.out; omega) _).setCell (p := ⟨g, i * 5 + 4, none⟩) (show W.heap.size ≤ g by have := HG.out; omega) _).setCell (p := ⟨W.heap.size + 1, 0, none⟩) (by simp) _).setCell (p := ⟨W.heap.size + 1, 1, none⟩) (by simp) _)
  have HRF := hid ((HRL3.out.set 0 (.slice p1 n1 c1)).set 1 (.slice (some ⟨g, 0, none⟩) n cv))
  refine bodyPost_ret (v := .agg #[.slice p1 n1 c1, .slice (some ⟨g, 0, none⟩) n cv]) ?_ rfl ⟨_, rfl, HF.out, HBE.out⟩
  have r1 : (loadVar 25 ⟨W.heap.size + 1, 0, none⟩).run Try.prog ((((w2.setCell ⟨g, i * 5 + 3, none⟩ (.int .i64 0)).setCell ⟨g, i * 5 + 4, none⟩ (.int .i64 999999999)).setCell ⟨W.heap.size + 1, 0, none⟩ (.slice p1 n1 c1)).setCell ⟨W.heap.size + 1, 1, none⟩ (.slice (some ⟨g, 0, none⟩) n cv)) = .ok (.agg #[.slice p1 n1 c1, .slice (some ⟨g, 0, none⟩) n cv]) _ :=
    run_loadVar_row _ (W.heap.size + 1) 25 25 _ (0, 0) (.struct (Try.prog.fieldsOf 25)) HRF.out (by kernel_rfl) rfl (by kernel_rfl)
  simp [results, Try.results63, asAddr, Act.put, r1]

open Go.RowKit

def minF (S : List (Int × Int)) (T : List Tk) : Nat → Option (List Tk × List Nat)
  | 0 => some (T, [])
  | k + 1 => match minF S T k with
    | none => none
    | some (T', L) => match settleF (newF S (withoutF T' k) []) with
      | none => none
      | some (_, true) => some (T', L ++ [k])
      | some (_, false) => some (withoutF T' k, L)
theorem min_back {S : List (Int × Int)} {T : List Tk} {k : Nat} {R : List Tk × List Nat} (h : minF S T (k + 1) = some R) : ∃ T' L N' r, minF S T k = some (T', L) ∧ settleF (newF S (withoutF T' k) []) = some (N', r) ∧ R = if r = true then (T', L ++ [k]) else (withoutF T' k, L) := by
  unfold minF at h
  split at h
  · cases h
  · rename_i T' L h1
    split at h
    · cases h
    · rename_i N' h2
      cases h
      exact ⟨T', L, N', true, h1, h2, rfl⟩
    · rename_i N' h2
      cases h
      exact ⟨T', L, N', false, h1, h2, rfl⟩
theorem min_some {S : List (Int × Int)} {T : List Tk} : ∀ {n : Nat} {R : List Tk × List Nat}, minF S T n = some R → ∀ k, k ≤ n → ∃ R', minF S T k = some R'
  | 0, R, h, k, hk => by rw [Nat.le_zero.1 hk]; exact ⟨R, h⟩
  | n + 1, R, h, k, hk => by
    by_cases e : k = n + 1
    · rw [e]; exact ⟨R, h⟩
    · obtain ⟨T', L, N', r, h1, _⟩ := min_back h
      exact min_some h1 k (by omega)
theorem tk_wide {S : List (Int × Int)} {T : List Tk} (h : TksOk S T) (i : Nat) : TksOk S (withoutF T i) := by
  refine ⟨by unfold withoutF; rw [List.length_set]; exact h.few, h.places, fun j t ht => ?_, h.rg⟩
  unfold withoutF at ht
  by_cases e : j = i
  · subst e
    rw [List.getElem?_set_self'] at ht
    cases hq : T[j]? with
    | none => rw [hq] at ht; cases ht
    | some q =>
      have hg : T.getD j noTk = q := by rw [List.getD_eq_getElem?_getD, hq]; rfl
      rw [hq, hg] at ht
      cases ht
      exact h.tk j q hq
  · rw [List.getElem?_set_ne (Ne.symm e)] at ht
    exact h.tk j t ht
theorem min_ok {S : List (Int × Int)} {T : List Tk} (h : TksOk S T) : ∀ {k : Nat} {T' : List Tk} {L : List Nat}, minF S T k = some (T', L) → TksOk S T' ∧ T'.length = T.length ∧ L.length ≤ k
  | 0, _, _, e => by cases e; exact ⟨h, rfl, Nat.le_refl _⟩
  | k + 1, _, _, e => by
    obtain ⟨T', L, N', r, h1, h2, h3⟩ := min_back e
    obtain ⟨h4, h5, h6⟩ := min_ok h h1
    cases r
    · cases h3
      exact ⟨tk_wide h4 k, by unfold withoutF; rw [List.length_set]; exact h5, by omega⟩
    · cases h3
      exact ⟨h4, h5, by rw [List.length_append]; show _ + 1 ≤ _; omega⟩
theorem wl_own {ops : Array Oper} {rest : List Oper} {o : Oper} {a : Act} {Q : Exit → Act → World → Prop} {W : World} {base : Nat} (hgd : o.guard = none) (s x : Operand) (t e : TypeId) (i : TypeInfo) (z : Value) (size bytes : Nat)
    (ho : o.op = .call { callee := .builtin .append, args := #[s, x], argTypes := #[t, t] }) (hu : Try.prog.underlying t = some (.slice e)) (hi : Try.prog.info? e = some i) (hz : i.zero = some z) (hsize : i.size = size) (hby : i.bytes = bytes) (hzs : z.cells.size = size) (hsz : 0 < size)
    {v : Value} {n : Nat} {xs : List Value} (hs : a.eval s = v) (h : W.ownsRow base e size v n xs) (hb : base ≤ W.heap.size) (ad : Addr) (m c : Nat) (news : List Value) (hx : a.eval x = .slice (some ad) m c) (hl : news.length = m * size) (hnews : ∀ j u, news[j]? = some u → W.cell? (ad.add j) = some u) (h1 : ∀ u ∈ news, u.oneCell' = true) (h63 : n + m ≤ maxLen) (hbytes : (n + m) * bytes ≤ 140737488355328)
    (hK : ∀ v' W', W'.ownsRow base e size v' (n + m) (xs ++ news) → W.grownBy W' v.ownBlock → (∀ k, v'.ownBlock = some k → v.ownBlock = some k ∨ W.heap.size ≤ k) → wpList Try.prog ops Q rest (a.put o.dst v') W') : wpList Try.prog ops Q (o :: rest) a W :=
  wpList_plain hgd fun _ hK' => by
    obtain ⟨v', W', hrun, r1, r2, r3⟩ := own_app t o.type e i z size bytes hu hi hz hsize hby hzs hsz h hb ad m c news hl hnews h1 h63 hbytes
    unfold Oper.wp execOp
    simp only [ho, resolve, invoke, builtin, Sem.run_bind, Sem.run_pure, Result.andThen_ok, List.map_toArray, List.map_cons, List.map_nil, hs, hx, hrun]
    exact hK' _ _ (hK v' W' r1 r2 r3)
theorem SlcIn.far {w w' : World} {v : Value} {n : Nat} {cs : List Value} (h : SlcIn w v n cs) (hb : ∀ q, v.ownBlock = some q → w'.heap[q]? = w.heap[q]?) : SlcIn w' v n cs := by
  obtain ⟨p, c, rfl, h2, h3, h4⟩ := h
  refine ⟨p, c, rfl, h2, h3, h4.imp id fun ⟨g, o, h5, h6⟩ => ⟨g, o, h5, fun j u hu => ?_⟩⟩
  subst h5
  rw [World.cell?_of_block (w := w) (hb g rfl)]
  exact h6 j u hu
theorem SlcIn.lt {w : World} {v : Value} {n : Nat} {cs : List Value} (h : SlcIn w v n cs) (h0 : n ≠ 0) (hc : 0 < cs.length) : ∀ q, v.ownBlock = some q → q < w.heap.size := by
  obtain ⟨p, c, rfl, h2, h3, h4 | ⟨g, o, rfl, h6⟩⟩ := h
  · exact absurd h4 h0
  · intro q hq
    cases hq
    exact World.block_lt_of_cell? w _ (h6 0 _ (List.getElem?_eq_getElem hc))
structure MinAt (W : World) (S : List (Int × Int)) (T : List Tk) (v1 : Value) (k : Nat) (wr : World) (v : Value) : Prop where
  at_ : ∃ T' L v2, minF S T k = some (T', L) ∧ (∃ p c, v2 = .slice p T.length c) ∧ Blk wr W.heap.size #[v1, v2] 25 ∧ SlcIn wr v2 T.length (T'.flatMap tkC) ∧ wr.ownsRow (W.heap.size + 1) 3 1 v L.length (natC L) ∧ ∀ q, v.ownBlock = some q → v2.ownBlock ≠ some q
  old : Below W.heap.size W wr
def MinPost (W : World) (L : List Nat) (e : Ending) (W' : World) : Prop := ∃ v, e = .returned (.tuple #[v, .int .i64 0]) ∧ W'.ownsRow W.heap.size 3 1 v L.length (natC L) ∧ Below W.heap.size W W'
theorem SlcIn.shape2 {w : World} {v : Value} {n : Nat} {cs : List Value} (h : SlcIn w v n cs) : ∃ p c, v = .slice p n c := by
  obtain ⟨p, c, h1, _⟩ := h
  exact ⟨p, c, h1⟩

set_option maxRecDepth 100000 in
set_option maxHeartbeats 8000000 in
theorem minimal_yes (S : List (Int × Int)) (T : List Tk) (N' : Net) (T2 : List Tk) (L : List Nat) (v1 v2 : Value) (W : World) (hb : BookIn W v1 v2 S T) (hx : bookErr S T = 0) (hs : settleF (newF S T []) = some (N', false)) (ht : minF S T T.length = some (T2, L)) :
    Calls Try.prog 31 #[.agg #[v1, v2]] W (MinPost W L) := by
  obtain ⟨i0, g0, g1, g2, g3⟩ := info_parts info_int9
  have HI : Hid (Try.prog.info? 3 = some i0 ∧ i0.zero = some (.int .i64 0) ∧ i0.size = 1 ∧ i0.bytes = 8) := hid ⟨g0, g1, g2, g3⟩
  obtain ⟨p1, c1, rfl, hm1⟩ := hb.stock.shape
  obtain ⟨p2, c2, rfl, hm2⟩ := hb.tickets.shape
  obtain ⟨nt, hnt⟩ : ∃ nt, nt = T.length := ⟨_, rfl⟩
  obtain ⟨w1, hw1⟩ : ∃ w1, w1 = W.alloc (.cells #[.slice p1 S.length c1, .slice p2 nt c2] 25) := ⟨_, rfl⟩
  have hb1 : Below W.heap.size W w1 := by rw [hw1]; exact below_new W _
  have hB1 : Blk w1 W.heap.size #[.slice p1 S.length c1, .slice p2 nt c2] 25 := by rw [hw1]; exact Blk.new W _ _
  have HC := hid (book_any S T _ _ w1 (hb.later hb1))
  have HA := hid (fun w (h : BookIn w (.slice p1 S.length c1) (.slice p2 T.length c2) S T) => isCons_any S T N' false _ _ w h (book_ok hx).1 hs)
  have HBK := hid (hb.later hb1)
  have HST := hid hb.stock
  rw [← hnt] at HC HA HBK ht ⊢
  have q0 := hB1.cell (i := 0) rfl
  have q1 := hB1.cell (i := 1) rfl
  have HB1 := hid hb1
  have HBL := hid hB1
  have HW1 := hid hw1
  have HT := hid ht
  have HOK := hid (book_ok hx).1
  have HNT := hid hnt
  have hle : nt ≤ 128 := by rw [hnt]; exact (book_ok hx).1.few
  have hge : W.heap.size + 1 ≤ w1.heap.size := hB1.lt
  rw [hx] at HC
  clear hb hw1 hb1 hB1 hm1 hm2 hx hs hnt ht g0 g1 g2 g3
  go_enter Try.func31, Try.ntmps31
  go_wp2_with (first | (rw [← HW1.out]) | (go_at_call 45; (with_reducible refine HC.out.mono ?_); rintro e w2 ⟨rfl, hb⟩; have HB2 := hid hb; have HBL2 := HBL.out.later hb HBL.out.lt; have d0 := HBL2.cell (i := 0) rfl; have d1 := HBL2.cell (i := 1) rfl; have HBL2 := hid HBL2; clear hb) | (go_at_call 46; (with_reducible refine (HA.out _ (HBK.out.later HB2.out)).mono ?_); rintro e w3 ⟨rfl, hb⟩; have HB4 := hid (HB1.out.trans ((HB2.out.trans (hb.mono HB2.out.size)).mono (by omega))); have HBL3 := hid (HBL2.out.later hb HBL2.out.lt); have HS3 := hid ((HBK.out.tickets.later HB2.out).later hb); have d3 := HBL3.out.cell (i := 1) rfl; clear hb))
  go_loopw [5, 18] (fun v u wr => ∃ k : Nat, k ≤ nt ∧ u = .int .i64 k ∧ Hid (MinAt W S T (.slice p1 S.length c1) k wr v)) (fun _ u _ => nt - (intOf u).toNat)
  case atStart => exact ⟨0, Nat.zero_le _, rfl, hid ⟨⟨T, [], _, rfl, ⟨p2, c2, by rw [HNT.out]⟩, HBL3.out, HS3.out, World.ownsRow_nil _ _ _ _, fun q hq => by cases hq⟩, HB4.out⟩⟩
  case round =>
    clear d0 d1 d3
    obtain ⟨k, hk, rfl, HR⟩ := hrel
    obtain ⟨Tk', Lk, vk, hmk, ⟨pk, ck, rfl⟩, hblk, hslk, hok, hap⟩ := HR.out.at_
    obtain ⟨pv, cv, rfl⟩ := row_slice hok
    obtain ⟨ho1, ho2, ho3⟩ := min_ok HOK.out hmk
    have hsz : W.heap.size < wr.heap.size := hblk.lt
    by_cases hlt : k < nt
    · obtain ⟨R, hR⟩ := min_some HT.out (k + 1) (by omega)
      obtain ⟨Ta, La, Nb, r, e1, e2, e3⟩ := min_back hR
      rw [hmk] at e1
      cases e1
      have HWO := hid (without_any Tk' k (.slice p1 S.length c1) (.slice pk T.length ck) wr (by rw [ho2]; exact hslk) (by rw [ho2, ← HNT.out]; exact hlt) (by rw [ho2, ← HNT.out]; omega) rfl ⟨_, _, _, rfl⟩)
      have HIC := hid (fun w v (h : BookIn w (.slice p1 S.length c1) v S (withoutF Tk' k)) => isCons_any S (withoutF Tk' k) Nb r _ _ w h (tk_wide ho1 k) e2)
      have HAP := hid hap
      have HLT := hid (hslk.lt (by rw [← HNT.out]; omega) (by rw [tk_flat_len, ho2, ← HNT.out]; omega))
      have HOK2 := hid hok
      have HBLK := hid hblk
      have HSLK := hid hslk
      have HO2 : Hid (Tk'.length = T.length) := hid ho2
      have HWL : Hid ((withoutF Tk' k).length = T.length) := hid (by unfold withoutF; rw [List.length_set]; exact ho2)
      have HR1 := hid hR
      have HMK := hid hmk
      have hLk : Lk.length ≤ 128 := by omega
      have b0 := hblk.cell (i := 0) rfl
      have b1 := hblk.cell (i := 1) rfl
      cases r
      · have HNX : Hid (minF S T (k + 1) = some (withoutF Tk' k, Lk)) := hid (by rw [hR, e3]; rfl)
        clear hmk hblk hslk hok hap ho1 ho2 ho3 hR e2 e3
        go_wp2_with (first | (go_at_call 63; (with_reducible refine HWO.out.mono ?_); rintro e w4 ⟨v4, rfl, ho4, hb4⟩; obtain ⟨p4, c4, rfl⟩ := row_slice ho4; have HO4 := hid (ho4.alloc (.cells #[.slice p1 S.length c1, .slice p4 Tk'.length c4] 25)); have HB5 : Hid (Below wr.heap.size wr (w4.alloc (.cells #[.slice p1 S.length c1, .slice p4 Tk'.length c4] 25))) := hid (hb4.trans ((below_new w4 _).mono hb4.size)); have HN5 := hid (Blk.new w4 #[.slice p1 S.length c1, .slice p4 Tk'.length c4] 25); clear ho4 hb4) | (go_at_call 46; (with_reducible refine (HIC.out _ _ ⟨HST.out.later (HR.out.old.trans (HB5.out.mono (by omega))), by have h := SlcIn.own HO4.out; rw [HWL.out, ← HO2.out]; exact h⟩).mono ?_); rintro e w6 ⟨rfl, hb6⟩; have HB6 := hid (HB5.out.trans (hb6.mono HB5.out.size)); have HN6 := hid (HN5.out.later hb6 HN5.out.lt); have HO6 := hid (ownsRow_later HO4.out hb6); have HBX := hid (HBLK.out.later HB6.out HBLK.out.lt); have x0 := HN6.out.cell (i := 0) rfl; have x1 := HN6.out.cell (i := 1) rfl; have y0 := HBX.out.cell (i := 0) rfl; have y1 := HBX.out.cell (i := 1) rfl; have z0 := HBX.out.froz 0; have z1 := HBX.out.froz 1; clear hb6))
        have HEND : Hid (MinAt W S T (.slice p1 S.length c1) (k + 1) ((w6.setCell ⟨W.heap.size, 0, none⟩ (.slice p1 S.length c1)).setCell ⟨W.heap.size, 1, none⟩ (.slice p4 Tk'.length c4)) (.slice pv Lk.length cv)) := hid ⟨⟨withoutF Tk' k, Lk, .slice p4 Tk'.length c4, HNX.out, ⟨p4, c4, by rw [HO2.out]⟩, (HBX.out.set 0 _).set 1 _, by
          have h := SlcIn.own (own_set (own_set HO6.out (a := W.heap.size) (j := 0) (u := .slice p1 S.length c1) (fun q hq => by have := (World.ownsRow.lt HO6.out q hq).1; omega)) (a := W.heap.size) (j := 1) (u := .slice p4 Tk'.length c4) (fun q hq => by have := (World.ownsRow.lt HO6.out q hq).1; omega))
          rw [← HO2.out]
          exact h, own_set (own_set (ownsRow_later HOK2.out HB6.out) (fun q hq => by have := (World.ownsRow.lt HOK2.out q hq).1; omega)) (fun q hq => by have := (World.ownsRow.lt HOK2.out q hq).1; omega), fun q hq hq2 => by have h1 := (World.ownsRow.lt HOK2.out q hq).2; have h2 := (World.ownsRow.lt HO4.out q hq2).1; omega⟩, ((HR.out.old.trans (HB6.out.mono (by omega))).setCell (p := ⟨W.heap.size, 0, none⟩) (Nat.le_refl _) _).setCell (p := ⟨W.heap.size, 1, none⟩) (Nat.le_refl _) _⟩
        go_roundw
        case rel => exact ⟨k + 1, by omega, by go_num, HEND⟩
        case measure => simp [intOf]; omega
      · have HNX : Hid (minF S T (k + 1) = some (Tk', Lk ++ [k])) := hid (by rw [hR, e3]; rfl)
        clear hmk hblk hslk hok hap ho1 ho2 ho3 hR e2 e3
        go_wp2_with (first | (go_at_call 63; (with_reducible refine HWO.out.mono ?_); rintro e w4 ⟨v4, rfl, ho4, hb4⟩; obtain ⟨p4, c4, rfl⟩ := row_slice ho4; have HO4 := hid (ho4.alloc (.cells #[.slice p1 S.length c1, .slice p4 Tk'.length c4] 25)); have HB5 : Hid (Below wr.heap.size wr (w4.alloc (.cells #[.slice p1 S.length c1, .slice p4 Tk'.length c4] 25))) := hid (hb4.trans ((below_new w4 _).mono hb4.size)); have HN5 := hid (Blk.new w4 #[.slice p1 S.length c1, .slice p4 Tk'.length c4] 25); clear ho4 hb4) | (go_at_call 46; (with_reducible refine (HIC.out _ _ ⟨HST.out.later (HR.out.old.trans (HB5.out.mono (by omega))), by have h := SlcIn.own HO4.out; rw [HWL.out, ← HO2.out]; exact h⟩).mono ?_); rintro e w6 ⟨rfl, hb6⟩; have HB6 := hid (HB5.out.trans (hb6.mono HB5.out.size)); have HO6 := hid (ownsRow_later HOK2.out HB6.out); have h6s : wr.heap.size ≤ w6.heap.size := HB6.out.size; clear hb6) | (at_builtin; refine wl_own rfl _ _ 36 3 i0 (.int .i64 0) 1 8 rfl (by kernel_rfl) HI.out.1 HI.out.2.1 HI.out.2.2.1 HI.out.2.2.2 rfl (by decide) rfl (HO6.out.alloc _) (by simp; omega) ⟨w6.heap.size, 0, none⟩ 1 1 [.int .i64 k] rfl rfl (cells_new1 w6 [.int .i64 k] 3) (by simp [Value.oneCell']) (by unfold maxLen; omega) (by omega) ?_; intro v7 w7 ho7 hg7 hv7; have HG7 := hid hg7; have HV7 := hid hv7; have HB7 := hid (((below_new w6 _).mono (show W.heap.size + 1 ≤ w6.heap.size by omega)).trans (grown_base (HO6.out.alloc _) hg7 (by simp; omega))); have HO7 := hid ho7; clear hg7 ho7 hv7))
        have HEND : Hid (MinAt W S T (.slice p1 S.length c1) (k + 1) w7 v7) := hid ⟨⟨Tk', Lk ++ [k], .slice pk T.length ck, HNX.out, ⟨pk, ck, rfl⟩, (HBLK.out.later HB6.out HBLK.out.lt).later HB7.out (by omega), (((HSLK.out.later HB6.out).later (below_new w6 _)).far fun q hq => HG7.out.block q (by have := HLT.out q hq; have := HB6.out.size; simp; omega) (fun e => HAP.out q e.symm hq)), by
          rw [List.length_append, natC_append]
          exact HO7.out, fun q hq hq2 => by
            have h1 := HLT.out q hq2
            have h2 := HB6.out.size
            rcases HV7.out q hq with h3 | h3
            · exact HAP.out q h3 hq2
            · simp at h3; omega⟩, HR.out.old.trans ((HB6.out.mono (by omega)).trans (HB7.out.mono (by omega)))⟩
        go_roundw
        case rel => exact ⟨k + 1, by omega, by go_num, HEND⟩
        case measure => simp [intOf]; omega
    · have hkn : k = nt := by omega
      subst hkn
      rw [HT.out] at hmk
      cases hmk
      have HOK2 := hid hok
      clear hblk hslk hok hap
      go_wp2_with fail
      go_ret2
      exact ⟨_, rfl, HOK2.out.mono (by omega), HR.out.old⟩
end Go.Proofs.Ytncnpodanlhdkaa
