/-
  without, Minimal: tickets that contradict each other.
-/
import Derived.Test.YtlkefifffkhclaaWChange
import Derived.WalkSpells
namespace Go.Proofs.Ytlkefifffkhclaa
set_option linter.all false
open Go.RowKit

def wide (t : Tk) : Tk := ⟨t.id, t.src, t.dst, 0, 999999999⟩
def withoutF (T : List Tk) (i : Nat) : List Tk := T.set i (wide (T.getD i noTk))
theorem tk_flat_len (T : List Tk) : (T.flatMap tkC).length = T.length * 5 := by
  induction T with
  | nil => rfl
  | cons t T ih => rw [List.flatMap_cons, List.length_append, ih, List.length_cons, Nat.add_mul, Nat.add_comm]; rfl
theorem tk_flat_one (T : List Tk) : ∀ u ∈ T.flatMap tkC, u.oneCell' = true := by
  intro u hu
  obtain ⟨t, _, hu⟩ := List.mem_flatMap.1 hu
  unfold tkC at hu
  simp only [List.mem_cons, List.not_mem_nil, or_false] at hu
  rcases hu with rfl | rfl | rfl | rfl | rfl <;> rfl
theorem tk_step (y : Tk) (M : List Value) (i j : Nat) (v : Value) : (tkC y ++ M).set ((i + 1) * 5 + j) v = tkC y ++ M.set (i * 5 + j) v := by
  rw [List.set_append_right _ _ (by show 5 ≤ _; omega), show (i + 1) * 5 + j - (tkC y).length = i * 5 + j by show (i + 1) * 5 + j - 5 = _; omega]
theorem tk_range : ∀ (L : List Tk) (i : Nat) (x : Tk) (l h : Int), L[i]? = some x → ((L.flatMap tkC).set (i * 5 + 3) (.int .i64 l)).set (i * 5 + 4) (.int .i64 h) = (L.set i ⟨x.id, x.src, x.dst, l, h⟩).flatMap tkC
  | [], _, _, _, _, h => by simp at h
  | z :: L, 0, x, l, h, e => by
    simp at e
    subst e
    rfl
  | z :: L, i + 1, x, l, h, e => by
    have e' : L[i]? = some x := by simpa using e
    rw [List.flatMap_cons, tk_step, tk_step, tk_range L i x l h e']
    rfl
theorem info_tk : (Try.prog.info? 76).map (fun i => (i.zero, i.size, i.bytes)) = some (some (.agg #[.string ⟨#[]⟩, .int .i64 0, .int .i64 0, .int .i64 0, .int .i64 0]), 5, 48) := by kernel_rfl
def OwnPost (W : World) (e : TypeId) (size : Nat) (n : Nat) (cs : List Value) (e' : Ending) (W' : World) : Prop := ∃ v, e' = .returned v ∧ W'.ownsRow W.heap.size e size v n cs ∧ Below W.heap.size W W'

set_option maxRecDepth 100000 in
set_option maxHeartbeats 4000000 in
theorem clone_any (T : List Tk) (v : Value) (W : World) (h : SlcIn W v T.length (T.flatMap tkC)) (h0 : T.length ≠ 0) (h1 : T.length ≤ 1000) : Calls Try.prog 66 #[v] W (OwnPost W 76 5 T.length (T.flatMap tkC)) := by
  obtain ⟨i0, g0, g1, g2, g3⟩ := info_parts info_tk
  have HI : Hid (Try.prog.info? 76 = some i0 ∧ i0.zero = some (.agg #[.string ⟨#[]⟩, .int .i64 0, .int .i64 0, .int .i64 0, .int .i64 0]) ∧ i0.size = 5 ∧ i0.bytes = 48) := hid ⟨g0, g1, g2, g3⟩
  obtain ⟨p, c, rfl, h2, h3, h4 | ⟨g, o, rfl, h5⟩⟩ := h
  · exact absurd h4 h0
  obtain ⟨n, hn⟩ : ∃ n, n = T.length := ⟨_, rfl⟩
  rw [← hn] at h0 h1 h2 ⊢
  have HC := hid h5
  have HN := hid hn
  have HM : Hid (World.ownsRow (W.alloc (.cells #[] 76)) W.heap.size 76 5 (.slice (some ⟨W.heap.size, 0, none⟩) 0 0) 0 []) := hid (World.ownsRow_made W #[] 0 (Nat.le_refl _) (Nat.zero_le _) rfl)
  have HLN : Hid ((T.flatMap tkC).length = n * 5) := hid (by rw [hn]; exact tk_flat_len T)
  have HON := hid (tk_flat_one T)
  have HB := hid (below_new W (.cells #[] 76))
  have HNW : Hid (∀ (j : Nat) (u : Value), (T.flatMap tkC)[j]? = some u → (W.alloc (.cells #[] 76)).cell? ((⟨g, o, none⟩ : Addr).add j) = some u) := hid (fun j u hu => by
    rw [Addr.add_lit]
    have h := h5 j u hu
    exact ((below_new W _).cell (p := ⟨g, o + j, none⟩) (World.block_lt_of_cell? W _ h)).trans h)
  clear g0 g1 g2 g3 h5 hn h3
  have hq := fun (w : World) => Lib.run_eql_slice_nil (P := Try.prog) w 48 76 (some ⟨g, o, none⟩) n c 0 0 (by kernel_rfl)
  go_enter Try.func66, Try.ntmps66
  go_wp2_with (at_builtin; refine wpList_append_own _ rfl _ _ 48 rfl W.heap.size 76 i0 (.agg #[.string ⟨#[]⟩, .int .i64 0, .int .i64 0, .int .i64 0, .int .i64 0]) 5 48 (by kernel_rfl) HI.out.1 HI.out.2.1 HI.out.2.2.1 HI.out.2.2.2 rfl (by decide) _ _ _ rfl HM.out ⟨g, o, none⟩ n c (T.flatMap tkC) rfl HLN.out HNW.out HON.out (by unfold maxLen; omega) (by omega) (by simp) ?_; intro v6 w6 ho6 hg6 _; have HB6 := hid (HB.out.trans ((grown_base HM.out hg6 (by simp)))); have HO6 := hid ho6; clear hg6 ho6)
  go_ret
  have ho := HO6.out
  rw [Nat.zero_add, List.nil_append] at ho
  exact ⟨v6, rfl, ho, HB6.out⟩

def WithoutPost (W : World) (v1 : Value) (n : Nat) (cs : List Value) (e : Ending) (W' : World) : Prop := ∃ v, e = .returned (.agg #[v1, v]) ∧ W'.ownsRow W.heap.size 76 5 v n cs ∧ Below W.heap.size W W'

set_option maxRecDepth 100000 in
set_option maxHeartbeats 4000000 in
theorem without_any (T : List Tk) (i : Nat) (v1 v2 : Value) (W : World) (h : SlcIn W v2 T.length (T.flatMap tkC)) (hi : i < T.length) (h1 : T.length ≤ 1000) (hv : v1.cells.size = 1) (hs : ∃ p n c, v1 = .slice p n c) : Calls Try.prog 55 #[.agg #[v1, v2], .int .i64 i] W (WithoutPost W v1 T.length ((withoutF T i).flatMap tkC)) := by
  obtain ⟨p1, n1, c1, rfl⟩ := hs
  obtain ⟨p2, c2, rfl, hm2⟩ := h.shape
  obtain ⟨n, hn⟩ : ∃ n, n = T.length := ⟨_, rfl⟩
  obtain ⟨w1, hw1⟩ : ∃ w1, w1 = (W.alloc (.cells #[.slice p1 n1 c1, .slice p2 n c2] 50)).alloc (.cells #[.slice none 0 0, .slice none 0 0] 50) := ⟨_, rfl⟩
  have hb1 : Below W.heap.size W w1 := by rw [hw1]; exact (below_new W _).alloc (by simp) _
  have hB1 : Blk w1 W.heap.size #[.slice p1 n1 c1, .slice p2 n c2] 50 := by rw [hw1]; exact (Blk.new W _ _).alloc _
  have hR1 : Blk w1 (W.heap.size + 1) #[.slice none 0 0, .slice none 0 0] 50 := by rw [hw1]; exact Blk_newn _ _ _ (by simp)
  obtain ⟨t, ht⟩ : ∃ t, T[i]? = some t := ⟨_, List.getElem?_eq_getElem hi⟩
  have HC := hid (clone_any T _ w1 (h.later hb1) (by omega) h1)
  have HWF : Hid (((T.flatMap tkC).set (i * 5 + 3) (.int .i64 0)).set (i * 5 + 4) (.int .i64 999999999) = (withoutF T i).flatMap tkC) := hid (by
    have e : withoutF T i = T.set i ⟨t.id, t.src, t.dst, 0, 999999999⟩ := by unfold withoutF wide; rw [List.getD_eq_getElem?_getD, ht]; rfl
    rw [e]
    exact tk_range T i t 0 999999999 ht)
  rw [← hn] at HC h1 hi ⊢
  have q0 := hB1.cell (i := 0) rfl
  have q1 := hB1.cell (i := 1) rfl
  have HB1 := hid hb1
  have HBL := hid hB1
  have HRL := hid hR1
  have HW1 := hid hw1
  have hge : W.heap.size + 1 < w1.heap.size := hR1.lt
  have HGT : Hid (∀ j, j < n * 5 → ∃ u, (T.flatMap tkC)[j]? = some u) := hid (fun j hj => ⟨_, List.getElem?_eq_getElem (by rw [tk_flat_len, ← hn]; exact hj)⟩)
  clear h hb1 hB1 hR1 hw1 hm2 ht hn hv
  go_enter Try.func55, Try.ntmps55
  go_wp2_with (first | (rw [← HW1.out]) | (go_at_call 66; (with_reducible refine HC.out.mono ?_); rintro e w2 ⟨v, rfl, ho, hb⟩; obtain ⟨g, cv, rfl, hg⟩ := row_some ho (by omega); have HO := hid ho; have HB2 := hid hb; have HBL2 := hid (HBL.out.later hb HBL.out.lt); have HRL2 := hid (HRL.out.later hb HRL.out.lt); have HG := hid hg; obtain ⟨u3, hu3⟩ := HGT.out (i * 5 + 3) (by omega); obtain ⟨u4, hu4⟩ := HGT.out (i * 5 + 4) (by omega); have k3 := (ho.cellAt (i * 5 + 3) (by omega)).trans hu3; have k4 := (ho.cellAt (i * 5 + 4) (by omega)).trans hu4; have f3 := ho.frozenAt (i * 5 + 3); have f4 := ho.frozenAt (i * 5 + 4); have HO2 := hid (((ho.stored (i * 5 + 3) (.int .i64 0)).1.stored (i * 5 + 4) (.int .i64 999999999)).1); have HBL3 := hid ((HBL2.out.setOther (k := g) (i * 5 + 3) (.int .i64 0) (by omega)).setOther (k := g) (i * 5 + 4) (.int .i64 999999999) (by omega)); have HRL3 := hid ((HRL2.out.setOther (k := g) (i * 5 + 3) (.int .i64 0) (by omega)).setOther (k := g) (i * 5 + 4) (.int .i64 999999999) (by omega)); have d0 := HBL3.out.cell (i := 0) rfl; have e0 := HRL3.out.cell (i := 0) rfl; have e1 := HRL3.out.cell (i := 1) rfl; have z0 := HRL3.out.froz 0; have z1 := HRL3.out.froz 1; clear ho hb hg hu3 hu4))
  have HE := hid (HO2.out)
  rw [HWF.out] at HE
  have HF : Hid (World.ownsRow ((((w2.setCell ⟨g, i * 5 + 3, none⟩ (.int .i64 0)).setCell ⟨g, i * 5 + 4, none⟩ (.int .i64 999999999)).setCell ⟨W.heap.size + 1, 0, none⟩ (.slice p1 n1 c1)).setCell ⟨W.heap.size + 1, 1, none⟩ (.slice (some ⟨g, 0, none⟩) n cv)) W.heap.size 76 5 (.slice (some ⟨g, 0, none⟩) n cv) n ((withoutF T i).flatMap tkC)) := hid (own_set (own_set (HE.out.mono (by omega)) (fun k hk => by have h1 : g = k := Option.some.inj hk; have := HG.out; omega)) (fun k hk => by have h1 : g = k := Option.some.inj hk; have := HG.out; omega))
  have HBE : Hid (Below W.heap.size W ((((w2.setCell ⟨g, i * 5 + 3, none⟩ (.int .i64 0)).setCell ⟨g, i * 5 + 4, none⟩ (.int .i64 999999999)).setCell ⟨W.heap.size + 1, 0, none⟩ (.slice p1 n1 c1)).setCell ⟨W.heap.size + 1, 1, none⟩ (.slice (some ⟨g, 0, none⟩) n cv))) := hid (((((HB1.out.trans (HB2.out.mono (by omega))).setCell (p := ⟨g, i * 5 + 3, none⟩) (show W.heap.size ≤ g by have := HG.out; omega) _).setCell (p := ⟨g, i * 5 + 4, none⟩) (show W.heap.size ≤ g by have := HG.out; omega) _).setCell (p := ⟨W.heap.size + 1, 0, none⟩) (by simp) _).setCell (p := ⟨W.heap.size + 1, 1, none⟩) (by simp) _)
  have HRF := hid ((HRL3.out.set 0 (.slice p1 n1 c1)).set 1 (.slice (some ⟨g, 0, none⟩) n cv))
  refine bodyPost_ret (v := .agg #[.slice p1 n1 c1, .slice (some ⟨g, 0, none⟩) n cv]) ?_ rfl ⟨_, rfl, HF.out, HBE.out⟩
  have r1 : (loadVar 50 ⟨W.heap.size + 1, 0, none⟩).run Try.prog ((((w2.setCell ⟨g, i * 5 + 3, none⟩ (.int .i64 0)).setCell ⟨g, i * 5 + 4, none⟩ (.int .i64 999999999)).setCell ⟨W.heap.size + 1, 0, none⟩ (.slice p1 n1 c1)).setCell ⟨W.heap.size + 1, 1, none⟩ (.slice (some ⟨g, 0, none⟩) n cv)) = .ok (.agg #[.slice p1 n1 c1, .slice (some ⟨g, 0, none⟩) n cv]) _ :=
    run_loadVar_row _ (W.heap.size + 1) 50 50 _ (0, 0) (.struct (Try.prog.fieldsOf 50)) HRF.out (by kernel_rfl) rfl (by kernel_rfl)
  simp [results, Try.results55, asAddr, Act.put, r1]
end Go.Proofs.Ytlkefifffkhclaa
