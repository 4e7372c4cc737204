/-
  Round: a number that is rounded by a rule, as a text.
-/
import Derived.Test.YtocoghnopmjceaaGreatDoorMRounded
import Derived.Test.YtocoghnopmjceaaGreatDoorMNumWalk
import Derived.Deep.AppendLies
namespace Go.Proofs.YtocoghnopmjceaaGreatDoor
open Go.RowKit

/-- The rounded number of a text. -/
def roundOfQ (l : List UInt8) (k : ByteArray) (step : List UInt8) : Rat := roundQ ((ruleFn k).getD 0) (numQ l) (numQ step)

/-- What Round answers. -/
def RoundOf (l : List UInt8) (k : ByteArray) (step : List UInt8) (w : World) (e : Ending) (w' : World) : Prop :=
  if checkR l ≠ 0 then e = .returned (.tuple #[.string ⟨#[]⟩, .int .i64 (checkR l)]) ∧ Below w.heap.size w w'
  else if checkRule k step ≠ 0 then e = .returned (.tuple #[.string ⟨#[]⟩, .int .i64 (checkRule k step)]) ∧ Below w.heap.size w w'
  else RatOf (roundOfQ l k step) w e w'

theorem ratOf_mono {q : Rat} {w0 w w' : World} {e : Ending} (hb : Below w0.heap.size w0 w) (h : RatOf q w e w') : RatOf q w0 e w' := ⟨h.1, hb.trans (h.2.mono hb.size)⟩

theorem ratOf_open {q : Rat} {w w' : World} {e : Ending} (h : RatOf q w e w') : ∃ (tx : ByteArray) (ec : Int), e = .returned (.tuple #[.string tx, .int .i64 ec]) ∧ RatOf q w (.returned (.tuple #[.string tx, .int .i64 ec])) w' := by
  have h1 := h.1
  exact ⟨_, _, h1, by rw [← h1]; exact h⟩

theorem checkRule_zero {k : ByteArray} {step : List UInt8} (h : checkRule k step = 0) : checkR step = 0 ∧ 0 < (numQ step).num ∧ ∃ f, ruleFn k = some f := by
  unfold checkRule at h
  split at h
  · cases h
  · rename_i h1
    split at h
    · rename_i h2; exact absurd h h2
    · rename_i h2
      split at h
      · cases h
      · rename_i h3
        refine ⟨by omega, by omega, ?_⟩
        cases hk : ruleFn k
        · exact absurd hk h1
        · exact ⟨_, rfl⟩

theorem bd_roundN (f : Nat) {q : Rat} {m : Nat} (h : bd q m) (hm : 1 ≤ m) : bd (roundN f q) (m + 1 + 1 + 1) := by
  unfold roundN
  have hf := bd_floor h hm
  split
  · exact (bd_add hf (bd_whole 1 (by omega) (by omega))).mono (by omega)
  · exact hf.mono (by omega)

theorem bd_round (f : Nat) {a s : Rat} {m : Nat} (ha : bd a m) (hs : bd s m) (hm : 1 ≤ m) : bd (roundQ f a s) (3 * m + 4) := by
  unfold roundQ
  split
  · exact ha.mono (by omega)
  · exact (bd_mul (bd_roundN f (bd_div ha hs) (by omega)) hs).mono (by omega)

/-- The state inside Round: the box of the rule. -/
def RoIn (w : World) (k s : ByteArray) (W : World) : Prop := Below w.heap.size w W ∧ Own W w.heap.size 2 (two' (.string k) (.string s))

theorem RoIn.later {w W W' : World} {k s : ByteArray} (h : RoIn w k s W) (hb : Below W.heap.size W W') : RoIn w k s W' :=
  ⟨h.1.trans (hb.mono h.1.size), h.2.later (hb.mono h.2.1)⟩

theorem ro_start (w : World) (k s : ByteArray) : RoIn w k s (w.alloc (.cells #[.string k, .string s] 42)) :=
  ⟨(Below.refl _ _).alloc (Nat.le_refl _) _, own_two _ _ _ _⟩

theorem readNum_bad (s : ByteArray) (w : World) (hg : GW w) (hs : s.size ≤ 1073741824) (h0 : checkR s.data.toList ≠ 0) :
    Calls Tryz.prog 32 #[.string s] w fun e w' => e = .returned (.tuple #[.agg #[.bool false, .slice none 0 0, .slice none 0 0], .int .i64 (checkR s.data.toList : Nat)]) ∧ Below w.heap.size w w' :=
  (readNum_any s w hg hs).mono fun e w' h => by
    unfold NumOf at h
    rw [if_neg h0] at h
    exact h

theorem readNum_ok (s : ByteArray) (w : World) (hg : GW w) (hs : s.size ≤ 1073741824) (h0 : checkR s.data.toList = 0) :
    Calls Tryz.prog 32 #[.string s] w fun e w' => (∃ v', e = .returned (.tuple #[v', .int .i64 0]) ∧ NumV w' v' (numQ s.data.toList)) ∧ Below w.heap.size w w' :=
  (readNum_any s w hg hs).mono fun e w' h => by
    unfold NumOf at h
    rw [if_pos h0] at h
    exact h

theorem readRule_bad (k s : ByteArray) (w : World) (hg : GW w) (hs : s.size ≤ 1073741824) (h0 : checkRule k s.data.toList ≠ 0) :
    Calls Tryz.prog 33 #[.agg #[.string k, .string s]] w fun e w' => e = .returned (.tuple #[.agg #[.nilFunc, .bool false, .slice none 0 0, .slice none 0 0], .int .i64 (checkRule k s.data.toList : Nat)]) ∧ Below w.heap.size w w' :=
  (readRule_any k s w hg hs).mono fun e w' h => by
    unfold RuleOf at h
    rw [if_neg h0] at h
    exact h

theorem readRule_good (k s : ByteArray) (f : Nat) (hf : ruleFn k = some f) (w : World) (hg : GW w) (hs : s.size ≤ 1073741824) (h0 : checkRule k s.data.toList = 0) :
    Calls Tryz.prog 33 #[.agg #[.string k, .string s]] w fun e w' => (∃ b t bo, e = .returned (.tuple #[.agg #[.func (.func f) #[] #[], .bool b, t, bo], .int .i64 0]) ∧ NumV w' (.agg #[.bool b, t, bo]) (numQ s.data.toList)) ∧ Below w.heap.size w w' :=
  (readRule_any k s w hg hs).mono fun e w' h => by
    unfold RuleOf at h
    rw [if_pos h0] at h
    obtain ⟨⟨f', v, b, t, bo, he, hf', rfl, hv⟩, hb⟩ := h
    rw [hf] at hf'
    cases hf'
    exact ⟨⟨b, t, bo, he, hv⟩, hb⟩

set_option maxRecDepth 100000 in
set_option maxHeartbeats 4000000 in
theorem round_any (x k s : ByteArray) (w : World) (hg : GW w) (hx : x.size ≤ 1073741824) (hs : s.size ≤ 1073741824) :
    Calls Tryz.prog 13 #[.string x, .agg #[.string k, .string s]] w (RoundOf x.data.toList k s.data.toList w) := by
  have HW0 := hid (ro_start w k s)
  by_cases h0 : checkR x.data.toList = 0
  · have HRD : Hid (∀ W, RoIn w k s W → Calls Tryz.prog 32 #[.string x] W fun e w' => (∃ v', e = .returned (.tuple #[v', .int .i64 0]) ∧ NumV w' v' (numQ x.data.toList)) ∧ RoIn w k s w') := hid fun W hW => (readNum_ok x W (hg.later hW.1) hx h0).mono fun e w' ⟨h1, h2⟩ => ⟨h1, hW.later h2⟩
    by_cases h1 : checkRule k s.data.toList = 0
    · obtain ⟨hcs, hpos, f, hf⟩ := checkRule_zero h1
      have HFIN : Hid (∀ e w', RatOf (roundQ f (numQ x.data.toList) (numQ s.data.toList)) w e w' → RoundOf x.data.toList k s.data.toList w e w') := hid fun e w' h => by
        unfold RoundOf
        rw [if_neg (by omega), if_neg (by omega)]
        unfold roundOfQ
        rw [hf]
        exact h
      have HRR : Hid (∀ W, RoIn w k s W → Calls Tryz.prog 33 #[.agg #[.string k, .string s]] W fun e w' => (∃ b t bo, e = .returned (.tuple #[.agg #[.func (.func f) #[] #[], .bool b, t, bo], .int .i64 0]) ∧ NumV w' (.agg #[.bool b, t, bo]) (numQ s.data.toList)) ∧ RoIn w k s w' ∧ Below W.heap.size W w') := hid fun W hW => (readRule_good k s f hf W (hg.later hW.1) hs h1).mono fun e w' ⟨h1, h2⟩ => ⟨h1, hW.later h2, h2⟩
      have hbx := bd_num h0
      have hbs := bd_num hcs
      have HRN : Hid (∀ W v b t bo, RoIn w k s W → NumV W v (numQ x.data.toList) → NumV W (.agg #[.bool b, t, bo]) (numQ s.data.toList) → Calls Tryz.prog 34 #[.agg #[.func (.func f) #[] #[], .bool b, t, bo], v] W fun e w' => (∃ v', e = .returned v' ∧ NumV w' v' (roundQ f (numQ x.data.toList) (numQ s.data.toList))) ∧ RoIn w k s w') := hid fun W v b t bo hW hv hv' => (rounded_any f b t bo v _ _ W hv' hv (by omega) 600 hbx hbs (by omega) (by omega) k hf).mono fun e w' ⟨h1, h2⟩ => ⟨h1, hW.later h2⟩
      have HWT : Hid (∀ W v, RoIn w k s W → NumV W v (roundQ f (numQ x.data.toList) (numQ s.data.toList)) → Calls Tryz.prog 31 #[v] W (RatOf (roundQ f (numQ x.data.toList) (numQ s.data.toList)) w)) := hid fun W v hW hv => (write_any v _ W hv (by have := (bd_round f hbx hbs (by omega)).rs; unfold Cap; omega)).mono fun e w' h => ratOf_mono hW.1 h
      clear hg hx hs h0 h1 hcs hpos hf hbx hbs
      generalize numQ x.data.toList = qx at *
      generalize numQ s.data.toList = qs at *
      generalize roundQ f qx qs = qr at *
      go_enter Tryz.func13, Tryz.ntmps13
      go_wp2_with fail
      refine (HRD.out _ HW0.out).mono ?_
      rintro e w1 ⟨⟨v1, rfl, hv⟩, hr⟩
      obtain ⟨p1, k1, l1, p2, k2, l2, rfl, hp1, hp2⟩ := hv.parts
      clear hp1 hp2
      obtain ⟨hal, hbx⟩ := box_new w1 (decide (qx.num < 0)) (.slice p1 k1 l1) (.slice p2 k2 l2)
      have HR1 := hid (hr.later hal)
      have HV1 := hid (hv.later hal)
      have HX1 := hid hbx
      clear hr hv hal hbx HRD HW0
      generalize decide (qx.num < 0) = s1 at *
      obtain ⟨c0, c1⟩ := two_cells' HR1.out.2
      go_wp2_with fail
      refine (HRR.out _ HR1.out).mono ?_
      clear c0 c1
      rintro e w2 ⟨⟨rb, rt, rbo, rfl, hv⟩, hr, hb⟩
      obtain ⟨pt, kt, ct, pf, kf, cf, he, hp1, hp2⟩ := hv.parts
      simp only [Value.agg.injEq, Array.mk.injEq, List.cons.injEq, and_true] at he
      obtain ⟨he0, rfl, rfl⟩ := he
      clear he0 hp1 hp2
      have hal : Below w2.heap.size w2 (w2.alloc (.cells #[.func (.func f) #[] #[], .bool rb, .slice pt kt ct, .slice pf kf cf] 83)) := (Below.refl _ _).alloc (Nat.le_refl _) _
      have HR2 := hid (hr.later hal)
      have HS2 := hid (hv.later hal)
      have HV2 := hid ((HV1.out.later hb).later hal)
      have hx2 := (HX1.out.later (hb.mono HX1.out.1)).later (hal.mono (by have := HX1.out.1; have := hb.size; omega))
      obtain ⟨x0, x1, x2⟩ := box_cells hx2
      clear hr hv hb hal hx2 HR1 HV1 HX1 HRR
      go_wp2_with fail
      refine (HRN.out _ _ _ _ _ HR2.out HV2.out HS2.out).mono ?_
      clear x0 x1 x2
      rintro e w3 ⟨⟨v3, rfl, hv⟩, hr⟩
      have HR3 := hid hr
      have HV3 := hid hv
      clear hr hv HR2 HV2 HS2 HRN
      go_wp2_with fail
      refine (HWT.out _ _ HR3.out HV3.out).mono ?_
      rintro e w4 h
      obtain ⟨tx, ec, rfl, h2⟩ := ratOf_open h
      have HF4 := hid (HFIN.out _ _ h2)
      clear h h2 HR3 HV3 HWT HFIN
      go_wp2_with fail
      go_ret2
      exact HF4.out
    · have HRR : Hid (∀ W, RoIn w k s W → Calls Tryz.prog 33 #[.agg #[.string k, .string s]] W fun e w' => e = .returned (.tuple #[.agg #[.nilFunc, .bool false, .slice none 0 0, .slice none 0 0], .int .i64 (checkRule k s.data.toList : Nat)]) ∧ RoIn w k s w' ∧ Below W.heap.size W w') := hid fun W hW => (readRule_bad k s W (hg.later hW.1) hs h1).mono fun e w' ⟨h1, h2⟩ => ⟨h1, hW.later h2, h2⟩
      have HFIN : Hid (∀ w', Below w.heap.size w w' → RoundOf x.data.toList k s.data.toList w (.returned (.tuple #[.string ⟨#[]⟩, .int .i64 (checkRule k s.data.toList : Nat)])) w') := hid fun w' h => by
        unfold RoundOf
        rw [if_neg (by omega), if_pos h1]
        exact ⟨rfl, h⟩
      have hb0 : ((checkRule k s.data.toList : Int) == 0) = false := beq_eq_false_iff_ne.2 (by omega)
      clear hg hx hs h0 h1
      generalize checkRule k s.data.toList = c at *
      generalize numQ x.data.toList = qx at *
      go_enter Tryz.func13, Tryz.ntmps13
      go_wp2_with fail
      refine (HRD.out _ HW0.out).mono ?_
      rintro e w1 ⟨⟨v1, rfl, hv⟩, hr⟩
      obtain ⟨p1, k1, l1, p2, k2, l2, rfl, hp1, hp2⟩ := hv.parts
      clear hp1 hp2 hv
      obtain ⟨hal, hbx⟩ := box_new w1 (decide (qx.num < 0)) (.slice p1 k1 l1) (.slice p2 k2 l2)
      have HR1 := hid (hr.later hal)
      clear hr hal hbx HRD HW0
      generalize decide (qx.num < 0) = s1 at *
      obtain ⟨c0, c1⟩ := two_cells' HR1.out.2
      go_wp2_with fail
      refine (HRR.out _ HR1.out).mono ?_
      clear c0 c1
      rintro e w2 ⟨rfl, hr, hb⟩
      have HB2 : Hid (Below w.heap.size w (w2.alloc (.cells #[.nilFunc, .bool false, .slice none 0 0, .slice none 0 0] 83))) := hid (hr.1.alloc hr.1.size _)
      clear hr hb HR1 HRR
      go_wp2_with fail
      go_ret2
      exact HFIN.out _ HB2.out
  · have HRD : Hid (∀ W, RoIn w k s W → Calls Tryz.prog 32 #[.string x] W fun e w' => e = .returned (.tuple #[.agg #[.bool false, .slice none 0 0, .slice none 0 0], .int .i64 (checkR x.data.toList : Nat)]) ∧ RoIn w k s w') := hid fun W hW => (readNum_bad x W (hg.later hW.1) hx h0).mono fun e w' ⟨h1, h2⟩ => ⟨h1, hW.later h2⟩
    have HFIN : Hid (∀ w', Below w.heap.size w w' → RoundOf x.data.toList k s.data.toList w (.returned (.tuple #[.string ⟨#[]⟩, .int .i64 (checkR x.data.toList : Nat)])) w') := hid fun w' h => by
      unfold RoundOf
      rw [if_pos h0]
      exact ⟨rfl, h⟩
    have hb0 : ((checkR x.data.toList : Int) == 0) = false := beq_eq_false_iff_ne.2 (by omega)
    clear hg hx hs h0
    generalize checkR x.data.toList = c at *
    go_enter Tryz.func13, Tryz.ntmps13
    go_wp2_with fail
    refine (HRD.out _ HW0.out).mono ?_
    rintro e w1 ⟨rfl, hr⟩
    have HB2 : Hid (Below w.heap.size w (w1.alloc (.cells #[.bool false, .slice none 0 0, .slice none 0 0] 75))) := hid (hr.1.alloc hr.1.size _)
    clear hr HRD HW0
    go_wp2_with fail
    go_ret2
    exact HFIN.out _ HB2.out
end Go.Proofs.YtocoghnopmjceaaGreatDoor

/-
  readEach of numbers: rows of numbers in memory of the call's own.
-/
namespace Go.Proofs.YtocoghnopmjceaaGreatDoor
open Go.RowKit

section
variable {P : Program} (w : World)

/-- An append for which there is room, with the memory behind it written out. -/
theorem wpList_append_exact {ops : Array Oper} {rest : List Oper} {o : Oper} {a : Act} {Q : Exit → Act → World → Prop} (hgd : o.guard = none) (s x : Operand) (t : TypeId)
    (ho : o.op = .call { callee := .builtin .append, args := #[s, x], argTypes := #[t, t] })
    (e : TypeId) (i : TypeInfo) (size : Nat) (ht : P.underlying t = some (.slice e)) (hi : P.info? e = some i) (hsize : i.size = size)
    (g n cap : Nat) (cur : Array Value) (hs : a.eval s = .slice (some ⟨g, 0, none⟩) n cap) (hg : w.heap[g]? = some (.cells cur e (0, 0)))
    (ad : Addr) (m c : Nat) (news : List Value) (hx : a.eval x = .slice (some ad) m c) (hl : news.length = m * size) (hnews : ∀ j u, news[j]? = some u → w.cell? (ad.add j) = some u) (h1 : ∀ u ∈ news, u.oneCell' = true)
    (hroom : n + m ≤ cap) (hfit : n * size + news.length ≤ cur.size)
    (h : wpList P ops Q rest (a.put o.dst (.slice (some ⟨g, 0, none⟩) (n + m) cap)) (w.setRow g (cur.toList.take (n * size) ++ news ++ cur.toList.drop (n * size + news.length)).toArray)) : wpList P ops Q (o :: rest) a w := by
  refine wpList_plain hgd fun _ hK => ?_
  subst hsize
  have hr := run_append_room (P := P) w t o.type e i ht hi g n cap cur hg ad m c news hl hnews h1 hroom hfit
  unfold Oper.wp execOp
  simp only [ho, resolve, invoke, builtin, Sem.run_bind, Sem.run_pure, Result.andThen_ok, List.map_toArray, List.map_cons, List.map_nil, hs, hx, hr]
  exact hK _ _ h
end

theorem Nat'.setRow {W : World} {v : Value} {n g : Nat} {cur : Array Value} {ty : TypeId} {fr : Nat × Nat} (h : Nat' W v n) (hg : W.heap[g]? = some (.cells cur ty fr)) (hc : ∀ c ∈ cur.toList, ∀ k z, c ≠ .int k z) (cs : Array Value) : Nat' (W.setRow g cs) v n := by
  obtain ⟨h1, q, c, h2, h3, h4, h5⟩ := h
  refine ⟨h1, q, c, h2, h3, h4, ?_⟩
  rcases h5 with h5 | ⟨b, o, h6, h7⟩
  · exact .inl h5
  · refine .inr ⟨b, o, h6, fun i hi => ?_⟩
    have hcell := h7 i hi
    by_cases e : b = g
    · subst e
      rw [cell_of_row W b (o + i) cur ty fr hg] at hcell
      have hm : wd (digs B64 n) i ∈ cur.toList := by
        rw [← Array.getElem?_toList] at hcell
        exact List.mem_of_getElem? hcell
      exact absurd rfl (hc _ hm _ _)
    · rw [cell_setRow_other W g cs ⟨b, o + i, none⟩ e]
      exact hcell

theorem NumV.setRow {W : World} {v : Value} {q : Rat} {g : Nat} {cur : Array Value} {ty : TypeId} {fr : Nat × Nat} (h : NumV W v q) (hg : W.heap[g]? = some (.cells cur ty fr)) (hc : ∀ c ∈ cur.toList, ∀ k z, c ≠ .int k z) (cs : Array Value) : NumV (W.setRow g cs) v q := by
  obtain ⟨t, b, e, h1, h2⟩ := h
  exact ⟨t, b, e, h1.setRow hg hc cs, h2.setRow hg hc cs⟩

/-- A row of numbers in block g, with room for cap. -/
def Nums (W : World) (g cap : Nat) (qs : List Rat) : Prop :=
  qs.length ≤ cap ∧ ∃ cur : Array Value, W.heap[g]? = some (.cells cur 75 (0, 0)) ∧ cur.size = cap * 3 ∧ (∀ c ∈ cur.toList, ∀ k z, c ≠ .int k z) ∧
    ∀ (j : Nat) (q : Rat), qs[j]? = some q → ∃ b p1 k1 c1 p2 k2 c2, cur.toList[j * 3]? = some (.bool b) ∧ cur.toList[j * 3 + 1]? = some (.slice p1 k1 c1) ∧ cur.toList[j * 3 + 2]? = some (.slice p2 k2 c2) ∧ NumV W (.agg #[.bool b, .slice p1 k1 c1, .slice p2 k2 c2]) q

theorem nums_start (w : World) (cap : Nat) : Nums (w.alloc (.cells (madeCells #[.bool false, .slice none 0 0, .slice none 0 0] (cap * 3)) 75)) w.heap.size cap [] := by
  refine ⟨Nat.zero_le _, _, heap_alloc_new w _, size_madeCells _ _, fun c hc k z => ?_, fun j q h => by simp at h⟩
  unfold madeCells at hc
  simp only [Array.toList_map, Array.toList_range, List.mem_map] at hc
  obtain ⟨i, _, rfl⟩ := hc
  have h3 : i % 3 = 0 ∨ i % 3 = 1 ∨ i % 3 = 2 := by omega
  intro h
  simp only [List.size_toArray, List.length_cons, List.length_nil] at h
  rcases h3 with h3 | h3 | h3 <;> rw [h3] at h <;> cases h

theorem Nums.lt {W : World} {g cap : Nat} {qs : List Rat} (h : Nums W g cap qs) : g < W.heap.size := by
  obtain ⟨_, cur, hg, _⟩ := h
  rcases Nat.lt_or_ge g W.heap.size with h1 | h1
  · exact h1
  · rw [Array.getElem?_eq_none h1] at hg; cases hg

theorem Nums.later {W W' : World} {g cap : Nat} {qs : List Rat} (h : Nums W g cap qs) (hb : Below W.heap.size W W') : Nums W' g cap qs := by
  have hlt := h.lt
  obtain ⟨h1, cur, hg, h2, h3, h4⟩ := h
  refine ⟨h1, cur, (hb.block g hlt).trans hg, h2, h3, fun j q hq => ?_⟩
  obtain ⟨b, p1, k1, c1, p2, k2, c2, e1, e2, e3, hv⟩ := h4 j q hq
  exact ⟨b, p1, k1, c1, p2, k2, c2, e1, e2, e3, hv.later hb⟩

/-- A box that is made for a number of a list. -/
theorem num_box (W : World) (sg : Bool) (t b : Value) : Below W.heap.size W (W.alloc (.cells #[.bool sg, t, b] 75)) ∧ Own (W.alloc (.cells #[.bool sg, t, b] 75)) W.heap.size 3 (numCell sg t b) :=
  ⟨(Below.refl _ _).alloc (Nat.le_refl _) _, own3 _ _ _ _⟩

/-- What a store of one more number makes of the row. -/
theorem Nums.push {W : World} {g cap : Nat} {qs : List Rat} {b : Bool} {p1 p2 : Option Addr} {k1 c1 k2 c2 : Nat} {q : Rat} (h : Nums W g cap qs) (hk : qs.length < cap) (hv : NumV W (.agg #[.bool b, .slice p1 k1 c1, .slice p2 k2 c2]) q) :
    ∃ cur : Array Value, W.heap[g]? = some (.cells cur 75 (0, 0)) ∧ qs.length * 3 + 3 ≤ cur.size ∧
      Nums (W.setRow g (cur.toList.take (qs.length * 3) ++ [Value.bool b, .slice p1 k1 c1, .slice p2 k2 c2] ++ cur.toList.drop (qs.length * 3 + 3)).toArray) g cap (qs ++ [q]) ∧
      ∀ B, B ≤ g → Below B W (W.setRow g (cur.toList.take (qs.length * 3) ++ [Value.bool b, .slice p1 k1 c1, .slice p2 k2 c2] ++ cur.toList.drop (qs.length * 3 + 3)).toArray) := by
  obtain ⟨h1, cur, hg, h2, h3, h4⟩ := h
  have hfit : qs.length * 3 + 3 ≤ cur.size := by omega
  have hfit' : qs.length * 3 + 3 ≤ cur.toList.length := by rw [Array.length_toList]; exact hfit
  have hlen : (cur.toList.take (qs.length * 3)).length = qs.length * 3 := by rw [List.length_take]; omega
  refine ⟨cur, hg, hfit, ⟨by rw [List.length_append]; simp; omega, _, setRow_heap W g cur _ _ _ hg, ?_, ?_, ?_⟩, fun B hB => ⟨rfl, rfl, rfl, by simp [World.setRow], fun k hk => setRow_other W g k _ (by omega)⟩⟩
  · simp only [List.size_toArray, List.length_append, hlen, List.length_cons, List.length_nil, List.length_drop, Array.length_toList]
    omega
  · intro c hc k z
    rw [List.mem_append, List.mem_append] at hc
    rcases hc with (hc | hc) | hc
    · exact h3 c (List.mem_of_mem_take hc) k z
    · simp only [List.mem_cons, List.not_mem_nil, or_false] at hc
      rcases hc with rfl | rfl | rfl <;> (intro h; cases h)
    · exact h3 c (List.mem_of_mem_drop hc) k z
  · intro j q' hq'
    rcases Nat.lt_or_ge j qs.length with hj | hj
    · rw [List.getElem?_append_left hj] at hq'
      obtain ⟨b', a1, a2, a3, a4, a5, a6, e1, e2, e3, hv'⟩ := h4 j q' hq'
      have key : ∀ i, i < qs.length * 3 → (cur.toList.take (qs.length * 3) ++ [Value.bool b, .slice p1 k1 c1, .slice p2 k2 c2] ++ cur.toList.drop (qs.length * 3 + 3)).toArray.toList[i]? = cur.toList[i]? := by
        intro i hi
        rw [List.append_assoc, List.getElem?_append_left (by rw [hlen]; exact hi), List.getElem?_take_of_lt hi]
      refine ⟨b', a1, a2, a3, a4, a5, a6, ?_, ?_, ?_, hv'.setRow hg h3 _⟩
      · rw [key _ (by omega)]; exact e1
      · rw [key _ (by omega)]; exact e2
      · rw [key _ (by omega)]; exact e3
    · have hj' : j = qs.length := by
        have := (List.getElem?_eq_some_iff.1 hq').1
        rw [List.length_append] at this
        simp at this
        omega
      subst hj'
      have hqq : q' = q := by
        rw [List.getElem?_append_right (Nat.le_refl _), Nat.sub_self] at hq'
        simpa using hq'.symm
      subst hqq
      have key : ∀ i, i < 3 → (cur.toList.take (qs.length * 3) ++ [Value.bool b, .slice p1 k1 c1, .slice p2 k2 c2] ++ cur.toList.drop (qs.length * 3 + 3)).toArray.toList[qs.length * 3 + i]? = [Value.bool b, .slice p1 k1 c1, .slice p2 k2 c2][i]? := by
        intro i hi
        rw [List.append_assoc, List.getElem?_append_right (by rw [hlen]; omega), hlen, Nat.add_sub_cancel_left, List.getElem?_append_left (by simpa using hi)]
      exact ⟨b, p1, k1, c1, p2, k2, c2, key 0 (by omega), key 1 (by omega), key 2 (by omega), hv.setRow hg h3 _⟩

/-- A number of the row, as it is loaded. -/
theorem Nums.get {W : World} {g cap : Nat} {qs : List Rat} (h : Nums W g cap qs) (j : Nat) (q : Rat) (hq : qs[j]? = some q) :
    ∃ b p1 k1 c1 p2 k2 c2, W.cell? ⟨g, j * 3, none⟩ = some (.bool b) ∧ W.cell? ⟨g, j * 3 + 1, none⟩ = some (.slice p1 k1 c1) ∧ W.cell? ⟨g, j * 3 + 2, none⟩ = some (.slice p2 k2 c2) ∧ NumV W (.agg #[.bool b, .slice p1 k1 c1, .slice p2 k2 c2]) q := by
  obtain ⟨_, cur, hg, _, _, h4⟩ := h
  obtain ⟨b, p1, k1, c1, p2, k2, c2, e1, e2, e3, hv⟩ := h4 j q hq
  refine ⟨b, p1, k1, c1, p2, k2, c2, ?_, ?_, ?_, hv⟩
  · rw [cell_of_row W g _ cur _ (0, 0) hg, ← Array.getElem?_toList]; exact e1
  · rw [cell_of_row W g _ cur _ (0, 0) hg, ← Array.getElem?_toList]; exact e2
  · rw [cell_of_row W g _ cur _ (0, 0) hg, ← Array.getElem?_toList]; exact e3

/-- The first error of a list; 0 if there is none. -/
def firstE : List Nat → Nat
  | [] => 0
  | e :: l => if e = 0 then firstE l else e

theorem firstE_append (l m : List Nat) (h : firstE l = 0) : firstE (l ++ m) = firstE m := by
  induction l with
  | nil => rfl
  | cons e l ih =>
    unfold firstE at h
    by_cases he : e = 0
    · rw [if_pos he] at h
      show (if e = 0 then firstE (l ++ m) else e) = _
      rw [if_pos he, ih h]
    · rw [if_neg he] at h
      exact absurd h he

/-- What readEach answers. -/
def EachOf (errs : List Nat) (qs : List Rat) (w : World) (e : Ending) (w' : World) : Prop :=
  (if firstE errs = 0 then ∃ g, w.heap.size ≤ g ∧ e = .returned (.tuple #[.slice (some ⟨g, 0, none⟩) qs.length qs.length, .int .i64 0]) ∧ Nums w' g qs.length qs
    else e = .returned (.tuple #[.slice none 0 0, .int .i64 (firstE errs)])) ∧ Below w.heap.size w w'

theorem make_nums (n : Nat) (hn : n ≤ 1048576) (w : World) :
    (Instr.makeSlice 101 (.int .i64 0) (.int .i64 (n : Int))).run Tryz.prog w = .ok (.slice (some ⟨w.heap.size, 0, none⟩) 0 n) (w.alloc (.cells (madeCells #[.bool false, .slice none 0 0, .slice none 0 0] (n * 3)) 75)) := by
  obtain ⟨i0, hi, hz0, hz1, hz2⟩ := info_parts (show (Tryz.prog.info? 75).map (fun i => (i.zero, i.size, i.bytes)) = some (some (.agg #[.bool false, .slice none 0 0, .slice none 0 0]), 3, 56) by kernel_rfl)
  have h := run_make (P := Tryz.prog) w 101 75 i0 _ Tryz.underlying101 hi hz0 .i64 .i64 0 (n : Int) (Int.le_refl _) (by omega) (by rw [hz2]; omega) (by omega)
  rw [hz1] at h
  simpa [Value.cells] using h
end Go.Proofs.YtocoghnopmjceaaGreatDoor

/-
  readEach of texts of numbers.
-/
namespace Go.Proofs.YtocoghnopmjceaaGreatDoor
open Go.RowKit

theorem take_next {α : Type} {l : List α} {k : Nat} {s : α} (h : l[k]? = some s) : l.take (k + 1) = l.take k ++ [s] := by
  rw [List.take_add_one, h]; rfl

theorem first_bad {α : Type} {l : List α} {k : Nat} {s : α} (f : α → Nat) (h : l[k]? = some s) (h0 : firstE ((l.take k).map f) = 0) (hs : f s ≠ 0) : firstE (l.map f) = f s := by
  have e : l = l.take k ++ s :: l.drop (k + 1) := by
    have hk := (List.getElem?_eq_some_iff.1 h).1
    have hv := (List.getElem?_eq_some_iff.1 h).2
    rw [← hv, List.getElem_cons_drop, List.take_append_drop]
  have e2 : l.map f = (l.take k).map f ++ f s :: (l.drop (k + 1)).map f := by
    conv => lhs; rw [e]
    rw [List.map_append, List.map_cons]
  rw [e2, firstE_append _ _ h0]
  show (if f s = 0 then _ else f s) = _
  rw [if_neg hs]

theorem first_good {α : Type} {l : List α} {k : Nat} {s : α} (f : α → Nat) (h : l[k]? = some s) (h0 : firstE ((l.take k).map f) = 0) (hs : f s = 0) : firstE ((l.take (k + 1)).map f) = 0 := by
  rw [take_next h, List.map_append, firstE_append _ _ h0]
  show (if f s = 0 then firstE [] else f s) = 0
  rw [if_pos hs]
  rfl

theorem eachOf_bad {errs : List Nat} {qs : List Rat} {w w' : World} {k : Nat} {e : Ending} (h : firstE errs = k) (hk : k ≠ 0) (he : e = .returned (.tuple #[.slice none 0 0, .int .i64 (k : Int)])) (hb : Below w.heap.size w w') : EachOf errs qs w e w' := by
  unfold EachOf
  rw [if_neg (by omega), h]
  exact ⟨he, hb⟩

theorem eachOf_good {errs : List Nat} {qs : List Rat} {w w' : World} {g n : Nat} {e : Ending} (h : firstE errs = 0) (hn : qs.length = n) (hg : w.heap.size ≤ g) (he : e = .returned (.tuple #[.slice (some ⟨g, 0, none⟩) n n, .int .i64 0])) (hv : Nums w' g n qs) (hb : Below w.heap.size w w') : EachOf errs qs w e w' := by
  unfold EachOf
  rw [if_pos h, hn]
  exact ⟨⟨g, hg, he, hv⟩, hb⟩

theorem read_good {s : ByteArray} {w : World} (h : Calls Tryz.prog 32 #[.string s] w (NumOf s.data.toList w)) (hc : checkR s.data.toList = 0) :
    Calls Tryz.prog 32 #[.string s] w fun e w' => (∃ v', e = .returned (.tuple #[v', .int .i64 0]) ∧ NumV w' v' (numQ s.data.toList)) ∧ Below w.heap.size w w' := by
  refine h.mono fun e w' h => ?_
  unfold NumOf at h
  rw [if_pos hc] at h
  exact h

theorem read_bad {s : ByteArray} {w : World} (h : Calls Tryz.prog 32 #[.string s] w (NumOf s.data.toList w)) (hc : checkR s.data.toList ≠ 0) :
    Calls Tryz.prog 32 #[.string s] w fun e w' => e = .returned (.tuple #[.agg #[.bool false, .slice none 0 0, .slice none 0 0], .int .i64 (checkR s.data.toList : Nat)]) ∧ Below w.heap.size w w' := by
  refine h.mono fun e w' h => ?_
  unfold NumOf at h
  rw [if_neg hc] at h
  exact h

set_option maxRecDepth 100000 in
set_option maxHeartbeats 2000000 in
/-- readEach with read. -/
theorem each_read (l : List ByteArray) (b o c : Nat) (w : World) (hg : GW w) (hrow : ∀ i s, l[i]? = some s → w.cell? ⟨b, o + i, none⟩ = some (.string s)) (hl : l.length ≤ 1048576) (hs : ∀ s ∈ l, s.size ≤ 1073741824) :
    Calls Tryz.prog 48 #[.slice (some ⟨b, o, none⟩) l.length c, .func (.func 32) #[] #[]] w
      (EachOf (l.map fun s => checkR s.data.toList) (l.map fun s => numQ s.data.toList) w) := by
  have HG := hid hg
  have HROW := hid hrow
  have HS := hid hs
  have hmk := make_nums l.length hl
  obtain ⟨i0, hi, hz0, hz1, hz2⟩ := info_parts (show (Tryz.prog.info? 75).map (fun i => (i.zero, i.size, i.bytes)) = some (some (.agg #[.bool false, .slice none 0 0, .slice none 0 0]), 3, 56) by kernel_rfl)
  have HI := hid hi
  clear hg hrow hs hi hz0 hz2
  go_enter Tryz.func48, Tryz.ntmps48
  go_wp2_with fail
  clear hmk
  have HN0 := hid (nums_start w l.length)
  have HB0 : Hid (Below w.heap.size w (w.alloc (.cells (madeCells #[.bool false, .slice none 0 0, .slice none 0 0] (l.length * 3)) 75))) := hid ((Below.refl _ _).alloc (Nat.le_refl _) _)
  generalize w.alloc (.cells (madeCells #[.bool false, .slice none 0 0, .slice none 0 0] (l.length * 3)) 75) = w0 at *
  go_loopw [6, 16] (fun r i wr => ∃ k : Nat, k ≤ l.length ∧ i = .int .i64 k ∧ r = .slice (some ⟨w.heap.size, 0, none⟩) k l.length ∧ Hid (Nums wr w.heap.size l.length ((l.take k).map fun s => numQ s.data.toList)) ∧ Hid (firstE ((l.take k).map fun s => checkR s.data.toList) = 0) ∧ Hid (Below w.heap.size w wr)) (fun _ i _ => l.length - (intOf i).toNat)
  case atStart => exact ⟨0, Nat.zero_le _, rfl, rfl, HN0, hid rfl, HB0⟩
  case round =>
    obtain ⟨k, hk, rfl, rfl, HN, HE, HB⟩ := hrel
    clear HN0 HB0
    by_cases hkl : k < l.length
    · obtain ⟨s, hsk⟩ : ∃ s, l[k]? = some s := ⟨l[k], List.getElem?_eq_getElem hkl⟩
      have hcell0 := HROW.out k s hsk
      have hcell : wr.cell? ⟨b, o + k, none⟩ = some (.string s) := by
        rw [HB.out.cell (World.block_lt_of_cell? w _ hcell0)]; exact hcell0
      have HRD := hid (readNum_any s wr (HG.out.later HB.out) (HS.out s (List.mem_of_getElem? hsk)))
      have HSK := hid hsk
      clear hcell0 hsk
      by_cases hc : checkR s.data.toList = 0
      · have HRD2 := hid (read_good HRD.out hc)
        have HE2 := hid (first_good (fun s : ByteArray => checkR s.data.toList) HSK.out HE.out hc)
        clear HRD HE hc
        go_wp2_with fail
        refine HRD2.out.mono ?_
        rintro e w1 ⟨⟨v', rfl, hv⟩, hb⟩
        obtain ⟨p1, k1, c1, p2, k2, c2, rfl, hp1, hp2⟩ := hv.parts
        have hqs : ((l.take k).map fun s => numQ s.data.toList) ++ [numQ s.data.toList] = (l.take (k + 1)).map fun s => numQ s.data.toList := by
          rw [take_next HSK.out, List.map_append]; rfl
        have HQS := hid hqs
        have hql : ((l.take k).map fun s => numQ s.data.toList).length = k := by rw [List.length_map, List.length_take]; omega
        have HN1 := hid (HN.out.later hb)
        have HV1 := hid hv
        have HB1 := hid (HB.out.trans (hb.mono HB.out.size))
        clear hp1 hp2 hqs hv hb HN HB HRD2 hcell
        generalize decide ((numQ s.data.toList).num < 0) = sg at *
        generalize numQ s.data.toList = q at *
        generalize ((l.take k).map fun s => numQ s.data.toList) = qs at *
        obtain ⟨hal, hbx⟩ := num_box w1 sg (.slice p1 k1 c1) (.slice p2 k2 c2)
        have HN2 := hid (HN1.out.later hal)
        have HV2 := hid (HV1.out.later hal)
        have hbs : w.heap.size ≤ w1.heap.size := HB1.out.size
        have HB2 := hid (HB1.out.trans (hal.mono hbs))
        obtain ⟨x0, x1, x2⟩ := box_cells hbx
        have hal2 : Below (w1.alloc (.cells #[.bool sg, .slice p1 k1 c1, .slice p2 k2 c2] 75)).heap.size (w1.alloc (.cells #[.bool sg, .slice p1 k1 c1, .slice p2 k2 c2] 75)) ((w1.alloc (.cells #[.bool sg, .slice p1 k1 c1, .slice p2 k2 c2] 75)).alloc (.cells #[.bool sg, .slice p1 k1 c1, .slice p2 k2 c2] 75)) := (Below.refl _ _).alloc (Nat.le_refl _) _
        obtain ⟨cur, hcur, hfit, hnew, hbel⟩ := (HN2.out.later hal2).push (by rw [hql]; exact hkl) (HV2.out.later hal2)
        have hnb := heap_alloc_new (w1.alloc (.cells #[.bool sg, .slice p1 k1 c1, .slice p2 k2 c2] 75)) (.cells #[.bool sg, .slice p1 k1 c1, .slice p2 k2 c2] 75)
        rw [World.size_alloc] at hnb
        rw [hql] at hfit hnew hbel
        simp only [List.append_assoc, List.cons_append, List.nil_append] at hnew hbel
        have HNEW := hid hnew
        have HBEL := hid (HB2.out.trans ((hal2.mono (by rw [World.size_alloc]; omega)).trans (hbel w.heap.size (Nat.le_refl _))))
        have HCUR := hid hcur
        have HNB := hid hnb
        have HFIT := hid hfit
        clear hal hbx hal2 hbs hcur hfit hnew hbel hnb HN1 HV1 HB1 HN2 HV2 HB2 hql
        go_wp2_with (at_builtin; refine wpList_append_exact _ rfl _ _ 101 rfl 75 i0 3 Tryz.underlying101 HI.out hz1 w.heap.size k l.length cur rfl HCUR.out ⟨w1.heap.size + 1, 0, none⟩ 1 1 [.bool sg, .slice p1 k1 c1, .slice p2 k2 c2] rfl rfl (World.news_of_block HNB.out) ?qc1 (by omega) HFIT.out ?_)
        case qc1 =>
          intro u hu
          simp only [List.mem_cons, List.not_mem_nil, or_false] at hu
          rcases hu with rfl | rfl | rfl <;> rfl
        clear x0 x1 x2
        go_wp2_with fail
        go_roundw
        case rel => exact ⟨k + 1, hkl, by go_num, rfl, hid (by rw [← HQS.out]; exact HNEW.out), HE2, HBEL⟩
        case measure => simp [intOf]; omega
      · have HRD2 := hid (read_bad HRD.out hc)
        have HF := hid (first_bad (fun s : ByteArray => checkR s.data.toList) HSK.out HE.out hc)
        clear HRD HE
        generalize checkR s.data.toList = ck at *
        have hck : ((ck : Int) == 0) = false := beq_eq_false_iff_ne.2 (by omega)
        have HCK := hid hc
        clear hc
        go_wp2_with fail
        refine HRD2.out.mono ?_
        rintro e w1 ⟨rfl, hb⟩
        have HB1 := hid (HB.out.trans ((hb.mono HB.out.size).trans ((Below.refl w.heap.size w1).alloc (Nat.le_trans HB.out.size hb.size) (.cells #[.bool false, .slice none 0 0, .slice none 0 0] 75))))
        clear hb HB HRD2 hcell
        go_wp2_with fail
        go_ret2
        exact eachOf_bad HF.out HCK.out rfl HB1.out
    · obtain rfl : k = l.length := by omega
      have hql : (l.map fun s => numQ s.data.toList).length = l.length := by rw [List.length_map]
      have HQL := hid hql
      have hE := HE.out
      have hN := HN.out
      rw [List.take_length] at hE hN
      have HE' := hid hE
      have HN' := hid hN
      clear hE hN hql HE HN
      go_wp2_with fail
      go_ret2
      exact eachOf_good HE'.out HQL.out (Nat.le_refl _) rfl HN'.out HB.out
end Go.Proofs.YtocoghnopmjceaaGreatDoor

/-
  Two texts that are read.
-/
namespace Go.Proofs.YtocoghnopmjceaaGreatDoor
open Go.RowKit

/-- What an operation with two texts answers. -/
def OperOf (r : Rat) (x y : ByteArray) (w : World) (e : Ending) (w' : World) : Prop :=
  if firstE [checkR x.data.toList, checkR y.data.toList] ≠ 0 then e = .returned (.tuple #[.string ⟨#[]⟩, .int .i64 (firstE [checkR x.data.toList, checkR y.data.toList])]) ∧ Below w.heap.size w w'
  else RatOf r w e w'

theorem firstE_two {a b : Nat} (h : firstE [a, b] = 0) : a = 0 ∧ b = 0 := by
  have h1 : (if a = 0 then firstE [b] else a) = 0 := h
  by_cases ha : a = 0
  · rw [if_pos ha] at h1
    have h2 : (if b = 0 then firstE [] else b) = 0 := h1
    by_cases hb : b = 0
    · exact ⟨ha, hb⟩
    · rw [if_neg hb] at h2; exact absurd h2 hb
  · rw [if_neg ha] at h1; exact absurd h1 ha

/-- The texts of a list of two. -/
theorem pair_row (w : World) (x y : ByteArray) (ty : TypeId) : ∀ i s, [x, y][i]? = some s → (w.alloc (.cells #[.string x, .string y] ty)).cell? ⟨w.heap.size, 0 + i, none⟩ = some (.string s) := by
  intro i s h
  rw [Nat.zero_add, World.cell?_alloc_at _ _ _ _ rfl]
  match i, h with
  | 0, h => cases h; rfl
  | 1, h => cases h; rfl

theorem two_read (x y : ByteArray) (w : World) (hg : GW w) (hx : x.size ≤ 1073741824) (hy : y.size ≤ 1073741824) (ty : TypeId) :
    Calls Tryz.prog 48 #[.slice (some ⟨w.heap.size, 0, none⟩) 2 2, .func (.func 32) #[] #[]] (w.alloc (.cells #[.string x, .string y] ty))
      (fun e w' => EachOf [checkR x.data.toList, checkR y.data.toList] [numQ x.data.toList, numQ y.data.toList] (w.alloc (.cells #[.string x, .string y] ty)) e w' ∧ Below w.heap.size w w') := by
  have hal : Below w.heap.size w (w.alloc (.cells #[.string x, .string y] ty)) := (Below.refl _ _).alloc (Nat.le_refl _) _
  refine (each_read [x, y] w.heap.size 0 2 (w.alloc (.cells #[.string x, .string y] ty)) (hg.later hal) (pair_row w x y ty) (by simp) (by
    intro s hs
    simp only [List.mem_cons, List.not_mem_nil, or_false] at hs
    rcases hs with rfl | rfl <;> assumption)).mono ?_
  intro e w' h
  exact ⟨h, hal.trans (h.2.mono (by rw [World.size_alloc]; omega))⟩

theorem two_bad {x y : ByteArray} {w : World} {ty : TypeId} (h : Calls Tryz.prog 48 #[.slice (some ⟨w.heap.size, 0, none⟩) 2 2, .func (.func 32) #[] #[]] (w.alloc (.cells #[.string x, .string y] ty))
      (fun e w' => EachOf [checkR x.data.toList, checkR y.data.toList] [numQ x.data.toList, numQ y.data.toList] (w.alloc (.cells #[.string x, .string y] ty)) e w' ∧ Below w.heap.size w w')) (h0 : firstE [checkR x.data.toList, checkR y.data.toList] ≠ 0) :
    Calls Tryz.prog 48 #[.slice (some ⟨w.heap.size, 0, none⟩) 2 2, .func (.func 32) #[] #[]] (w.alloc (.cells #[.string x, .string y] ty))
      (fun e w' => e = .returned (.tuple #[.slice none 0 0, .int .i64 (firstE [checkR x.data.toList, checkR y.data.toList] : Nat)]) ∧ Below w.heap.size w w') := by
  refine h.mono ?_
  rintro e w' ⟨h1, h2⟩
  unfold EachOf at h1
  rw [if_neg h0] at h1
  exact ⟨h1.1, h2⟩

theorem two_good {x y : ByteArray} {w : World} {ty : TypeId} (h : Calls Tryz.prog 48 #[.slice (some ⟨w.heap.size, 0, none⟩) 2 2, .func (.func 32) #[] #[]] (w.alloc (.cells #[.string x, .string y] ty))
      (fun e w' => EachOf [checkR x.data.toList, checkR y.data.toList] [numQ x.data.toList, numQ y.data.toList] (w.alloc (.cells #[.string x, .string y] ty)) e w' ∧ Below w.heap.size w w')) (h0 : firstE [checkR x.data.toList, checkR y.data.toList] = 0) :
    Calls Tryz.prog 48 #[.slice (some ⟨w.heap.size, 0, none⟩) 2 2, .func (.func 32) #[] #[]] (w.alloc (.cells #[.string x, .string y] ty))
      (fun e w' => (∃ g, e = .returned (.tuple #[.slice (some ⟨g, 0, none⟩) 2 2, .int .i64 0]) ∧ Nums w' g 2 [numQ x.data.toList, numQ y.data.toList]) ∧ Below w.heap.size w w') := by
  refine h.mono ?_
  rintro e w' ⟨h1, h2⟩
  unfold EachOf at h1
  rw [if_pos h0] at h1
  obtain ⟨⟨g, _, he, hn⟩, _⟩ := h1
  exact ⟨⟨g, he, hn⟩, h2⟩

/-- Two numbers of a list, as they are loaded. -/
abbrev SixAt (g : Nat) (b : Bool) (p1 : Option Addr) (k1 c1 : Nat) (p2 : Option Addr) (k2 c2 : Nat) (b' : Bool) (p1' : Option Addr) (k1' c1' : Nat) (p2' : Option Addr) (k2' c2' : Nat) (W : World) : Prop :=
  W.cell? ⟨g, 0, none⟩ = some (.bool b) ∧ W.cell? ⟨g, 1, none⟩ = some (.slice p1 k1 c1) ∧ W.cell? ⟨g, 2, none⟩ = some (.slice p2 k2 c2) ∧
  W.cell? ⟨g, 3, none⟩ = some (.bool b') ∧ W.cell? ⟨g, 4, none⟩ = some (.slice p1' k1' c1') ∧ W.cell? ⟨g, 5, none⟩ = some (.slice p2' k2' c2')

theorem nums_two {W : World} {g : Nat} {a c : Rat} (h : Nums W g 2 [a, c]) : ∃ b p1 k1 c1 p2 k2 c2 b' p1' k1' c1' p2' k2' c2', (∀ W', Below W.heap.size W W' → SixAt g b p1 k1 c1 p2 k2 c2 b' p1' k1' c1' p2' k2' c2' W') ∧
    NumV W (.agg #[.bool b, .slice p1 k1 c1, .slice p2 k2 c2]) a ∧ NumV W (.agg #[.bool b', .slice p1' k1' c1', .slice p2' k2' c2']) c := by
  obtain ⟨b, p1, k1, c1, p2, k2, c2, e1, e2, e3, hv⟩ := h.get 0 a rfl
  obtain ⟨b', p1', k1', c1', p2', k2', c2', f1, f2, f3, hv'⟩ := h.get 1 c rfl
  refine ⟨b, p1, k1, c1, p2, k2, c2, b', p1', k1', c1', p2', k2', c2', fun W' hb => ?_, hv, hv'⟩
  have key : ∀ (o : Nat), W'.cell? ⟨g, o, none⟩ = W.cell? ⟨g, o, none⟩ := fun o => hb.cell h.lt
  show _ ∧ _
  rw [key, key, key, key, key, key]
  exact ⟨e1, e2, e3, f1, f2, f3⟩

end Go.Proofs.YtocoghnopmjceaaGreatDoor

