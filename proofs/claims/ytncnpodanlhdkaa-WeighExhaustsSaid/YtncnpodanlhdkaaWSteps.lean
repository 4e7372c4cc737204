/-
  steps: the iterator over the steps from a node.
-/
import Derived.Test.YtncnpodanlhdkaaWNet
import Derived.RangeFuncNested
import Derived.RangeFuncBound
import Derived.RangeFuncCalls
import Derived.RangeFuncLeaves
import Derived.Shelf.Abstract
import Derived.Shelf.RegionOpen
import Derived.OwnWalkIn
import Derived.TacticsInMore
import Derived.LoopNIn
import Derived.LoopIn
import Derived.Sort.QuietIn
namespace Go.Proofs.Ytncnpodanlhdkaa
set_option linter.all false
open Go.RowKit Go.Shelf
attribute [local go_sem] Oper.semAt_some

/-- What a round keeps: what lay below n₀, and the two boxes of the iterator. -/
def KpW (n₀ bn bv : Nat) (W W' : World) : Prop := Below n₀ W W' ∧ (∀ cs t f, W.heap[bn]? = some (.cells cs t f) → W'.heap[bn]? = some (.cells cs t f)) ∧ (∀ cs t f, W.heap[bv]? = some (.cells cs t f) → W'.heap[bv]? = some (.cells cs t f))

theorem takeS {N : Net} {v : Nat} {l : List Nat} (h : N.ends[v]? = some l) : N.steps v = (l.map (stepOf N.arcs v)).filter roomy := by
  unfold Net.steps
  rw [List.getD_eq_getElem?_getD, h, Option.getD_some]

/-- What has come when k of the node's arcs are over. -/
def come (N : Net) (v : Nat) (l : List Nat) (k : Nat) : List Step := ((l.take k).map (stepOf N.arcs v)).filter roomy
theorem come_zero (N : Net) (v : Nat) (l : List Nat) : come N v l 0 = [] := rfl
theorem come_next {N : Net} {v : Nat} {l : List Nat} {k i : Nat} (h : l[k]? = some i) : come N v l (k + 1) = come N v l k ++ (if roomy (stepOf N.arcs v i) = true then [stepOf N.arcs v i] else []) := by
  unfold come
  rw [List.take_add_one, h, Option.toList_some, List.map_append, List.filter_append]
  congr 1
  simp only [List.map_cons, List.map_nil, List.filter_cons, List.filter_nil]
theorem come_all (N : Net) (v : Nat) (l : List Nat) : come N v l l.length = (l.map (stepOf N.arcs v)).filter roomy := by
  unfold come; rw [List.take_length]
theorem come_pre (N : Net) (v : Nat) (l : List Nat) (k : Nat) : come N v l k <+: (l.map (stepOf N.arcs v)).filter roomy := by
  refine ⟨((l.drop k).map (stepOf N.arcs v)).filter roomy, ?_⟩
  unfold come
  rw [← List.filter_append, ← List.map_append, List.take_append_drop]

theorem grown2 (w : World) (o p : Obj) : w.grownBy ((w.alloc o).alloc p) none :=
  ⟨rfl, rfl, rfl, by simp only [World.size_alloc]; omega, fun k hk _ => by rw [Below.heap_alloc _ _ _ (by simp; omega), Below.heap_alloc _ _ _ hk]⟩

set_option maxRecDepth 100000 in
set_option maxHeartbeats 2000000 in
theorem steps1_in (F : Fence) (n : Nat) (h78 : F.fn 97) (hro : F.round = none) (hn : 1 ≤ n) (base a v bn bv : Nat) (N : Net) (va : Value) (vs : List Value) (l : List Nat) (hN : N.Ok) (hv : v < 34) (hl : N.ends[v]? = some l)
    (L : Nat) (J Jx : List Step → World → Prop) (W0 W : World) (hJ : AbidesFrom W.heap.size J) (hnet : NetIn base W0 a N va vs) (hb0 : Below W0.heap.size W0 W)
    (hY : ∀ (pre : List Step) (x : Step) W, x.dst < 34 → J pre W → pre.length < (N.steps v).length → YieldAt F (n - 1) Try.prog L #[.agg (stepC x).toArray] W fun e W' =>
      (e = .returned (.bool true) ∧ J (pre ++ [x]) W' ∧ KpW W0.heap.size bn bv W W') ∨ (e = .returned (.bool false) ∧ Jx (pre ++ [x]) W'))
    (hbn : Blk W bn #[.pointer (some ⟨a, 0, none⟩)] 66) (hbv : Blk W bv #[.int .i64 (v : Int)] 3) (h0 : J [] W) :
    CallsIn F n Try.prog 97 #[.func (.yield L) #[] #[], .pointer (some ⟨bn, 0, none⟩), .pointer (some ⟨bv, 0, none⟩)] W fun e W' => (∃ v, e = .returned v) ∧
      ((∃ ys, ys = N.steps v ∧ J ys W') ∨ (∃ pre, pre <+: N.steps v ∧ Jx pre W')) := by
  obtain ⟨p, c, e0', e1, e2, e3⟩ := hnet.endsAt hl
  have e0 : W.cell? ⟨a, 1 + v, none⟩ = some (.slice p l.length c) := by rw [hb0.cell (World.block_lt_of_cell? W0 _ e0')]; exact e0'
  have b1 : W.cell? ⟨bn, 0, none⟩ = some (.pointer (some ⟨a, 0, none⟩)) := hbn.cell rfl
  have b2 : W.cell? ⟨bv, 0, none⟩ = some (.int .i64 (v : Int)) := hbv.cell rfl
  have HE3 := hid e3
  have HJ := hid hJ
  have HY := hid hY
  have HBN := hid hbn
  have HBV := hid hbv
  have HNET := hid hnet
  have HB0 := hid hb0
  have HN := hid hN
  have HL := hid hl
  have H0 := hid h0
  have HLL := (hN.less v l hl).1
  clear e3 hJ hY hbn hbv hnet hN hl h0 hb0 e0'
  unfold maxLen at e2
  refine callsIn_of_wp Try.func97 rfl h78 ?_ hro
  simp only [Try.ntmps97, List.size_toArray, List.length_cons, List.length_nil, Nat.reduceAdd, Nat.reduceSub, Array.replicate_succ, Array.replicate_zero, List.push_toArray, List.append_toArray, List.nil_append, List.cons_append]
  gi_wp2_with fail
  refine wpIn_region_quiet_lit hro (by kernel_rfl) (by kernel_rfl) ?_
  repeat (gi_big_quiet_step (fail))
  refine wpQuietIn_nil ?_
  intro _ hw'
  obtain ⟨nq, hw''⟩ := hw'
  subst hw''
  gi_wp2_with fail
  clear e0 b1 b2
  gi_loopw [15] (fun i wr => ∃ k : Nat, k ≤ l.length ∧ i = .int .i64 k ∧ Hid (Blk wr bn #[.pointer (some ⟨a, 0, none⟩)] 66) ∧ Hid (Blk wr bv #[.int .i64 (v : Int)] 3) ∧ Hid (Below W0.heap.size W0 wr) ∧ Hid (J (come N v l k) wr) ∧ Hid (W.heap.size ≤ wr.heap.size)) (fun i _ => l.length - (intOf i).toNat)
  case atStart => exact ⟨0, Nat.zero_le _, rfl, HBN, HBV, hid (HB0.out.trans ⟨rfl, rfl, rfl, Nat.le_refl _, fun _ _ => rfl⟩), hid (HJ.out _ _ _ none H0.out ⟨rfl, rfl, rfl, Nat.le_refl _, fun _ _ _ => rfl⟩ (fun _ h => by cases h)), hid (Nat.le_refl _)⟩
  case round =>
    obtain ⟨k, hk, rfl, HBN, HBV, HB0, HJS, HSZ⟩ := hrel
    by_cases hlt : k < l.length
    · obtain ⟨i, hi⟩ : ∃ i, l[k]? = some i := ⟨l[k], List.getElem?_eq_getElem hlt⟩
      have hiN := (HN.out.less v l HL.out).2 i (List.mem_of_getElem? hi)
      obtain ⟨x, hx⟩ : ∃ x, N.arcs[i]? = some x := ⟨N.arcs[i], List.getElem?_eq_getElem hiN⟩
      obtain ⟨g, rfl, hg⟩ := HE3.out.resolve_left (fun h => by rw [h.1] at hlt; cases hlt)
      have HCE := hg k i hi
      obtain ⟨ga, ca, hva, hga, hca1, hca2, x0, x1, x2, x3, x4, hfz⟩ := HNET.out.arcAt hx
      have key : ∀ (b o : Nat) (u : Value), W0.cell? ⟨b, o, none⟩ = some u → wr.cell? ⟨b, o, none⟩ = some u := fun b o u h => by rw [HB0.out.cell (World.block_lt_of_cell? W0 _ h)]; exact h
      have c0 := key _ _ _ HCE
      have d0 := key _ _ _ x0
      have d1 := key _ _ _ x1
      have d2 := key _ _ _ x2
      have d3 := key _ _ _ x3
      have d4 := key _ _ _ x4
      have n0 : wr.cell? ⟨a, 0, none⟩ = some va := key _ _ _ (HNET.out.blk.cell (by simp))
      have b1 : wr.cell? ⟨bn, 0, none⟩ = some (.pointer (some ⟨a, 0, none⟩)) := HBN.out.cell rfl
      have b2 : wr.cell? ⟨bv, 0, none⟩ = some (.int .i64 (v : Int)) := HBV.out.cell rfl
      have lb := HBN.out.lt
      have lv := HBV.out.lt
      obtain ⟨hs0, hd0, hm0, hm1, hm2, hm3⟩ := HN.out.arc i x hx
      subst hva
      have HI := hid hi
      have HX := hid hx
      have HFW := HN.out.few
      unfold maxLen at hca2
      clear hi hx hg HCE key x0 x1 x2 x3 x4 hfz HE3
      have HSO : Hid (stepOf N.arcs v i = if x.dst = v then ⟨i, -1, v, x.src, x.mass - x.low⟩ else ⟨i, 1, v, x.dst, x.high - x.mass⟩) := hid (by unfold stepOf; rw [List.getD_eq_getElem?_getD, HX.out, Option.getD_some])
      have HNX : Hid (come N v l (k + 1) = come N v l k ++ (if roomy (stepOf N.arcs v i) = true then [stepOf N.arcs v i] else [])) := hid (come_next HI.out)
      have HPR : Hid (come N v l (k + 1) <+: N.steps v) := hid (by rw [takeS HL.out]; exact come_pre N v l (k + 1))
      by_cases hdv : x.dst = v
      · have t1 : ((x.dst : Int) == (v : Int)) = true := by rw [hdv]; exact beq_self_eq_true _
        rw [if_pos hdv] at HSO
        obtain ⟨W2, hW2⟩ : ∃ W2, W2 = (wr.alloc (.cells #[.int .i64 x.low, .int .i64 x.high, .int .i64 x.src, .int .i64 v, .int .i64 x.mass] 115)).alloc (.cells #[.int .i64 i, .int .i64 (-1), .int .i64 v, .int .i64 x.src, .int .i64 (x.mass - x.low)] 129) := ⟨_, rfl⟩
        have HB2 : Hid (Below wr.heap.size wr W2) := hid (by rw [hW2]; exact ((Below.refl _ _).alloc (Nat.le_refl _) _).alloc (by simp) _)
        have HJ2 : Hid (J (come N v l k) W2) := hid (HJ.out _ _ _ none HJS.out (by rw [hW2]; exact grown2 wr _ _) (fun _ h => by cases h))
        have HW2 := hid hW2
        by_cases hr : 0 < x.mass - x.low
        · rw [HSO.out, if_pos (show roomy ⟨i, (-1), v, x.src, x.mass - x.low⟩ = true from decide_eq_true hr)] at HNX
          obtain ⟨fn, tmps, assign, body, hy, hR⟩ := HY.out (come N v l k) ⟨i, (-1), v, x.src, x.mass - x.low⟩ W2 hs0 HJ2.out (by have h1 := HPR.out.length_le; rw [HNX.out] at h1; simp at h1; omega)
          have HR := hid hR
          clear hR
          rw [hW2] at hy
          dsimp only [stepC] at hy
          clear hW2
          gi_wp2_with fail
          rw [← HW2.out]
          refine HR.out.mono ?_
          rintro e W3 (⟨rfl, hJ3, hk1, hk2, hk3⟩ | ⟨rfl, hJ3⟩)
          · have HJ3 := hid hJ3
            have HB3 := hid (HB0.out.trans ((HB2.out.mono HB0.out.size).trans hk1))
            have HBN3 : Hid (Blk W3 bn #[.pointer (some ⟨a, 0, none⟩)] 66) := hid (hk2 _ _ _ (HBN.out.later HB2.out HBN.out.lt))
            have HBV3 : Hid (Blk W3 bv #[.int .i64 (v : Int)] 3) := hid (hk3 _ _ _ (HBV.out.later HB2.out HBV.out.lt))
            have HSZ3 : Hid (W.heap.size ≤ W3.heap.size) := hid (Nat.le_trans HSZ.out (Nat.le_trans HB2.out.size hk1.size))
            clear hJ3 hk1 hk2 hk3
            gi_wp2_with fail
            go_roundw
            case rel => exact ⟨k + 1, by omega, by go_num, HBN3, HBV3, HB3, by rw [HNX.out]; exact HJ3, HSZ3⟩
            case measure => simp [intOf]; omega
          · have HJ3 := hid hJ3
            clear hJ3
            gi_wp2_with fail
            refine bodyPost_ret (results_none rfl _ _ _) rfl ?_
            exact ⟨⟨_, rfl⟩, .inr ⟨_, by rw [← HNX.out]; exact HPR.out, HJ3.out⟩⟩
        · rw [HSO.out, if_neg (show ¬ roomy ⟨i, (-1), v, x.src, x.mass - x.low⟩ = true by show ¬ decide (0 < x.mass - x.low) = true; simpa using hr), List.append_nil] at HNX
          clear hW2
          gi_wp2_with fail
          refine ⟨fun _ h => (by cases h), ?_⟩
          gi_wp2_with fail
          rw [← HW2.out]
          go_roundw
          case rel => exact ⟨k + 1, by omega, by go_num, hid (HBN.out.later HB2.out HBN.out.lt), hid (HBV.out.later HB2.out HBV.out.lt), hid (HB0.out.trans (HB2.out.mono HB0.out.size)), by rw [HNX.out]; exact HJ2, hid (Nat.le_trans HSZ.out HB2.out.size)⟩
          case measure => simp [intOf]; omega
      · have t1 : ((x.dst : Int) == (v : Int)) = false := beq_eq_false_iff_ne.2 (by omega)
        rw [if_neg hdv] at HSO
        obtain ⟨W2, hW2⟩ : ∃ W2, W2 = (wr.alloc (.cells #[.int .i64 x.low, .int .i64 x.high, .int .i64 x.src, .int .i64 x.dst, .int .i64 x.mass] 115)).alloc (.cells #[.int .i64 i, .int .i64 1, .int .i64 v, .int .i64 x.dst, .int .i64 (x.high - x.mass)] 129) := ⟨_, rfl⟩
        have HB2 : Hid (Below wr.heap.size wr W2) := hid (by rw [hW2]; exact ((Below.refl _ _).alloc (Nat.le_refl _) _).alloc (by simp) _)
        have HJ2 : Hid (J (come N v l k) W2) := hid (HJ.out _ _ _ none HJS.out (by rw [hW2]; exact grown2 wr _ _) (fun _ h => by cases h))
        have HW2 := hid hW2
        by_cases hr : 0 < x.high - x.mass
        · rw [HSO.out, if_pos (show roomy ⟨i, 1, v, x.dst, x.high - x.mass⟩ = true from decide_eq_true hr)] at HNX
          obtain ⟨fn, tmps, assign, body, hy, hR⟩ := HY.out (come N v l k) ⟨i, 1, v, x.dst, x.high - x.mass⟩ W2 hd0 HJ2.out (by have h1 := HPR.out.length_le; rw [HNX.out] at h1; simp at h1; omega)
          have HR := hid hR
          clear hR
          rw [hW2] at hy
          dsimp only [stepC] at hy
          clear hW2
          gi_wp2_with fail
          rw [← HW2.out]
          refine HR.out.mono ?_
          rintro e W3 (⟨rfl, hJ3, hk1, hk2, hk3⟩ | ⟨rfl, hJ3⟩)
          · have HJ3 := hid hJ3
            have HB3 := hid (HB0.out.trans ((HB2.out.mono HB0.out.size).trans hk1))
            have HBN3 : Hid (Blk W3 bn #[.pointer (some ⟨a, 0, none⟩)] 66) := hid (hk2 _ _ _ (HBN.out.later HB2.out HBN.out.lt))
            have HBV3 : Hid (Blk W3 bv #[.int .i64 (v : Int)] 3) := hid (hk3 _ _ _ (HBV.out.later HB2.out HBV.out.lt))
            have HSZ3 : Hid (W.heap.size ≤ W3.heap.size) := hid (Nat.le_trans HSZ.out (Nat.le_trans HB2.out.size hk1.size))
            clear hJ3 hk1 hk2 hk3
            gi_wp2_with fail
            go_roundw
            case rel => exact ⟨k + 1, by omega, by go_num, HBN3, HBV3, HB3, by rw [HNX.out]; exact HJ3, HSZ3⟩
            case measure => simp [intOf]; omega
          · have HJ3 := hid hJ3
            clear hJ3
            gi_wp2_with fail
            refine bodyPost_ret (results_none rfl _ _ _) rfl ?_
            exact ⟨⟨_, rfl⟩, .inr ⟨_, by rw [← HNX.out]; exact HPR.out, HJ3.out⟩⟩
        · rw [HSO.out, if_neg (show ¬ roomy ⟨i, 1, v, x.dst, x.high - x.mass⟩ = true by show ¬ decide (0 < x.high - x.mass) = true; simpa using hr), List.append_nil] at HNX
          clear hW2
          gi_wp2_with fail
          refine ⟨fun _ h => (by cases h), ?_⟩
          gi_wp2_with fail
          rw [← HW2.out]
          go_roundw
          case rel => exact ⟨k + 1, by omega, by go_num, hid (HBN.out.later HB2.out HBN.out.lt), hid (HBV.out.later HB2.out HBV.out.lt), hid (HB0.out.trans (HB2.out.mono HB0.out.size)), by rw [HNX.out]; exact HJ2, hid (Nat.le_trans HSZ.out HB2.out.size)⟩
          case measure => simp [intOf]; omega
    · obtain rfl : k = l.length := by omega
      have HE : Hid (come N v l l.length = N.steps v) := hid (by rw [takeS HL.out]; exact come_all N v l)
      gi_wp2_with fail
      go_end0
      exact ⟨⟨_, rfl⟩, .inl ⟨_, HE.out, HJS.out⟩⟩

/-- A step whose end is a node. -/
abbrev GStep := { x : Step // x.dst < 34 }
def valG (l : List GStep) : List Step := l.map (·.1)
theorem valG_snoc (l : List GStep) (x : GStep) : valG (l ++ [x]) = valG l ++ [x.1] := by unfold valG; rw [List.map_append]; rfl
theorem valG_len (l : List GStep) : (valG l).length = l.length := List.length_map _

theorem steps_stops (F : Fence) (n : Nat) (h78 : F.fn 97) (hro : F.round = none) (hn : 1 ≤ n) (base a v bn bv : Nat) (N : Net) (va : Value) (vs : List Value) (l : List Nat) (hN : N.Ok) (hv : v < 34) (hl : N.ends[v]? = some l)
    (W0 W : World) (hnet : NetIn base W0 a N va vs) (hb0 : Below W0.heap.size W0 W) (hbn : Blk W bn #[.pointer (some ⟨a, 0, none⟩)] 66) (hbv : Blk W bv #[.int .i64 (v : Int)] 3) :
    SeqStopsK F n Try.prog 97 #[.pointer (some ⟨bn, 0, none⟩), .pointer (some ⟨bv, 0, none⟩)] (fun x : GStep => #[.agg (stepC x.1).toArray]) (KpW W0.heap.size bn bv) (fun l => valG l = N.steps v) (fun l => valG l <+: N.steps v) (N.steps v).length W := by
  intro L J Jx W1 hW hJ hJx hY h0
  refine (steps1_in F n h78 hro hn base a v bn bv N va vs l hN hv hl L (fun l W => ∃ l', valG l' = l ∧ J l' W) (fun l W => ∃ l', valG l' = l ∧ Jx l' W) W0 W1 ?_ hnet (hb0.trans (hW.mono hb0.size)) ?_ (hbn.later hW hbn.lt) (hbv.later hW hbv.lt) ⟨[], rfl, h0⟩).mono ?_
  · rintro s W W' row ⟨l', h1, h2⟩ hg hr
    exact ⟨l', h1, hJ l' W W' row h2 hg hr⟩
  · rintro pre x W hx ⟨l', rfl, h2⟩ hlen
    rw [valG_len] at hlen
    refine YieldAt.mono (hY l' ⟨x, hx⟩ W h2 hlen) ?_
    rintro e W' (⟨h3, h4, h5⟩ | ⟨h3, h4⟩)
    · exact .inl ⟨h3, ⟨l' ++ [⟨x, hx⟩], valG_snoc _ _, h4⟩, h5⟩
    · exact .inr ⟨h3, ⟨l' ++ [⟨x, hx⟩], valG_snoc _ _, h4⟩⟩
  · rintro e W' ⟨h1, h2⟩
    refine ⟨h1, ?_⟩
    rcases h2 with ⟨ys, h3, l', h4, h5⟩ | ⟨pre, h3, l', h4, h5⟩
    · exact .inl ⟨l', h4.trans h3, h5⟩
    · exact .inr ⟨l', by show valG l' <+: N.steps v; rw [h4]; exact h3, h5⟩

set_option maxRecDepth 100000 in
set_option maxHeartbeats 1000000 in
theorem steps_in (F : Fence) (n : Nat) (h76 : F.fn 95) (hro : F.round = none) (p : Option Addr) (v : Int) (w : World) :
    CallsIn F n Try.prog 95 #[.pointer p, .int .i64 v] w fun e w' => e = .returned (.func (.func 97) #[] #[.pointer (some ⟨w.heap.size, 0, none⟩), .pointer (some ⟨w.heap.size + 1, 0, none⟩)]) ∧ w' = (w.alloc (.cells #[.pointer p] 66)).alloc (.cells #[.int .i64 v] 3) := by
  refine callsIn_of_wp Try.func95 rfl h76 ?_ hro
  simp only [Try.ntmps95, List.size_toArray, List.length_cons, List.length_nil, Nat.reduceAdd, Nat.reduceSub, Array.replicate_succ, Array.replicate_zero, List.push_toArray, List.append_toArray, List.nil_append, List.cons_append]
  gi_wp2_with fail
  go_ret
  exact ⟨rfl, rfl⟩
end Go.Proofs.Ytncnpodanlhdkaa
