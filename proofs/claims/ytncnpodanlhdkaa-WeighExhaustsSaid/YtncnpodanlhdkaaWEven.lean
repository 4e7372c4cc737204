/-
  even: what some nodes have too much is moved to those that have too little.
-/
import Derived.Test.YtncnpodanlhdkaaWFlow
import Derived.Test.YtncnpodanlhdkaaWWay
import Derived.Deep.LoopGhost
import Derived.StillTailTactics
namespace Go.Proofs.Ytncnpodanlhdkaa
set_option linter.all false
open Go.RowKit

theorem scan_len {to : List Bool} : ∀ {l : List Step} {s s' : Bfs} {e : Option Nat}, scan to s l = (s', e) → s'.reached.length = s.reached.length
  | [], s, s', e, h => by
    unfold scan at h
    cases h
    rfl
  | x :: l, s, s', e, h => by
    rw [scan_cons] at h
    split at h
    · exact scan_len h
    · split at h
      · cases h
        exact List.length_set
      · exact (scan_len h).trans List.length_set
theorem bfs_len {N : Net} {to : List Bool} : ∀ {m : Nat} {s : Bfs} {R : Bfs × Option Nat}, bfs N to m s = some R → R.1.reached.length = s.reached.length
  | 0, s, R, hb => by cases hb
  | m + 1, s, R, hb => by
    unfold bfs at hb
    split at hb
    · cases hb; rfl
    · split at hb
      · rename_i s' e he
        cases hb
        have := scan_len he
        exact this
      · rename_i s' he
        have := scan_len he
        exact (bfs_len hb).trans this
theorem found_len {frm : List Bool} {m : Nat} {R : Bfs × Option Nat} {p : List Step} {mk : List Bool} (h : found frm m R = some (p, mk)) (hl : R.1.reached.length = 34) : mk.length = 34 := by
  obtain ⟨s, e⟩ := R
  cases e with
  | none =>
    have h' : some (([] : List Step), s.reached) = some (p, mk) := h
    cases h'
    exact hl
  | some d =>
    obtain ⟨pl, _, _, rfl⟩ := found_out h
    rfl

theorem way_any (base a : Nat) (N : Net) (va : Value) (vs : List Value) (frm to : List Bool) (p : List Step) (mk : List Bool) (hN : N.Ok) (w : World) (hnet : NetIn base w a N va vs) (hf : frm.length = 34) (ht : to.length = 34) (h : wayF N frm to = some (p, mk)) :
    Calls Try.prog 91 #[.pointer (some ⟨a, 0, none⟩), .agg (bools frm), .agg (bools to)] w (WayPost w p mk) := by
  unfold wayF at h
  cases hb : bfs N to 70 ⟨frm, noS, marked frm 34⟩ with
  | none => rw [hb] at h; cases h
  | some R =>
    rw [hb] at h
    refine (callsIn_wide (n := 4)).1 ?_
    exact way_in _ 4 trivial trivial trivial trivial rfl (Nat.le_refl _) base a N va vs frm to 70 70 R p mk hN w hnet hf ht hb h (by omega)

theorem wayF_len {N : Net} {frm to : List Bool} {p : List Step} {mk : List Bool} (hf : frm.length = 34) (h : wayF N frm to = some (p, mk)) : mk.length = 34 := by
  unfold wayF at h
  cases hb : bfs N to 70 ⟨frm, noS, marked frm 34⟩ with
  | none => rw [hb] at h; cases h
  | some R =>
    rw [hb] at h
    exact found_len h ((bfs_len hb).trans hf)

theorem grown_below {W W' : World} (h : Below W.heap.size W W') (row : Option Nat) : W.grownBy W' row := ⟨h.os, h.tape, h.output, h.size, fun k hk _ => h.block k hk⟩
theorem grown_trans {A B C : World} {row : Option Nat} (h : A.grownBy B row) (k : B.grownBy C row) : A.grownBy C row :=
  ⟨k.os.trans h.os, k.tape.trans h.tape, k.output.trans h.output, Nat.le_trans h.size k.size, fun i hi hne => (k.block i (Nat.lt_of_lt_of_le hi h.size) hne).trans (h.block i hi hne)⟩
/-- A row stored, told by its run. -/
theorem stP {ops : Array Oper} {rest : List Oper} {o : Oper} {a : Act} {Q : Exit → Act → World → Prop} {W W' : World} (ty : TypeId) (x y : Operand) (hgd : o.guard = none) (ho : o.op = .store ty x y) {g : Nat} {v : Value} (hx : a.eval x = .pointer (some ⟨g, 0, none⟩)) (hy : a.eval y = v)
    (hr : (storeVar ty ⟨g, 0, none⟩ v).run Try.prog W = .ok () W') (h : wpList Try.prog ops Q rest (a.put o.dst undef) W') : wpList Try.prog ops Q (o :: rest) a W :=
  wpList_plain hgd fun _ hK => by
    unfold Oper.wp execOp
    simp only [ho, hx, hy, Instr.storeAt, Instr.sureAddr, Sem.run_bind, Sem.run_pure, Result.andThen_ok, hr]
    exact hK _ _ h

/-- One turn of evenF. -/
theorem even_turn {k : Nat} {N N' : Net} {l l' : List Int} {mk : List Bool} (h : evenF (k + 1) N l = some (N', l', mk)) : N.Ok ∧ (∀ x ∈ l, small x = true) ∧ l.length = 34 ∧
    ∃ p mk1, wayF N (over l) (under l) = some (p, mk1) ∧ ((p = [] ∧ N' = N ∧ l' = l ∧ mk = mk1) ∨
      ∃ x q en m N1, p = x :: q ∧ (∀ y ∈ p, stepB N y = true) ∧ q.length ≤ 100 ∧ p.getLast? = some en ∧ m = least (min (l.getD x.src 0) (-(l.getD en.dst 0))) p ∧ pushF m N p = some N1 ∧
        evenF k N1 ((l.set x.src (l.getD x.src 0 - m)).set en.dst ((l.set x.src (l.getD x.src 0 - m)).getD en.dst 0 + m)) = some (N', l', mk)) := by
  unfold evenF at h
  split at h
  · rename_i hc
    simp only [Bool.and_eq_true, decide_eq_true_eq, List.all_eq_true] at hc
    refine ⟨ok_of hc.1.1, hc.1.2, hc.2, ?_⟩
    split at h
    · cases h
    · rename_i mk1 hw
      cases h
      exact ⟨[], mk, hw, .inl ⟨rfl, rfl, rfl, rfl⟩⟩
    · rename_i x q mk1 hw
      refine ⟨x :: q, mk1, hw, .inr ?_⟩
      split at h
      · rename_i hp
        dsimp only at h
        simp only [Bool.and_eq_true, decide_eq_true_eq, List.all_eq_true] at hp
        split at h
        · cases h
        · rename_i N1 hn
          exact ⟨x, q, _, _, N1, rfl, hp.1, hp.2, List.getLast?_eq_some_getLast (by simp), rfl, hn, h⟩
      · cases h
  · cases h

theorem row_slice {w : World} {base : Nat} {e : TypeId} {size : Nat} {v : Value} {n : Nat} {xs : List Value} (h : w.ownsRow base e size v n xs) : ∃ p c, v = .slice p n c := by
  obtain ⟨_, h2⟩ := h
  rcases h2 with ⟨rfl, rfl⟩ | ⟨g, c, cur, rfl, _⟩
  · exact ⟨none, 0, rfl⟩
  · exact ⟨_, c, rfl⟩

theorem ownsRow_kept {w w' : World} {base : Nat} {e : TypeId} {size : Nat} {v : Value} {n : Nat} {xs : List Value} (h : w.ownsRow base e size v n xs) (hb : ∀ k, v.ownBlock = some k → w'.heap[k]? = w.heap[k]?) : w'.ownsRow base e size v n xs := by
  obtain ⟨h1, h2⟩ := h
  refine ⟨h1, ?_⟩
  rcases h2 with h2 | ⟨g, cap, cur, h3, h4, h5, h6⟩
  · exact .inl h2
  · exact .inr ⟨g, cap, cur, h3, h4, (hb g (by rw [h3]; rfl)).trans h5, h6⟩
/-- All that a network lies in is below B. -/
def Low (B a : Nat) (va : Value) (vs : List Value) : Prop := a < B ∧ (∀ k, va.ownBlock = some k → k < B) ∧ ∀ (i : Nat) (x : Value) (k : Nat), vs[i]? = some x → x.ownBlock = some k → k < B
theorem NetIn.below {base : Nat} {w : World} {a : Nat} {N : Net} {va : Value} {vs : List Value} (h : NetIn base w a N va vs) (he : N.ends.length = 34) : Low w.heap.size a va vs := by
  refine ⟨h.blk.lt, fun k hk => (World.ownsRow.lt h.arcs k hk).2, fun i x k hx hk => ?_⟩
  have hi : i < N.ends.length := by rw [he, ← h.len]; exact (List.getElem?_eq_some_iff.1 hx).1
  obtain ⟨y, h1, h2⟩ := h.ends i _ (List.getElem?_eq_getElem hi)
  rw [hx] at h1
  cases h1
  exact (World.ownsRow.lt h2 k hk).2
theorem NetIn.kept {base B : Nat} {w w' : World} {a : Nat} {N : Net} {va : Value} {vs : List Value} (h : NetIn base w a N va vs) (hl : Low B a va vs) (hb : Below B w w') : NetIn base w' a N va vs := by
  refine ⟨?_, h.low, h.len, ownsRow_kept h.arcs fun k hk => hb.block k (hl.2.1 k hk), fun v l hv => ?_, h.apart, h.alone, h.other⟩
  · exact h.blk.later hb hl.1
  · obtain ⟨y, h1, h2⟩ := h.ends v l hv
    exact ⟨y, h1, ownsRow_kept h2 fun k hk => hb.block k (hl.2.2 v y k h1 hk)⟩
theorem grown_kept {W A B : World} {row : Option Nat} (h : W.grownBy A row) (k : Below W.heap.size A B) : W.grownBy B row :=
  ⟨k.os.trans h.os, k.tape.trans h.tape, k.output.trans h.output, Nat.le_trans h.size k.size, fun i hi hne => (k.block i hi).trans (h.block i hi hne)⟩
theorem row_some {w : World} {base : Nat} {e : TypeId} {size : Nat} {v : Value} {n : Nat} {xs : List Value} (h : w.ownsRow base e size v n xs) (hn : n ≠ 0) : ∃ g c, v = .slice (some ⟨g, 0, none⟩) n c ∧ base ≤ g := by
  obtain ⟨_, h2⟩ := h
  rcases h2 with ⟨_, h2⟩ | ⟨g, c, cur, rfl, h3, _⟩
  · exact absurd h2 hn
  · exact ⟨g, c, rfl, h3⟩
theorem len_run (w : World) (p : Option Addr) (n c : Nat) : (Builtin.len_ #[123] 3 #[.slice p n c]).run Try.prog w = .ok (.int .i64 n) w := by
  have hu : Try.prog.underlying 123 = some (.slice 129) := by kernel_rfl
  simp [Builtin.len_, run_underlying hu, goInt]
theorem region_held {l : List Oper} {id : Nat} {a : Act} {w : World} {Q : Exit → Act → World → Prop} (S : World → Prop) (hm : Try.prog.follows .mixedOrders = true)
    (h : wpAnyH Try.prog .any l.toArray Q S l.length (Array.replicate l.length false) a w.drew) : (Code.region id l.toArray true).wp Try.prog Q a w :=
  wp_region_any hm (wpAny_of_held _ _ _ _ h)
theorem region_tail {l : List Oper} {id : Nat} {a : Act} {w : World} {Q : Exit → Act → World → Prop} (k : Nat) (hm : Try.prog.follows .mixedOrders = true) (hB : Region.lexTailB .any l.toArray k = true)
    (h : wpStill Try.prog l.toArray w.drew (fun a' => wpList Try.prog l.toArray Q (l.drop k) a' w.drew) (l.take k) a) : (Code.region id l.toArray true).wp Try.prog Q a w := wp_region_still_tail k hm hB h
theorem yield_ld {o : Oper} {a : Act} {w : World} (ty : TypeId) (x : Operand) (ho : o.op = .load ty x) {g : Nat} (hx : a.eval x = .pointer (some ⟨g, 0, none⟩)) {v : Value} (hr : (loadVar ty ⟨g, 0, none⟩).run Try.prog w = .ok v w) : (execOp a.eval o).run Try.prog w = .ok (.value v) w := by
  unfold execOp
  simp only [ho, hx, Instr.loadAt, Instr.sureAddr, Sem.run_bind, Sem.run_pure, Result.andThen_ok, hr]
theorem ready_st {ops : Array Oper} {o : Oper} {a : Act} {w W' : World} {K : Act → World → Prop} {Q : Exit → Act → World → Prop} (ty : TypeId) (x y : Operand) (hgd : o.guard = none) (ho : o.op = .store ty x y) {g : Nat} {v : Value} (hx : a.eval x = .pointer (some ⟨g, 0, none⟩)) (hy : a.eval y = v)
    (hr : (storeVar ty ⟨g, 0, none⟩ v).run Try.prog w = .ok () W') (h : K (a.put o.dst undef) W') : if Region.wanted o (yielded ops a.tmps) = true then Oper.wp Try.prog o a w K Q else K (a.put o.dst undef) w := by
  simp only [Region.wanted, hgd, if_true]
  unfold Oper.wp execOp
  simp only [ho, hx, hy, Instr.storeAt, Instr.sureAddr, Sem.run_bind, Sem.run_pure, Result.andThen_ok, hr]
  exact h
theorem stepB_out {N : Net} {x : Step} (h : stepB N x = true) : x.arc < N.arcs.length ∧ x.src < 34 ∧ x.dst < 34 ∧ (x.sign = 1 ∨ x.sign = -1) ∧ -4503599627370496 ≤ x.room ∧ x.room ≤ 4503599627370496 := by
  unfold stepB at h
  simp only [Bool.and_eq_true, Bool.or_eq_true, decide_eq_true_eq, small_iff] at h
  obtain ⟨⟨⟨⟨a, b⟩, c⟩, d⟩, e⟩ := h
  exact ⟨a, b, c, d, e.1, e.2⟩

theorem least_next (m : Int) {p : List Step} {k : Nat} {y : Step} (hy : p[k]? = some y) : least m (p.take (k + 1)) = min (least m (p.take k)) y.room := by
  unfold least
  rw [List.take_add_one, hy, List.foldl_append]
  rfl
theorem least_small : ∀ (m : Int) (p : List Step), -4503599627370496 ≤ m ∧ m ≤ 4503599627370496 → (∀ y ∈ p, -4503599627370496 ≤ y.room ∧ y.room ≤ 4503599627370496) → -4503599627370496 ≤ least m p ∧ least m p ≤ 4503599627370496
  | m, [], h, _ => h
  | m, y :: p, h, hp => by
    have hy := hp y (List.mem_cons_self ..)
    exact least_small (min m y.room) p (by omega) fun z hz => hp z (List.mem_cons_of_mem _ hz)
theorem push_next {m : Int} {N N2 : Net} {p : List Step} {k : Nat} {y : Step} (hy : p[k]? = some y) (h : pushF m N (p.drop k) = some N2) :
    small ((N.arcs.getD y.arc noArc).mass + y.sign * m) = true ∧ pushF m (N.mass y.arc ((N.arcs.getD y.arc noArc).mass + y.sign * m)) (p.drop (k + 1)) = some N2 := by
  have hk : k < p.length := (List.getElem?_eq_some_iff.1 hy).1
  have e : p[k] = y := (List.getElem?_eq_some_iff.1 hy).2
  rw [List.drop_eq_getElem_cons hk, e] at h
  unfold pushF at h
  dsimp only at h
  split at h
  · rename_i hs
    exact ⟨hs, h⟩
  · cases h
def EvenPost (base a : Nat) (va : Value) (vs : List Value) (W : World) (N' : Net) (l' : List Int) (mk : List Bool) (e : Ending) (W' : World) : Prop :=
  e = .returned (.tuple #[.agg (ints l'), .agg (bools mk)]) ∧ NetIn base W' a N' va vs ∧ W.grownBy W' va.ownBlock

set_option maxRecDepth 100000 in
set_option maxHeartbeats 20000000 in
theorem even_any (base a g c k : Nat) (N N' : Net) (vs : List Value) (l l' : List Int) (mk : List Bool) (W : World) (hnet : NetIn base W a N (.slice (some ⟨g, 0, none⟩) N.arcs.length c) vs) (hl : l.length = 34) (hk : evenF k N l = some (N', l', mk)) :
    Calls Try.prog 83 #[.pointer (some ⟨a, 0, none⟩), .agg (ints l)] W (EvenPost base a (.slice (some ⟨g, 0, none⟩) N.arcs.length c) vs W N' l' mk) := by
  have hz := (zero_of_info zero_marks).1
  have hz2 := (zero_of_info zero_bal).1
  obtain ⟨n, hn⟩ : ∃ n, n = N.arcs.length := ⟨_, rfl⟩
  rw [← hn] at hnet ⊢
  have HK := hid hk
  have HL := hid hl
  have HNET := hid hnet
  have HN := hid hn
  have HLOW : Hid (Low W.heap.size a (.slice (some ⟨g, 0, none⟩) n c) vs) := hid (by
    cases k with
    | zero => cases hk
    | succ k => exact hnet.below (even_turn hk).1.len)
  clear hk hl hnet hn
  go_enter Try.func83, Try.ntmps83
  go_wp2_with fail
  go_loopg [6] k (fun k u6 wr => ∃ N1 l1, Hid (evenF k N1 l1 = some (N', l', mk)) ∧ Hid (NetIn base wr a N1 (.slice (some ⟨g, 0, none⟩) n c) vs) ∧ Hid (N1.arcs.length = n) ∧ Hid (Blk wr W.heap.size (ints l1) 94) ∧ Hid (Blk wr (W.heap.size + 1) (ints noB) 94) ∧ Hid (Blk wr (W.heap.size + 1 + 1) (bools noM) 85) ∧ Hid (W.grownBy wr (some g)))
  case atStart =>
    refine ⟨N, l, HK, hid (((HNET.out.later ?_))), hid HN.out.symm, hid (((Blk.new _ _ _).alloc _).alloc _), hid (Blk_new1 _ _ _ _ _), hid (Blk_new2 _ _ _ _ _), hid ?_⟩
    · exact (((Below.refl _ _).alloc (Nat.le_refl _) _).alloc (by simp) _).alloc (by simp; omega) _
    · exact grown_below ((((Below.refl _ _).alloc (Nat.le_refl _) _).alloc (by simp) _).alloc (by simp; omega) _) _
  case round =>
    obtain ⟨N1, l1, HK, HNET, HN1, HB0, HB1, HB2, HG⟩ := hrel
    cases gk with
    | zero => cases HK.out
    | succ k1 =>
      obtain ⟨hok, hsm, hlen, p, mk1, hw, hrest⟩ := even_turn HK.out
      have HLN := hid hlen
      have HSG := hid (signs_any l1 wr hlen)
      have HOK := hid hok
      have HSM := hid hsm
      have HW := hid hw
      have HR := hid hrest
      clear hok hsm hlen hw hrest
      go_wp2_with (with_reducible refine ld_bal _ rfl rfl ?e1 HB0.out HLN.out ?_)
      case e1 => rfl
      refine HSG.out.mono ?_
      rintro e w1 ⟨rfl, hb⟩
      have HNET := hid (HNET.out.later hb)
      have HB0 := hid (HB0.out.later hb HB0.out.lt)
      have HB1 := hid (HB1.out.later hb HB1.out.lt)
      have HB2 := hid (HB2.out.later hb HB2.out.lt)
      have HG := hid (grown_trans HG.out (grown_below hb _))
      have HG1 := HG
      clear hb HSG
      have HWY := hid (way_any base a N1 _ vs _ _ p mk1 HOK.out w1 HNET.out (over_len HLN.out) (under_len HLN.out) HW.out)
      have HML : Hid (mk1.length = 34) := hid (wayF_len (over_len HLN.out) HW.out)
      go_wp2_with fail
      refine HWY.out.mono ?_
      rintro e w2 ⟨v, rfl, hrow, hb⟩
      have HNET := hid (HNET.out.later hb)
      have HB0 := hid (HB0.out.later hb HB0.out.lt)
      have HB1 := hid (HB1.out.later hb HB1.out.lt)
      have HB2 := hid (HB2.out.later hb HB2.out.lt)
      have HG := hid (grown_trans HG.out (grown_below hb _))
      have HROW := hid hrow
      have R0 := hid (put_marks_new w2 (old := noM) (l := mk1) (t := 85) (g := w2.heap.size) noM_len HML.out rfl)
      clear hb HWY hrow
      go_wp2_with (with_reducible refine stP 85 _ _ rfl rfl ?e1 ?e2 R0.out ?_)
      case e1 => rfl
      case e2 => rfl
      rcases HR.out with ⟨rfl, rfl, rfl, rfl⟩ | ⟨x, q, en, m, N2, rfl, hst, hq, hgl, hm, hpush, hev⟩
      · clear HR
        obtain ⟨pp, cc, rfl⟩ := row_slice HROW.out
        rw [List.length_nil] at HROW ⊢
        obtain ⟨w3, hw3⟩ : ∃ w3, w3 = (w2.alloc (.cells (bools mk) 85)).drew := ⟨_, rfl⟩
        have HM : Hid (Blk w3 w2.heap.size (bools mk) 85) := hid (by rw [hw3]; exact (Blk.new w2 (bools mk) 85).drew)
        have HB0' : Hid (Blk w3 W.heap.size (ints l') 94) := hid (by rw [hw3]; exact (HB0.out.alloc _).drew)
        have HB1' : Hid (Blk w3 (W.heap.size + 1) (ints noB) 94) := hid (by rw [hw3]; exact (HB1.out.alloc _).drew)
        have HB2' : Hid (Blk w3 (W.heap.size + 1 + 1) (bools noM) 85) := hid (by rw [hw3]; exact (HB2.out.alloc _).drew)
        have HSZ : Hid (W.heap.size + 1 + 1 < w2.heap.size) := hid HB2.out.lt
        have HBL : Hid (Below W.heap.size w2 w3) := hid (by rw [hw3]; exact ((Below.refl _ _).alloc HG.out.size _).drew)
        go_wp2_with fail
        rw [len_run]
        go_wp2_with fail
        refine region_held (fun w' => Blk w' W.heap.size (ints l') 94 ∧ Blk w' w2.heap.size (bools mk) 85) (by kernel_rfl) ?_
        rw [← hw3]
        clear hw3
        refine' tkw 0 (v := .agg (ints l')) rfl (by kernel_rfl) (by kernel_rfl) ⟨HB0'.out, HM.out⟩ (fun _ _ _ h => h) (fun w' hS => yield_ld 94 _ rfl rfl (run_bal w' hS.1 HLN.out)) ?_
        refine' tkw 1 (v := .agg (bools mk)) rfl (by kernel_rfl) (by kernel_rfl) ⟨HB0'.out, HM.out⟩ (fun _ _ _ h => h) (fun w' hS => yield_ld 85 _ rfl rfl (run_marks w' hS.2 HML.out)) ?_
        try simp only [Act.put, List.setIfInBounds_toArray, List.set_cons_zero, List.set_cons_succ]
        refine wpAnyH_ready (rs := [2]) (by kernel_rfl) (by simp) ?_
        refine AllReadyH.cons rfl (fun K hK => ?_) AllReadyH.nil
        · refine ready_st 94 _ _ rfl rfl rfl rfl (put_bal w3 HB1'.out noB_len HLN.out) ?_
          have HP1 := hid (HB2'.out.rowOther (k := W.heap.size + 1) (ints l') (by omega))
          have HS1 := hid (HB0'.out.rowOther (k := W.heap.size + 1) (ints l') (by omega))
          have HS2 := hid (HM.out.rowOther (k := W.heap.size + 1) (ints l') (by have := HSZ.out; omega))
          refine hK.out _ _ ⟨HS1.out, HS2.out⟩ (fun _ => ?_)
          clear hK
          try simp only [Act.put, List.setIfInBounds_toArray, List.set_cons_zero, List.set_cons_succ]
          refine wpAnyH_ready (rs := [3]) (by kernel_rfl) (by simp) ?_
          refine AllReadyH.cons rfl (fun K hK => ?_) AllReadyH.nil
          refine ready_st 85 _ _ rfl rfl rfl rfl (put_marks _ HP1.out noM_len HML.out) ?_
          refine hK.out _ _ ⟨HS1.out.rowOther _ (by omega), HS2.out.rowOther _ (by have := HSZ.out; omega)⟩ (fun _ => ?_)
          clear hK
          refine wpAnyH_done (by kernel_rfl) ?_ _
          have HQ1 := hid (run_bal _ ((HB1'.out.row (ints l')).rowOther (k := W.heap.size + 1 + 1) (bools mk) (by omega)) HLN.out)
          have HQ2 := hid (run_marks _ (HP1.out.row (bools mk)) HML.out)
          have HQ3 := hid (below_setRow (below_setRow HBL.out (g := W.heap.size + 1) (by omega) (ints l')) (g := W.heap.size + 1 + 1) (by omega) (bools mk))
          go_wp2_with fail
          refine bodyPost_ret (v := .tuple #[.agg (ints l'), .agg (bools mk)]) ?_ rfl ⟨rfl, HNET.out.kept HLOW.out HQ3.out, grown_kept HG.out HQ3.out⟩
          simp [results, Try.results83, asAddr, Act.put, HQ1.out, HQ2.out]
      · clear HR
        obtain ⟨g2, c2, rfl, hg2⟩ := row_some HROW.out (by simp)
        have HRS : Hid (RowS w1.heap.size w2 (.slice (some ⟨g2, 0, none⟩) (x :: q).length c2) (x :: q)) := HROW
        obtain ⟨j, hj⟩ : ∃ j, j = q.length := ⟨_, rfl⟩
        obtain ⟨nn, hnn⟩ : ∃ nn, nn = (x :: q).length := ⟨_, rfl⟩
        have hlast : (x :: q)[j]? = some en := by
          rw [List.getLast?_eq_getElem?] at hgl
          rw [← hgl, hj]; rfl
        rw [← hnn] at HRS ⊢
        have hnj : nn = j + 1 := by rw [hnn, hj]; rfl
        have hj100 : j ≤ 100 := by rw [hj]; exact hq
        obtain ⟨w3, hw3⟩ : ∃ w3, w3 = w2.alloc (.cells (bools mk1) 85) := ⟨_, rfl⟩
        have hb23 : Below w2.heap.size w2 w3 := by rw [hw3]; exact (Below.refl _ _).alloc (Nat.le_refl _) _
        have HNET := hid (HNET.out.later hb23)
        have HB0 := hid (HB0.out.later hb23 HB0.out.lt)
        have HB1 := hid (HB1.out.later hb23 HB1.out.lt)
        have HB2 := hid (HB2.out.later hb23 HB2.out.lt)
        have HG := hid (grown_trans HG.out (grown_below hb23 _))
        have HRS : Hid (RowS w1.heap.size w3 (.slice (some ⟨g2, 0, none⟩) nn c2) (x :: q)) := hid (by
          have h := HRS.out
          unfold RowS at h ⊢
          exact ownsRow_later h hb23)
        obtain ⟨x0, x1, x2, x3, x4, hf⟩ := RowS.cells (by rw [hnn] at HRS; exact HRS.out) (show (x :: q)[0]? = some x from rfl)
        obtain ⟨y0, y1, y2, y3, y4, _⟩ := RowS.cells (by rw [hnn] at HRS; exact HRS.out) hlast
        have hf2 := hf 2
        have hf3 := hf (j * 5 + 3)
        have HG2 := hid hg2
        have HF := hid hf
        have HST := hid hst
        have HGL := hid hlast
        have HM := hid hm
        have HPU := hid hpush
        have HEV := hid hev
        have HNN := hid hnn
        have HNJ := hid hnj
        have HW3 := hid hw3
        have hi1 : ¬ ((nn : Int) = 0) := by omega
        have hi2 : (nn : Int) - 1 = (j : Int) := by omega
        have hi3 : 0 < nn := by omega
        have hi4 : j < nn := by omega
        clear hj hnn hg2 hf hst hgl hlast hm hpush hev hq hnj HROW HK hw3 hb23 x0 x1 x3 x4 y0 y1 y2 y4
        go_wp2_with fail
        rw [len_run]
        go_wp2_with fail
        rw [← HW3.out]
        clear HW3
        go_quiet (fail)
        obtain ⟨w4, hw4⟩ : ∃ w4, w4 = w3.drewN nq := ⟨_, rfl⟩
        have hb34 : Below w3.heap.size w3 w4 := by rw [hw4]; exact ⟨rfl, rfl, rfl, Nat.le_refl _, fun _ _ => rfl⟩
        have HNET := hid (HNET.out.later hb34)
        have HB0 := hid (HB0.out.later hb34 HB0.out.lt)
        have HB1 := hid (HB1.out.later hb34 HB1.out.lt)
        have HB2 := hid (HB2.out.later hb34 HB2.out.lt)
        have HG := hid (grown_trans HG.out (grown_below hb34 _))
        have HRS : Hid (RowS w1.heap.size w4 (.slice (some ⟨g2, 0, none⟩) nn c2) (x :: q)) := hid (by
          have h := HRS.out
          unfold RowS at h ⊢
          exact ownsRow_later h hb34)
        have HSX := hid (HST.out x (List.mem_cons_self ..))
        have HSE := hid (HST.out en (List.mem_of_getElem? HGL.out))
        have hxs : x.src < 34 := (stepB_out HSX.out).2.1
        have hed : en.dst < 34 := (stepB_out HSE.out).2.2.1
        obtain ⟨s0, hs0⟩ : ∃ s0, l1[x.src]? = some s0 := ⟨l1[x.src]'(by rw [HLN.out]; exact hxs), List.getElem?_eq_getElem _⟩
        obtain ⟨d0, hd0⟩ : ∃ d0, l1[en.dst]? = some d0 := ⟨l1[en.dst]'(by rw [HLN.out]; exact hed), List.getElem?_eq_getElem _⟩
        have hg1 := HB0.out.cell (ints_get hs0)
        have hg2' := HB0.out.cell (ints_get hd0)
        have hb1 := small_iff.1 (HSM.out s0 (List.mem_of_getElem? hs0))
        have hb2 := small_iff.1 (HSM.out d0 (List.mem_of_getElem? hd0))
        have HS0 := hid hs0
        have HD0 := hid hd0
        have HW4 := hid hw4
        clear hs0 hd0 hw4 hb34 hf2 hf3 x2 y3
        rw [← HW4.out]
        clear HW4
        go_wp2_with fail
        go_quiet (fail)
        obtain ⟨w5, hw5⟩ : ∃ w5, w5 = w4.drewN nq := ⟨_, rfl⟩
        obtain ⟨m0, hm0⟩ : ∃ m0, m0 = if -d0 < s0 then -d0 else s0 := ⟨_, rfl⟩
        have HM0 : Hid (m0 = min s0 (-d0)) := hid (by rw [hm0]; split <;> omega)
        have hb45 : Below w4.heap.size w4 w5 := by rw [hw5]; exact ⟨rfl, rfl, rfl, Nat.le_refl _, fun _ _ => rfl⟩
        have HNET := hid (HNET.out.later hb45)
        have HB0 := hid (HB0.out.later hb45 HB0.out.lt)
        have HB1 := hid (HB1.out.later hb45 HB1.out.lt)
        have HB2 := hid (HB2.out.later hb45 HB2.out.lt)
        have HG := hid (grown_trans HG.out (grown_below hb45 _))
        have HRS : Hid (RowS w1.heap.size w5 (.slice (some ⟨g2, 0, none⟩) nn c2) (x :: q)) := hid (by
          have h := HRS.out
          unfold RowS at h ⊢
          exact ownsRow_later h hb45)
        have hbf : ((nn : Int) == 0) = false := beq_eq_false_iff_ne.2 hi1
        rw [← hw5, ← hm0, hbf]
        clear hw5 hm0 hb45 hg1 hg2' hbf
        go_wp2_with fail
        go_loopw [10, 50] (fun t i wr => ∃ k : Nat, k ≤ nn ∧ i = .int .i64 k ∧ t = .int .i64 (least m0 ((x :: q).take k)) ∧ Hid (Below w5.heap.size w5 wr)) (fun _ i _ => nn - (intOf i).toNat)
        case atStart => exact ⟨0, by omega, rfl, rfl, hid (Below.refl _ _)⟩
        case round =>
          obtain ⟨k, hk, rfl, rfl, HBW⟩ := hrel
          by_cases hlt : k < nn
          · obtain ⟨y, hy⟩ : ∃ y, (x :: q)[k]? = some y := ⟨(x :: q)[k]'(by rw [← HNN.out]; exact hlt), List.getElem?_eq_getElem _⟩
            have hrs : RowS w1.heap.size wr (.slice (some ⟨g2, 0, none⟩) (x :: q).length c2) (x :: q) := by
              have h := HRS.out
              rw [HNN.out] at h
              exact ownsRow_later h HBW.out
            obtain ⟨x0, x1, x2, x3, x4, hf⟩ := RowS.cells hrs hy
            have hf0 := hf (k * 5)
            have hf1 := hf (k * 5 + 1)
            have hf2 := hf (k * 5 + 2)
            have hf3 := hf (k * 5 + 3)
            have hf4 := hf (k * 5 + 4)
            have HTK := hid (least_next m0 hy)
            have HSZ : Hid (w5.heap.size ≤ wr.heap.size) := hid HBW.out.size
            clear hy hf hrs
            go_wp2_with fail
            exact ⟨⟨k + 1, by omega, by go_num, congrArg (Value.int .i64) (by rw [HTK.out]; split <;> omega), hid (HBW.out.alloc HSZ.out _)⟩, by simp [intOf]; omega⟩
          · obtain rfl : k = nn := by omega
            have hm1 : least m0 ((x :: q).take k) = m := by
              rw [HM.out, HM0.out, List.take_of_length_le (by rw [← HNN.out]; omega), List.getD_eq_getElem?_getD, List.getD_eq_getElem?_getD, HS0.out, HD0.out]
              rfl
            have hmb : -4503599627370496 ≤ m ∧ m ≤ 4503599627370496 := by
              rw [← hm1, List.take_of_length_le (by rw [← HNN.out]; omega)]
              exact least_small _ _ (by rw [HM0.out]; omega) fun y hy => (stepB_out (HST.out y hy)).2.2.2.2
            rw [hm1]
            have HGW := hid (grown_below HBW.out (some g))
            clear hm1
            go_wp2_with fail
            go_loopw [61] (fun i w6 => ∃ j : Nat, j ≤ k ∧ i = .int .i64 j ∧ Hid (w5.grownBy w6 (some g)) ∧ ∃ Nk, Hid (pushF m Nk ((x :: q).drop j) = some N2) ∧ Hid (NetIn base w6 a Nk (.slice (some ⟨g, 0, none⟩) n c) vs) ∧ Hid (Nk.arcs.length = n)) (fun i _ => k - (intOf i).toNat)
            case atStart => exact ⟨0, by omega, rfl, HGW, N1, HPU, hid (HNET.out.later HBW.out), HN1⟩
            case round =>
              obtain ⟨j1, hj1, rfl, HGR, Nk, HPK, HNK, HNL⟩ := hrel
              by_cases hlt : j1 < k
              · obtain ⟨y, hy⟩ : ∃ y, (x :: q)[j1]? = some y := ⟨(x :: q)[j1]'(by rw [← HNN.out]; exact hlt), List.getElem?_eq_getElem _⟩
                have hrs : RowS w1.heap.size wr (.slice (some ⟨g2, 0, none⟩) (x :: q).length c2) (x :: q) := by
                  have h := HRS.out
                  rw [HNN.out] at h
                  exact ownsRow_kept h fun b hb => HGR.out.block b (World.ownsRow.lt h b hb).2 (fun e => by
                    have e1 := Option.some.inj (show some g2 = some b from hb)
                    have e2 := Option.some.inj e
                    have h0 := HG2.out
                    have h1 := HLOW.out.2.1 g rfl
                    have h2 := HG1.out.size
                    omega)
                obtain ⟨x0, x1, x2, x3, x4, hf⟩ := RowS.cells hrs hy
                have hf0 := hf (j1 * 5)
                have hf1 := hf (j1 * 5 + 1)
                have hf2 := hf (j1 * 5 + 2)
                have hf3 := hf (j1 * 5 + 3)
                have hf4 := hf (j1 * 5 + 4)
                have HY := hid hy
                obtain ⟨hya, _, _, hsg, _⟩ := stepB_out (HST.out y (List.mem_of_getElem? hy))
                obtain ⟨ar, har⟩ : ∃ ar, Nk.arcs[y.arc]? = some ar := ⟨Nk.arcs[y.arc]'(by rw [HNL.out, ← HN1.out]; exact hya), List.getElem?_eq_getElem _⟩
                obtain ⟨hks, hkp⟩ := push_next hy HPK.out
                rw [List.getD_eq_getElem?_getD, har, Option.getD_some] at hks hkp
                obtain ⟨g', c', hva, _, _, _, _, _, _, _, hc4, hcf⟩ := HNK.out.arcAt har
                have e1 : g' = g := by
                  injection hva with h _ _
                  injection h with h
                  injection h with h _ _
                  exact h.symm
                rw [e1] at hc4 hcf
                clear hva e1
                have ha0 : wr.cell? ⟨a, 0, none⟩ = some (.slice (some ⟨g, 0, none⟩) n c) := HNK.out.blk.cell rfl
                have hbm := small_iff.1 hks
                have hsm : -4503599627370496 ≤ y.sign * m ∧ y.sign * m ≤ 4503599627370496 := by
                  rcases hsg with h | h <;> rw [h] <;> omega
                have hyn : y.arc < n := by rw [← HN1.out]; exact hya
                have hcf4 := hcf (y.arc * 5 + 4)
                have HKP := hid hkp
                have HAR := hid har
                have HKS := hid hks
                obtain ⟨w6, hw6⟩ : ∃ w6, w6 = (wr.alloc (.cells #[.int .i64 y.arc, .int .i64 y.sign, .int .i64 y.src, .int .i64 y.dst, .int .i64 y.room] 129)).drew := ⟨_, rfl⟩
                have hb6 : Below wr.heap.size wr w6 := by rw [hw6]; exact ((Below.refl _ _).alloc (Nat.le_refl _) _).drew
                have hnew : Blk w6 wr.heap.size #[.int .i64 y.arc, .int .i64 y.sign, .int .i64 y.src, .int .i64 y.dst, .int .i64 y.room] 129 := by rw [hw6]; exact (Blk.new wr _ _).drew
                have hz0 := hnew.cell (i := 0) rfl
                have hz1 := hnew.cell (i := 1) rfl
                have HN6 := HNK.out.later hb6
                have ha6 : w6.cell? ⟨a, 0, none⟩ = some (.slice (some ⟨g, 0, none⟩) n c) := HN6.blk.cell rfl
                obtain ⟨g', c', hva, _, _, _, _, _, _, _, hc6, hcf6⟩ := HN6.arcAt har
                have e1 : g' = g := by
                  injection hva with h _ _
                  injection h with h
                  injection h with h _ _
                  exact h.symm
                rw [e1] at hc6 hcf6
                have hcf7 := hcf6 (y.arc * 5 + 4)
                have HBU := NetIn.bump (by rw [HNL.out]; exact HN6) har (ar.mass + y.sign * m)
                rw [HNL.out] at HBU
                have HBU := hid HBU
                have HG6 := hid (grown_trans (grown_trans HGR.out (grown_below hb6 (some g))) (grown_set w6 g (y.arc * 5 + 4) (.int .i64 (ar.mass + y.sign * m))))
                have HW6 := hid hw6
                clear hva e1 hcf6 HN6 hnew hb6 hw6 hc4 hcf4 ha0
                clear hy hf hrs hya hsg har hks hkp hcf
                go_wp2_with fail
                refine region_tail 16 (by kernel_rfl) (by kernel_rfl) ?_
                rw [← HW6.out]
                clear HW6
                simp only [List.take_succ_cons, List.take_zero, List.drop_succ_cons, List.drop_zero]
                repeat still_step
                try refine wpStill_nil ?_
                go_wp2_with fail
                go_roundw
                case rel => exact ⟨j1 + 1, by omega, by go_num, HG6, _, HKP, HBU, hid (List.length_set.trans HNL.out)⟩
                case measure => simp [intOf]; omega
              · obtain rfl : j1 = k := by omega
                have hgne : W.heap.size ≠ g := by have h1 := HLOW.out.2.1 g rfl; omega
                have HBW0 : Hid (Blk wr W.heap.size (ints l1) 94) := hid ((HGR.out.block _ HB0.out.lt (fun e => hgne (Option.some.inj e))).trans HB0.out)
                have hce := HBW0.out.cell (ints_get HS0.out)
                have hcd := HBW0.out.cell (ints_get HD0.out)
                have hfe := HBW0.out.froz x.src
                have hfd := HBW0.out.froz en.dst
                have HN2 : Hid (Nk = N2) := hid (by
                  have h := HPK.out
                  rw [List.drop_of_length_le (by rw [← HNN.out]; omega)] at h
                  exact Option.some.inj h)
                have HCL : Hid (∀ u v : Int, NetIn base ((wr.setCell ⟨W.heap.size, x.src, none⟩ (.int .i64 u)).setCell ⟨W.heap.size, en.dst, none⟩ (.int .i64 v)) a Nk (.slice (some ⟨g, 0, none⟩) n c) vs ∧ Hid (Nk.arcs.length = n) ∧
                    Blk ((wr.setCell ⟨W.heap.size, x.src, none⟩ (.int .i64 u)).setCell ⟨W.heap.size, en.dst, none⟩ (.int .i64 v)) W.heap.size (ints ((l1.set x.src u).set en.dst v)) 94 ∧
                    Blk ((wr.setCell ⟨W.heap.size, x.src, none⟩ (.int .i64 u)).setCell ⟨W.heap.size, en.dst, none⟩ (.int .i64 v)) (W.heap.size + 1) (ints noB) 94 ∧
                    Blk ((wr.setCell ⟨W.heap.size, x.src, none⟩ (.int .i64 u)).setCell ⟨W.heap.size, en.dst, none⟩ (.int .i64 v)) (W.heap.size + 1 + 1) (bools noM) 85 ∧
                    W.grownBy ((wr.setCell ⟨W.heap.size, x.src, none⟩ (.int .i64 u)).setCell ⟨W.heap.size, en.dst, none⟩ (.int .i64 v)) (some g)) := hid (fun u v => by
                  have hlg := HLOW.out.2.1 g rfl
                  have hbl : Below W.heap.size wr ((wr.setCell ⟨W.heap.size, x.src, none⟩ (.int .i64 u)).setCell ⟨W.heap.size, en.dst, none⟩ (.int .i64 v)) := ((Below.refl _ _).setCell (p := ⟨W.heap.size, x.src, none⟩) (Nat.le_refl _) _).setCell (p := ⟨W.heap.size, en.dst, none⟩) (Nat.le_refl _) _
                  refine ⟨HNK.out.kept HLOW.out hbl, HNL, ?_, ?_, ?_, grown_kept (grown_trans HG.out HGR.out) hbl⟩
                  · rw [← ints_set, ← ints_set]
                    exact (HBW0.out.set _ _).set _ _
                  · have h : Blk wr (W.heap.size + 1) (ints noB) 94 := (HGR.out.block _ HB1.out.lt (fun e => by have := Option.some.inj e; omega)).trans HB1.out
                    exact (h.setOther _ _ (by omega)).setOther _ _ (by omega)
                  · have h : Blk wr (W.heap.size + 1 + 1) (bools noM) 85 := (HGR.out.block _ HB2.out.lt (fun e => by have := Option.some.inj e; omega)).trans HB2.out
                    exact (h.setOther _ _ (by omega)).setOther _ _ (by omega))
                by_cases hxe : en.dst = x.src
                · have HE2 : Hid (evenF k1 Nk ((l1.set x.src (s0 - m)).set x.src s0) = some (N', l', mk)) := hid (by
                    have h := HEV.out
                    rw [← HN2.out, hxe, List.getD_eq_getElem?_getD, HS0.out, Option.getD_some, List.getD_eq_getElem?_getD, List.getElem?_set_self (by rw [HLN.out]; exact hxs), Option.getD_some, Int.sub_add_cancel] at h
                    exact h)
                  obtain ⟨C1, C2, C3, C4, C5, C6⟩ := HCL.out (s0 - m) s0
                  rw [hxe] at C1 C3 C4 C5 C6 ⊢
                  have HC1 := hid C1
                  have HC3 := hid C3
                  have HC4 := hid C4
                  have HC5 := hid C5
                  have HC6 := hid C6
                  clear C1 C3 C4 C5 C6 hcd hfd
                  go_wp2_with fail
                  go_roundg k1
                  case measure => omega
                  case rel => exact ⟨Nk, _, HE2, HC1, C2, HC3, HC4, HC5, HC6⟩
                · have HE2 : Hid (evenF k1 Nk ((l1.set x.src (s0 - m)).set en.dst (d0 + m)) = some (N', l', mk)) := hid (by
                    have h := HEV.out
                    rw [← HN2.out, List.getD_eq_getElem?_getD, HS0.out, Option.getD_some, List.getD_eq_getElem?_getD, List.getElem?_set_ne (fun e => hxe e.symm), HD0.out, Option.getD_some] at h
                    exact h)
                  obtain ⟨C1, C2, C3, C4, C5, C6⟩ := HCL.out (s0 - m) (d0 + m)
                  have HC1 := hid C1
                  have HC3 := hid C3
                  have HC4 := hid C4
                  have HC5 := hid C5
                  have HC6 := hid C6
                  clear C1 C3 C4 C5 C6
                  go_wp2_with fail
                  go_roundg k1
                  case measure => omega
                  case rel => exact ⟨Nk, _, HE2, HC1, C2, HC3, HC4, HC5, HC6⟩
end Go.Proofs.Ytncnpodanlhdkaa
