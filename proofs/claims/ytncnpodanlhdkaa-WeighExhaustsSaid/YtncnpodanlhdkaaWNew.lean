/-
  newNetwork: the network of a book.
-/
import Derived.Test.YtncnpodanlhdkaaWBook
namespace Go.Proofs.Ytncnpodanlhdkaa
set_option linter.all false
open Go.RowKit

structure TksOk (S : List (Int × Int)) (T : List Tk) : Prop where
  few : T.length ≤ 128
  places : S.length ≤ 32
  tk : ∀ (i : Nat) (t : Tk), T[i]? = some t → -1 ≤ t.src ∧ t.src < S.length ∧ -1 ≤ t.dst ∧ t.dst < S.length
  rg : ∀ (i : Nat) (r : Int × Int), S[i]? = some r → -999999999 ≤ r.1 ∧ r.1 ≤ 999999999 ∧ -999999999 ≤ r.2 ∧ r.2 ≤ 999999999

def NewPost (W : World) (N : Net) (e : Ending) (W' : World) : Prop := ∃ a va vs, e = .returned (.pointer (some ⟨a, 0, none⟩)) ∧ NetIn W.heap.size W' a N va vs ∧ Below W.heap.size W W'

theorem NetIn.ge {base : Nat} {W : World} {a : Nat} {N : Net} {va : Value} {vs : List Value} (h : NetIn base W a N va vs) (he : N.ends.length = 34) : ∀ k, Owned a va vs k → base ≤ k := by
  intro k hk
  rcases hk with rfl | hk | ⟨i, x, hx, hk⟩
  · exact h.low
  · exact (World.ownsRow.lt h.arcs k hk).1
  · have hi : i < N.ends.length := by rw [he, ← h.len]; exact (List.getElem?_eq_some_iff.1 hx).1
    obtain ⟨y, h1, h2⟩ := h.ends i _ (List.getElem?_eq_getElem hi)
    rw [hx] at h1
    cases h1
    exact (World.ownsRow.lt h2 k hk).1
theorem NetIn.base {base base' : Nat} {W : World} {a : Nat} {N : Net} {va : Value} {vs : List Value} (h : NetIn base W a N va vs) (hb : base' ≤ base) : NetIn base' W a N va vs :=
  ⟨h.blk, Nat.le_trans hb h.low, h.len, h.arcs.mono hb, fun v l hl => by obtain ⟨x, h1, h2⟩ := h.ends v l hl; exact ⟨x, h1, h2.mono hb⟩, h.apart, h.alone, h.other⟩
theorem Added.below {base : Nat} {W W' : World} {a : Nat} {N N' : Net} {va va' : Value} {vs vs' : List Value} (h : NetIn base W a N va vs) (he : N.ends.length = 34) (hb : base ≤ W.heap.size) (k : Added base W a va vs W' N' va' vs') : Below base W W' :=
  ⟨k.old.os, k.old.tape, k.old.output, k.old.size, fun i hi => k.old.block i (by omega) fun ho => by have := h.ge he i ho; omega⟩
/-- Ticket by ticket. -/
structure TickAt (W w1 : World) (T : List Tk) (k : Nat) (wr : World) (a : Nat) (va : Value) (vs : List Value) : Prop where
  net : NetIn (W.heap.size + 1) wr a (tickF T k) va vs
  old : Below (W.heap.size + 1) w1 wr
theorem tick_next {T : List Tk} {k : Nat} {t : Tk} (h : T[k]? = some t) : tickF T (k + 1) = (tickF T k).add (node t.src) (node t.dst) t.low t.high := by
  conv => lhs; unfold tickF
  rw [h]
/-- nodeOf, as a region that draws its order meets it. -/
theorem nodeOf_still (p : Int) (h : -1 ≤ p) (w : World) : Calls Try.prog 68 #[.int .i64 p] w fun e w' => e = .returned (.int .i64 (node p)) ∧ w' = w :=
  (nodeOf_any p w).mono fun e w' ⟨h1, h2⟩ => ⟨by rw [h1, node_val h], h2.symm⟩

theorem TickAt.next {W w1 wr w5 : World} {T : List Tk} {k : Nat} {a : Nat} {va va' : Value} {vs vs' : List Value} {t : Tk} {o : Obj} (h : TickAt W w1 T k wr a va vs) (hk : k < T.length) (ht : T[k]? = some t) (hs : w1.heap.size = W.heap.size + 1) (k5 : Added (W.heap.size + 1) (wr.alloc o).drew a va vs w5 ((tickF T k).add (node t.src) (node t.dst) t.low t.high) va' vs') : TickAt W w1 T (k + 1) w5 a va' vs' := by
  have hb : Below wr.heap.size wr (wr.alloc o).drew := (below_new wr o).drew
  have hle : W.heap.size + 1 ≤ wr.heap.size := by have := h.old.size; omega
  refine ⟨by rw [tick_next ht]; exact k5.net, h.old.trans ((hb.mono hle).trans (Added.below (h.net.later hb) (few_tick T k (by omega)).ends (by simp; omega) k5))⟩
structure StockAt (W w1 : World) (N0 : Net) (J : List Int) (S : List (Int × Int)) (k : Nat) (wr : World) (a : Nat) (va : Value) (vs : List Value) (q : Nat) : Prop where
  net : NetIn (W.heap.size + 1) wr a (stockF N0 J S k).1 va vs
  old : Below (W.heap.size + 1) w1 wr
  sum : Blk wr q #[.int .i64 (stockF N0 J S k).2.1, .int .i64 (stockF N0 J S k).2.2] 38
  apart : ¬ Owned a va vs q
theorem stock_yes {N0 : Net} {J : List Int} {S : List (Int × Int)} {k : Nat} {r : Int × Int} (h : S[k]? = some r) (hc : J.contains (k : Int) = true) : stockF N0 J S (k + 1) = ((stockF N0 J S k).1.add k 33 r.1 r.2, (stockF N0 J S k).2.1 + r.1, (stockF N0 J S k).2.2 + r.2) := by
  conv => lhs; unfold stockF
  rw [h]
  dsimp only
  rw [if_pos hc]
theorem stock_no {N0 : Net} {J : List Int} {S : List (Int × Int)} {k : Nat} {r : Int × Int} (h : S[k]? = some r) (hc : J.contains (k : Int) = false) : stockF N0 J S (k + 1) = ((stockF N0 J S k).1.add k 32 r.1 r.2, (stockF N0 J S k).2.1, (stockF N0 J S k).2.2) := by
  conv => lhs; unfold stockF
  rw [h]
  dsimp only
  rw [if_neg (by rw [hc]; exact Bool.false_ne_true)]
theorem NetIn.own_lt {base : Nat} {W : World} {a : Nat} {N : Net} {va : Value} {vs : List Value} (h : NetIn base W a N va vs) (he : N.ends.length = 34) : ∀ k, Owned a va vs k → k < W.heap.size := by
  have hl := h.below he
  intro k hk
  rcases hk with rfl | hk | ⟨i, x, hx, hk⟩
  · exact hl.1
  · exact hl.2.1 k hk
  · exact hl.2.2 i x k hx hk
theorem StockAt.start {W w1 wr : World} {T : List Tk} {a : Nat} {va : Value} {vs : List Value} (J : List Int) (S : List (Int × Int)) (h : TickAt W w1 T T.length wr a va vs) (hs : w1.heap.size = W.heap.size + 1) : StockAt W w1 (tickF T T.length) J S 0 (wr.alloc (.cells #[.int .i64 0, .int .i64 0] 38)) a va vs wr.heap.size := by
  have hb := below_new wr (.cells #[.int .i64 0, .int .i64 0] 38)
  have hle : W.heap.size + 1 ≤ wr.heap.size := by have := h.old.size; omega
  refine ⟨h.net.later hb, h.old.trans (hb.mono hle), Blk.new wr _ _, fun ho => ?_⟩
  have := h.net.own_lt (few_tick T _ (Nat.le_refl _)).ends _ ho
  omega
theorem NetIn.same {base : Nat} {W W' : World} {a : Nat} {N : Net} {va : Value} {vs : List Value} (h : NetIn base W a N va vs) (hb : ∀ k, Owned a va vs k → W'.heap[k]? = W.heap[k]?) : NetIn base W' a N va vs := by
  refine ⟨(hb a (.inl rfl)).trans h.blk, h.low, h.len, ownsRow_kept h.arcs fun k hk => hb k (.inr (.inl hk)), fun v l hv => ?_, h.apart, h.alone, h.other⟩
  obtain ⟨y, h1, h2⟩ := h.ends v l hv
  exact ⟨y, h1, ownsRow_kept h2 fun k hk => hb k (.inr (.inr ⟨v, y, h1, hk⟩))⟩
/-- An arc is added while a sum lies in a block of its own. -/
structure StockMid (W w1 wr w5 : World) (N' : Net) (x y : Int) (cs : Array Value) (a : Nat) (va : Value) (vs : List Value) (q : Nat) : Prop where
  net : NetIn (W.heap.size + 1) w5 a N' va vs
  old : Below (W.heap.size + 1) w1 w5
  sum : Blk w5 q #[.int .i64 x, .int .i64 y] 38
  apart : ¬ Owned a va vs q
  new : Blk w5 wr.heap.size cs 38
  lt : q < wr.heap.size
  ge : W.heap.size + 1 ≤ q
theorem StockAt.added {W w1 wr w5 : World} {N0 : Net} {J : List Int} {S : List (Int × Int)} {k q s d : Nat} {a : Nat} {va va' : Value} {vs vs' : List Value} {lo hi : Int} {cs : Array Value} {m : Nat} (h0 : N0.Few m) (h : StockAt W w1 N0 J S k wr a va vs q) (hk : k ≤ S.length) (hs : w1.heap.size = W.heap.size + 1) (hq : W.heap.size + 1 ≤ q) (k5 : Added (W.heap.size + 1) (wr.alloc (.cells cs 38)) a va vs w5 ((stockF N0 J S k).1.add s d lo hi) va' vs') :
    StockMid W w1 wr w5 ((stockF N0 J S k).1.add s d lo hi) (stockF N0 J S k).2.1 (stockF N0 J S k).2.2 cs a va' vs' q := by
  have hb := below_new wr (.cells cs 38)
  have hle : W.heap.size + 1 ≤ wr.heap.size := by have := h.old.size; omega
  have hf := few_stock h0 J S k hk
  refine ⟨k5.net, h.old.trans ((hb.mono hle).trans (Added.below (h.net.later hb) hf.ends (by simp; omega) k5)), (k5.old.block q (by have := h.sum.lt; simp; omega) h.apart).trans (h.sum.alloc _), fun ho => ?_, (k5.old.block _ (by simp) fun ho => ?_).trans (Blk.new wr cs _), h.sum.lt, hq⟩
  · rcases k5.own q ho with h1 | h1
    · exact h.apart h1
    · have := h.sum.lt
      simp at h1
      omega
  · have := h.net.own_lt hf.ends _ ho
    omega
theorem StockMid.no {W w1 wr w5 : World} {N0 : Net} {J : List Int} {S : List (Int × Int)} {k q : Nat} {a : Nat} {va : Value} {vs : List Value} {cs : Array Value} {r : Int × Int} (h : S[k]? = some r) (hc : J.contains (k : Int) = false) (m : StockMid W w1 wr w5 ((stockF N0 J S k).1.add k 32 r.1 r.2) (stockF N0 J S k).2.1 (stockF N0 J S k).2.2 cs a va vs q) : StockAt W w1 N0 J S (k + 1) w5 a va vs q := by
  have e := stock_no (N0 := N0) h hc
  exact ⟨by rw [e]; exact m.net, m.old, by rw [e]; exact m.sum, m.apart⟩
theorem StockMid.yes {W w1 wr w5 w6 : World} {N0 : Net} {J : List Int} {S : List (Int × Int)} {k q : Nat} {a : Nat} {va : Value} {vs : List Value} {cs : Array Value} {r : Int × Int} (h : S[k]? = some r) (hc : J.contains (k : Int) = true) (m : StockMid W w1 wr w5 ((stockF N0 J S k).1.add k 33 r.1 r.2) (stockF N0 J S k).2.1 (stockF N0 J S k).2.2 cs a va vs q) (hb : Below w5.heap.size w5 w6) (he : ((stockF N0 J S k).1.add k 33 r.1 r.2).ends.length = 34) (hs : w1.heap.size = W.heap.size + 1) :
    StockAt W w1 N0 J S (k + 1) ((w6.setCell ⟨q, 0, none⟩ (.int .i64 ((stockF N0 J S k).2.1 + r.1))).setCell ⟨q, 1, none⟩ (.int .i64 ((stockF N0 J S k).2.2 + r.2))) a va vs q := by
  have e := stock_yes (N0 := N0) h hc
  have hs6 : Blk w6 q #[.int .i64 (stockF N0 J S k).2.1, .int .i64 (stockF N0 J S k).2.2] 38 := m.sum.later hb m.sum.lt
  have hle : W.heap.size + 1 ≤ w5.heap.size := by have := m.old.size; omega
  refine ⟨?_, ?_, ?_, m.apart⟩
  · rw [e]
    refine (m.net.later hb).same fun i hi => ?_
    have hne : i ≠ q := fun e => m.apart (e ▸ hi)
    rw [heap_setCell_other _ ⟨q, 1, none⟩ i _ hne, heap_setCell_other _ ⟨q, 0, none⟩ i _ hne]
  · exact ((m.old.trans (hb.mono hle)).setCell (p := ⟨q, 0, none⟩) m.ge _).setCell (p := ⟨q, 1, none⟩) m.ge _
  · rw [e]
    exact (hs6.set 0 _).set 1 _

set_option maxRecDepth 100000 in
set_option maxHeartbeats 8000000 in
theorem new_any (S : List (Int × Int)) (T : List Tk) (J : List Int) (v1 v2 v3 : Value) (W : World) (hb : BookIn W v1 v2 S T) (hj : SlcIn W v3 J.length (J.map (Value.int .i64))) (hok : TksOk S T) :
    Calls Try.prog 60 #[.agg #[v1, v2], v3] W (NewPost W (newF S T J)) := by
  obtain ⟨w1, hw1⟩ : ∃ w1, w1 = W.alloc (.cells #[v1, v2] 25) := ⟨_, rfl⟩
  have hb1 : Below W.heap.size W w1 := by rw [hw1]; exact below_new W _
  have hB1 : Blk w1 W.heap.size #[v1, v2] 25 := by rw [hw1]; exact Blk.new W _ _
  have hs1 : w1.heap.size = W.heap.size + 1 := by rw [hw1]; simp
  have HBK := hid (hb.later hb1)
  have HJ := hid (hj.later hb1)
  have HB1 := hid hb1
  have HS1 := hid hs1
  have HW1 := hid hw1
  have HOK := hid hok
  obtain ⟨p2, c2, rfl, hm2⟩ := HBK.out.tickets.shape
  obtain ⟨p1, c1, rfl, hm1⟩ := HBK.out.stock.shape
  obtain ⟨nt, hnt⟩ : ∃ nt, nt = T.length := ⟨_, rfl⟩
  obtain ⟨ns, hns⟩ : ∃ ns, ns = S.length := ⟨_, rfl⟩
  obtain ⟨a, ha⟩ : ∃ a, a = w1.heap.size := ⟨_, rfl⟩
  obtain ⟨w2, hw2⟩ : ∃ w2, w2 = w1.alloc (.cells #[.slice none 0 0, .slice none 0 0, .slice none 0 0, .slice none 0 0, .slice none 0 0, .slice none 0 0, .slice none 0 0, .slice none 0 0, .slice none 0 0, .slice none 0 0, .slice none 0 0, .slice none 0 0, .slice none 0 0, .slice none 0 0, .slice none 0 0, .slice none 0 0, .slice none 0 0, .slice none 0 0, .slice none 0 0, .slice none 0 0, .slice none 0 0, .slice none 0 0, .slice none 0 0, .slice none 0 0, .slice none 0 0, .slice none 0 0, .slice none 0 0, .slice none 0 0, .slice none 0 0, .slice none 0 0, .slice none 0 0, .slice none 0 0, .slice none 0 0, .slice none 0 0, .slice none 0 0] 113) := ⟨_, rfl⟩
  have hb2 : Below w1.heap.size w1 w2 := by rw [hw2]; exact below_new w1 _
  have hn2 : NetIn (W.heap.size + 1) w2 a noNet (.slice none 0 0) (List.replicate 34 (.slice none 0 0)) := by rw [hw2, ha]; exact none_net (Nat.le_of_eq hs1.symm)
  have HT0 : Hid (TickAt W w1 T 0 w2 a (.slice none 0 0) (List.replicate 34 (.slice none 0 0))) := hid ⟨hn2, hb2.mono (Nat.le_of_eq hs1.symm)⟩
  have hB2 := hB1.later hb2 (by omega)
  have hB1' := hB1
  rw [← hnt, ← hns] at hB1'
  rw [← hnt] at hm2 hB2
  rw [← hns] at hm1 hB2
  have q0 := hB2.cell (i := 0) rfl
  have q1 := hB2.cell (i := 1) rfl
  have HW2 := hid hw2
  have HA := hid ha
  have HNT := hid hnt
  have HNS := hid hns
  have HBL := hid hB1'
  rw [← hnt, ← hns] at HW1 HBK
  rw [← hns, ← hnt]
  have hle1 : nt ≤ 128 := by rw [hnt]; exact hok.few
  have hle2 : ns ≤ 32 := by rw [hns]; exact hok.places
  clear hw1 hb1 hB1 hs1 hb hj hok hnt hns ha hw2 hb2 hn2 hB2 hB1'
  go_enter Try.func60, Try.ntmps60
  go_wp2_with (first | rw [← HW1.out] | (rw [← HA.out, ← HW2.out]))
  go_loopw [16] (fun u wr => ∃ k : Nat, k ≤ nt ∧ u = .int .i64 k ∧ ∃ va vs, Hid (TickAt W w1 T k wr a va vs)) (fun u _ => nt - (intOf u).toNat)
  case atStart => exact ⟨0, Nat.zero_le _, rfl, _, _, HT0⟩
  case round =>
    obtain ⟨k, hk, rfl, va, vs, HT⟩ := hrel
    have HBR := hid (HBK.out.later (by rw [HS1.out]; exact HT.out.old))
    have HWR : Hid (W.heap.size + 1 ≤ wr.heap.size) := hid (by have h1 := HT.out.old.size; have h2 := HS1.out; omega)
    by_cases hlt : k < nt
    · obtain ⟨t, ht⟩ : ∃ t, T[k]? = some t := ⟨_, List.getElem?_eq_getElem (by rw [← HNT.out]; exact hlt)⟩
      have htk := HBR.out.tickets
      rw [HNT.out] at htk
      obtain ⟨g, o, c', hv, t0, t1, t2, t3, t4⟩ := htk.tkAt ht
      obtain ⟨hk1, hk2, hk3, hk4⟩ := HOK.out.tk k t ht
      injection hv with e1 e2 e3
      subst e1
      obtain ⟨w3, hw3⟩ : ∃ w3, w3 = (wr.alloc (.cells #[.string t.id, .int .i64 t.src, .int .i64 t.dst, .int .i64 t.low, .int .i64 t.high] 59)).drew := ⟨_, rfl⟩
      have hB3 : Blk w3 wr.heap.size #[.string t.id, .int .i64 t.src, .int .i64 t.dst, .int .i64 t.low, .int .i64 t.high] 59 := by rw [hw3]; exact (Blk.new wr _ _).drew
      have u1 := hB3.cell (i := 1) rfl
      have u2 := hB3.cell (i := 2) rfl
      have u3 := hB3.cell (i := 3) rfl
      have u4 := hB3.cell (i := 4) rfl
      have HFEW := hid (few_tick T k (by rw [← HNT.out]; exact hk))
      have HADD := hid (fun s d lo hi hs hd => add_any (W.heap.size + 1) a s d (tickF T k) va vs lo hi w3 (by rw [hw3]; exact HT.out.net.later (below_new wr _).drew) (by rw [hw3]; simp; have := HWR.out; omega) HFEW.out.ends hs hd (by rw [HFEW.out.arcs]; omega) (fun v l hl => by have := HFEW.out.each v l hl; omega))
      have HN1 := hid (nodeOf_still t.src hk1)
      have HN2 := hid (nodeOf_still t.dst hk3)
      have HD1 : Hid (node t.src < 34 ∧ node t.dst < 34) := hid (by have := HNS.out; unfold node; constructor <;> split <;> omega)
      have HTK := hid ht
      have HW3 := hid hw3
      clear e2 e3 htk ht hw3 hB3 hk1 hk2 hk3 hk4
      go_wp2_with fail
      refine region_tail 9 (by kernel_rfl) (by kernel_rfl) ?_
      rw [← HW3.out]
      clear t0 t1 t2 t3 t4
      simp only [List.take_succ_cons, List.take_zero, List.drop_succ_cons, List.drop_zero]
      repeat still_step
      still_call (HN1.out _)
      repeat still_step
      still_call (HN2.out _)
      repeat still_step
      try refine wpStill_nil ?_
      go_wp2_with (go_at_call 84; (with_reducible refine (HADD.out _ _ _ _ HD1.out.1 HD1.out.2).mono ?_); rintro e w5 ⟨rfl, va5, vs5, h5⟩; have H5 : Hid (TickAt W w1 T (k + 1) w5 a va5 vs5) := hid (HT.out.next (by rw [← HNT.out]; exact hlt) HTK.out HS1.out (by rw [← HW3.out]; exact h5)); clear h5)
      go_roundw
      case rel => exact ⟨k + 1, by omega, by go_num, _, _, H5⟩
      case measure => simp [intOf]; omega
    · have hkn : k = nt := by omega
      have HTE : Hid (TickAt W w1 T T.length wr a va vs) := by rw [← HNT.out, ← hkn]; exact HT
      clear HT
      obtain ⟨wo, rfl⟩ : ∃ wo : World, wo = wr := ⟨_, rfl⟩
      have HST : Hid (StockAt W w1 (tickF T T.length) J S 0 (wo.alloc (.cells #[.int .i64 0, .int .i64 0] 38)) a va vs wo.heap.size) := hid (StockAt.start J S HTE.out HS1.out)
      have r0 := ((HBL.out.later HST.out.old (by omega)).cell (i := 0) rfl)
      have HF0 := hid (few_tick T T.length (Nat.le_refl _))
      have HFL := hid HOK.out.few
      clear hkn HBR
      go_wp2_with fail
      go_loopw [35] (fun u wr => ∃ j : Nat, j ≤ ns ∧ u = .int .i64 j ∧ ∃ va vs, Hid (StockAt W w1 (tickF T T.length) J S j wr a va vs wo.heap.size)) (fun u _ => ns - (intOf u).toNat)
      case atStart => exact ⟨0, Nat.zero_le _, rfl, _, _, HST⟩
      case round =>
        clear HST r0
        obtain ⟨j, hj, rfl, va, vs, HST⟩ := hrel
        have hjs : j ≤ S.length := by rw [← HNS.out]; exact hj
        have hqz := HST.out.sum.lt
        have hwz : W.heap.size + 1 ≤ wr.heap.size := by have h1 := HST.out.old.size; have h2 := HS1.out; omega
        have HFEW := hid (few_stock HF0.out J S j hjs)
        by_cases hlt : j < ns
        · obtain ⟨r, hr⟩ : ∃ r, S[j]? = some r := ⟨_, List.getElem?_eq_getElem (by rw [← HNS.out]; exact hlt)⟩
          have hst := (HBK.out.stock.later (by rw [HS1.out]; exact HST.out.old))
          rw [HNS.out] at hst
          obtain ⟨g, o, c', hv, r0, r1⟩ := hst.rgAt hr
          obtain ⟨hb1, hb2, hb3, hb4⟩ := HOK.out.rg j r hr
          have hsm := sum_small (N0 := tickF T T.length) J S HOK.out.rg j hjs
          injection hv with e1 e2 e3
          subst e1
          obtain ⟨w4, hw4⟩ : ∃ w4, w4 = wr.alloc (.cells #[.int .i64 r.1, .int .i64 r.2] 38) := ⟨_, rfl⟩
          have hB4 : Blk w4 wr.heap.size #[.int .i64 r.1, .int .i64 r.2] 38 := by rw [hw4]; exact Blk.new wr _ _
          have u0 := hB4.cell (i := 0) rfl
          have u1 := hB4.cell (i := 1) rfl
          have HADD := hid (fun s d lo hi hs hd => add_any (W.heap.size + 1) a s d (stockF (tickF T T.length) J S j).1 va vs lo hi w4 (by rw [hw4]; exact HST.out.net.later (below_new wr _)) (by rw [hw4]; simp; omega) HFEW.out.ends hs hd (by rw [HFEW.out.arcs]; have := HFL.out; omega) (fun v l hl => by have := HFEW.out.each v l hl; have := HFL.out; omega))
          have HCO := hid (has_int (HJ.out.later (by rw [HS1.out]; exact HST.out.old.trans (by rw [hw4]; exact (below_new wr _).mono (by omega)))) (j : Int) : Calls Try.prog 64 #[v3, .int .i64 (j : Int)] w4 fun e w' => e = .returned (.bool (J.contains (j : Int))) ∧ w4 = w')
          have HR := hid hr
          have HW4 := hid hw4
          have HSM := hid hsm
          have HBD : Hid (-999999999 ≤ r.1 ∧ r.1 ≤ 999999999 ∧ -999999999 ≤ r.2 ∧ r.2 ≤ 999999999) := hid ⟨hb1, hb2, hb3, hb4⟩
          have HJ34 : Hid (j < 34) := hid (by omega)
          clear e2 e3 hst hr hw4 hsm hb1 hb2 hb3 hb4
          by_cases hco : J.contains (j : Int) = true
          · have HCY := hid hco
            rw [hco] at HCO
            clear hco
            have HA1 : Hid (Calls Try.prog 84 #[.pointer (some ⟨a, 0, none⟩), .int .i64 (j : Int), .int .i64 33, .agg #[.int .i64 r.1, .int .i64 r.2]] w4 (AddPost (W.heap.size + 1) w4 a va vs ((stockF (tickF T T.length) J S j).1.add j 33 r.1 r.2))) := hid (HADD.out j 33 r.1 r.2 HJ34.out (by decide))
            obtain ⟨x, hx⟩ : ∃ x, x = (stockF (tickF T T.length) J S j).2.1 := ⟨_, rfl⟩
            obtain ⟨y, hy⟩ : ∃ y, y = (stockF (tickF T T.length) J S j).2.2 := ⟨_, rfl⟩
            have HX := hid hx
            have HY := hid hy
            have HPL := hid (fun w => plus_any x y r.1 r.2 w (by rw [hx]; have := HSM.out; omega) (by rw [hy]; have := HSM.out; omega) (by have := HBD.out; omega) (by have := HBD.out; omega))
            clear hx hy HADD
            go_wp2_with (first | (rw [← HW4.out]) | (go_at_call 64; (with_reducible refine (HCO.out).mono ?_); rintro e w' ⟨rfl, rfl⟩) | (go_at_call 84; (with_reducible refine HA1.out.mono ?_); rintro e w5 ⟨rfl, va5, vs5, h5⟩; rw [HW4.out] at h5; have HM := hid (HST.out.added HF0.out hjs HS1.out HWR.out h5); have s5 := HM.out.sum.cell (i := 0) rfl; have s6 := HM.out.sum.cell (i := 1) rfl; rw [← HX.out] at s5; rw [← HY.out] at s6; have n5 := HM.out.new.cell (i := 0) rfl; have n6 := HM.out.new.cell (i := 1) rfl; clear h5) | (go_at_call 85; (with_reducible refine (HPL.out _).mono ?_); rintro e w6 ⟨rfl, hb6⟩; have HB6 := hid hb6; have HQ6 := hid (HM.out.sum.later hb6 HM.out.sum.lt); have z5 := HQ6.out.cell (i := 0) rfl; have z6 := HQ6.out.cell (i := 1) rfl; have f5 := HQ6.out.froz 0; have f6 := HQ6.out.froz 1; clear hb6))
            have HNX := hid (HM.out.yes HR.out HCY.out HB6.out (HFEW.out.add _ _ _ _).ends HS1.out)
            rw [← HX.out, ← HY.out] at HNX
            go_roundw
            case rel => exact ⟨j + 1, by omega, by go_num, _, _, HNX⟩
            case measure => simp [intOf]; omega
          · have HCN : Hid (J.contains (j : Int) = false) := hid (by simpa using hco)
            rw [HCN.out] at HCO
            clear hco
            have HA1 : Hid (Calls Try.prog 84 #[.pointer (some ⟨a, 0, none⟩), .int .i64 (j : Int), .int .i64 32, .agg #[.int .i64 r.1, .int .i64 r.2]] w4 (AddPost (W.heap.size + 1) w4 a va vs ((stockF (tickF T T.length) J S j).1.add j 32 r.1 r.2))) := hid (HADD.out j 32 r.1 r.2 HJ34.out (by decide))
            clear HADD
            go_wp2_with (first | (rw [← HW4.out]) | (go_at_call 64; (with_reducible refine (HCO.out).mono ?_); rintro e w' ⟨rfl, rfl⟩) | (go_at_call 84; (with_reducible refine HA1.out.mono ?_); rintro e w5 ⟨rfl, va5, vs5, h5⟩; rw [HW4.out] at h5; have HM := hid (HST.out.added HF0.out hjs HS1.out HWR.out h5); clear h5))
            have HNX := hid (HM.out.no HR.out HCN.out)
            go_roundw
            case rel => exact ⟨j + 1, by omega, by go_num, _, _, HNX⟩
            case measure => simp [intOf]; omega
        · have hjn : j = ns := by omega
          have HSE : Hid (StockAt W w1 (tickF T T.length) J S S.length wr a va vs wo.heap.size) := by rw [← HNS.out, ← hjn]; exact HST
          obtain ⟨x, hx⟩ : ∃ x, x = (stockF (tickF T T.length) J S S.length).2.1 := ⟨_, rfl⟩
          obtain ⟨y, hy⟩ : ∃ y, y = (stockF (tickF T T.length) J S S.length).2.2 := ⟨_, rfl⟩
          have s5 := HSE.out.sum.cell (i := 0) rfl
          have s6 := HSE.out.sum.cell (i := 1) rfl
          rw [← hx] at s5
          rw [← hy] at s6
          have HFE := hid (few_stock HF0.out J S S.length (Nat.le_refl _))
          have HA1 : Hid (Calls Try.prog 84 #[.pointer (some ⟨a, 0, none⟩), .int .i64 33, .int .i64 32, .agg #[.int .i64 x, .int .i64 y]] wr (AddPost (W.heap.size + 1) wr a va vs (newF S T J))) := hid (by
            have h := add_any (W.heap.size + 1) a 33 32 (stockF (tickF T T.length) J S S.length).1 va vs x y wr HSE.out.net hwz HFE.out.ends (by decide) (by decide) (by rw [HFE.out.arcs]; have := HFL.out; have := HNS.out; omega) (fun v l hl => by have := HFE.out.each v l hl; have := HFL.out; have := HNS.out; omega)
            rw [hx, hy] at h ⊢
            exact h)
          have HX := hid hx
          have HY := hid hy
          clear hx hy hjn HST
          go_wp2_with (go_at_call 84; (with_reducible refine HA1.out.mono ?_); rintro e w5 ⟨rfl, va5, vs5, h5⟩; have H5 := hid h5; clear h5)
          have HEND : Hid (NetIn W.heap.size w5 a (newF S T J) va5 vs5 ∧ Below W.heap.size W w5) := hid ⟨H5.out.net.base (by omega), HB1.out.trans ((HSE.out.old.trans (Added.below HSE.out.net HFE.out.ends hwz H5.out)).mono (by omega))⟩
          go_ret
          exact ⟨a, va5, vs5, rfl, HEND.out.1, HEND.out.2⟩
end Go.Proofs.Ytncnpodanlhdkaa
