/-
  add: an arc more.
-/
import Derived.Test.YtncnpodanlhdkaaWAddM
import Derived.Deep.CutRange
import Derived.Deep.DeepCutAuto
namespace Go.Proofs.Ytncnpodanlhdkaa
set_option linter.all false
open Go.RowKit

def AddPost (base : Nat) (W : World) (a : Nat) (va : Value) (vs : List Value) (N' : Net) (e : Ending) (W' : World) : Prop := e = .returned (.tuple #[]) ∧ ∃ va' vs', Added base W a va vs W' N' va' vs'
def AddTo (base : Nat) (W : World) (a : Nat) (va : Value) (vs : List Value) (N' : Net) (W' : World) : Prop := ∃ va' vs', Added base W a va vs W' N' va' vs'

theorem step_own {ops : Array Oper} {o : Oper} {a : Act} {K : Act → World → Prop} {Q : Exit → Act → World → Prop} {E : Prop} {W : World} {base : Nat} (hgd : o.guard = none) (s x : Operand) (t e : TypeId) (i : TypeInfo) (z : Value) (size bytes : Nat)
    (ho : o.op = .call { callee := .builtin .append, args := #[s, x], argTypes := #[t, t] }) (hu : Try.prog.underlying t = some (.slice e)) (hi : Try.prog.info? e = some i) (hz : i.zero = some z) (hsize : i.size = size) (hby : i.bytes = bytes) (hzs : z.cells.size = size) (hsz : 0 < size)
    {v : Value} {n : Nat} {xs : List Value} (hs : a.eval s = v) (h : W.ownsRow base e size v n xs) (hb : base ≤ W.heap.size) (ad : Addr) (m c : Nat) (news : List Value) (hx : a.eval x = .slice (some ad) m c) (hl : news.length = m * size) (hnews : ∀ j u, news[j]? = some u → W.cell? (ad.add j) = some u) (h1 : ∀ u ∈ news, u.oneCell' = true) (h63 : n + m ≤ maxLen) (hbytes : (n + m) * bytes ≤ 140737488355328)
    (hK : ∀ v' W', W'.ownsRow base e size v' (n + m) (xs ++ news) → W.grownBy W' v.ownBlock → (∀ k, v'.ownBlock = some k → v.ownBlock = some k ∨ W.heap.size ≤ k) → K (a.put o.dst v') W') :
    if Region.wanted o (yielded ops a.tmps) = true then Oper.wp Try.prog o a W K Q else E := by
  have hw : Region.wanted o (yielded ops a.tmps) = true := by simp [Region.wanted, hgd]
  rw [if_pos hw]
  obtain ⟨v', W', hrun, r1, r2, r3⟩ := own_app t o.type e i z size bytes hu hi hz hsize hby hzs hsz h hb ad m c news hl hnews h1 h63 hbytes
  unfold Oper.wp execOp
  simp only [ho, resolve, invoke, builtin, Sem.run_bind, Sem.run_pure, Result.andThen_ok, List.map_toArray, List.map_cons, List.map_nil, hs, hx, hrun]
  exact hK v' W' r1 r2 r3
theorem info_arc : (Try.prog.info? 115).map (fun i => (i.zero, i.size, i.bytes)) = some (some (.agg #[.int .i64 0, .int .i64 0, .int .i64 0, .int .i64 0, .int .i64 0]), 5, 40) := by kernel_rfl
theorem info_int9 : (Try.prog.info? 3).map (fun i => (i.zero, i.size, i.bytes)) = some (some (.int .i64 0), 1, 8) := by kernel_rfl
theorem Added.same {base : Nat} {W : World} {a : Nat} {N : Net} {va : Value} {vs : List Value} (h : NetIn base W a N va vs) : Added base W a va vs W N va vs := ⟨h, ⟨rfl, rfl, rfl, Nat.le_refl _, fun _ _ _ => rfl⟩, fun _ h => .inl h⟩
theorem cells_new (w : World) (cs : List Value) (t : TypeId) : ∀ (j : Nat) (u : Value), cs[j]? = some u → (w.alloc (.cells cs.toArray t)).drew.cell? ((⟨w.heap.size, 0, none⟩ : Addr).add j) = some u := fun j u hj => by
  rw [Addr.add_lit, Nat.zero_add]
  exact ((Blk.new w cs.toArray t).drew).cell (by simpa using hj)
theorem arcs_grow {base : Nat} {W w1 W' : World} {a n : Nat} {N : Net} {p : Option Addr} {c : Nat} {vs : List Value} {o : Obj} {x : Arc} (hn : n = N.arcs.length) (hnet : NetIn base w1 a N (.slice p n c) vs) (he : N.ends.length = 34) (hb : Below W.heap.size W w1) {v' : Value}
    (ho : W'.ownsRow base 115 5 v' (n + 1) (N.arcs.flatMap arcC ++ arcC x)) (hg : (w1.alloc o).drew.grownBy W' (Value.slice p n c).ownBlock) (hv : ∀ k, v'.ownBlock = some k → (Value.slice p n c).ownBlock = some k ∨ (w1.alloc o).drew.heap.size ≤ k) : AddTo base W a (.slice p n c) vs ⟨N.arcs ++ [x], N.ends⟩ (W'.setCell ⟨a, 0, none⟩ v') := by
  have hb2 : Below w1.heap.size w1 (w1.alloc o).drew := ((Below.refl _ _).alloc (Nat.le_refl _) _).drew
  subst hn
  exact ⟨v', vs, Added.ahead (hb.trans (hb2.mono hb.size)) (add_arc (hnet.later hb2) he ho hg hv)⟩
theorem ends_grow {base : Nat} {W w1 W' : World} {a v i : Nat} {N : Net} {va va0 x : Value} {vs vs0 : List Value} {l : List Nat} {o : Obj} (h1 : Added base W a va0 vs0 w1 N va vs) (he : N.ends.length = 34) (hl : N.ends[v]? = some l) (hx : vs[v]? = some x) {v' : Value}
    (ho : W'.ownsRow base 3 1 v' (l.length + 1) (natC (l ++ [i]))) (hg : (w1.alloc o).drew.grownBy W' x.ownBlock) (hv : ∀ k, v'.ownBlock = some k → x.ownBlock = some k ∨ (w1.alloc o).drew.heap.size ≤ k) : AddTo base W a va0 vs0 ⟨N.arcs, N.ends.set v (l ++ [i])⟩ (W'.setCell ⟨a, 1 + v, none⟩ v') := by
  have hb2 : Below w1.heap.size w1 (w1.alloc o).drew := ((Below.refl _ _).alloc (Nat.le_refl _) _).drew
  exact ⟨va, vs.set v v', h1.trans (Added.ahead hb2 (add_end (h1.net.later hb2) he hl hx ho hg hv))⟩

theorem ends_small {N : Net} {s n d : Nat} {l1 l2 : List Nat} {E2 : List (List Nat)} (he : N.ends.length = 34) (hls : ∀ (v : Nat) (l : List Nat), N.ends[v]? = some l → l.length ≤ 900) (hs : s < 34) (h : E2 = N.ends.set s (l1 ++ [n])) (hl : E2[d]? = some l2) (h1 : N.ends[s]? = some l1) : l2.length ≤ 1000 := by
  subst h
  by_cases e : d = s
  · subst e
    rw [List.getElem?_set_self (by omega)] at hl
    cases hl
    have := hls _ _ h1
    rw [List.length_append]
    show l1.length + 1 ≤ 1000
    omega
  · rw [List.getElem?_set_ne (Ne.symm e)] at hl
    have := hls _ _ hl
    omega
theorem add_eq {N : Net} {s d : Nat} {lo hi : Int} {l1 l2 : List Nat} {E2 : List (List Nat)} (h : E2 = N.ends.set s (l1 ++ [N.arcs.length])) (h1 : N.ends[s]? = some l1) (hl : E2[d]? = some l2) : (⟨N.arcs ++ [⟨lo, hi, s, d, lo⟩], E2.set d (l2 ++ [N.arcs.length])⟩ : Net) = N.add s d lo hi := by
  have e1 : N.ends.getD s [] = l1 := by rw [List.getD_eq_getElem?_getD, h1]; rfl
  have e2 : bumpE N.ends s N.arcs.length = E2 := by unfold bumpE; rw [e1, h]
  have e3 : E2.getD d [] = l2 := by rw [List.getD_eq_getElem?_getD, hl]; rfl
  unfold Net.add
  rw [e2]
  unfold bumpE
  rw [e3]

set_option maxRecDepth 100000 in
set_option maxHeartbeats 4000000 in
theorem add_any (base a s d : Nat) (N : Net) (va : Value) (vs : List Value) (lo hi : Int) (W : World) (hnet : NetIn base W a N va vs) (hbase : base ≤ W.heap.size) (he : N.ends.length = 34) (hs : s < 34) (hd : d < 34) (hfew : N.arcs.length ≤ 900) (hls : ∀ (v : Nat) (l : List Nat), N.ends[v]? = some l → l.length ≤ 900) :
    Calls Try.prog 84 #[.pointer (some ⟨a, 0, none⟩), .int .i64 s, .int .i64 d, .agg #[.int .i64 lo, .int .i64 hi]] W (AddPost base W a va vs (N.add s d lo hi)) := by
  obtain ⟨i5, g0, g1, g2, g3⟩ := info_parts info_arc
  have HI5 : Hid (Try.prog.info? 115 = some i5 ∧ i5.zero = some (.agg #[.int .i64 0, .int .i64 0, .int .i64 0, .int .i64 0, .int .i64 0]) ∧ i5.size = 5 ∧ i5.bytes = 40) := hid ⟨g0, g1, g2, g3⟩
  obtain ⟨i1, k0, k1, k2, k3⟩ := info_parts info_int9
  have HI1 : Hid (Try.prog.info? 3 = some i1 ∧ i1.zero = some (.int .i64 0) ∧ i1.size = 1 ∧ i1.bytes = 8) := hid ⟨k0, k1, k2, k3⟩
  obtain ⟨w1, hw1⟩ : ∃ w1, w1 = W.alloc (.cells #[.int .i64 lo, .int .i64 hi] 38) := ⟨_, rfl⟩
  have hb1 : Below W.heap.size W w1 := by rw [hw1]; exact (Below.refl _ _).alloc (Nat.le_refl _) _
  have hR1 : Blk w1 W.heap.size #[.int .i64 lo, .int .i64 hi] 38 := by rw [hw1]; exact Blk.new W _ _
  have hnet1 := hnet.later hb1
  have hlow := hnet.below he
  obtain ⟨p, c, rfl⟩ := row_slice hnet1.arcs
  obtain ⟨n, hn⟩ : ∃ n, n = N.arcs.length := ⟨_, rfl⟩
  rw [← hn] at hfew hnet1 hnet hlow ⊢
  have hc0 : w1.cell? ⟨a, 0, none⟩ = some (.slice p n c) := hnet1.blk.cell rfl
  have hr0 := hR1.cell (i := 0) rfl
  have hr1 := hR1.cell (i := 1) rfl
  have HNET := hid hnet1
  have HB1 := hid hb1
  have HR1 := hid hR1
  have HW1 := hid hw1
  have HN := hid hn
  have HBS := hid hbase
  have HE := hid he
  have HLS := hid hls
  have HLOW := hid hlow
  have HARC : Hid (((w1.alloc (.cells #[.int .i64 lo, .int .i64 hi, .int .i64 s, .int .i64 d, .int .i64 lo] 115)).drew).ownsRow base 115 5 (.slice p n c) n (N.arcs.flatMap arcC)) := hid (by have h := (hnet1.arcs.alloc (.cells #[.int .i64 lo, .int .i64 hi, .int .i64 s, .int .i64 d, .int .i64 lo] 115)).drew; rw [← hn] at h; exact h)
  clear hw1 hb1 hR1 hnet1 hn hnet hls hbase he hlow g0 g1 g2 g3 k0 k1 k2 k3
  go_enter Try.func84, Try.ntmps84
  go_upto_region 2 with (rw [← HW1.out])
  go_cut [25] (fun s25 wx => Hid (∃ q, s25 = q) ∧ Hid (AddTo base W a (.slice p n c) vs ⟨N.arcs ++ [⟨lo, hi, s, d, lo⟩], N.ends⟩ wx))
  case first =>
    have HS : Hid (w1.drew.cell? ⟨W.heap.size, 0, none⟩ = some (.int .i64 lo) ∧ w1.drew.cell? ⟨W.heap.size, 1, none⟩ = some (.int .i64 hi)) := hid ⟨hr0, hr1⟩
    refine region_held (fun w' => w'.cell? ⟨W.heap.size, 0, none⟩ = some (.int .i64 lo) ∧ w'.cell? ⟨W.heap.size, 1, none⟩ = some (.int .i64 hi)) (by kernel_rfl) ?_
    refine' tkw 0 (v := .pointer (some ⟨a, 0, none⟩)) rfl (by kernel_rfl) (by kernel_rfl) HS.out (fun _ _ _ h => h) (fun w' hS => by clear hS; go_simp; (try with_reducible rfl)) ?_
    refine' tkw 1 (v := .pointer (some ⟨a, 0, none⟩)) rfl (by kernel_rfl) (by kernel_rfl) HS.out (fun _ _ _ h => h) (fun w' hS => by clear hS; go_simp; (try with_reducible rfl)) ?_
    refine' tkw 2 (v := .pointer (some ⟨a, 0, none⟩)) rfl (by kernel_rfl) (by kernel_rfl) HS.out (fun _ _ _ h => h) (fun w' hS => by clear hS; go_simp; (try with_reducible rfl)) ?_
    refine' tkw 3 (v := .pointer (some ⟨a, 0, none⟩)) rfl (by kernel_rfl) (by kernel_rfl) HS.out (fun _ _ _ h => h) (fun w' hS => by clear hS; go_simp; (try with_reducible rfl)) ?_
    refine' tkw 5 (v := .agg #[.int .i64 lo, .int .i64 hi]) rfl (by kernel_rfl) (by kernel_rfl) HS.out (fun _ _ _ h => h) (fun w' hS => by obtain ⟨h0, h1⟩ := hS; go_simp; (try with_reducible rfl)) ?_
    refine' tkw 6 (v := .int .i64 s) rfl (by kernel_rfl) (by kernel_rfl) HS.out (fun _ _ _ h => h) (fun w' hS => by clear hS; go_simp; (try with_reducible rfl)) ?_
    refine' tkw 7 (v := .int .i64 d) rfl (by kernel_rfl) (by kernel_rfl) HS.out (fun _ _ _ h => h) (fun w' hS => by clear hS; go_simp; (try with_reducible rfl)) ?_
    refine' tkw 8 (v := .pointer (some ⟨W.heap.size, 0, none⟩)) rfl (by kernel_rfl) (by kernel_rfl) HS.out (fun _ _ _ h => h) (fun w' hS => by clear hS; go_simp; (try with_reducible rfl)) ?_
    refine' tkw 9 (v := .int .i64 lo) rfl (by kernel_rfl) (by kernel_rfl) HS.out (fun _ _ _ h => h) (fun w' hS => by obtain ⟨h0, h1⟩ := hS; go_simp; (try with_reducible rfl)) ?_
    refine' tkw 10 (v := .agg #[.int .i64 lo, .int .i64 hi, .int .i64 s, .int .i64 d, .int .i64 lo]) rfl (by kernel_rfl) (by kernel_rfl) HS.out (fun _ _ _ h => h) (fun w' hS => by clear hS; go_simp; (try with_reducible rfl)) ?_
    try simp only [Act.put, List.setIfInBounds_toArray, List.set_cons_zero, List.set_cons_succ]
    have HS2 : Hid ((w1.alloc (.cells #[.int .i64 lo, .int .i64 hi, .int .i64 s, .int .i64 d, .int .i64 lo] 115)).drew.cell? ⟨W.heap.size, 0, none⟩ = some (.int .i64 lo) ∧ (w1.alloc (.cells #[.int .i64 lo, .int .i64 hi, .int .i64 s, .int .i64 d, .int .i64 lo] 115)).drew.cell? ⟨W.heap.size, 1, none⟩ = some (.int .i64 hi)) := hid ⟨((HR1.out.alloc _).drew).cell (i := 0) rfl, ((HR1.out.alloc _).drew).cell (i := 1) rfl⟩
    refine wpAnyH_ready (rs := [4, 11]) (by kernel_rfl) (by simp) ?_
    refine AllReadyH.cons rfl (fun K hK => ?_) (AllReadyH.cons rfl (fun K hK => ?_) AllReadyH.nil)
    · go_simp
      refine hK.out _ _ HS.out (fun hHeld => ?_)
      clear hK hHeld
      refine wpAnyH_ready (rs := [11]) (by kernel_rfl) (by simp) ?_
      refine AllReadyH.cons rfl (fun K hK => ?_) AllReadyH.nil
      go_simp
      refine hK.out _ _ HS2.out (fun hHeld => ?_)
      clear hK hHeld
      refine wpAnyH_ready (rs := [12]) (by kernel_rfl) (by simp) ?_
      refine AllReadyH.cons rfl (fun K hK => ?_) AllReadyH.nil
      refine step_own (by rfl) _ _ 110 115 i5 _ 5 40 (by rfl) (by kernel_rfl) HI5.out.1 HI5.out.2.1 HI5.out.2.2.1 HI5.out.2.2.2 rfl (by decide) (by rfl) HARC.out (by simp; have h1 := HBS.out; have h2 := HB1.out.size; omega) ⟨w1.heap.size, 0, none⟩ 1 1 [.int .i64 lo, .int .i64 hi, .int .i64 s, .int .i64 d, .int .i64 lo] (by rfl) rfl (cells_new w1 [.int .i64 lo, .int .i64 hi, .int .i64 s, .int .i64 d, .int .i64 lo] 115) (by simp [Value.oneCell']) (by unfold maxLen; omega) (by omega) ?_
      intro v3 w3 ho3 hg3 hv3
      obtain ⟨p3, c3, rfl⟩ := row_slice ho3
      have HR3 : Hid (Blk w3 W.heap.size #[.int .i64 lo, .int .i64 hi] 38) := hid ((hg3.block _ ((HR1.out.alloc _).drew).lt (fun e => by have := HLOW.out.2.1 _ e.symm; omega)).trans ((HR1.out.alloc _).drew))
      have hbk : Blk w3 a (Value.slice p n c :: vs).toArray 113 := (hg3.block _ ((HNET.out.blk.alloc _).drew).lt (fun e => HNET.out.other e.symm)).trans ((HNET.out.blk.alloc _).drew)
      have HAD := hid (arcs_grow (x := ⟨lo, hi, s, d, lo⟩) HN.out HNET.out HE.out HB1.out ho3 hg3 hv3)
      have ca := hbk.cell (i := 0) rfl
      have fa := hbk.froz 0
      have HNE : Hid (a ≠ W.heap.size) := hid (by have := HLOW.out.1; omega)
      clear ho3 hg3 hv3 hbk
      go_simp
      refine hK.out _ _ ⟨HR3.out.cell (i := 0) rfl, HR3.out.cell (i := 1) rfl⟩ (fun hHeld => ?_)
      clear hK
      refine' tkw 13 (v := .pointer (some ⟨a, 0, none⟩)) rfl (by kernel_rfl) (by kernel_rfl) hHeld (fun _ _ _ h => h) (fun w' hS => by clear hS; go_simp; (try with_reducible rfl)) ?_
      refine' tkw 14 (v := .pointer (some ⟨a, 0, none⟩)) rfl (by kernel_rfl) (by kernel_rfl) hHeld (fun _ _ _ h => h) (fun w' hS => by clear hS; go_simp; (try with_reducible rfl)) ?_
      try simp only [Act.put, List.setIfInBounds_toArray, List.set_cons_zero, List.set_cons_succ]
      clear hHeld
      refine wpAnyH_ready (rs := [15]) (by kernel_rfl) (by simp) ?_
      refine AllReadyH.cons rfl (fun K hK => ?_) AllReadyH.nil
      go_simp
      have HR4 := hid (HR3.out.setOther (k := a) 0 (.slice p3 (n + 1) c3) HNE.out.symm)
      refine hK.out _ _ ⟨HR4.out.cell (i := 0) rfl, HR4.out.cell (i := 1) rfl⟩ (fun hHeld => ?_)
      clear hK hHeld
      refine wpAnyH_done (by kernel_rfl) ?_ _
      go_wp2_with fail
      go_meet
      exact ⟨⟨_, rfl⟩, HAD⟩
    · have hc1 : (w1.alloc (.cells #[.int .i64 lo, .int .i64 hi, .int .i64 s, .int .i64 d, .int .i64 lo] 115)).drew.cell? ⟨a, 0, none⟩ = some (.slice p n c) := ((HNET.out.blk.alloc _).drew).cell (i := 0) rfl
      go_simp
      refine hK.out _ _ HS2.out (fun hHeld => ?_)
      clear hK hHeld
      refine wpAnyH_ready (rs := [4]) (by kernel_rfl) (by simp) ?_
      refine AllReadyH.cons rfl (fun K hK => ?_) AllReadyH.nil
      go_simp
      refine hK.out _ _ HS2.out (fun hHeld => ?_)
      clear hK hHeld hc1
      refine wpAnyH_ready (rs := [12]) (by kernel_rfl) (by simp) ?_
      refine AllReadyH.cons rfl (fun K hK => ?_) AllReadyH.nil
      refine step_own (by rfl) _ _ 110 115 i5 _ 5 40 (by rfl) (by kernel_rfl) HI5.out.1 HI5.out.2.1 HI5.out.2.2.1 HI5.out.2.2.2 rfl (by decide) (by rfl) HARC.out (by simp; have h1 := HBS.out; have h2 := HB1.out.size; omega) ⟨w1.heap.size, 0, none⟩ 1 1 [.int .i64 lo, .int .i64 hi, .int .i64 s, .int .i64 d, .int .i64 lo] (by rfl) rfl (cells_new w1 [.int .i64 lo, .int .i64 hi, .int .i64 s, .int .i64 d, .int .i64 lo] 115) (by simp [Value.oneCell']) (by unfold maxLen; omega) (by omega) ?_
      intro v3 w3 ho3 hg3 hv3
      obtain ⟨p3, c3, rfl⟩ := row_slice ho3
      have HR3 : Hid (Blk w3 W.heap.size #[.int .i64 lo, .int .i64 hi] 38) := hid ((hg3.block _ ((HR1.out.alloc _).drew).lt (fun e => by have := HLOW.out.2.1 _ e.symm; omega)).trans ((HR1.out.alloc _).drew))
      have hbk : Blk w3 a (Value.slice p n c :: vs).toArray 113 := (hg3.block _ ((HNET.out.blk.alloc _).drew).lt (fun e => HNET.out.other e.symm)).trans ((HNET.out.blk.alloc _).drew)
      have HAD := hid (arcs_grow (x := ⟨lo, hi, s, d, lo⟩) HN.out HNET.out HE.out HB1.out ho3 hg3 hv3)
      have ca := hbk.cell (i := 0) rfl
      have fa := hbk.froz 0
      have HNE : Hid (a ≠ W.heap.size) := hid (by have := HLOW.out.1; omega)
      clear ho3 hg3 hv3 hbk
      go_simp
      refine hK.out _ _ ⟨HR3.out.cell (i := 0) rfl, HR3.out.cell (i := 1) rfl⟩ (fun hHeld => ?_)
      clear hK
      refine' tkw 13 (v := .pointer (some ⟨a, 0, none⟩)) rfl (by kernel_rfl) (by kernel_rfl) hHeld (fun _ _ _ h => h) (fun w' hS => by clear hS; go_simp; (try with_reducible rfl)) ?_
      refine' tkw 14 (v := .pointer (some ⟨a, 0, none⟩)) rfl (by kernel_rfl) (by kernel_rfl) hHeld (fun _ _ _ h => h) (fun w' hS => by clear hS; go_simp; (try with_reducible rfl)) ?_
      try simp only [Act.put, List.setIfInBounds_toArray, List.set_cons_zero, List.set_cons_succ]
      clear hHeld
      refine wpAnyH_ready (rs := [15]) (by kernel_rfl) (by simp) ?_
      refine AllReadyH.cons rfl (fun K hK => ?_) AllReadyH.nil
      go_simp
      have HR4 := hid (HR3.out.setOther (k := a) 0 (.slice p3 (n + 1) c3) HNE.out.symm)
      refine hK.out _ _ ⟨HR4.out.cell (i := 0) rfl, HR4.out.cell (i := 1) rfl⟩ (fun hHeld => ?_)
      clear hK hHeld
      refine wpAnyH_done (by kernel_rfl) ?_ _
      go_wp2_with fail
      go_meet
      exact ⟨⟨_, rfl⟩, HAD⟩
  case rest =>
  obtain ⟨-, HAD⟩ := hcut
  obtain ⟨l1, hl1⟩ : ∃ l1, N.ends[s]? = some l1 := ⟨_, List.getElem?_eq_getElem (by rw [HE.out]; exact hs)⟩
  have HL1 := hid hl1
  have HL0 := hid hl1
  have HL2 := hid (Nat.le_trans (HLS.out _ _ hl1) (by decide : 900 ≤ 1000))
  have HE1 := HE
  clear hl1
  go_upto_region 3 with fail
  go_cut [38] (fun s38 wx => Hid (∃ q, s38 = q) ∧ Hid (AddTo base W a (.slice p n c) vs ⟨N.arcs ++ [⟨lo, hi, s, d, lo⟩], N.ends.set s (l1 ++ [n])⟩ wx))
  case first =>
    obtain ⟨va1, vs1, hA⟩ := HAD.out
    have hlow := hA.net.below (HE1.out)
    obtain ⟨x1, hx1, hown⟩ := hA.net.ends s _ HL1.out
    obtain ⟨p1, c1, rfl⟩ := row_slice hown
    have HX1 := hid hx1
    have HOWN : Hid (((wc.alloc (.cells #[.int .i64 n] 3)).drew).ownsRow base 3 1 (.slice p1 l1.length c1) l1.length (natC l1)) := hid (hown.alloc _).drew
    have hcx : wc.cell? ⟨a, 1 + s, none⟩ = some (.slice p1 l1.length c1) := hA.net.blk.cell (by rw [Nat.add_comm 1 s]; simpa using hx1)
    have hcx2 : (wc.alloc (.cells #[.int .i64 n] 3)).drew.cell? ⟨a, 1 + s, none⟩ = some (.slice p1 l1.length c1) := ((hA.net.blk.alloc _).drew).cell (by rw [Nat.add_comm 1 s]; simpa using hx1)
    have HCX2 := hid hcx2
    have HA := hid hA
    have HIX : Hid ((s : Int) < 34) := hid (by omega)
    have HSW : Hid (base ≤ wc.heap.size) := hid (Nat.le_trans HBS.out hA.old.size)
    have HLL : Hid (l1.length ≤ 1000) := hid HL2.out
    clear hlow hx1 hown hA HAD hcx2
    refine region_held (fun _ => True) (by kernel_rfl) ?_
    refine' tkw 0 (v := .pointer (some ⟨a, 0, none⟩)) rfl (by kernel_rfl) (by kernel_rfl) trivial (fun _ _ _ h => h) (fun w' hS => by clear hS; go_simp; (try with_reducible rfl)) ?_
    refine' tkw 1 (v := .int .i64 s) rfl (by kernel_rfl) (by kernel_rfl) trivial (fun _ _ _ h => h) (fun w' hS => by clear hS; go_simp; (try with_reducible rfl)) ?_
    refine' tkw 2 (v := .pointer (some ⟨a, 0, none⟩)) rfl (by kernel_rfl) (by kernel_rfl) trivial (fun _ _ _ h => h) (fun w' hS => by clear hS; go_simp; (try with_reducible rfl)) ?_
    refine' tkw 3 (v := .int .i64 s) rfl (by kernel_rfl) (by kernel_rfl) trivial (fun _ _ _ h => h) (fun w' hS => by clear hS; go_simp; (try with_reducible rfl)) ?_
    refine' tkw 4 (v := .pointer (some ⟨a, 0, none⟩)) rfl (by kernel_rfl) (by kernel_rfl) trivial (fun _ _ _ h => h) (fun w' hS => by clear hS; go_simp; (try with_reducible rfl)) ?_
    refine' tkw 5 (v := .pointer (some ⟨a, 1, none⟩)) rfl (by kernel_rfl) (by kernel_rfl) trivial (fun _ _ _ h => h) (fun w' hS => by clear hS; go_simp; (try with_reducible rfl)) ?_
    refine' tkw 6 (v := .pointer (some ⟨a, 1 + s, none⟩)) rfl (by kernel_rfl) (by kernel_rfl) trivial (fun _ _ _ h => h) (fun w' hS => by clear hS; go_simp; (try (intro h; exfalso; have := HIX.out; omega))) ?_
    refine' tkw 8 (v := .int .i64 n) rfl (by kernel_rfl) (by kernel_rfl) trivial (fun _ _ _ h => h) (fun w' hS => by clear hS; go_simp; (try with_reducible rfl)) ?_
    refine' tkw 11 (v := .pointer (some ⟨a, 0, none⟩)) rfl (by kernel_rfl) (by kernel_rfl) trivial (fun _ _ _ h => h) (fun w' hS => by clear hS; go_simp; (try with_reducible rfl)) ?_
    refine' tkw 12 (v := .pointer (some ⟨a, 1, none⟩)) rfl (by kernel_rfl) (by kernel_rfl) trivial (fun _ _ _ h => h) (fun w' hS => by clear hS; go_simp; (try with_reducible rfl)) ?_
    try simp only [Act.put, List.setIfInBounds_toArray, List.set_cons_zero, List.set_cons_succ]
    refine wpAnyH_ready (rs := [7, 9]) (by kernel_rfl) (by simp) ?_
    refine AllReadyH.cons rfl (fun K hK => ?_) (AllReadyH.cons rfl (fun K hK => ?_) AllReadyH.nil)
    · go_simp
      refine hK.out _ _ trivial (fun hHeld => ?_)
      clear hK hHeld
      refine wpAnyH_ready (rs := [9]) (by kernel_rfl) (by simp) ?_
      refine AllReadyH.cons rfl (fun K hK => ?_) AllReadyH.nil
      go_simp
      refine hK.out _ _ trivial (fun hHeld => ?_)
      clear hK hHeld
      refine wpAnyH_ready (rs := [10]) (by kernel_rfl) (by simp) ?_
      refine AllReadyH.cons rfl (fun K hK => ?_) AllReadyH.nil
      refine step_own (by rfl) _ _ 36 3 i1 _ 1 8 (by rfl) (by kernel_rfl) HI1.out.1 HI1.out.2.1 HI1.out.2.2.1 HI1.out.2.2.2 rfl (by decide) (by rfl) HOWN.out (by simp; have h1 := HSW.out; omega) ⟨wc.heap.size, 0, none⟩ 1 1 [.int .i64 n] (by rfl) rfl (cells_new wc [.int .i64 n] 3) (by simp [Value.oneCell']) (by unfold maxLen; have h1 := HLL.out; omega) (by have h1 := HLL.out; omega) ?_
      intro v3 w3 ho3 hg3 hv3
      obtain ⟨p3, c3, rfl⟩ := row_slice ho3
      have ho4 : w3.ownsRow base 3 1 (.slice p3 (l1.length + 1) c3) (l1.length + 1) (natC (l1 ++ [n])) := by rw [natC_append]; exact ho3
      have hbk : Blk w3 a (va1 :: vs1).toArray 113 := (hg3.block _ ((HA.out.net.blk.alloc _).drew).lt (fun e => (HA.out.net.alone s _ a HX1.out e.symm).2 rfl)).trans ((HA.out.net.blk.alloc _).drew)
      have HAD := hid (ends_grow (i := n) HA.out HE1.out HL1.out HX1.out ho4 hg3 hv3)
      have ca := hbk.cell (i := 1 + s) (by rw [Nat.add_comm 1 s]; simpa using HX1.out)
      have fa := hbk.froz (1 + s)
      clear ho3 ho4 hg3 hv3 hbk
      go_simp
      refine hK.out _ _ trivial (fun hHeld => ?_)
      clear hK hHeld
      refine' tkw 13 (v := .pointer (some ⟨a, 1 + s, none⟩)) rfl (by kernel_rfl) (by kernel_rfl) trivial (fun _ _ _ h => h) (fun w' hS => by clear hS; go_simp; (try (intro h; exfalso; have := HIX.out; omega))) ?_
      try simp only [Act.put, List.setIfInBounds_toArray, List.set_cons_zero, List.set_cons_succ]
      refine wpAnyH_ready (rs := [14]) (by kernel_rfl) (by simp) ?_
      refine AllReadyH.cons rfl (fun K hK => ?_) AllReadyH.nil
      go_simp
      refine hK.out _ _ trivial (fun hHeld => ?_)
      clear hK hHeld
      refine wpAnyH_done (by kernel_rfl) ?_ _
      go_wp2_with fail
      go_meet
      exact ⟨⟨_, rfl⟩, HAD⟩
    · have hc1 := HCX2.out
      go_simp
      refine hK.out _ _ trivial (fun hHeld => ?_)
      clear hK hHeld
      refine wpAnyH_ready (rs := [7]) (by kernel_rfl) (by simp) ?_
      refine AllReadyH.cons rfl (fun K hK => ?_) AllReadyH.nil
      go_simp
      refine hK.out _ _ trivial (fun hHeld => ?_)
      clear hK hHeld hc1
      refine wpAnyH_ready (rs := [10]) (by kernel_rfl) (by simp) ?_
      refine AllReadyH.cons rfl (fun K hK => ?_) AllReadyH.nil
      refine step_own (by rfl) _ _ 36 3 i1 _ 1 8 (by rfl) (by kernel_rfl) HI1.out.1 HI1.out.2.1 HI1.out.2.2.1 HI1.out.2.2.2 rfl (by decide) (by rfl) HOWN.out (by simp; have h1 := HSW.out; omega) ⟨wc.heap.size, 0, none⟩ 1 1 [.int .i64 n] (by rfl) rfl (cells_new wc [.int .i64 n] 3) (by simp [Value.oneCell']) (by unfold maxLen; have h1 := HLL.out; omega) (by have h1 := HLL.out; omega) ?_
      intro v3 w3 ho3 hg3 hv3
      obtain ⟨p3, c3, rfl⟩ := row_slice ho3
      have ho4 : w3.ownsRow base 3 1 (.slice p3 (l1.length + 1) c3) (l1.length + 1) (natC (l1 ++ [n])) := by rw [natC_append]; exact ho3
      have hbk : Blk w3 a (va1 :: vs1).toArray 113 := (hg3.block _ ((HA.out.net.blk.alloc _).drew).lt (fun e => (HA.out.net.alone s _ a HX1.out e.symm).2 rfl)).trans ((HA.out.net.blk.alloc _).drew)
      have HAD := hid (ends_grow (i := n) HA.out HE1.out HL1.out HX1.out ho4 hg3 hv3)
      have ca := hbk.cell (i := 1 + s) (by rw [Nat.add_comm 1 s]; simpa using HX1.out)
      have fa := hbk.froz (1 + s)
      clear ho3 ho4 hg3 hv3 hbk
      go_simp
      refine hK.out _ _ trivial (fun hHeld => ?_)
      clear hK hHeld
      refine' tkw 13 (v := .pointer (some ⟨a, 1 + s, none⟩)) rfl (by kernel_rfl) (by kernel_rfl) trivial (fun _ _ _ h => h) (fun w' hS => by clear hS; go_simp; (try (intro h; exfalso; have := HIX.out; omega))) ?_
      try simp only [Act.put, List.setIfInBounds_toArray, List.set_cons_zero, List.set_cons_succ]
      refine wpAnyH_ready (rs := [14]) (by kernel_rfl) (by simp) ?_
      refine AllReadyH.cons rfl (fun K hK => ?_) AllReadyH.nil
      go_simp
      refine hK.out _ _ trivial (fun hHeld => ?_)
      clear hK hHeld
      refine wpAnyH_done (by kernel_rfl) ?_ _
      go_wp2_with fail
      go_meet
      exact ⟨⟨_, rfl⟩, HAD⟩
  case rest =>
  obtain ⟨-, HAD⟩ := hcut
  clear HL1 HL2 HE1
  obtain ⟨E2, hE2⟩ : ∃ E2, E2 = N.ends.set s (l1 ++ [n]) := ⟨_, rfl⟩
  have HE1 : Hid (E2.length = 34) := hid (by rw [hE2, List.length_set]; exact HE.out)
  rw [← hE2] at HAD
  obtain ⟨l2, hl2⟩ : ∃ l2, E2[d]? = some l2 := ⟨_, List.getElem?_eq_getElem (by rw [HE1.out]; exact hd)⟩
  have HL2 : Hid (l2.length ≤ 1000) := hid (ends_small HE.out HLS.out hs hE2 hl2 HL0.out)
  have HFIN : Hid ((⟨N.arcs ++ [⟨lo, hi, s, d, lo⟩], E2.set d (l2 ++ [n])⟩ : Net) = N.add s d lo hi) := hid (by rw [HN.out] at hE2 ⊢; exact add_eq hE2 (by exact HL0.out) hl2)
  have HL1 := hid hl2
  clear hl2 hE2
  go_wp2_with fail
  obtain ⟨va1, vs1, hA⟩ := HAD.out
  have hlow := hA.net.below (HE1.out)
  obtain ⟨x1, hx1, hown⟩ := hA.net.ends d _ HL1.out
  obtain ⟨p1, c1, rfl⟩ := row_slice hown
  have HX1 := hid hx1
  have HOWN : Hid (((wc.alloc (.cells #[.int .i64 n] 3)).drew).ownsRow base 3 1 (.slice p1 l2.length c1) l2.length (natC l2)) := hid (hown.alloc _).drew
  have hcx : wc.cell? ⟨a, 1 + d, none⟩ = some (.slice p1 l2.length c1) := hA.net.blk.cell (by rw [Nat.add_comm 1 d]; simpa using hx1)
  have hcx2 : (wc.alloc (.cells #[.int .i64 n] 3)).drew.cell? ⟨a, 1 + d, none⟩ = some (.slice p1 l2.length c1) := ((hA.net.blk.alloc _).drew).cell (by rw [Nat.add_comm 1 d]; simpa using hx1)
  have HCX2 := hid hcx2
  have HA := hid hA
  have HIX : Hid ((d : Int) < 34) := hid (by omega)
  have HSW : Hid (base ≤ wc.heap.size) := hid (Nat.le_trans HBS.out hA.old.size)
  have HLL : Hid (l2.length ≤ 1000) := hid HL2.out
  clear hlow hx1 hown hA HAD hcx2
  refine region_held (fun _ => True) (by kernel_rfl) ?_
  refine' tkw 0 (v := .pointer (some ⟨a, 0, none⟩)) rfl (by kernel_rfl) (by kernel_rfl) trivial (fun _ _ _ h => h) (fun w' hS => by clear hS; go_simp; (try with_reducible rfl)) ?_
  refine' tkw 1 (v := .int .i64 d) rfl (by kernel_rfl) (by kernel_rfl) trivial (fun _ _ _ h => h) (fun w' hS => by clear hS; go_simp; (try with_reducible rfl)) ?_
  refine' tkw 2 (v := .pointer (some ⟨a, 0, none⟩)) rfl (by kernel_rfl) (by kernel_rfl) trivial (fun _ _ _ h => h) (fun w' hS => by clear hS; go_simp; (try with_reducible rfl)) ?_
  refine' tkw 3 (v := .int .i64 d) rfl (by kernel_rfl) (by kernel_rfl) trivial (fun _ _ _ h => h) (fun w' hS => by clear hS; go_simp; (try with_reducible rfl)) ?_
  refine' tkw 4 (v := .pointer (some ⟨a, 0, none⟩)) rfl (by kernel_rfl) (by kernel_rfl) trivial (fun _ _ _ h => h) (fun w' hS => by clear hS; go_simp; (try with_reducible rfl)) ?_
  refine' tkw 5 (v := .pointer (some ⟨a, 1, none⟩)) rfl (by kernel_rfl) (by kernel_rfl) trivial (fun _ _ _ h => h) (fun w' hS => by clear hS; go_simp; (try with_reducible rfl)) ?_
  refine' tkw 6 (v := .pointer (some ⟨a, 1 + d, none⟩)) rfl (by kernel_rfl) (by kernel_rfl) trivial (fun _ _ _ h => h) (fun w' hS => by clear hS; go_simp; (try (intro h; exfalso; have := HIX.out; omega))) ?_
  refine' tkw 8 (v := .int .i64 n) rfl (by kernel_rfl) (by kernel_rfl) trivial (fun _ _ _ h => h) (fun w' hS => by clear hS; go_simp; (try with_reducible rfl)) ?_
  refine' tkw 11 (v := .pointer (some ⟨a, 0, none⟩)) rfl (by kernel_rfl) (by kernel_rfl) trivial (fun _ _ _ h => h) (fun w' hS => by clear hS; go_simp; (try with_reducible rfl)) ?_
  refine' tkw 12 (v := .pointer (some ⟨a, 1, none⟩)) rfl (by kernel_rfl) (by kernel_rfl) trivial (fun _ _ _ h => h) (fun w' hS => by clear hS; go_simp; (try with_reducible rfl)) ?_
  try simp only [Act.put, List.setIfInBounds_toArray, List.set_cons_zero, List.set_cons_succ]
  refine wpAnyH_ready (rs := [7, 9]) (by kernel_rfl) (by simp) ?_
  refine AllReadyH.cons rfl (fun K hK => ?_) (AllReadyH.cons rfl (fun K hK => ?_) AllReadyH.nil)
  · go_simp
    refine hK.out _ _ trivial (fun hHeld => ?_)
    clear hK hHeld
    refine wpAnyH_ready (rs := [9]) (by kernel_rfl) (by simp) ?_
    refine AllReadyH.cons rfl (fun K hK => ?_) AllReadyH.nil
    go_simp
    refine hK.out _ _ trivial (fun hHeld => ?_)
    clear hK hHeld
    refine wpAnyH_ready (rs := [10]) (by kernel_rfl) (by simp) ?_
    refine AllReadyH.cons rfl (fun K hK => ?_) AllReadyH.nil
    refine step_own (by rfl) _ _ 36 3 i1 _ 1 8 (by rfl) (by kernel_rfl) HI1.out.1 HI1.out.2.1 HI1.out.2.2.1 HI1.out.2.2.2 rfl (by decide) (by rfl) HOWN.out (by simp; have h1 := HSW.out; omega) ⟨wc.heap.size, 0, none⟩ 1 1 [.int .i64 n] (by rfl) rfl (cells_new wc [.int .i64 n] 3) (by simp [Value.oneCell']) (by unfold maxLen; have h1 := HLL.out; omega) (by have h1 := HLL.out; omega) ?_
    intro v3 w3 ho3 hg3 hv3
    obtain ⟨p3, c3, rfl⟩ := row_slice ho3
    have ho4 : w3.ownsRow base 3 1 (.slice p3 (l2.length + 1) c3) (l2.length + 1) (natC (l2 ++ [n])) := by rw [natC_append]; exact ho3
    have hbk : Blk w3 a (va1 :: vs1).toArray 113 := (hg3.block _ ((HA.out.net.blk.alloc _).drew).lt (fun e => (HA.out.net.alone d _ a HX1.out e.symm).2 rfl)).trans ((HA.out.net.blk.alloc _).drew)
    have HAD := hid (ends_grow (i := n) HA.out HE1.out HL1.out HX1.out ho4 hg3 hv3)
    have ca := hbk.cell (i := 1 + d) (by rw [Nat.add_comm 1 d]; simpa using HX1.out)
    have fa := hbk.froz (1 + d)
    clear ho3 ho4 hg3 hv3 hbk
    go_simp
    refine hK.out _ _ trivial (fun hHeld => ?_)
    clear hK hHeld
    refine' tkw 13 (v := .pointer (some ⟨a, 1 + d, none⟩)) rfl (by kernel_rfl) (by kernel_rfl) trivial (fun _ _ _ h => h) (fun w' hS => by clear hS; go_simp; (try (intro h; exfalso; have := HIX.out; omega))) ?_
    try simp only [Act.put, List.setIfInBounds_toArray, List.set_cons_zero, List.set_cons_succ]
    refine wpAnyH_ready (rs := [14]) (by kernel_rfl) (by simp) ?_
    refine AllReadyH.cons rfl (fun K hK => ?_) AllReadyH.nil
    go_simp
    refine hK.out _ _ trivial (fun hHeld => ?_)
    clear hK hHeld
    refine wpAnyH_done (by kernel_rfl) ?_ _
    go_wp2_with fail
    refine bodyPost_ret (v := .tuple #[]) (by simp [results, Try.results84]) rfl ⟨rfl, ?_⟩
    rw [← HFIN.out]
    exact HAD.out
  · have hc1 := HCX2.out
    go_simp
    refine hK.out _ _ trivial (fun hHeld => ?_)
    clear hK hHeld
    refine wpAnyH_ready (rs := [7]) (by kernel_rfl) (by simp) ?_
    refine AllReadyH.cons rfl (fun K hK => ?_) AllReadyH.nil
    go_simp
    refine hK.out _ _ trivial (fun hHeld => ?_)
    clear hK hHeld hc1
    refine wpAnyH_ready (rs := [10]) (by kernel_rfl) (by simp) ?_
    refine AllReadyH.cons rfl (fun K hK => ?_) AllReadyH.nil
    refine step_own (by rfl) _ _ 36 3 i1 _ 1 8 (by rfl) (by kernel_rfl) HI1.out.1 HI1.out.2.1 HI1.out.2.2.1 HI1.out.2.2.2 rfl (by decide) (by rfl) HOWN.out (by simp; have h1 := HSW.out; omega) ⟨wc.heap.size, 0, none⟩ 1 1 [.int .i64 n] (by rfl) rfl (cells_new wc [.int .i64 n] 3) (by simp [Value.oneCell']) (by unfold maxLen; have h1 := HLL.out; omega) (by have h1 := HLL.out; omega) ?_
    intro v3 w3 ho3 hg3 hv3
    obtain ⟨p3, c3, rfl⟩ := row_slice ho3
    have ho4 : w3.ownsRow base 3 1 (.slice p3 (l2.length + 1) c3) (l2.length + 1) (natC (l2 ++ [n])) := by rw [natC_append]; exact ho3
    have hbk : Blk w3 a (va1 :: vs1).toArray 113 := (hg3.block _ ((HA.out.net.blk.alloc _).drew).lt (fun e => (HA.out.net.alone d _ a HX1.out e.symm).2 rfl)).trans ((HA.out.net.blk.alloc _).drew)
    have HAD := hid (ends_grow (i := n) HA.out HE1.out HL1.out HX1.out ho4 hg3 hv3)
    have ca := hbk.cell (i := 1 + d) (by rw [Nat.add_comm 1 d]; simpa using HX1.out)
    have fa := hbk.froz (1 + d)
    clear ho3 ho4 hg3 hv3 hbk
    go_simp
    refine hK.out _ _ trivial (fun hHeld => ?_)
    clear hK hHeld
    refine' tkw 13 (v := .pointer (some ⟨a, 1 + d, none⟩)) rfl (by kernel_rfl) (by kernel_rfl) trivial (fun _ _ _ h => h) (fun w' hS => by clear hS; go_simp; (try (intro h; exfalso; have := HIX.out; omega))) ?_
    try simp only [Act.put, List.setIfInBounds_toArray, List.set_cons_zero, List.set_cons_succ]
    refine wpAnyH_ready (rs := [14]) (by kernel_rfl) (by simp) ?_
    refine AllReadyH.cons rfl (fun K hK => ?_) AllReadyH.nil
    go_simp
    refine hK.out _ _ trivial (fun hHeld => ?_)
    clear hK hHeld
    refine wpAnyH_done (by kernel_rfl) ?_ _
    go_wp2_with fail
    refine bodyPost_ret (v := .tuple #[]) (by simp [results, Try.results84]) rfl ⟨rfl, ?_⟩
    rw [← HFIN.out]
    exact HAD.out
end Go.Proofs.Ytncnpodanlhdkaa
