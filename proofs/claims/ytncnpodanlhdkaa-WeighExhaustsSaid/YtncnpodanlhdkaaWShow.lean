/-
  show: whether places show that a book has no assignment.
-/
import Derived.Test.YtncnpodanlhdkaaWNums
import Derived.Test.YtncnpodanlhdkaaWCons
namespace Go.Proofs.Ytncnpodanlhdkaa
set_option linter.all false
open Go.RowKit

structure MassOk (T : List Tk) : Prop where
  mass : ∀ (i : Nat) (t : Tk), T[i]? = some t → 0 ≤ t.low ∧ t.low ≤ t.high ∧ t.high ≤ 999999999
def addR (a b : Int × Int) : Int × Int := (a.1 + b.1, a.2 + b.2)
def stockSum (S : List (Int × Int)) (P : List Int) : Nat → Int × Int
  | 0 => (0, 0)
  | k + 1 => addR (stockSum S P k) (S.getD (P.getD k 0).toNat (0, 0))
def noTk : Tk := ⟨⟨#[]⟩, 0, 0, 0, 0⟩
def inSum (T : List Tk) (P : List Int) : Nat → Int × Int
  | 0 => (0, 0)
  | k + 1 => if (P.contains (T.getD k noTk).dst && !P.contains (T.getD k noTk).src) = true then addR (inSum T P k) ((T.getD k noTk).low, (T.getD k noTk).high) else inSum T P k
def outSum (T : List Tk) (P : List Int) : Nat → Int × Int
  | 0 => (0, 0)
  | k + 1 => if (P.contains (T.getD k noTk).src && !P.contains (T.getD k noTk).dst) = true then addR (outSum T P k) ((T.getD k noTk).low, (T.getD k noTk).high) else outSum T P k
def showF (S : List (Int × Int)) (T : List Tk) (P : List Int) : Bool :=
  decide ((inSum T P T.length).2 - (outSum T P T.length).1 < (stockSum S P P.length).1) || decide ((stockSum S P P.length).2 < (inSum T P T.length).1 - (outSum T P T.length).2)
def Bd (k : Nat) (x : Int × Int) : Prop := -(k : Int) * 999999999 ≤ x.1 ∧ x.1 ≤ (k : Int) * 999999999 ∧ -(k : Int) * 999999999 ≤ x.2 ∧ x.2 ≤ (k : Int) * 999999999
theorem bd_add {k : Nat} {x y : Int × Int} (h : Bd k x) (hy : -999999999 ≤ y.1 ∧ y.1 ≤ 999999999 ∧ -999999999 ≤ y.2 ∧ y.2 ≤ 999999999) : Bd (k + 1) (addR x y) := by
  unfold Bd at *
  unfold addR
  dsimp only
  omega
theorem bd_up {k : Nat} {x : Int × Int} (h : Bd k x) : Bd (k + 1) x := by unfold Bd at *; omega
theorem stock_bd {S : List (Int × Int)} {T : List Tk} (hok : TksOk S T) (P : List Int) : ∀ k, Bd k (stockSum S P k)
  | 0 => by unfold stockSum Bd; simp
  | k + 1 => by
    unfold stockSum
    refine bd_add (stock_bd hok P k) ?_
    rw [List.getD_eq_getElem?_getD]
    cases h : S[(P.getD k 0).toNat]? with
    | none => simp
    | some r => exact hok.rg _ r h
theorem get_mass {T : List Tk} (hm : MassOk T) (k : Nat) : -999999999 ≤ (T.getD k noTk).low ∧ (T.getD k noTk).low ≤ 999999999 ∧ -999999999 ≤ (T.getD k noTk).high ∧ (T.getD k noTk).high ≤ 999999999 := by
  rw [List.getD_eq_getElem?_getD]
  cases h : T[k]? with
  | none => simp [noTk]
  | some t => have := hm.mass k t h; simp only [Option.getD_some]; omega
theorem in_bd {T : List Tk} (hm : MassOk T) (P : List Int) : ∀ k, Bd k (inSum T P k)
  | 0 => by unfold inSum Bd; simp
  | k + 1 => by
    unfold inSum
    split
    · exact bd_add (in_bd hm P k) (get_mass hm k)
    · exact bd_up (in_bd hm P k)
theorem out_bd {T : List Tk} (hm : MassOk T) (P : List Int) : ∀ k, Bd k (outSum T P k)
  | 0 => by unfold outSum Bd; simp
  | k + 1 => by
    unfold outSum
    split
    · exact bd_add (out_bd hm P k) (get_mass hm k)
    · exact bd_up (out_bd hm P k)
structure ShowAt (W w1 wr : World) (x y z : Int × Int) : Prop where
  a : Blk wr w1.heap.size (rgC x).toArray 38
  b : Blk wr (w1.heap.size + 1) (rgC y).toArray 38
  c : Blk wr (w1.heap.size + 1 + 1) (rgC z).toArray 38
  old : Below w1.heap.size w1 wr
theorem ShowAt.later {W w1 wr w2 : World} {x y z : Int × Int} (h : ShowAt W w1 wr x y z) (hb : Below wr.heap.size wr w2) : ShowAt W w1 w2 x y z := ⟨h.a.later hb h.a.lt, h.b.later hb h.b.lt, h.c.later hb h.c.lt, h.old.trans (hb.mono h.old.size)⟩
theorem ShowAt.setA {W w1 wr : World} {x y z : Int × Int} (h : ShowAt W w1 wr x y z) (u : Int × Int) : ShowAt W w1 ((wr.setCell ⟨w1.heap.size, 0, none⟩ (.int .i64 u.1)).setCell ⟨w1.heap.size, 1, none⟩ (.int .i64 u.2)) u y z :=
  ⟨(h.a.set 0 _).set 1 _, (h.b.setOther _ _ (by omega)).setOther _ _ (by omega), (h.c.setOther _ _ (by omega)).setOther _ _ (by omega), (h.old.setCell (p := ⟨w1.heap.size, 0, none⟩) (Nat.le_refl _) _).setCell (p := ⟨w1.heap.size, 1, none⟩) (Nat.le_refl _) _⟩
theorem ShowAt.setB {W w1 wr : World} {x y z : Int × Int} (h : ShowAt W w1 wr x y z) (u : Int × Int) : ShowAt W w1 ((wr.setCell ⟨w1.heap.size + 1, 0, none⟩ (.int .i64 u.1)).setCell ⟨w1.heap.size + 1, 1, none⟩ (.int .i64 u.2)) x u z :=
  ⟨(h.a.setOther _ _ (by omega)).setOther _ _ (by omega), (h.b.set 0 _).set 1 _, (h.c.setOther _ _ (by omega)).setOther _ _ (by omega), (h.old.setCell (p := ⟨w1.heap.size + 1, 0, none⟩) (by simp) _).setCell (p := ⟨w1.heap.size + 1, 1, none⟩) (by simp) _⟩
theorem ShowAt.setC {W w1 wr : World} {x y z : Int × Int} (h : ShowAt W w1 wr x y z) (u : Int × Int) : ShowAt W w1 ((wr.setCell ⟨w1.heap.size + 1 + 1, 0, none⟩ (.int .i64 u.1)).setCell ⟨w1.heap.size + 1 + 1, 1, none⟩ (.int .i64 u.2)) x y u :=
  ⟨(h.a.setOther _ _ (by omega)).setOther _ _ (by omega), (h.b.setOther _ _ (by omega)).setOther _ _ (by omega), (h.c.set 0 _).set 1 _, (h.old.setCell (p := ⟨w1.heap.size + 1 + 1, 0, none⟩) (by simp; omega) _).setCell (p := ⟨w1.heap.size + 1 + 1, 1, none⟩) (by simp; omega) _⟩
theorem ShowAt.start (W w1 : World) : ShowAt W w1 (((w1.alloc (.cells #[.int .i64 0, .int .i64 0] 38)).alloc (.cells #[.int .i64 0, .int .i64 0] 38)).alloc (.cells #[.int .i64 0, .int .i64 0] 38)) (0, 0) (0, 0) (0, 0) :=
  ⟨((Blk.new _ _ _).alloc _).alloc _, (Blk_newn _ _ _ (by simp)).alloc _, Blk_newn _ _ _ (by simp), ((below_new w1 _).alloc (by simp) _).alloc (by simp; omega) _⟩

set_option maxRecDepth 100000 in
set_option maxHeartbeats 4000000 in
theorem show_any (S : List (Int × Int)) (T : List Tk) (P : List Int) (v1 v2 v3 : Value) (W : World) (hb : BookIn W v1 v2 S T) (hj : SlcIn W v3 P.length (P.map (Value.int .i64))) (hok : TksOk S T) (hm : MassOk T) (hP : P.length ≤ 100) (hp : ∀ (i : Nat) (x : Int), P[i]? = some x → 0 ≤ x ∧ x < S.length) :
    Calls Try.prog 62 #[v3, .agg #[v1, v2]] W (Ret (.bool (showF S T P)) W) := by
  obtain ⟨p3, c3, rfl, hm3⟩ := hj.shape
  obtain ⟨p2, c2, rfl, hm2⟩ := hb.tickets.shape
  obtain ⟨p1, c1, rfl, hm1⟩ := hb.stock.shape
  obtain ⟨nt, hnt⟩ : ∃ nt, nt = T.length := ⟨_, rfl⟩
  obtain ⟨ns, hns⟩ : ∃ ns, ns = S.length := ⟨_, rfl⟩
  obtain ⟨np, hnp⟩ : ∃ np, np = P.length := ⟨_, rfl⟩
  obtain ⟨w1, hw1⟩ : ∃ w1, w1 = W.alloc (.cells #[.slice p1 ns c1, .slice p2 nt c2] 25) := ⟨_, rfl⟩
  have hb1 : Below W.heap.size W w1 := by rw [hw1]; exact below_new W _
  have hB1 : Blk w1 W.heap.size #[.slice p1 ns c1, .slice p2 nt c2] 25 := by rw [hw1]; exact Blk.new W _ _
  have hs1 : w1.heap.size = W.heap.size + 1 := by rw [hw1]; simp
  have hbk := hb.later hb1
  have hjj := hj.later hb1
  rw [← hnt, ← hns] at hbk
  rw [← hnp] at hjj
  have hle1 : nt ≤ 128 := by rw [hnt]; exact hok.few
  have hle2 : ns ≤ 32 := by rw [hns]; exact hok.places
  have hle3 : np ≤ 100 := by rw [hnp]; exact hP
  rw [← hnt, ← hns, ← hnp]
  have HSF : Hid (showF S T P = (decide ((inSum T P nt).2 - (outSum T P nt).1 < (stockSum S P np).1) || decide ((stockSum S P np).2 < (inSum T P nt).1 - (outSum T P nt).2))) := hid (by rw [hnt, hnp]; rfl)
  have HBK := hid hbk
  have HJ := hid hjj
  have HB1 := hid hb1
  have HBL := hid hB1
  have HS1 := hid hs1
  have HW1 := hid hw1
  have HNT := hid hnt
  have HNS := hid hns
  have HNP := hid hnp
  have HOK := hid hok
  have HM := hid hm
  have HP := hid hp
  have HST := hid (ShowAt.start W w1)
  clear hw1 hb1 hB1 hs1 hb hj hbk hjj hnt hns hnp hok hm hP hp hm1 hm2 hm3
  go_enter Try.func62, Try.ntmps62
  go_wp2_with (rw [← HW1.out])
  go_loopw [16] (fun u wr => ∃ k : Nat, k ≤ np ∧ u = .int .i64 k ∧ Hid (ShowAt W w1 wr (stockSum S P k) (0, 0) (0, 0))) (fun u _ => np - (intOf u).toNat)
  case atStart => exact ⟨0, Nat.zero_le _, rfl, HST⟩
  case round =>
    obtain ⟨k, hk, rfl, HA⟩ := hrel
    by_cases hlt : k < np
    · obtain ⟨x, hx⟩ : ∃ x, P[k]? = some x := ⟨_, List.getElem?_eq_getElem (by rw [← HNP.out]; exact hlt)⟩
      obtain ⟨hx1, hx2⟩ := HP.out k x hx
      have hw := HJ.out.later HA.out.old
      rw [HNP.out] at hw
      obtain ⟨g, o, c', hv, r0, _⟩ := int_at hw hx
      injection hv with e1 e2 e3
      subst e1
      obtain ⟨jx, rfl⟩ : ∃ jx : Nat, x = jx := ⟨x.toNat, by omega⟩
      obtain ⟨r, hr⟩ : ∃ r, S[jx]? = some r := ⟨_, List.getElem?_eq_getElem (by omega)⟩
      have hst := (HBK.out.stock.later HA.out.old)
      rw [HNS.out] at hst
      obtain ⟨g2, o2, c4, hv2, s0, s1⟩ := hst.rgAt hr
      injection hv2 with f1 f2 f3
      subst f1
      obtain ⟨x0, hx0⟩ : ∃ x0, x0 = stockSum S P k := ⟨_, rfl⟩
      have HNX : Hid (stockSum S P (k + 1) = (x0.1 + r.1, x0.2 + r.2)) := hid (by
        conv => lhs; unfold stockSum
        have hg : P.getD k 0 = (jx : Int) := by rw [List.getD_eq_getElem?_getD, hx]; rfl
        rw [hg, Int.toNat_natCast, List.getD_eq_getElem?_getD, hr, Option.getD_some, ← hx0]
        rfl)
      have hbd := stock_bd HOK.out P k
      rw [← hx0] at HA hbd
      have hbr := HOK.out.rg jx r hr
      have HPL := hid (fun w => plus_any x0.1 x0.2 r.1 r.2 w (by unfold Bd at hbd; omega) (by unfold Bd at hbd; omega) (by omega) (by omega))
      have hBx := (HBL.out.later HA.out.old (by have := HS1.out; omega)).cell (i := 0) rfl
      have a0 : wr.cell? ⟨w1.heap.size, 0, none⟩ = some (.int .i64 x0.1) := HA.out.a.cell (i := 0) rfl
      have a1 : wr.cell? ⟨w1.heap.size, 1, none⟩ = some (.int .i64 x0.2) := HA.out.a.cell (i := 1) rfl
      have hjn : jx < ns := by have := HNS.out; omega
      have HJX : Hid ((jx : Int) < (ns : Int)) := hid (by omega)
      clear hw e2 e3 hx hst f2 f3 hx0 hbd hbr hr hx1 hx2
      go_wp2_with fail
      refine region_tail 6 (by kernel_rfl) (by kernel_rfl) ?_
      simp only [List.take_succ_cons, List.take_zero, List.drop_succ_cons, List.drop_zero]
      repeat still_step
      try refine wpStill_nil ?_
      obtain ⟨w2, hw2⟩ : ∃ w2, w2 = wr.drew := ⟨_, rfl⟩
      have HA2 : Hid (ShowAt W w1 w2 x0 (0, 0) (0, 0)) := hid (by rw [hw2]; exact HA.out.later (Below.refl _ _).drew)
      rw [← hw2]
      clear hw2 a0 a1 r0 s0 s1 hBx
      go_wp2_with (go_at_call 85; (with_reducible refine (HPL.out _).mono ?_); rintro e w3 ⟨rfl, hb3⟩; have HA3 := hid (HA2.out.later hb3); have d0 : w3.cell? ⟨w1.heap.size, 0, none⟩ = some (.int .i64 x0.1) := HA3.out.a.cell (i := 0) rfl; have d1 : w3.cell? ⟨w1.heap.size, 1, none⟩ = some (.int .i64 x0.2) := HA3.out.a.cell (i := 1) rfl; have e0 := HA3.out.a.froz 0; have e1 := HA3.out.a.froz 1; clear hb3)
      have HA4 := hid (HA3.out.setA (x0.1 + r.1, x0.2 + r.2))
      rw [← HNX.out] at HA4
      have HA5 : Hid (ShowAt W w1 ((w3.setCell ⟨w1.heap.size, 0, none⟩ (.int .i64 (x0.1 + r.1))).setCell ⟨w1.heap.size, 1, none⟩ (.int .i64 (x0.2 + r.2))) (stockSum S P (k + 1)) (0, 0) (0, 0)) := by rw [HNX.out]; exact hid (HA3.out.setA (x0.1 + r.1, x0.2 + r.2))
      clear HA4
      go_roundw
      case rel => exact ⟨k + 1, by omega, by go_num, HA5⟩
      case measure => simp [intOf]; omega
    · have hkn : k = np := by omega
      subst hkn
      have hBx := (HBL.out.later HA.out.old (by have := HS1.out; omega)).cell (i := 1) rfl
      go_wp2_with fail
      go_loopw [31] (fun u wr => ∃ j : Nat, j ≤ nt ∧ u = .int .i64 j ∧ Hid (ShowAt W w1 wr (stockSum S P k) (inSum T P j) (outSum T P j))) (fun u _ => nt - (intOf u).toNat)
      case atStart => exact ⟨0, Nat.zero_le _, rfl, HA⟩
      case round =>
        clear HA hBx
        obtain ⟨j, hj, rfl, HA⟩ := hrel
        by_cases hlt : j < nt
        · obtain ⟨t, ht⟩ : ∃ t, T[j]? = some t := ⟨_, List.getElem?_eq_getElem (by rw [← HNT.out]; exact hlt)⟩
          have hw := HBK.out.tickets.later HA.out.old
          rw [HNT.out] at hw
          obtain ⟨g, o, c', hv, t0, t1, t2, t3, t4⟩ := hw.tkAt ht
          injection hv with e1 e2 e3
          subst e1
          obtain ⟨w3, hw3⟩ : ∃ w3, w3 = (wr.alloc (.cells #[.string t.id, .int .i64 t.src, .int .i64 t.dst, .int .i64 t.low, .int .i64 t.high] 59)).drew := ⟨_, rfl⟩
          have hb3 : Below wr.heap.size wr w3 := by rw [hw3]; exact (below_new wr _).drew
          have hB3 : Blk w3 wr.heap.size #[.string t.id, .int .i64 t.src, .int .i64 t.dst, .int .i64 t.low, .int .i64 t.high] 59 := by rw [hw3]; exact (Blk.new wr _ _).drew
          obtain ⟨y0, hy0⟩ : ∃ y0, y0 = inSum T P j := ⟨_, rfl⟩
          obtain ⟨z0, hz0⟩ : ∃ z0, z0 = outSum T P j := ⟨_, rfl⟩
          have hby := in_bd HM.out P j
          have hbz := out_bd HM.out P j
          rw [← hy0] at HA hby
          rw [← hz0] at HA hbz
          have hmm := HM.out.mass j t ht
          have htg : T.getD j noTk = t := by rw [List.getD_eq_getElem?_getD, ht]; rfl
          have HA3 := hid (HA.out.later hb3)
          have HPI := hid (fun w => plus_any y0.1 y0.2 t.low t.high w (by unfold Bd at hby; omega) (by unfold Bd at hby; omega) (by omega) (by omega))
          have HPO := hid (fun w => plus_any z0.1 z0.2 t.low t.high w (by unfold Bd at hbz; omega) (by unfold Bd at hbz; omega) (by omega) (by omega))
          have hjp : SlcIn w3 (.slice p3 k c3) P.length (P.map (Value.int .i64)) := by have h := HJ.out.later (HA.out.old.trans (hb3.mono HA.out.old.size)); rw [HNP.out] at h ⊢; exact h
          have HCF := hid (has_int hjp t.src)
          have HCT := hid (has_int hjp t.dst)
          clear hjp
          have HINX : Hid (inSum T P (j + 1) = if (P.contains t.dst && !P.contains t.src) = true then (y0.1 + t.low, y0.2 + t.high) else y0) := hid (by
            conv => lhs; unfold inSum
            rw [htg, ← hy0]
            rfl)
          have HONX : Hid (outSum T P (j + 1) = if (P.contains t.src && !P.contains t.dst) = true then (z0.1 + t.low, z0.2 + t.high) else z0) := hid (by
            conv => lhs; unfold outSum
            rw [htg, ← hz0]
            rfl)
          have u1 := hB3.cell (i := 1) rfl
          have u2 := hB3.cell (i := 2) rfl
          have u3 := hB3.cell (i := 3) rfl
          have u4 := hB3.cell (i := 4) rfl
          have i0 : w3.cell? ⟨w1.heap.size + 1, 0, none⟩ = some (.int .i64 y0.1) := HA3.out.b.cell (i := 0) rfl
          have i1 : w3.cell? ⟨w1.heap.size + 1, 1, none⟩ = some (.int .i64 y0.2) := HA3.out.b.cell (i := 1) rfl
          have o0 : w3.cell? ⟨w1.heap.size + 1 + 1, 0, none⟩ = some (.int .i64 z0.1) := HA3.out.c.cell (i := 0) rfl
          have o1 : w3.cell? ⟨w1.heap.size + 1 + 1, 1, none⟩ = some (.int .i64 z0.2) := HA3.out.c.cell (i := 1) rfl
          have HW3 := hid hw3
          obtain ⟨bf, hbf⟩ : ∃ bf, bf = P.contains t.src := ⟨_, rfl⟩
          obtain ⟨bt, hbt⟩ : ∃ bt, bt = P.contains t.dst := ⟨_, rfl⟩
          rw [← hbf, ← hbt] at HINX HONX
          rw [← hbf] at HCF
          rw [← hbt] at HCT
          clear hw e2 e3 ht hw3 hb3 hB3 hy0 hz0 hby hbz hmm htg hbf hbt
          cases bf <;> cases bt
          all_goals
            go_wp2_with fail
            refine region_tail 8 (by kernel_rfl) (by kernel_rfl) ?_
            rw [← HW3.out]
            clear t0 t1 t2 t3 t4
            simp only [List.take_succ_cons, List.take_zero, List.drop_succ_cons, List.drop_zero]
            repeat still_step
            still_call (HCF.out.mono fun e w' ⟨h1, h2⟩ => ⟨h1, h2.symm⟩)
            repeat still_step
            still_call (HCT.out.mono fun e w' ⟨h1, h2⟩ => ⟨h1, h2.symm⟩)
            repeat still_step
            try refine wpStill_nil ?_
            go_wp2_with (go_at_call 85; first | ((with_reducible refine (HPI.out _).mono ?_); rintro e w4 ⟨rfl, hb4⟩; have HA4 := hid (HA3.out.later hb4); have d0 : w4.cell? ⟨w1.heap.size + 1, 0, none⟩ = some (.int .i64 y0.1) := HA4.out.b.cell (i := 0) rfl; have d1 : w4.cell? ⟨w1.heap.size + 1, 1, none⟩ = some (.int .i64 y0.2) := HA4.out.b.cell (i := 1) rfl; have e0 := HA4.out.b.froz 0; have e1 := HA4.out.b.froz 1; clear hb4) | ((with_reducible refine (HPO.out _).mono ?_); rintro e w4 ⟨rfl, hb4⟩; have HA4 := hid (HA3.out.later hb4); have d0 : w4.cell? ⟨w1.heap.size + 1 + 1, 0, none⟩ = some (.int .i64 z0.1) := HA4.out.c.cell (i := 0) rfl; have d1 : w4.cell? ⟨w1.heap.size + 1 + 1, 1, none⟩ = some (.int .i64 z0.2) := HA4.out.c.cell (i := 1) rfl; have e0 := HA4.out.c.froz 0; have e1 := HA4.out.c.froz 1; clear hb4))
          · have HEND : Hid (ShowAt W w1 w3 (stockSum S P k) (inSum T P (j + 1)) (outSum T P (j + 1))) := hid (by rw [HINX.out, HONX.out]; exact HA3.out)
            go_roundw
            case rel => exact ⟨j + 1, by omega, by go_num, HEND⟩
            case measure => simp [intOf]; omega
          · have HEND : Hid (ShowAt W w1 ((w4.setCell ⟨w1.heap.size + 1, 0, none⟩ (.int .i64 (y0.1 + t.low))).setCell ⟨w1.heap.size + 1, 1, none⟩ (.int .i64 (y0.2 + t.high))) (stockSum S P k) (inSum T P (j + 1)) (outSum T P (j + 1))) := hid (by rw [HINX.out, HONX.out]; exact HA4.out.setB (y0.1 + t.low, y0.2 + t.high))
            go_roundw
            case rel => exact ⟨j + 1, by omega, by go_num, HEND⟩
            case measure => simp [intOf]; omega
          · have HEND : Hid (ShowAt W w1 ((w4.setCell ⟨w1.heap.size + 1 + 1, 0, none⟩ (.int .i64 (z0.1 + t.low))).setCell ⟨w1.heap.size + 1 + 1, 1, none⟩ (.int .i64 (z0.2 + t.high))) (stockSum S P k) (inSum T P (j + 1)) (outSum T P (j + 1))) := hid (by rw [HINX.out, HONX.out]; exact HA4.out.setC (z0.1 + t.low, z0.2 + t.high))
            go_roundw
            case rel => exact ⟨j + 1, by omega, by go_num, HEND⟩
            case measure => simp [intOf]; omega
          · have HEND : Hid (ShowAt W w1 w3 (stockSum S P k) (inSum T P (j + 1)) (outSum T P (j + 1))) := hid (by rw [HINX.out, HONX.out]; exact HA3.out)
            go_roundw
            case rel => exact ⟨j + 1, by omega, by go_num, HEND⟩
            case measure => simp [intOf]; omega
        · have hjn : j = nt := by omega
          subst hjn
          obtain ⟨x0, hx0⟩ : ∃ x0, x0 = stockSum S P k := ⟨_, rfl⟩
          obtain ⟨y0, hy0⟩ : ∃ y0, y0 = inSum T P j := ⟨_, rfl⟩
          obtain ⟨z0, hz0⟩ : ∃ z0, z0 = outSum T P j := ⟨_, rfl⟩
          have hbx := stock_bd HOK.out P k
          have hby := in_bd HM.out P j
          have hbz := out_bd HM.out P j
          rw [← hx0] at HA HSF hbx
          rw [← hy0] at HA HSF hby
          rw [← hz0] at HA HSF hbz
          have HBE := hid (HB1.out.trans (HA.out.old.mono (by have := HS1.out; omega)))
          have a0 : wr.cell? ⟨w1.heap.size, 0, none⟩ = some (.int .i64 x0.1) := HA.out.a.cell (i := 0) rfl
          have a1 : wr.cell? ⟨w1.heap.size, 1, none⟩ = some (.int .i64 x0.2) := HA.out.a.cell (i := 1) rfl
          have i0 : wr.cell? ⟨w1.heap.size + 1, 0, none⟩ = some (.int .i64 y0.1) := HA.out.b.cell (i := 0) rfl
          have i1 : wr.cell? ⟨w1.heap.size + 1, 1, none⟩ = some (.int .i64 y0.2) := HA.out.b.cell (i := 1) rfl
          have o0 : wr.cell? ⟨w1.heap.size + 1 + 1, 0, none⟩ = some (.int .i64 z0.1) := HA.out.c.cell (i := 0) rfl
          have o1 : wr.cell? ⟨w1.heap.size + 1 + 1, 1, none⟩ = some (.int .i64 z0.2) := HA.out.c.cell (i := 1) rfl
          unfold Bd at hbx hby hbz
          have m1 : -9000000000000000000 ≤ y0.2 - z0.1 ∧ y0.2 - z0.1 ≤ 9000000000000000000 := by omega
          have m2 : -9000000000000000000 ≤ y0.1 - z0.2 ∧ y0.1 - z0.2 ≤ 9000000000000000000 := by omega
          obtain ⟨m3, m4⟩ := m1
          obtain ⟨m5, m6⟩ := m2
          clear hx0 hy0 hz0 hbx hby hbz
          by_cases h1 : y0.2 - z0.1 < x0.1
          · have HE : Hid (showF S T P = true) := hid (by rw [HSF.out]; simp [h1])
            go_wp2_with fail
            go_ret
            exact ⟨by rw [HE.out]; rfl, HBE.out⟩
          · have h1' : decide (y0.2 - z0.1 < x0.1) = false := by simpa using h1
            by_cases h2 : x0.2 < y0.1 - z0.2
            · have HE : Hid (showF S T P = true) := hid (by rw [HSF.out]; simp [h2])
              go_wp2_with fail
              go_ret
              exact ⟨by rw [HE.out]; rfl, HBE.out⟩
            · have HE : Hid (showF S T P = false) := hid (by rw [HSF.out]; simp; omega)
              have h2' : decide (x0.2 < y0.1 - z0.2) = false := by simpa using h2
              go_wp2_with fail
              go_ret
              exact ⟨by rw [HE.out]; rfl, HBE.out⟩
end Go.Proofs.Ytncnpodanlhdkaa
