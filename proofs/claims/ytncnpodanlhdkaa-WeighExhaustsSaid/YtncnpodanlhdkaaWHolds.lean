/-
  Holds: whether masses are an assignment.
-/
import Derived.Test.YtncnpodanlhdkaaWConf
namespace Go.Proofs.Ytncnpodanlhdkaa
set_option linter.all false
open Go.RowKit

def stepC9 (b : List Int) (s d : Nat) (m : Int) : List Int := (b.set s (b.getD s 0 - m)).set d ((b.set s (b.getD s 0 - m)).getD d 0 + m)
def chgF (T : List Tk) (M : List Int) : Nat → List Int
  | 0 => noB
  | k + 1 => stepC9 (chgF T M k) (node (T.getD k noTk).src) (node (T.getD k noTk).dst) (M.getD k 0)
def inR (lo hi m : Int) : Bool := decide (lo ≤ m) && decide (m ≤ hi)
def tkIn (T : List Tk) (M : List Int) (k : Nat) : Bool := inR (T.getD k noTk).low (T.getD k noTk).high (M.getD k 0)
def stIn (S : List (Int × Int)) (b : List Int) (k : Nat) : Bool := inR (S.getD k (0, 0)).1 (S.getD k (0, 0)).2 (b.getD k 0)
def holdsF (S : List (Int × Int)) (T : List Tk) (M : List Int) : Bool := (List.range T.length).all (tkIn T M) && (List.range S.length).all (stIn S (chgF T M T.length))
def Small9 (c : Int) (b : List Int) : Prop := b.length = 34 ∧ ∀ (i : Nat) (x : Int), b[i]? = some x → -c ≤ x ∧ x ≤ c
theorem small_get {c : Int} {b : List Int} (h : Small9 c b) (i : Nat) (hi : i < 34) : ∃ x, b[i]? = some x ∧ b.getD i 0 = x ∧ -c ≤ x ∧ x ≤ c := by
  have hx : b[i]? = some (b[i]'(by rw [h.1]; exact hi)) := List.getElem?_eq_getElem _
  exact ⟨_, hx, by rw [List.getD_eq_getElem?_getD, hx]; rfl, h.2 i _ hx⟩
theorem small_set {c e : Int} {b : List Int} (h : Small9 c b) (i : Nat) (y : Int) (hy : -(c + e) ≤ y ∧ y ≤ c + e) (he : 0 ≤ e) : Small9 (c + e) (b.set i y) := by
  refine ⟨by rw [List.length_set]; exact h.1, fun j x hx => ?_⟩
  by_cases hj : j = i
  · subst hj
    rw [List.getElem?_set_self'] at hx
    cases hq : b[j]? with
    | none => rw [hq] at hx; cases hx
    | some q =>
      rw [hq] at hx
      cases hx
      exact hy
  · rw [List.getElem?_set_ne (Ne.symm hj)] at hx
    have := h.2 j x hx
    omega
theorem small_step {c : Int} {b : List Int} (h : Small9 c b) (s d : Nat) (m : Int) (hs : s < 34) (hd : d < 34) (hm : 0 ≤ m ∧ m ≤ 999999999) : Small9 (c + 999999999 + 999999999) (stepC9 b s d m) := by
  obtain ⟨x, _, e1, b1, b2⟩ := small_get h s hs
  have h1 := small_set h s (b.getD s 0 - m) (e := 999999999) (by omega) (by omega)
  obtain ⟨y, _, e2, b3, b4⟩ := small_get h1 d hd
  unfold stepC9
  exact small_set h1 d _ (by omega) (by omega)
theorem chg_small {S : List (Int × Int)} {T : List Tk} {M : List Int} (hok : TksOk S T) (hm : MassOk T) : ∀ k, k ≤ T.length → (∀ j, j < k → tkIn T M j = true) → Small9 ((k : Int) * 1999999998) (chgF T M k)
  | 0, _, _ => by
    refine ⟨noB_len, fun i x hx => ?_⟩
    unfold chgF noB at hx
    rw [List.getElem?_replicate] at hx
    split at hx
    · cases hx; omega
    · cases hx
  | k + 1, hk, hz => by
    have ih := chg_small hok hm k (by omega) fun j hj => hz j (by omega)
    have ht := List.getElem?_eq_getElem (l := T) (i := k) (by omega)
    have hg : T.getD k noTk = T[k] := by rw [List.getD_eq_getElem?_getD, ht]; rfl
    obtain ⟨h1, h2, h3, h4⟩ := hok.tk k _ ht
    have h5 := hm.mass k _ ht
    have h6 := hz k (by omega)
    have h7 := hok.places
    unfold tkIn inR at h6
    rw [hg, Bool.and_eq_true, decide_eq_true_eq, decide_eq_true_eq] at h6
    have := small_step ih (node T[k].src) (node T[k].dst) (M.getD k 0) (by unfold node; split <;> omega) (by unfold node; split <;> omega) (by omega)
    unfold chgF
    rw [hg]
    have e : (((k + 1 : Nat) : Int) * 1999999998) = (k : Int) * 1999999998 + 999999999 + 999999999 := by omega
    rw [e]
    exact this
structure HoldAt (W w1 : World) (q : Nat) (b : List Int) (wr : World) : Prop where
  blk : Blk wr q (ints b) 94
  old : Below q w1 wr
theorem HoldAt.later {W w1 wr w2 : World} {q : Nat} {b : List Int} (h : HoldAt W w1 q b wr) (hb : Below wr.heap.size wr w2) : HoldAt W w1 q b w2 := ⟨h.blk.later hb h.blk.lt, h.old.trans (hb.mono (Nat.le_of_lt h.blk.lt))⟩
theorem HoldAt.set {W w1 wr : World} {q : Nat} {b : List Int} (h : HoldAt W w1 q b wr) (i : Nat) (x : Int) : HoldAt W w1 q (b.set i x) (wr.setCell ⟨q, i, none⟩ (.int .i64 x)) := ⟨by rw [← ints_set]; exact h.blk.set _ _, h.old.setCell (p := ⟨q, i, none⟩) (Nat.le_refl _) _⟩

set_option maxRecDepth 100000 in
set_option maxHeartbeats 8000000 in
theorem holds_yes (S : List (Int × Int)) (T : List Tk) (M : List Int) (v1 v2 v3 : Value) (W : World) (hb : BookIn W v1 v2 S T) (hj : SlcIn W v3 M.length (M.map (Value.int .i64))) (hx : bookErr S T = 0) (hM : M.length = T.length) :
    Calls Try.prog 40 #[.agg #[v1, v2], v3] W (Ret (.tuple #[.bool (holdsF S T M), .int .i64 0]) W) := by
  have hz := (zero_of_info zero_bal).1
  obtain ⟨p1, c1, rfl, hm1⟩ := hb.stock.shape
  obtain ⟨p2, c2, rfl, hm2⟩ := hb.tickets.shape
  obtain ⟨p3, c3, rfl, hm3⟩ := hj.shape
  obtain ⟨nt, hnt⟩ : ∃ nt, nt = T.length := ⟨_, rfl⟩
  obtain ⟨ns, hns⟩ : ∃ ns, ns = S.length := ⟨_, rfl⟩
  obtain ⟨w1, hw1⟩ : ∃ w1, w1 = W.alloc (.cells #[.slice p1 ns c1, .slice p2 nt c2] 25) := ⟨_, rfl⟩
  have hb1 : Below W.heap.size W w1 := by rw [hw1]; exact below_new W _
  have hB1 : Blk w1 W.heap.size #[.slice p1 ns c1, .slice p2 nt c2] 25 := by rw [hw1]; exact Blk.new W _ _
  have HC := hid (book_any S T _ _ w1 (hb.later hb1))
  have HBK := hid (hb.later hb1)
  have HJ := hid (hj.later hb1)
  rw [hM] at HJ hm3
  rw [hM]
  rw [← hnt] at HC HBK HJ hm3 ⊢
  rw [← hns] at HC HBK
  rw [hx] at HC
  have q0 := hB1.cell (i := 0) rfl
  have q1 := hB1.cell (i := 1) rfl
  have HB1 := hid hb1
  have HBL := hid hB1
  have HW1 := hid hw1
  have HOK := hid (book_ok hx)
  have HNT := hid hnt
  have HNS := hid hns
  have HML := hid hM
  have HHF : Hid (holdsF S T M = ((List.range nt).all (tkIn T M) && (List.range ns).all (stIn S (chgF T M nt)))) := hid (by rw [hnt, hns]; rfl)
  have hle1 : nt ≤ 128 := by rw [hnt]; exact (book_ok hx).1.few
  have hle2 : ns ≤ 32 := by rw [hns]; exact (book_ok hx).1.places
  have hge : W.heap.size + 1 ≤ w1.heap.size := hB1.lt
  rw [← hns]
  clear hb hj hw1 hb1 hB1 hx hM hnt hns
  go_enter Try.func40, Try.ntmps40
  go_wp2_with (first | (rw [← HW1.out]) | (go_at_call 45; (with_reducible refine HC.out.mono ?_); rintro e w2 ⟨rfl, hb⟩; have HB2 := hid hb; have HBL2 := HBL.out.later hb HBL.out.lt; have d0 := HBL2.cell (i := 0) rfl; have d1 := HBL2.cell (i := 1) rfl; have HBL2 := hid HBL2; have e1 := ((HBL2.out.alloc (.cells (ints noB) 94))).cell (i := 1) rfl; clear hb))
  have HST : Hid (HoldAt W w2 w2.heap.size (chgF T M 0) (w2.alloc (.cells (ints noB) 94))) := hid ⟨Blk.new w2 _ _, below_new w2 _⟩
  go_loopw [26] (fun u wr => ∃ k : Nat, k ≤ nt ∧ u = .int .i64 k ∧ Hid (HoldAt W w2 w2.heap.size (chgF T M k) wr) ∧ Hid (∀ j, j < k → tkIn T M j = true)) (fun u _ => nt - (intOf u).toNat)
  case atStart => exact ⟨0, Nat.zero_le _, rfl, HST, hid (fun j hj => by omega)⟩
  case round =>
    clear HST e1 d0 d1
    obtain ⟨k, hk, rfl, HA, HZ⟩ := hrel
    have HSM := hid (chg_small (M := M) HOK.out.1 HOK.out.2 k (by rw [← HNT.out]; exact hk) HZ.out)
    by_cases hlt : k < nt
    · obtain ⟨t, ht⟩ : ∃ t, T[k]? = some t := ⟨_, List.getElem?_eq_getElem (by rw [← HNT.out]; exact hlt)⟩
      obtain ⟨m, hm⟩ : ∃ m, M[k]? = some m := ⟨_, List.getElem?_eq_getElem (by rw [HML.out, ← HNT.out]; exact hlt)⟩
      have hw := (HBK.out.tickets.later HB2.out).later HA.out.old
      rw [HNT.out] at hw
      obtain ⟨g, o, c', hv, t0, t1, t2, t3, t4⟩ := hw.tkAt ht
      injection hv with e1 e2 e3
      subst e1
      have hw2 := (HJ.out.later HB2.out).later HA.out.old
      rw [HNT.out, ← HML.out] at hw2
      obtain ⟨g2, o2, c4, hv2, r0, _⟩ := int_at hw2 hm
      injection hv2 with f1 f2 f3
      subst f1
      have HG2 : Hid (g2 < w2.heap.size) := hid (by
        have h := (HJ.out.later HB2.out)
        rw [HNT.out, ← HML.out] at h
        obtain ⟨g9, o9, c9, hv9, r9, _⟩ := int_at h hm
        injection hv9 with i1 _ _
        injection i1 with i1
        injection i1 with i1 _ _
        have := World.block_lt_of_cell? w2 _ r9
        rw [i1]
        exact this)
      have hgt : T.getD k noTk = t := by rw [List.getD_eq_getElem?_getD, ht]; rfl
      have hgm : M.getD k 0 = m := by rw [List.getD_eq_getElem?_getD, hm]; rfl
      obtain ⟨h1, h2, h3, h4⟩ := HOK.out.1.tk k t ht
      have h5 := HOK.out.2.mass k t ht
      have HCN := hid (contains_any t.low t.high m)
      obtain ⟨w3, hw3⟩ : ∃ w3, w3 = (wr.alloc (.cells #[.string t.id, .int .i64 t.src, .int .i64 t.dst, .int .i64 t.low, .int .i64 t.high] 59)).drew := ⟨_, rfl⟩
      have hb3 : Below wr.heap.size wr w3 := by rw [hw3]; exact (below_new wr _).drew
      have hB3 : Blk w3 wr.heap.size #[.string t.id, .int .i64 t.src, .int .i64 t.dst, .int .i64 t.low, .int .i64 t.high] 59 := by rw [hw3]; exact (Blk.new wr _ _).drew
      have HA3 := hid (HA.out.later hb3)
      have HBE3 := hid hb3
      have HB3 := hid hB3
      have u3 := hB3.cell (i := 3) rfl
      have u4 := hB3.cell (i := 4) rfl
      have r3 : w3.cell? ⟨g2, o2 + k, none⟩ = some (.int .i64 m) := (hb3.cell (p := ⟨g2, o2 + k, none⟩) (World.block_lt_of_cell? wr _ r0)).trans r0
      have HR0 := hid r3
      have HW3 := hid hw3
      have HTI : Hid (tkIn T M k = (decide (t.low ≤ m) && decide (m ≤ t.high))) := hid (by unfold tkIn inR; rw [hgt, hgm])
      cases hin : tkIn T M k
      · rw [← HTI.out, hin] at HCN
        have HE : Hid (holdsF S T M = false) := hid (by
          rw [HHF.out, Bool.and_eq_false_iff]
          left
          rw [List.all_eq_false]
          exact ⟨k, List.mem_range.2 hlt, by rw [hin]; exact Bool.false_ne_true⟩)
        clear hw e2 e3 ht hm hw2 f2 f3 hgt hgm h1 h2 h3 h4 h5 hw3 hb3 hB3 hin
        go_wp2_with fail
        refine region_tail 6 (by kernel_rfl) (by kernel_rfl) ?_
        rw [← HW3.out]
        clear t0 t1 t2 t3 t4 r0
        simp only [List.take_succ_cons, List.take_zero, List.drop_succ_cons, List.drop_zero]
        repeat still_step
        try refine wpStill_nil ?_
        go_wp2_with (go_at_call 67; (with_reducible refine (HCN.out _).mono ?_); rintro e w4 ⟨rfl, hb4⟩; have HB4 := hid (HB1.out.trans ((HB2.out.trans ((HA3.out.old.trans (hb4.mono (Nat.le_of_lt HA3.out.blk.lt))).mono HB2.out.size)).mono (by omega))); clear hb4)
        go_ret2
        exact ⟨by rw [HE.out]; rfl, HB4.out⟩
      · rw [← HTI.out, hin] at HCN
        have HZ2 : Hid (∀ j, j < k + 1 → tkIn T M j = true) := hid (fun j hj => by
          by_cases e : j = k
          · subst e; exact hin
          · exact HZ.out j (by omega))
        rw [HTI.out, Bool.and_eq_true, decide_eq_true_eq, decide_eq_true_eq] at hin
        have hs34 : node t.src < 34 := by have := HNS.out; unfold node; split <;> omega
        have hd34 : node t.dst < 34 := by have := HNS.out; unfold node; split <;> omega
        have HN1 := hid (nodeOf_still t.src h1)
        have HN2 := hid (nodeOf_still t.dst h3)
        have HD1 : Hid ((node t.src : Int) < 34) := hid (by omega)
        have HD2 : Hid ((node t.dst : Int) < 34) := hid (by omega)
        obtain ⟨bk, hbk⟩ : ∃ bk, bk = chgF T M k := ⟨_, rfl⟩
        rw [← hbk] at HA3 HSM
        obtain ⟨x, hx, hx2, hx3, hx4⟩ := small_get HSM.out (node t.src) hs34
        obtain ⟨s, hs⟩ : ∃ s, s = node t.src := ⟨_, rfl⟩
        obtain ⟨d, hd⟩ : ∃ d, d = node t.dst := ⟨_, rfl⟩
        rw [← hs] at HN1 HD1 hx hx2 hs34
        rw [← hd] at HN2 HD2 hd34
        have hm9 : 0 ≤ m ∧ m ≤ 999999999 := by omega
        have hs1 := small_set HSM.out s (x - m) (e := 999999999) (by omega) (by omega)
        obtain ⟨y, hy, hy2, hy3, hy4⟩ := small_get hs1 d hd34
        have HNX : Hid (chgF T M (k + 1) = (bk.set s (x - m)).set d (y + m)) := hid (by
          conv => lhs; unfold chgF stepC9
          rw [hgt, hgm, ← hbk, ← hs, ← hd, hx2, hy2])
        have HXC := hid (ints_get hx)
        have HYC := hid (ints_get hy)
        have hkb : (k : Int) * 1999999998 ≤ 255999999744 := by omega
        have k1 : -300000000000 ≤ x := by omega
        have k2 : x ≤ 300000000000 := by omega
        have k3 : -300000000000 ≤ y := by omega
        have k4 : y ≤ 300000000000 := by omega
        obtain ⟨k5, k6⟩ := hm9
        clear hw e2 e3 ht hm hw2 f2 f3 hgt hgm h1 h2 h3 h4 h5 hw3 hb3 hB3 hin hbk hx hx2 hx3 hx4 hs hd hs1 hy hy2 hy3 hy4 hkb hs34 hd34
        go_wp2_with fail
        refine region_tail 6 (by kernel_rfl) (by kernel_rfl) ?_
        rw [← HW3.out]
        clear t0 t1 t2 t3 t4 r0
        simp only [List.take_succ_cons, List.take_zero, List.drop_succ_cons, List.drop_zero]
        repeat still_step
        try refine wpStill_nil ?_
        clear u3 u4 r3
        go_wp2_with (go_at_call 67; (with_reducible refine (HCN.out _).mono ?_); rintro e w4 ⟨rfl, hb4⟩; have HB4 := hid hb4; clear hb4)
        obtain ⟨w5, hw5⟩ : ∃ w5, w5 = w4.drew := ⟨_, rfl⟩
        have hb5 : Below w3.heap.size w3 w5 := by rw [hw5]; exact HB4.out.drew
        have HA5 := hid (HA3.out.later hb5)
        have hB5 := HB3.out.later hb5 HB3.out.lt
        have u1 := hB5.cell (i := 1) rfl
        have x5 := HA5.out.blk.cell HXC.out
        have fx5 := HA5.out.blk.froz s
        have r5 : w5.cell? ⟨g2, o2 + k, none⟩ = some (.int .i64 m) := (hb5.cell (p := ⟨g2, o2 + k, none⟩) (World.block_lt_of_cell? w3 _ HR0.out)).trans HR0.out
        have HB5 := hid hB5
        have HR5 := hid r5
        have HW5 := hid hw5
        clear hw5 hb5 hB5
        refine region_tail 11 (by kernel_rfl) (by kernel_rfl) ?_
        rw [← HW5.out]
        simp only [List.take_succ_cons, List.take_zero, List.drop_succ_cons, List.drop_zero]
        repeat still_step
        still_call (HN1.out _)
        refine wpStill_step (fun K hK => ?_)
        go_simp
        rw [if_pos HD1.out]
        refine ⟨rfl, hK _ ?_⟩
        clear hK K
        repeat still_step
        refine wpStill_step (fun K hK => ?_)
        go_simp
        rw [if_pos HD1.out]
        refine ⟨rfl, hK _ ?_⟩
        clear hK K
        repeat still_step
        try refine wpStill_nil ?_
        clear u1 r5
        go_wp2_with fail
        obtain ⟨w6, hw6⟩ : ∃ w6, w6 = (w5.setCell ⟨w2.heap.size, s, none⟩ (.int .i64 (x - m))).drew := ⟨_, rfl⟩
        have HA6 : Hid (HoldAt W w2 w2.heap.size (bk.set s (x - m)) w6) := hid (by
          have h := HA5.out.set s (x - m)
          rw [hw6]
          exact ⟨h.blk.drew, h.old.drew⟩)
        have hne : w2.heap.size ≠ wr.heap.size := by have := HA.out.blk.lt; omega
        have hB6 : Blk w6 wr.heap.size #[.string t.id, .int .i64 t.src, .int .i64 t.dst, .int .i64 t.low, .int .i64 t.high] 59 := by rw [hw6]; exact (HB5.out.setOther _ _ hne.symm).drew
        have u2 := hB6.cell (i := 2) rfl
        have y6 := HA6.out.blk.cell HYC.out
        have fy6 := HA6.out.blk.froz d
        have hg2 : g2 < w2.heap.size := HG2.out
        have r6 : w6.cell? ⟨g2, o2 + k, none⟩ = some (.int .i64 m) := by
          rw [hw6]
          exact (World.cell?_setCell_other _ _ _ _ (by intro e; injection e with e _; omega)).trans HR5.out
        have HW6 := hid hw6
        clear hw6 hB6 x5 fx5 hne hg2
        refine region_tail 11 (by kernel_rfl) (by kernel_rfl) ?_
        rw [← HW6.out]
        simp only [List.take_succ_cons, List.take_zero, List.drop_succ_cons, List.drop_zero]
        repeat still_step
        still_call (HN2.out _)
        refine wpStill_step (fun K hK => ?_)
        go_simp
        rw [if_pos HD2.out]
        refine ⟨rfl, hK _ ?_⟩
        clear hK K
        repeat still_step
        refine wpStill_step (fun K hK => ?_)
        go_simp
        rw [if_pos HD2.out]
        refine ⟨rfl, hK _ ?_⟩
        clear hK K
        repeat still_step
        try refine wpStill_nil ?_
        clear u2 r6
        go_wp2_with fail
        have HEND : Hid (HoldAt W w2 w2.heap.size (chgF T M (k + 1)) (w6.setCell ⟨w2.heap.size, d, none⟩ (.int .i64 (y + m)))) := hid (by rw [HNX.out]; exact HA6.out.set d (y + m))
        go_roundw
        case rel => exact ⟨k + 1, by omega, by go_num, HEND, HZ2⟩
        case measure => simp [intOf]; omega
    · have hkn : k = nt := by omega
      subst hkn
      have HBX := HBL2.out.later HA.out.old HBL2.out.lt
      have z0 := HBX.cell (i := 0) rfl
      have HAL : Hid ((List.range k).all (tkIn T M) = true) := hid (List.all_eq_true.2 fun j hj => HZ.out j (List.mem_range.1 hj))
      obtain ⟨bk, hbk⟩ : ∃ bk, bk = chgF T M k := ⟨_, rfl⟩
      rw [← hbk] at HA HSM HHF
      clear HBX hbk HZ
      go_wp2_with fail
      go_loopw [65] (fun u wr => ∃ j : Nat, j ≤ ns ∧ u = .int .i64 j ∧ Hid (HoldAt W w2 w2.heap.size bk wr) ∧ Hid (∀ i, i < j → stIn S bk i = true)) (fun u _ => ns - (intOf u).toNat)
      case atStart => exact ⟨0, Nat.zero_le _, rfl, HA, hid (fun j hj => by omega)⟩
      case round =>
        clear HA z0
        obtain ⟨j, hj, rfl, HA, HZ⟩ := hrel
        by_cases hlt : j < ns
        · obtain ⟨r, hr⟩ : ∃ r, S[j]? = some r := ⟨_, List.getElem?_eq_getElem (by rw [← HNS.out]; exact hlt)⟩
          have hw := (HBK.out.stock.later HB2.out).later HA.out.old
          rw [HNS.out] at hw
          obtain ⟨g, o, c', hv, r0, r1⟩ := hw.rgAt hr
          injection hv with e1 e2 e3
          subst e1
          obtain ⟨x, hx, hx2, hx3, hx4⟩ := small_get HSM.out j (by omega)
          have hgr : S.getD j (0, 0) = r := by rw [List.getD_eq_getElem?_getD, hr]; rfl
          have HCN := hid (contains_any r.1 r.2 x)
          have HTI : Hid (stIn S bk j = (decide (r.1 ≤ x) && decide (x ≤ r.2))) := hid (by unfold stIn inR; rw [hgr, hx2])
          obtain ⟨w3, hw3⟩ : ∃ w3, w3 = (wr.alloc (.cells #[.int .i64 r.1, .int .i64 r.2] 38)).drew := ⟨_, rfl⟩
          have hb3 : Below wr.heap.size wr w3 := by rw [hw3]; exact (below_new wr _).drew
          have hB3 : Blk w3 wr.heap.size #[.int .i64 r.1, .int .i64 r.2] 38 := by rw [hw3]; exact (Blk.new wr _ _).drew
          have HA3 := hid (HA.out.later hb3)
          have u0 := hB3.cell (i := 0) rfl
          have u1 := hB3.cell (i := 1) rfl
          have x3 := HA3.out.blk.cell (ints_get hx)
          have HJ34 : Hid ((j : Int) < 34) := hid (by omega)
          have HW3 := hid hw3
          rw [← HTI.out] at HCN
          clear hw e2 e3 hr hx hx2 hx3 hx4 hgr hw3 hb3 hB3
          cases hin : stIn S bk j
          all_goals
            rw [hin] at HCN
            have HIN := hid hin
            clear hin
            go_wp2_with fail
            refine region_tail 4 (by kernel_rfl) (by kernel_rfl) ?_
            rw [← HW3.out]
            clear r0 r1
            simp only [List.take_succ_cons, List.take_zero, List.drop_succ_cons, List.drop_zero]
            repeat still_step
            try (refine wpStill_step (fun K hK => ?_); go_simp; rw [if_pos HJ34.out]; refine ⟨rfl, hK _ ?_⟩; clear hK K)
            repeat still_step
            try refine wpStill_nil ?_
            go_wp2_with (go_at_call 67; (with_reducible refine (HCN.out _).mono ?_); rintro e w4 ⟨rfl, hb4⟩; have HA4 := hid (HA3.out.later hb4); clear hb4)
          · have HE : Hid (holdsF S T M = false) := hid (by
              rw [HHF.out, HAL.out, Bool.true_and, List.all_eq_false]
              exact ⟨j, List.mem_range.2 hlt, by rw [HIN.out]; exact Bool.false_ne_true⟩)
            go_ret2
            exact ⟨by rw [HE.out]; rfl, HB1.out.trans ((HB2.out.trans (HA4.out.old.mono HB2.out.size)).mono (by omega))⟩
          · have HZ2 : Hid (∀ i, i < j + 1 → stIn S bk i = true) := hid (fun i hi => by
              by_cases e : i = j
              · subst e; exact HIN.out
              · exact HZ.out i (by omega))
            go_roundw
            case rel => exact ⟨j + 1, by omega, by go_num, HA4, HZ2⟩
            case measure => simp [intOf]; omega
        · have HE : Hid (holdsF S T M = true) := hid (by
            rw [HHF.out, HAL.out, Bool.true_and]
            exact List.all_eq_true.2 fun i hi => HZ.out i (by have := List.mem_range.1 hi; omega))
          go_wp2_with fail
          go_ret2
          exact ⟨by rw [HE.out]; rfl, HB1.out.trans ((HB2.out.trans (HA.out.old.mono HB2.out.size)).mono (by omega))⟩
end Go.Proofs.Ytncnpodanlhdkaa
