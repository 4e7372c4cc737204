/-
  Change: the range of the change of places together.
-/
import Derived.Test.YtncnpodanlhdkaaWTight
namespace Go.Proofs.Ytncnpodanlhdkaa
set_option linter.all false
open Go.RowKit

theorem joined_net {base a g c : Nat} {N : Net} {vs : List Value} {w : World} (h : NetIn base w a N (.slice (some ⟨g, 0, none⟩) N.arcs.length c) vs) (h0 : N.arcs.length ≠ 0) (h1 : N.arcs.length ≤ 1000) :
    Calls Try.prog 56 #[.pointer (some ⟨a, 0, none⟩)] w fun e w' => e = .returned (.int .i64 ((N.arcs.length - 1 : Nat) : Int)) ∧ w = w' := by
  obtain ⟨n, hn⟩ : ∃ n, n = N.arcs.length := ⟨_, rfl⟩
  have c0 : w.cell? ⟨a, 0, none⟩ = some (.slice (some ⟨g, 0, none⟩) n c) := by rw [hn]; exact h.blk.cell rfl
  rw [← hn] at h0 h1 ⊢
  have HE : Hid (((n - 1 : Nat) : Int) = (n : Int) - 1) := hid (by omega)
  clear h hn
  go_enter Try.func56, Try.ntmps56
  go_wp2_with fail
  go_ret
  exact ⟨by rw [HE.out]; rfl, rfl⟩

set_option maxRecDepth 100000 in
set_option maxHeartbeats 4000000 in
theorem change_yes (S : List (Int × Int)) (T : List Tk) (P : List Int) (N' N2 : Net) (lo hi : Int) (v1 v2 v3 : Value) (W : World) (hb : BookIn W v1 v2 S T) (hj : SlcIn W v3 P.length (P.map (Value.int .i64))) (hx : bookErr S T = 0) (hy : numsErr P S.length = 0) (hs : settleF (newF S T P) = some (N', true)) (he : extF N' (N'.arcs.length - 1) = some (N2, lo, hi)) (h0 : N'.arcs.length ≠ 0) (f1 : far lo = false) (f2 : far hi = false) :
    Calls Try.prog 20 #[.agg #[v1, v2], v3] W (Ret (.tuple #[.agg #[.int .i64 lo, .int .i64 hi], .int .i64 0]) W) := by
  obtain ⟨p1, c1, rfl, hm1⟩ := hb.stock.shape
  obtain ⟨p2, c2, rfl, hm2⟩ := hb.tickets.shape
  obtain ⟨ns, hns⟩ : ∃ ns, ns = S.length := ⟨_, rfl⟩
  obtain ⟨w1, hw1⟩ : ∃ w1, w1 = (W.alloc (.cells #[.slice p1 ns c1, .slice p2 T.length c2] 25)).alloc (.cells #[.int .i64 0, .int .i64 0] 38) := ⟨_, rfl⟩
  have hb1 : Below W.heap.size W w1 := by rw [hw1]; exact (below_new W _).alloc (by simp) _
  have hB1 : Blk w1 W.heap.size #[.slice p1 ns c1, .slice p2 T.length c2] 25 := by rw [hw1]; exact (Blk.new W _ _).alloc _
  have hR1 : Blk w1 (W.heap.size + 1) #[.int .i64 0, .int .i64 0] 38 := by rw [hw1]; exact Blk_newn _ _ _ (by simp)
  have HC := hid (book_any S T _ _ w1 (hb.later hb1))
  have HA := hid (fun w (h : BookIn w (.slice p1 S.length c1) (.slice p2 T.length c2) S T) h' => assigned_yes S T P N' _ _ v3 w h h' (book_ok hx).1 hs)
  have HN := hid (fun w h => nums_any P (S.length : Int) v3 w h)
  have HBK := hid (hb.later hb1)
  have HJ := hid (hj.later hb1)
  rw [hx] at HC
  rw [hy] at HN
  rw [← hns] at HC HA HN HBK
  rw [← hns]
  have HBO := hid (fun w => bounded_yes lo hi w f1 f2)
  have hok : N'.Ok := by
    obtain ⟨N1, h, _⟩ := ext_out he
    exact h
  have HJN := hid (fun w base a g c vs (h : NetIn base w a N' (.slice (some ⟨g, 0, none⟩) N'.arcs.length c) vs) => joined_net h h0 hok.few)
  have HEX := hid (fun w base a g c vs (h : NetIn base w a N' (.slice (some ⟨g, 0, none⟩) N'.arcs.length c) vs) => ext_net he h)
  have q0 := hB1.cell (i := 0) rfl
  have q1 := hB1.cell (i := 1) rfl
  have HB1 := hid hb1
  have HBL := hid hB1
  have HRL := hid hR1
  have HW1 := hid hw1
  have hge : W.heap.size + 1 < w1.heap.size := hR1.lt
  clear hb hj hw1 hb1 hB1 hR1 hm1 hm2 hx hy hs he h0 hok f1 f2 hns
  go_enter Try.func20, Try.ntmps20
  go_wp2_with (first | (rw [← HW1.out]) | (go_at_call 45; (with_reducible refine HC.out.mono ?_); rintro e w2 ⟨rfl, hb⟩; have HB2 := hid hb; have HBL2 := HBL.out.later hb HBL.out.lt; have HRL2 := hid (HRL.out.later hb HRL.out.lt); have d0 := HBL2.cell (i := 0) rfl; have d1 := HBL2.cell (i := 1) rfl; clear hb HBL2) | (go_at_call 54; (with_reducible refine (HN.out _ (HJ.out.later HB2.out)).mono ?_); rintro e w3 ⟨rfl, rfl⟩) | (go_at_call 47; (with_reducible refine (HA.out _ (HBK.out.later HB2.out) (HJ.out.later HB2.out)).mono ?_); rintro e w3 ⟨a, rfl, ⟨g, c, vs, hn⟩, hb⟩; have HB3 := hid ((HB2.out.trans (hb.mono HB2.out.size))); have HRL3 := hid (HRL2.out.later hb HRL2.out.lt); have HN3 := hid hn; have HG := hid (show W.heap.size + 1 < g from by have h1 := (World.ownsRow.lt hn.arcs g rfl).1; have h2 := HB2.out.size; omega); clear hb hn) | (go_at_call 56; (with_reducible refine (HJN.out _ _ _ _ _ _ HN3.out).mono ?_); rintro e w4 ⟨rfl, rfl⟩) | (go_at_call 48; (with_reducible refine (HEX.out _ _ _ _ _ _ HN3.out).mono ?_); rintro e w5 ⟨rfl, hn5, hg5⟩; have HRL5 : Hid (Blk w5 (W.heap.size + 1) #[.int .i64 0, .int .i64 0] 38) := hid ((hg5.block _ HRL3.out.lt (fun e => by have := HG.out; cases e; omega)).trans HRL3.out); have HB5 : Hid (Below W.heap.size W w5) := hid (HB1.out.trans ((HB3.out.mono (by omega)).trans (grown_low hg5 (by have := HG.out; omega) (by have := HB3.out.size; omega)))); clear hn5 hg5) | (go_at_call 55; (with_reducible refine (HBO.out _).mono ?_); rintro e w6 ⟨rfl, hb6⟩; have HRL6 := hid (HRL5.out.later hb6 HRL5.out.lt); have HB6 := hid (HB5.out.trans (hb6.mono HB5.out.size)); have r0 := HRL6.out.cell (i := 0) rfl; have r1 := HRL6.out.cell (i := 1) rfl; have k0 := HRL6.out.froz 0; have k1 := HRL6.out.froz 1; clear hb6))
  have HF := hid ((HB6.out.setCell (p := ⟨W.heap.size + 1, 0, none⟩) (by simp) (.int .i64 lo)).setCell (p := ⟨W.heap.size + 1, 1, none⟩) (by simp) (.int .i64 hi))
  have HRF := hid ((HRL6.out.set 0 (.int .i64 lo)).set 1 (.int .i64 hi))
  refine bodyPost_ret (v := .tuple #[.agg #[.int .i64 lo, .int .i64 hi], .int .i64 0]) ?_ rfl ⟨rfl, HF.out⟩
  have r1 : (loadVar 38 ⟨W.heap.size + 1, 0, none⟩).run Try.prog ((w6.setCell ⟨W.heap.size + 1, 0, none⟩ (.int .i64 lo)).setCell ⟨W.heap.size + 1, 1, none⟩ (.int .i64 hi)) = .ok (.agg #[.int .i64 lo, .int .i64 hi]) _ :=
    run_loadVar_row _ (W.heap.size + 1) 38 38 _ (0, 0) (.struct (Try.prog.fieldsOf 38)) HRF.out (by kernel_rfl) rfl (by kernel_rfl)
  simp [results, Try.results20, asAddr, Act.put, r1]
end Go.Proofs.Ytncnpodanlhdkaa
