/-
  extent: the least and the greatest mass of an arc.
-/
import Derived.Test.YtncnpodanlhdkaaWStretch
namespace Go.Proofs.Ytncnpodanlhdkaa
set_option linter.all false
open Go.RowKit

set_option maxRecDepth 100000 in
set_option maxHeartbeats 2000000 in
theorem extent_any (base a g c k : Nat) (N N1 N2 : Net) (i : Nat) (lo hi : Int) (vs : List Value) (W : World) (hnet : NetIn base W a N (.slice (some ⟨g, 0, none⟩) N.arcs.length c) vs) (hok : N.Ok) (hok1 : N1.Ok) (h1 : stretchF k N i false = some (N1, lo)) (h2 : stretchF k N1 i true = some (N2, hi)) :
    Calls Try.prog 48 #[.pointer (some ⟨a, 0, none⟩), .int .i64 i] W fun e W' => e = .returned (.agg #[.int .i64 lo, .int .i64 hi]) ∧ NetIn base W' a N2 (.slice (some ⟨g, 0, none⟩) N.arcs.length c) vs ∧ W.grownBy W' (some g) := by
  have hlow := hnet.below hok.len
  obtain ⟨w1, hw1⟩ : ∃ w1, w1 = W.alloc (.cells #[.int .i64 0, .int .i64 0] 38) := ⟨_, rfl⟩
  have hb1 : Below W.heap.size W w1 := by rw [hw1]; exact (Below.refl _ _).alloc (Nat.le_refl _) _
  have hR1 : Blk w1 W.heap.size #[.int .i64 0, .int .i64 0] 38 := by rw [hw1]; exact Blk.new W _ _
  have HNET := hid (hnet.later hb1)
  have HC1 := hid (stretch_any base a g c k N N1 i false lo vs w1 HNET.out hok h1)
  have HLOW := hid hlow
  have HOK1 := hid hok1
  have H2 := hid h2
  have HB1 := hid hb1
  have HR1 := hid hR1
  have HW1 := hid hw1
  clear hnet hok hok1 h1 h2 hlow hw1 hb1 hR1
  go_enter Try.func48, Try.ntmps48
  go_wp2_with fail
  try rw [← HW1.out]
  refine HC1.out.mono ?_
  rintro e w2 ⟨rfl, hnet2, hg2⟩
  have hgl := HLOW.out.2.1 g rfl
  have hgne : W.heap.size ≠ g := by omega
  have hlen : N.arcs.length = N1.arcs.length := row_len hnet2.arcs
  have hR2 : Blk w2 W.heap.size #[.int .i64 0, .int .i64 0] 38 := (hg2.block _ HR1.out.lt (fun e => hgne (Option.some.inj e))).trans HR1.out
  have HC2 := hid (stretch_any base a g c k N1 N2 i true hi vs w2 (by rw [← hlen]; exact hnet2) HOK1.out H2.out)
  rw [← hlen] at HC2
  have HG2 := hid hg2
  have HR2 := hid hR2
  clear hnet2 hg2 hlen hR2 HC1
  go_wp2_with fail
  refine HC2.out.mono ?_
  rintro e w3 ⟨rfl, hnet3, hg3⟩
  have hR3 : Blk w3 W.heap.size #[.int .i64 0, .int .i64 0] 38 := (hg3.block _ HR2.out.lt (fun e => hgne (Option.some.inj e))).trans HR2.out
  have c0 := hR3.cell (i := 0) rfl
  have c1 := hR3.cell (i := 1) rfl
  have f0 := hR3.froz 0
  have f1 := hR3.froz 1
  have hbe : Below W.heap.size w3 ((w3.setCell ⟨W.heap.size, 0, none⟩ (.int .i64 lo)).setCell ⟨W.heap.size, 1, none⟩ (.int .i64 hi)) := ((Below.refl _ _).setCell (p := ⟨W.heap.size, 0, none⟩) (Nat.le_refl _) _).setCell (p := ⟨W.heap.size, 1, none⟩) (Nat.le_refl _) _
  have HN3 := hid (hnet3.kept HLOW.out hbe)
  have HG3 := hid (grown_kept (grown_trans (grown_trans (grown_below HB1.out (some g)) HG2.out) hg3) hbe)
  have HR3 := hid (((hR3.set 0 (.int .i64 lo)).set 1 (.int .i64 hi)))
  clear hnet3 hg3 hR3 hbe HC2
  go_wp2_with fail
  have d0 := HR3.out.cell (i := 0) rfl
  have d1 := HR3.out.cell (i := 1) rfl
  refine bodyPost_ret (v := .agg #[.int .i64 lo, .int .i64 hi]) ?_ rfl ⟨rfl, HN3.out, HG3.out⟩
  have r1 : (loadVar 38 ⟨W.heap.size, 0, none⟩).run Try.prog ((w3.setCell ⟨W.heap.size, 0, none⟩ (.int .i64 lo)).setCell ⟨W.heap.size, 1, none⟩ (.int .i64 hi)) = .ok (.agg #[.int .i64 lo, .int .i64 hi]) _ :=
    run_loadVar_row _ W.heap.size 38 38 _ (0, 0) (.struct (Try.prog.fieldsOf 38)) HR3.out (by kernel_rfl) rfl (by kernel_rfl)
  simp [results, Try.results48, asAddr, Act.put, r1]
end Go.Proofs.Ytncnpodanlhdkaa
