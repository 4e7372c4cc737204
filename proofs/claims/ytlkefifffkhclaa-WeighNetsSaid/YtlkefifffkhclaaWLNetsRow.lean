/-
  WeighNets: for every input the law answers true, and each argument reads behind the call as it read before. No condition.
-/
import Derived.Test.YtlkefifffkhclaaWLNets
import Derived.Test.YtlkefifffkhclaaWLRow
namespace Go.Proofs.Ytlkefifffkhclaa
set_option linter.all false
open Go.ChangeShapes Go.WideShapes Go.ChangeAt Go.RowKit

set_option maxRecDepth 100000 in
theorem weighNets_lifted (os : Os) (started : os.Started) (H : Type) (enc : TypeId × Value → H) :
    ReturnsInHanded {} Try.checked os 3 .any (Rows.weighNetsSpec.pre6 enc Try.prog Try.f3 Rows.weighNetsRow.domain false) (Rows.weighNetsSpec.post enc Try.prog Try.f3 false true false false) := by
  refine returnsInHanded_of_change (C := Try.checked) lawOwn started (by kernel_rfl) Try.func3
    (ChangeSpec.witness6 (enc := enc) (C := Try.checked) false ⟨#[], #[.agg #[.int .i64 0, .int .i64 0], .agg #[.int .i64 0, .int .i64 0], .slice none 0 0], []⟩ 8 (by kernel_rfl) (by kernel_rfl) (by kernel_rfl) (by kernel_rfl)) ?_
  intro W base args ds gs before hval0 hW hcnd _
  have hval : ∀ (j : Nat) t v, Try.f3.params[j]? = some t → args[j]? = some v → Value.okWide Try.prog W .any base t v := hval0
  have hW' := hW
  obtain ⟨p, q, hA0, hV, rfl, hfz, hnd⟩ := hW
  have hA : DataW.TrodAll enc Try.prog W 0 (fun _ => true) true Try.f3.params.toList args.toList ds p := hA0
  rw [Try.params3] at hA hval
  obtain ⟨v0, vs0, d0, ds0, p0, q0, hargs, rfl, rfl, h0, r0⟩ := trodAll_cons hA
  obtain ⟨v1, vs1, d1, ds1, p1, q1, rfl, rfl, rfl, h1, r1⟩ := trodAll_cons r0
  obtain ⟨v2, vs2, d2, ds2, p2, q2, rfl, rfl, rfl, h2, r2⟩ := trodAll_cons r1
  obtain ⟨rfl, rfl, rfl⟩ := trodAll_nil r2
  obtain rfl : args = #[v0, v1, v2] := by cases args; simp_all
  obtain ⟨rfl, rfl⟩ := trodVars_none hV
  clear hA0
  have hlt : ∀ x ∈ p0 ++ (p1 ++ (p2 ++ [])), x.block < W.heap.size := fun x hx => by simpa using hW'.lt x (by simpa using hx)
  have hl0 : ∀ x ∈ p0, x.block < W.heap.size := fun x hx => hlt x (by simp [hx])
  have hl1 : ∀ x ∈ p1, x.block < W.heap.size := fun x hx => hlt x (by simp [hx])
  have hl2 : ∀ x ∈ p2, x.block < W.heap.size := fun x hx => hlt x (by simp [hx])
  have fin : (Calls Try.prog 3 #[v0, v1, v2] W fun e w' => e = .returned (.bool true) ∧ Below W.heap.size W w') → Calls Try.prog 3 #[v0, v1, v2] W fun e W' => ∃ v, e = .returned v ∧ Rows.weighNetsSpec.post enc Try.prog Try.f3 false true false false W #[v0, v1, v2] v W' := fun h => h.mono fun e W' ⟨he, hb⟩ => by
    subst he
    refine ⟨_, rfl, _, _, _, [], p0 ++ (p1 ++ (p2 ++ [])), [], hW', ?_, ?_, rfl, hb.frame _, fun h => by cases h⟩
    · exact trodAll_cons_mk (shut_bool Try.underlying4 _) trodAll_mk0
    · exact trodAll_cons_mk (Below.trod lawLaid (by kernel_rfl) (of_decide_eq_true (by kernel_rfl)) h0 hb hl0) (trodAll_cons_mk (Below.trod lawLaid (by kernel_rfl) (of_decide_eq_true (by kernel_rfl)) h1 hb hl1) (trodAll_cons_mk (Below.trod lawLaid (by kernel_rfl) (of_decide_eq_true (by kernel_rfl)) h2 hb hl2) (trodAll_mk0)))
  refine fin ?_
  obtain ⟨x0, z0, y0, u0, n0, rfl, -, -, t0, g0⟩ := Go.Joins.open_agg2 Try.underlying23 (by kernel_rfl) (by kernel_rfl) (hval 0 23 v0 rfl rfl) h0
  obtain ⟨s0, e0, -, -⟩ := DataW.trod_int Try.underlying3 t0
  obtain ⟨j0, m0, -, -⟩ := DataW.trod_int Try.underlying3 g0
  obtain rfl : x0 = .int .i64 s0 := by simpa using e0
  obtain rfl : z0 = .int .i64 j0 := by simpa using m0
  obtain ⟨x1, z1, y1, u1, n1, rfl, -, -, t1, g1⟩ := Go.Joins.open_agg2 Try.underlying23 (by kernel_rfl) (by kernel_rfl) (hval 1 23 v1 rfl rfl) h1
  obtain ⟨s1, e1, -, -⟩ := DataW.trod_int Try.underlying3 t1
  obtain ⟨j1, m1, -, -⟩ := DataW.trod_int Try.underlying3 g1
  obtain rfl : x1 = .int .i64 s1 := by simpa using e1
  obtain rfl : z1 = .int .i64 j1 := by simpa using m1
  obtain ⟨a2, len2, cap2, rfl⟩ := okWide_slice Try.underlying24 (hval 2 24 v2 rfl rfl)
  obtain ⟨l2, hk2, hv2⟩ : ∃ l : List (Int × Int), l.length = len2 ∧ SlcIn W (.slice a2 len2 cap2) len2 (l.flatMap rgC) := by
    obtain ⟨fuel, hf⟩ := h2
    rcases Go.Deep.open_slice_pairs Try.underlying24 Try.underlying23 (by kernel_rfl) rfl rfl (by kernel_rfl) (by kernel_rfl) hf with ⟨hcs, _⟩ | ⟨a, len, cap, m, n, V0, V1, D0, D1, P0, P1, hcs, _, hl, hm, hmm, _, hcell⟩
    · simp [Value.cells] at hcs
      obtain ⟨rfl, rfl, rfl⟩ := hcs
      exact ⟨[], rfl, nil_slc0 W _⟩
    · simp [Value.cells] at hcs
      obtain ⟨rfl, rfl, rfl⟩ := hcs
      have hlm : len2 ≤ m := by rw [hmm]; split <;> omega
      refine slc_rgs (V0 := V0) (V1 := V1) hl hm fun i hi => ?_
      obtain ⟨c0, c1, t0, t1⟩ := hcell i (by omega)
      obtain ⟨s0, e0, -, -⟩ := DataW.trod_int Try.underlying3 t0
      obtain ⟨s1, e1, -, -⟩ := DataW.trod_int Try.underlying3 t1
      exact ⟨c0, c1, ⟨s0, by simpa using e0⟩, s1, by simpa using e1⟩
  by_cases hn : len2 ≤ 300
  · have h := nets_any s0 j0 s1 j1 l2 (.slice a2 len2 cap2) W (by rw [hk2]; exact hv2) (by omega)
    exact h
  · obtain ⟨_, _, he, hc1, hc2, _⟩ := hv2
    injection he with _ _ hcc
    exact nets_many s0 j0 s1 j1 a2 len2 cap2 W (by omega) (by unfold maxLen at hc2; omega)

/-- For every input the law answers true, and each argument reads behind the call as it read before. -/
theorem weighNets_proved : Rows.WeighNetsSaid :=
  OpenClaim.holds_of_wide 3 Try.f3 rfl rfl rfl rfl rfl rfl rfl ⟨rfl, rfl, rfl, rfl, rfl⟩ rfl rfl rfl rfl rfl (by kernel_rfl) Try.func3 (by kernel_rfl)
    (of_decide_eq_true (by kernel_rfl)) (by unfold Func.isWrapper; first | (rw [if_pos (by decide +kernel)]; kernel_rfl) | (rw [if_neg (by decide +kernel)]; exact ⟨rfl, rfl⟩))
    (fun os started H enc _ => weighNets_lifted os started H enc)
end Go.Proofs.Ytlkefifffkhclaa
