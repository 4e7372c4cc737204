/-
  WeighDrifts: for every input the law answers true, and each argument reads behind the call as it read before. No condition.
-/
import Derived.Test.YtlkefifffkhclaaWLDrifts
import Derived.Test.YtlkefifffkhclaaWLRow
namespace Go.Proofs.Ytlkefifffkhclaa
set_option linter.all false
open Go.ChangeShapes Go.WideShapes Go.ChangeAt Go.RowKit

set_option maxRecDepth 100000 in
theorem weighDrifts_lifted (os : Os) (started : os.Started) (H : Type) (enc : TypeId × Value → H) :
    ReturnsInHanded {} Try.checked os 4 .any (Rows.weighDriftsSpec.pre6 enc Try.prog Try.f4 Rows.weighDriftsRow.domain false) (Rows.weighDriftsSpec.post enc Try.prog Try.f4 false true false false) := by
  refine returnsInHanded_of_change (C := Try.checked) lawOwn started (by kernel_rfl) Try.func4
    (ChangeSpec.witness6 (enc := enc) (C := Try.checked) false ⟨#[], #[.slice none 0 0, .agg #[.int .i64 0, .int .i64 0], .agg #[.int .i64 0, .int .i64 0]], []⟩ 8 (by kernel_rfl) (by kernel_rfl) (by kernel_rfl) (by kernel_rfl)) ?_
  intro W base args ds gs before hval0 hW hcnd _
  have hval : ∀ (j : Nat) t v, Try.f4.params[j]? = some t → args[j]? = some v → Value.okWide Try.prog W .any base t v := hval0
  have hW' := hW
  obtain ⟨p, q, hA0, hV, rfl, hfz, hnd⟩ := hW
  have hA : DataW.TrodAll enc Try.prog W 0 (fun _ => true) true Try.f4.params.toList args.toList ds p := hA0
  rw [Try.params4] at hA hval
  obtain ⟨v0, vs0, d0, ds0, p0, q0, hargs, rfl, rfl, h0, r0⟩ := trodAll_cons hA
  obtain ⟨v1, vs1, d1, ds1, p1, q1, rfl, rfl, rfl, h1, r1⟩ := trodAll_cons r0
  obtain ⟨v2, vs2, d2, ds2, p2, q2, rfl, rfl, rfl, h2, r2⟩ := trodAll_cons r1
  obtain ⟨rfl, rfl, rfl⟩ := trodAll_nil r2
  obtain rfl : args = #[v0, v1, v2] := by cases args; simp_all
  obtain ⟨rfl, rfl⟩ := trodVars_none hV
  clear hA0
  have hlt : ∀ x ∈ p0 ++ (p1 ++ (p2 ++ [])), x.block < W.heap.size := fun x hx => by simpa using hW'.lt x (by simpa using hx)
  have hl0 : ∀ x ∈ p0, x.block < W.heap.size := fun x hx => hlt x (by simp [hx])
  have hl1 : ∀ x ∈ p1, x.block < W.heap.size := fun x hx => hlt x (by simp [hx])
  have hl2 : ∀ x ∈ p2, x.block < W.heap.size := fun x hx => hlt x (by simp [hx])
  have fin : (Calls Try.prog 4 #[v0, v1, v2] W fun e w' => e = .returned (.bool true) ∧ Below W.heap.size W w') → Calls Try.prog 4 #[v0, v1, v2] W fun e W' => ∃ v, e = .returned v ∧ Rows.weighDriftsSpec.post enc Try.prog Try.f4 false true false false W #[v0, v1, v2] v W' := fun h => h.mono fun e W' ⟨he, hb⟩ => by
    subst he
    refine ⟨_, rfl, _, _, _, [], p0 ++ (p1 ++ (p2 ++ [])), [], hW', ?_, ?_, rfl, hb.frame _, fun h => by cases h⟩
    · exact trodAll_cons_mk (shut_bool Try.underlying4 _) trodAll_mk0
    · exact trodAll_cons_mk (Below.trod lawLaid (by kernel_rfl) (of_decide_eq_true (by kernel_rfl)) h0 hb hl0) (trodAll_cons_mk (Below.trod lawLaid (by kernel_rfl) (of_decide_eq_true (by kernel_rfl)) h1 hb hl1) (trodAll_cons_mk (Below.trod lawLaid (by kernel_rfl) (of_decide_eq_true (by kernel_rfl)) h2 hb hl2) (trodAll_mk0)))
  refine fin ?_
  obtain ⟨a0, len0, cap0, rfl⟩ := okWide_slice Try.underlying41 (hval 0 41 v0 rfl rfl)
  obtain ⟨l0, hk0, hv0, hw0⟩ : ∃ l : List Int, l.length = len0 ∧ SlcIn W (.slice a0 len0 cap0) len0 (l.map (Value.int .i64)) ∧ ∀ x ∈ l, (Lit.int .i64 x).wf = true := by
    obtain ⟨fuel, hf⟩ := h0
    rcases open_ints Try.underlying41 Try.underlying3 (by kernel_rfl) hf with ⟨hcs, _⟩ | ⟨a, len, cap, zs, hcs, _, hl, hm, hz, _, hcell, hwz⟩
    · simp [Value.cells] at hcs
      obtain ⟨rfl, rfl, rfl⟩ := hcs
      exact ⟨[], rfl, nil_slc0 W _, by simp⟩
    · simp [Value.cells] at hcs
      obtain ⟨rfl, rfl, rfl⟩ := hcs
      have hlz : len0 ≤ zs.length := by rw [hz]; split <;> omega
      have hln : (zs.take len0).length = len0 := by rw [List.length_take]; omega
      refine ⟨zs.take len0, hln, ⟨some a, cap0, rfl, hl, hm, ?_⟩, fun x hx => hwz x (List.mem_of_mem_take hx)⟩
      by_cases hn : len0 = 0
      · exact .inl hn
      · obtain ⟨b, o, sp⟩ := a
        obtain rfl : sp = none := by simpa [Addr.add] using World.cell?_spot (hcell 0 (by omega))
        refine .inr ⟨b, o, rfl, fun j u hu => ?_⟩
        rw [List.getElem?_map] at hu
        obtain ⟨x, hx, rfl⟩ := Option.map_eq_some_iff.1 hu
        have hj : j < len0 := by rw [← hln]; exact (List.getElem?_eq_some_iff.1 hx).1
        have h2 := hcell j (by omega)
        rw [add_two9] at h2
        rw [h2]
        rw [List.getElem?_take_of_lt hj] at hx
        rw [List.getD_eq_getElem?_getD, hx]
        rfl
  obtain ⟨x1, z1, y1, u1, n1, rfl, -, -, t1, g1⟩ := Go.Joins.open_agg2 Try.underlying23 (by kernel_rfl) (by kernel_rfl) (hval 1 23 v1 rfl rfl) h1
  obtain ⟨s1, e1, -, -⟩ := DataW.trod_int Try.underlying3 t1
  obtain ⟨j1, m1, -, -⟩ := DataW.trod_int Try.underlying3 g1
  obtain rfl : x1 = .int .i64 s1 := by simpa using e1
  obtain rfl : z1 = .int .i64 j1 := by simpa using m1
  obtain ⟨x2, z2, y2, u2, n2, rfl, -, -, t2, g2⟩ := Go.Joins.open_agg2 Try.underlying23 (by kernel_rfl) (by kernel_rfl) (hval 2 23 v2 rfl rfl) h2
  obtain ⟨s2, e2, -, -⟩ := DataW.trod_int Try.underlying3 t2
  obtain ⟨j2, m2, -, -⟩ := DataW.trod_int Try.underlying3 g2
  obtain rfl : x2 = .int .i64 s2 := by simpa using e2
  obtain rfl : z2 = .int .i64 j2 := by simpa using m2
  by_cases hn : len0 ≤ 300
  · have h := drifts_any s1 j1 s2 j2 l0 (.slice a0 len0 cap0) W (by rw [hk0]; exact hv0) (by omega)
    exact h
  · obtain ⟨_, _, he, hc1, hc2, _⟩ := hv0
    injection he with _ _ hcc
    exact drifts_many s1 j1 s2 j2 a0 len0 cap0 W (by omega) (by unfold maxLen at hc2; omega)

/-- For every input the law answers true, and each argument reads behind the call as it read before. -/
theorem weighDrifts_proved : Rows.WeighDriftsSaid :=
  OpenClaim.holds_of_wide 4 Try.f4 rfl rfl rfl rfl rfl rfl rfl ⟨rfl, rfl, rfl, rfl, rfl⟩ rfl rfl rfl rfl rfl (by kernel_rfl) Try.func4 (by kernel_rfl)
    (of_decide_eq_true (by kernel_rfl)) (by unfold Func.isWrapper; first | (rw [if_pos (by decide +kernel)]; kernel_rfl) | (rw [if_neg (by decide +kernel)]; exact ⟨rfl, rfl⟩))
    (fun os started H enc _ => weighDrifts_lifted os started H enc)
end Go.Proofs.Ytlkefifffkhclaa
