/-
  WeighTrue: for every input the law answers true, and each argument reads behind the call as it read before. No condition.
-/
import Derived.Test.YtlkefifffkhclaaWLTrue
import Derived.Test.YtlkefifffkhclaaWLRow
import Derived.Laws.IdiomArrays
namespace Go.Proofs.Ytlkefifffkhclaa
set_option linter.all false
open Go.ChangeShapes Go.WideShapes Go.ChangeAt Go.RowKit

theorem list3_9 {l : List Value} (h : l.length = 3) : ∃ a b c, l = [a, b, c] := by
  match l, h with
  | [a, b, c], _ => exact ⟨a, b, c, rfl⟩

set_option maxRecDepth 100000 in
theorem weighTrue_lifted (os : Os) (started : os.Started) (H : Type) (enc : TypeId × Value → H) :
    ReturnsInHanded {} Try.checked os 6 .any (Rows.weighTrueSpec.pre6 enc Try.prog Try.f6 Rows.weighTrueRow.domain false) (Rows.weighTrueSpec.post enc Try.prog Try.f6 false true false false) := by
  refine returnsInHanded_of_change (C := Try.checked) lawOwn started (by kernel_rfl) Try.func6
    (ChangeSpec.witness6 (enc := enc) (C := Try.checked) false ⟨#[], #[.agg #[.int .u16 0, .int .u16 0, .int .u16 0], .agg #[.int .u16 0, .int .u16 0, .int .u16 0], .slice none 0 0], []⟩ 8 (by kernel_rfl) (by kernel_rfl) (by kernel_rfl) (by kernel_rfl)) ?_
  intro W base args ds gs before hval0 hW hcnd _
  have hval : ∀ (j : Nat) t v, Try.f6.params[j]? = some t → args[j]? = some v → Value.okWide Try.prog W .any base t v := hval0
  have hW' := hW
  obtain ⟨p, q, hA0, hV, rfl, hfz, hnd⟩ := hW
  have hA : DataW.TrodAll enc Try.prog W 0 (fun _ => true) true Try.f6.params.toList args.toList ds p := hA0
  rw [Try.params6] at hA hval
  obtain ⟨v0, vs0, d0, ds0, p0, q0, hargs, rfl, rfl, h0, r0⟩ := trodAll_cons hA
  obtain ⟨v1, vs1, d1, ds1, p1, q1, rfl, rfl, rfl, h1, r1⟩ := trodAll_cons r0
  obtain ⟨v2, vs2, d2, ds2, p2, q2, rfl, rfl, rfl, h2, r2⟩ := trodAll_cons r1
  obtain ⟨rfl, rfl, rfl⟩ := trodAll_nil r2
  obtain rfl : args = #[v0, v1, v2] := by cases args; simp_all
  obtain ⟨rfl, rfl⟩ := trodVars_none hV
  clear hA0
  have hlt : ∀ x ∈ p0 ++ (p1 ++ (p2 ++ [])), x.block < W.heap.size := fun x hx => by simpa using hW'.lt x (by simpa using hx)
  have hl0 : ∀ x ∈ p0, x.block < W.heap.size := fun x hx => hlt x (by simp [hx])
  have hl1 : ∀ x ∈ p1, x.block < W.heap.size := fun x hx => hlt x (by simp [hx])
  have hl2 : ∀ x ∈ p2, x.block < W.heap.size := fun x hx => hlt x (by simp [hx])
  have fin : (Calls Try.prog 6 #[v0, v1, v2] W fun e w' => e = .returned (.bool true) ∧ Below W.heap.size W w') → Calls Try.prog 6 #[v0, v1, v2] W fun e W' => ∃ v, e = .returned v ∧ Rows.weighTrueSpec.post enc Try.prog Try.f6 false true false false W #[v0, v1, v2] v W' := fun h => h.mono fun e W' ⟨he, hb⟩ => by
    subst he
    refine ⟨_, rfl, _, _, _, [], p0 ++ (p1 ++ (p2 ++ [])), [], hW', ?_, ?_, rfl, hb.frame _, fun h => by cases h⟩
    · exact trodAll_cons_mk (shut_bool Try.underlying4 _) trodAll_mk0
    · exact trodAll_cons_mk (Below.trod lawLaid (by kernel_rfl) (of_decide_eq_true (by kernel_rfl)) h0 hb hl0) (trodAll_cons_mk (Below.trod lawLaid (by kernel_rfl) (of_decide_eq_true (by kernel_rfl)) h1 hb hl1) (trodAll_cons_mk (Below.trod lawLaid (by kernel_rfl) (of_decide_eq_true (by kernel_rfl)) h2 hb hl2) (trodAll_mk0)))
  refine fin ?_
  obtain ⟨cs0, rfl, hsz0, -⟩ : ∃ cs, v0 = .agg cs ∧ cs.size = Try.prog.cellsOf 58 ∧ Row.okWide Try.prog W .any base 58 cs := by
    have := hval 0 58 v0 rfl rfl
    simpa [Value.okWide, Try.underlying58] using this
  rw [show Try.prog.cellsOf 58 = 3 by kernel_rfl] at hsz0
  obtain ⟨k0⟩ := cs0
  obtain ⟨c0a, c0b, c0c, rfl⟩ := list3_9 hsz0
  have h0' := h0
  obtain ⟨fuel0, hf0⟩ := h0'
  obtain ⟨y0a, y0b, y0c, m0, -, hy0a, hy0b, hy0c⟩ := trod_array3 Try.underlying58 (by kernel_rfl) hf0
  obtain ⟨x0a, e0a, -, w0a⟩ := DataW.trod_int Try.underlying57 hy0a
  obtain ⟨x0b, e0b, -, w0b⟩ := DataW.trod_int Try.underlying57 hy0b
  obtain ⟨x0c, e0c, -, w0c⟩ := DataW.trod_int Try.underlying57 hy0c
  obtain rfl : c0a = .int .u16 x0a := by simpa using e0a
  obtain rfl : c0b = .int .u16 x0b := by simpa using e0b
  obtain rfl : c0c = .int .u16 x0c := by simpa using e0c
  obtain ⟨cs1, rfl, hsz1, -⟩ : ∃ cs, v1 = .agg cs ∧ cs.size = Try.prog.cellsOf 58 ∧ Row.okWide Try.prog W .any base 58 cs := by
    have := hval 1 58 v1 rfl rfl
    simpa [Value.okWide, Try.underlying58] using this
  rw [show Try.prog.cellsOf 58 = 3 by kernel_rfl] at hsz1
  obtain ⟨k1⟩ := cs1
  obtain ⟨c1a, c1b, c1c, rfl⟩ := list3_9 hsz1
  have h1' := h1
  obtain ⟨fuel1, hf1⟩ := h1'
  obtain ⟨y1a, y1b, y1c, m1, -, hy1a, hy1b, hy1c⟩ := trod_array3 Try.underlying58 (by kernel_rfl) hf1
  obtain ⟨x1a, e1a, -, w1a⟩ := DataW.trod_int Try.underlying57 hy1a
  obtain ⟨x1b, e1b, -, w1b⟩ := DataW.trod_int Try.underlying57 hy1b
  obtain ⟨x1c, e1c, -, w1c⟩ := DataW.trod_int Try.underlying57 hy1c
  obtain rfl : c1a = .int .u16 x1a := by simpa using e1a
  obtain rfl : c1b = .int .u16 x1b := by simpa using e1b
  obtain rfl : c1c = .int .u16 x1c := by simpa using e1c
  obtain ⟨a2, len2, cap2, rfl⟩ := okWide_slice Try.underlying59 (hval 2 59 v2 rfl rfl)
  obtain ⟨l2, hk2, hv2, hw2⟩ : ∃ l : List Int, l.length = len2 ∧ SlcIn W (.slice a2 len2 cap2) len2 (l.map (Value.int .u16)) ∧ ∀ x ∈ l, (Lit.int .u16 x).wf = true := by
    obtain ⟨fuel, hf⟩ := h2
    rcases open_ints Try.underlying59 Try.underlying57 (by kernel_rfl) hf with ⟨hcs, _⟩ | ⟨a, len, cap, zs, hcs, _, hl, hm, hz, _, hcell, hwz⟩
    · simp [Value.cells] at hcs
      obtain ⟨rfl, rfl, rfl⟩ := hcs
      exact ⟨[], rfl, nil_slc0 W _, by simp⟩
    · simp [Value.cells] at hcs
      obtain ⟨rfl, rfl, rfl⟩ := hcs
      have hlz : len2 ≤ zs.length := by rw [hz]; split <;> omega
      have hln : (zs.take len2).length = len2 := by rw [List.length_take]; omega
      refine ⟨zs.take len2, hln, ⟨some a, cap2, rfl, hl, hm, ?_⟩, fun x hx => hwz x (List.mem_of_mem_take hx)⟩
      by_cases hn : len2 = 0
      · exact .inl hn
      · obtain ⟨b, o, sp⟩ := a
        obtain rfl : sp = none := by simpa [Addr.add] using World.cell?_spot (hcell 0 (by omega))
        refine .inr ⟨b, o, rfl, fun j u hu => ?_⟩
        rw [List.getElem?_map] at hu
        obtain ⟨x, hx, rfl⟩ := Option.map_eq_some_iff.1 hu
        have hj : j < len2 := by rw [← hln]; exact (List.getElem?_eq_some_iff.1 hx).1
        have h2 := hcell j (by omega)
        rw [add_two9] at h2
        rw [h2]
        rw [List.getElem?_take_of_lt hj] at hx
        rw [List.getD_eq_getElem?_getD, hx]
        rfl
  by_cases hn : 0 < len2 ∧ len2 ≤ 6
  · have h := trues_any x0a x0b x0c x1a x1b x1c l2 (.slice a2 len2 cap2) W (by rw [hk2]; exact hv2) (by omega) (by omega) (fun x hx => bounds_u16 (hw2 x hx)) (bounds_u16 w0a) (bounds_u16 w0b) (bounds_u16 w0c) (bounds_u16 w1a) (bounds_u16 w1b) (bounds_u16 w1c)
    exact h
  · obtain ⟨_, _, he, hc1, hc2, _⟩ := hv2
    injection he with _ _ hcc
    exact trues_few x0a x0b x0c x1a x1b x1c a2 len2 cap2 W (by omega) (by unfold maxLen at hc2; omega)

/-- For every input the law answers true, and each argument reads behind the call as it read before. -/
theorem weighTrue_proved : Rows.WeighTrueSaid :=
  OpenClaim.holds_of_wide 6 Try.f6 rfl rfl rfl rfl rfl rfl rfl ⟨rfl, rfl, rfl, rfl, rfl⟩ rfl rfl rfl rfl rfl (by kernel_rfl) Try.func6 (by kernel_rfl)
    (of_decide_eq_true (by kernel_rfl)) (by unfold Func.isWrapper; first | (rw [if_pos (by decide +kernel)]; kernel_rfl) | (rw [if_neg (by decide +kernel)]; exact ⟨rfl, rfl⟩))
    (fun os started H enc _ => weighTrue_lifted os started H enc)
end Go.Proofs.Ytlkefifffkhclaa
