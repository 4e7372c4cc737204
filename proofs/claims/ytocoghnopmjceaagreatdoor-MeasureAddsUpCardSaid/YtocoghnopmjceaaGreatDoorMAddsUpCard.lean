/-
  MeasureAddsUp: its statement and its card.
-/
import Derived.Test.YtocoghnopmjceaaGreatDoorMAddsUpRow
namespace Go.Proofs.YtocoghnopmjceaaGreatDoor
open Go.ChangeShapes Go.WideShapes Go.ChangeAt Go.RowKit

theorem auReads (os : Os) {H : Type} (enc : TypeId × Value → H) : ∃ places, DataW.whole enc Tryz.prog ((auWorld os).forCall (fun _ _ => 0) ⟨#[], auArgs, []⟩).memory Tryz.f4.params.toList Rows.measureAddsUpSpec.vars false auArgs.toList 8 = some ([.lit (.int .u32 0), .nil], [], places) :=
  ⟨[], by kernel_rfl⟩

set_option maxRecDepth 100000 in
theorem addsUp_lifted (os : Os) (started : os.Started) (H : Type) (enc : TypeId × Value → H) (F : Stop.Interp) :
    ReturnsInHanded {} Tryz.checked os 4 .any ((OpenSpec.ofChange Rows.measureAddsUpSpec).preRow enc Tryz.prog Tryz.f4 Rows.measureAddsUpRow.domain false Rows.measureAddsUpRow.laid) (((OpenSpec.ofChange Rows.measureAddsUpSpec).at F).post enc Tryz.prog Tryz.f4 false true false false) := by
  obtain ⟨places, hx⟩ := auReads os enc
  refine returnsInHanded_of_row (C := Tryz.checked) (s := OpenSpec.ofChange Rows.measureAddsUpSpec) auOwn started (by kernel_rfl) Tryz.func4
    (witness_row_atRef (enc := enc) (C := Tryz.checked) false (auWorld os) auArgs rfl (by kernel_rfl) (by kernel_rfl) (by kernel_rfl)
      (OpenSpec.preRow_of_cond 8 hx (by kernel_rfl) (fun k hk => by cases hk) (by kernel_rfl) (auLaidMet os))) ?_
  intro W base args ds gs before hval hW _ _ _ _ hsh _
  exact addsUp_contract H enc W base args ds gs before hval hW hsh

set_option maxRecDepth 100000 in
theorem auClosed : joinedFacts Tryz.pinned.checked.prog 4 Tryz.f4 (OpenSpec.ofChange Rows.measureAddsUpSpec).bare Rows.measureAddsUpRow = true := by kernel_rfl

set_option maxRecDepth 100000 in
theorem addsUp_said : Rows.MeasureAddsUpSaid :=
  OpenClaim.holds_of_cond 4 Tryz.f4 rfl rfl rfl rfl rfl rfl rfl ⟨rfl, rfl, rfl, rfl, rfl⟩ rfl rfl rfl rfl rfl (by kernel_rfl) Tryz.func4 auClosed
    (of_decide_eq_true (by kernel_rfl)) (by unfold Func.isWrapper; first | (rw [if_pos (by decide +kernel)]; kernel_rfl) | (rw [if_neg (by decide +kernel)]; exact ⟨rfl, rfl⟩))
    (fun os started H enc _ F => by rw [OpenClaim.pre_eq_preRow]; exact addsUp_lifted os started H enc F)

theorem addsUp_plain (f : FuncId) (fn : Func) (hf : Tryz.pinned.checked.prog.funcNamed Rows.measureAddsUpRow.func = some f) (hfn : Tryz.pinned.checked.prog.funcs[f]? = some fn) :
    true = Tryz.pinned.checked.prog.looks [] ∧ ∀ (j : Nat) t, fn.params[j]? = some t → Tryz.pinned.checked.prog.wantsStandIn t = false := by
  obtain rfl : f = 4 := Option.some.inj ((show Tryz.prog.funcNamed Rows.measureAddsUpRow.func = some 4 by kernel_rfl).symm.trans hf) |>.symm
  obtain rfl : fn = Tryz.f4 := (Option.some.inj (Tryz.func4.symm.trans hfn)).symm
  refine ⟨by kernel_rfl, fun j t ht => ?_⟩
  rw [Tryz.params4] at ht
  have h3 : t = 33 ∨ t = 34 := by simpa using Array.mem_of_getElem? ht
  rcases h3 with rfl | rfl
  · exact (show Tryz.prog.wantsStandIn 33 = false by kernel_rfl)
  · exact (show Tryz.prog.wantsStandIn 34 = false by kernel_rfl)

/-- THE CARD. -/
theorem addsUp_card : Rows.MeasureAddsUpCardSaid :=
  Claim7.holds_tied_plain_at .later [] _ _ _ _ addsUp_said (fun _ h => by cases h) (by kernel_rfl) (fun _ h => by cases h) measureAddsUp_row_tie rfl ⟨rfl, rfl⟩ (by kernel_rfl) rfl addsUp_plain (by kernel_rfl)
end Go.Proofs.YtocoghnopmjceaaGreatDoor

