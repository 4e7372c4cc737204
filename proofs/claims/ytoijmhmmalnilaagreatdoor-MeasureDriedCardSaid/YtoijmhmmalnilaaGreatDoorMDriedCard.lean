/- MeasureDried: for every input the call returns true, and each argument reads afterwards as before. Its statement and its card. -/
import Derived.Test.YtoijmhmmalnilaaGreatDoorMDriedRow
set_option linter.all false
namespace Go.Proofs.YtoijmhmmalnilaaGreatDoor
open Go.ChangeShapes Go.WideShapes Go.ChangeAt Go.RowKit
set_option maxRecDepth 100000
set_option maxHeartbeats 400000000
theorem q0e(os:Os){H:Type}(enc:TypeId × Value→H):∃places,DataW.whole enc Tryz.prog ((qne os).forCall (fun _ _=>0) ⟨#[],qmh,[]⟩).memory Tryz.f4.params.toList Rows.measureDriedSpec.vars false qmh.toList 8=some ([.lit (.int .u32 0),.lit (.string []),.lit (.string [])],[],places):=
 ⟨[],by kernel_rfl⟩
theorem qu5(os:Os)(started:os.Started)(H:Type)(enc:TypeId × Value→H)(F:Stop.Interp):
  ReturnsInHanded {} Tryz.checked os 4 .any ((OpenSpec.ofChange Rows.measureDriedSpec).preRow enc Tryz.prog Tryz.f4 Rows.measureDriedRow.domain false Rows.measureDriedRow.laid) (((OpenSpec.ofChange Rows.measureDriedSpec).at F).post enc Tryz.prog Tryz.f4 false true false false):=by
 obtain⟨places,hx⟩:=q0e os enc
 refine returnsInHanded_of_row (C:=Tryz.checked) (s:=OpenSpec.ofChange Rows.measureDriedSpec) q6r started (by kernel_rfl) Tryz.func4
  (witness_row_atRef (enc:=enc) (C:=Tryz.checked) false (qne os) qmh rfl (by kernel_rfl) (by kernel_rfl) (by kernel_rfl)
   (OpenSpec.preRow_of_cond 8 hx (by kernel_rfl) (fun k hk=>by cases hk) (by kernel_rfl) (qu4 os))) ?_
 intro W base args ds gs before hval hW _ _ _ _ hsh _
 exact qqj H enc W base args ds gs before hval hW hsh
theorem qw2:joinedFacts Tryz.pinned.checked.prog 4 Tryz.f4 (OpenSpec.ofChange Rows.measureDriedSpec).bare Rows.measureDriedRow=true:=by
 unfold joinedFacts
 simp only[Bool.and_eq_true]
 repeat' (refine And.intro ?_ ?_)
 all_goals decide +kernel
theorem q8d:Rows.measureDriedRow.wfByText (OpenSpec.ofChange Rows.measureDriedSpec)=true:=by kernel_rfl
theorem q33:false=Rows.measureDriedRow.goesBy Tryz.pinned.checked.prog:=by kernel_rfl
theorem q0f:Rows.MeasureDriedSaid:=
 OpenClaim.holds_of_cond 4 Tryz.f4 rfl rfl rfl rfl rfl rfl rfl ⟨rfl,rfl,rfl,rfl,rfl⟩ rfl rfl rfl rfl rfl (by kernel_rfl) Tryz.func4 qw2
  (of_decide_eq_true (by kernel_rfl)) (by unfold Func.isWrapper;first|(rw[if_pos (by decide +kernel)];kernel_rfl)|(rw[if_neg (by decide +kernel)];exact⟨rfl,rfl⟩))
  (fun os started H enc _ F=>by rw[OpenClaim.pre_eq_preRow];exact qu5 os started H enc F)
theorem qw3(f:FuncId)(fn:Func)(hf:Tryz.pinned.checked.prog.funcNamed Rows.measureDriedRow.func=some f)(hfn:Tryz.pinned.checked.prog.funcs[f]? = some fn):
  true=Tryz.pinned.checked.prog.looks []∧∀(j:Nat) t,fn.params[j]? = some t→Tryz.pinned.checked.prog.wantsStandIn t=false:=by
 obtain rfl:f=4:=Option.some.inj ((show Tryz.prog.funcNamed Rows.measureDriedRow.func=some 4 by kernel_rfl).symm.trans hf) |>.symm
 obtain rfl:fn=Tryz.f4:=(Option.some.inj (Tryz.func4.symm.trans hfn)).symm
 refine⟨by kernel_rfl,fun j t ht => ?_⟩
 rw[Tryz.params4] at ht
 have h3:t=39∨t=22:=by simpa using Array.mem_of_getElem? ht
 rcases h3 with rfl|rfl
 ·exact(show Tryz.prog.wantsStandIn 39=false by kernel_rfl)
 ·exact(show Tryz.prog.wantsStandIn 22=false by kernel_rfl)
theorem dried_card:Rows.MeasureDriedCardSaid:=
 Claim7.holds_tied_plain_at .later [] _ _ _ _ q0f (fun _ h=>by cases h) q8d (fun _ h=>by cases h) measureDried_row_tie rfl ⟨rfl,rfl⟩ (by kernel_rfl) rfl qw3 q33
end Go.Proofs.YtoijmhmmalnilaaGreatDoor
