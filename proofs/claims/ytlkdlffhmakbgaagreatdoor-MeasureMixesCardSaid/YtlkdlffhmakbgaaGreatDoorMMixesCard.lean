/- MeasureMixes: for every input the call returns true, and each argument reads afterwards as before. Its statement and its card. -/
import Derived.Test.YtlkdlffhmakbgaaGreatDoorMMixesRow
set_option linter.all false
namespace Go.Proofs.YtlkdlffhmakbgaaGreatDoor
open Go.ChangeShapes Go.WideShapes Go.ChangeAt Go.RowKit
set_option maxRecDepth 100000
set_option maxHeartbeats 400000000
theorem q0f(os:Os){H:Type}(enc:TypeId × Value→H):∃places,DataW.whole enc Tryz.prog ((qvr os).forCall (fun _ _=>0) ⟨#[],ql9,[]⟩).memory Tryz.f3.params.toList Rows.measureMixesSpec.vars false ql9.toList 8=some ([.nil],[],places):=
 ⟨[],by kernel_rfl⟩
theorem quq(os:Os)(started:os.Started)(H:Type)(enc:TypeId × Value→H)(F:Stop.Interp):
  ReturnsInHanded {} Tryz.checked os 3 .any ((OpenSpec.ofChange Rows.measureMixesSpec).preRow enc Tryz.prog Tryz.f3 Rows.measureMixesRow.domain false Rows.measureMixesRow.laid) (((OpenSpec.ofChange Rows.measureMixesSpec).at F).post enc Tryz.prog Tryz.f3 false true false false):=by
 obtain⟨places,hx⟩:=q0f os enc
 refine returnsInHanded_of_row (C:=Tryz.checked) (s:=OpenSpec.ofChange Rows.measureMixesSpec) q9p started (by kernel_rfl) Tryz.func3
  (witness_row_atRef (enc:=enc) (C:=Tryz.checked) false (qvr os) ql9 rfl (by kernel_rfl) (by kernel_rfl) (by kernel_rfl)
   (OpenSpec.preRow_of_cond 8 hx (by kernel_rfl) (fun k hk=>by cases hk) (by kernel_rfl) (qup os))) ?_
 intro W base args ds gs before kC hW _ _ _ _ hsh _;exact qqd H enc W base args ds gs before kC hW hsh
theorem qwo:joinedFacts Tryz.pinned.checked.prog 3 Tryz.f3 (OpenSpec.ofChange Rows.measureMixesSpec).bare Rows.measureMixesRow=true:=by
 unfold joinedFacts;simp only[Bool.and_eq_true]
 repeat' (refine And.intro ?_ ?_)
 all_goals decide +kernel
theorem q84:Rows.measureMixesRow.wfByText (OpenSpec.ofChange Rows.measureMixesSpec)=true:=by kernel_rfl
theorem q4i:false=Rows.measureMixesRow.goesBy Tryz.pinned.checked.prog:=by kernel_rfl
theorem q0g:Rows.MeasureMixesSaid:=
 OpenClaim.holds_of_cond 3 Tryz.f3 rfl rfl rfl rfl rfl rfl rfl ⟨rfl,rfl,rfl,rfl,rfl⟩ rfl rfl rfl rfl rfl (by kernel_rfl) Tryz.func3 qwo
  (of_decide_eq_true (by kernel_rfl)) (by unfold Func.isWrapper;first|(rw[if_pos (by decide +kernel)];kernel_rfl)|(rw[if_neg (by decide +kernel)];exact⟨rfl,rfl⟩))
  (fun os started H enc _ F=>by rw[OpenClaim.pre_eq_preRow];exact quq os started H enc F)
theorem qwp(f:FuncId)(fn:Func)(hf:Tryz.pinned.checked.prog.funcNamed Rows.measureMixesRow.func=some f)(hfn:Tryz.pinned.checked.prog.funcs[f]? = some fn):
  true=Tryz.pinned.checked.prog.looks []∧∀(j:Nat) t,fn.params[j]? = some t→Tryz.pinned.checked.prog.wantsStandIn t=false:=by
 obtain rfl:f=3:=Option.some.inj ((show Tryz.prog.funcNamed Rows.measureMixesRow.func=some 3 by kernel_rfl).symm.trans hf) |>.symm;obtain rfl:fn=Tryz.f3:=(Option.some.inj (Tryz.func3.symm.trans hfn)).symm;refine⟨by kernel_rfl,fun j t ht => ?_⟩;rw[Tryz.params3] at ht;have h3:t=22:=by simpa using Array.mem_of_getElem? ht
 subst h3;exact(show Tryz.prog.wantsStandIn 22=false by kernel_rfl)
theorem mixes_card:Rows.MeasureMixesCardSaid:=
 Claim7.holds_tied_plain_at .later [] _ _ _ _ q0g (fun _ h=>by cases h) q84 (fun _ h=>by cases h) measureMixes_row_tie rfl ⟨rfl,rfl⟩ (by kernel_rfl) rfl qwp q4i
end Go.Proofs.YtlkdlffhmakbgaaGreatDoor
