/- MeasureAddsUp: its statement and its card. -/
import Derived.Test.YthjagoogkkgelaaGreatDoorMAddsUpRow
set_option linter.all false
namespace Go.Proofs.YthjagoogkkgelaaGreatDoor
open Go.ChangeShapes Go.WideShapes Go.ChangeAt Go.RowKit
set_option maxRecDepth 100000
theorem zag(os:Os){H:Type}(enc:TypeId × Value→H):∃places,DataW.whole enc Tryz.prog ((qxe os).forCall (fun _ _=>0) ⟨#[],qyq,[]⟩).memory Tryz.f5.params.toList Rows.measureAddsUpSpec.vars false qyq.toList 8=some ([.lit (.int .u32 0),.nil],[],places):=
 ⟨[],by kernel_rfl⟩
theorem qsv(os:Os)(started:os.Started)(H:Type)(enc:TypeId × Value→H)(F:Stop.Interp):
  ReturnsInHanded {} Tryz.checked os 5 .any ((OpenSpec.ofChange Rows.measureAddsUpSpec).preRow enc Tryz.prog Tryz.f5 Rows.measureAddsUpRow.domain false Rows.measureAddsUpRow.laid) (((OpenSpec.ofChange Rows.measureAddsUpSpec).at F).post enc Tryz.prog Tryz.f5 false true false false):=by
 obtain⟨places,hx⟩:=zag os enc
 refine returnsInHanded_of_row (C:=Tryz.checked) (s:=OpenSpec.ofChange Rows.measureAddsUpSpec) zcj started (by kernel_rfl) Tryz.func5
  (witness_row_atRef (enc:=enc) (C:=Tryz.checked) false (qxe os) qyq rfl (by kernel_rfl) (by kernel_rfl) (by kernel_rfl)
   (OpenSpec.preRow_of_cond 8 hx (by kernel_rfl) (fun k hk=>by cases hk) (by kernel_rfl) (q4z os))) ?_
 intro W base args ds gs before hval hW _ _ _ _ hsh _;exact qqf H enc W base args ds gs before hval hW hsh
theorem q7m:joinedFacts Tryz.pinned.checked.prog 5 Tryz.f5 (OpenSpec.ofChange Rows.measureAddsUpSpec).bare Rows.measureAddsUpRow=true:=by kernel_rfl
theorem qxf:Rows.MeasureAddsUpSaid:=
 OpenClaim.holds_of_cond 5 Tryz.f5 rfl rfl rfl rfl rfl rfl rfl ⟨rfl,rfl,rfl,rfl,rfl⟩ rfl rfl rfl rfl rfl (by kernel_rfl) Tryz.func5 q7m
  (of_decide_eq_true (by kernel_rfl)) (by unfold Func.isWrapper;first|(rw[if_pos (by decide +kernel)];kernel_rfl)|(rw[if_neg (by decide +kernel)];exact⟨rfl,rfl⟩))
  (fun os started H enc _ F=>by rw[OpenClaim.pre_eq_preRow];exact qsv os started H enc F)
theorem qvd(f:FuncId)(fn:Func)(hf:Tryz.pinned.checked.prog.funcNamed Rows.measureAddsUpRow.func=some f)(hfn:Tryz.pinned.checked.prog.funcs[f]? = some fn):
  true=Tryz.pinned.checked.prog.looks []∧∀(j:Nat) t,fn.params[j]? = some t→Tryz.pinned.checked.prog.wantsStandIn t=false:=by
 obtain rfl:f=5:=Option.some.inj ((show Tryz.prog.funcNamed Rows.measureAddsUpRow.func=some 5 by kernel_rfl).symm.trans hf) |>.symm;obtain rfl:fn=Tryz.f5:=(Option.some.inj (Tryz.func5.symm.trans hfn)).symm;refine⟨by kernel_rfl,fun j t ht => ?_⟩;rw[Tryz.params5] at ht;have h3:t=52∨t=53:=by simpa using Array.mem_of_getElem? ht
 rcases h3 with rfl|rfl
 ·exact(show Tryz.prog.wantsStandIn 52=false by kernel_rfl)
 ·exact(show Tryz.prog.wantsStandIn 53=false by kernel_rfl)
theorem addsUp_card:Rows.MeasureAddsUpCardSaid:=
 Claim7.holds_tied_plain_at .later [] _ _ _ _ qxf (fun _ h=>by cases h) (by kernel_rfl) (fun _ h=>by cases h) measureAddsUp_row_tie rfl ⟨rfl,rfl⟩ (by kernel_rfl) rfl qvd (by kernel_rfl)
end Go.Proofs.YthjagoogkkgelaaGreatDoor
