/- MeasureParts: its statement and its card. -/
import Derived.Test.YthjagoogkkgelaaGreatDoorMPartsRow
set_option linter.all false
namespace Go.Proofs.YthjagoogkkgelaaGreatDoor
open Go.ChangeShapes Go.WideShapes Go.ChangeAt Go.RowKit
set_option maxRecDepth 100000
theorem zac(os:Os){H:Type}(enc:TypeId × Value→H):∃places,DataW.whole enc Tryz.prog ((qni os).forCall (fun _ _=>0) ⟨#[],qyo,[]⟩).memory Tryz.f4.params.toList Rows.measurePartsSpec.vars false qyo.toList 8=some ([.lit (.int .i64 0),.nil],[],places):=
 ⟨[],by kernel_rfl⟩
theorem qvb(os:Os)(started:os.Started)(H:Type)(enc:TypeId × Value→H)(F:Stop.Interp):
  ReturnsInHanded {} Tryz.checked os 4 .any ((OpenSpec.ofChange Rows.measurePartsSpec).preRow enc Tryz.prog Tryz.f4 Rows.measurePartsRow.domain false Rows.measurePartsRow.laid) (((OpenSpec.ofChange Rows.measurePartsSpec).at F).post enc Tryz.prog Tryz.f4 false true false false):=by
 obtain⟨places,hx⟩:=zac os enc
 refine returnsInHanded_of_row (C:=Tryz.checked) (s:=OpenSpec.ofChange Rows.measurePartsSpec) q8i started (by kernel_rfl) Tryz.func4
  (witness_row_atRef (enc:=enc) (C:=Tryz.checked) false (qni os) qyo rfl (by kernel_rfl) (by kernel_rfl) (by kernel_rfl)
   (OpenSpec.preRow_of_cond 8 hx (by kernel_rfl) (fun k hk=>by cases hk) (by kernel_rfl) (q4w os))) ?_
 intro W base args ds gs before hval hW _ _ _ _ hsh _;exact qqx H enc W base args ds gs before hval hW hsh
theorem q7k:joinedFacts Tryz.pinned.checked.prog 4 Tryz.f4 (OpenSpec.ofChange Rows.measurePartsSpec).bare Rows.measurePartsRow=true:=by kernel_rfl
theorem q04:Rows.MeasurePartsSaid:=
 OpenClaim.holds_of_cond 4 Tryz.f4 rfl rfl rfl rfl rfl rfl rfl ⟨rfl,rfl,rfl,rfl,rfl⟩ rfl rfl rfl rfl rfl (by kernel_rfl) Tryz.func4 q7k
  (of_decide_eq_true (by kernel_rfl)) (by unfold Func.isWrapper;first|(rw[if_pos (by decide +kernel)];kernel_rfl)|(rw[if_neg (by decide +kernel)];exact⟨rfl,rfl⟩))
  (fun os started H enc _ F=>by rw[OpenClaim.pre_eq_preRow];exact qvb os started H enc F)
theorem qxb(f:FuncId)(fn:Func)(hf:Tryz.pinned.checked.prog.funcNamed Rows.measurePartsRow.func=some f)(hfn:Tryz.pinned.checked.prog.funcs[f]? = some fn):
  true=Tryz.pinned.checked.prog.looks []∧∀(j:Nat) t,fn.params[j]? = some t→Tryz.pinned.checked.prog.wantsStandIn t=false:=by
 obtain rfl:f=4:=Option.some.inj ((show Tryz.prog.funcNamed Rows.measurePartsRow.func=some 4 by kernel_rfl).symm.trans hf) |>.symm;obtain rfl:fn=Tryz.f4:=(Option.some.inj (Tryz.func4.symm.trans hfn)).symm;refine⟨by kernel_rfl,fun j t ht => ?_⟩;rw[Tryz.params4] at ht;have h3:t=3∨t=23:=by simpa using Array.mem_of_getElem? ht
 rcases h3 with rfl|rfl
 ·exact(show Tryz.prog.wantsStandIn 3=false by kernel_rfl)
 ·exact(show Tryz.prog.wantsStandIn 23=false by kernel_rfl)
theorem parts_card:Rows.MeasurePartsCardSaid:=
 Claim7.holds_tied_plain_at .later [] _ _ _ _ q04 (fun _ h=>by cases h) (by kernel_rfl) (fun _ h=>by cases h) measureParts_row_tie rfl ⟨rfl,rfl⟩ (by kernel_rfl) rfl qxb (by kernel_rfl)
end Go.Proofs.YthjagoogkkgelaaGreatDoor
