/- MeasureRounded: for every input the call returns true, and each argument reads afterwards as before. Its statement and its card. -/
import Derived.Test.YtfbjgppfpcgclaaGreatDoorMRoundedLawRow
set_option linter.all false
namespace Go.Proofs.YtfbjgppfpcgclaaGreatDoor
open Go.ChangeShapes Go.WideShapes Go.ChangeAt Go.RowKit
set_option maxRecDepth 100000
set_option maxHeartbeats 400000000
theorem qp9(os:Os){H:Type}(enc:TypeId × Value→H):∃qdn,DataW.whole enc Tryz.prog ((qwg os).forCall (fun _ _=>0) ⟨#[],qfr,[]⟩).memory Tryz.f4.params.toList Rows.measureRoundedSpec.vars false qfr.toList 8=some ([.lit (.string []),.lit (.string []),.agg [.lit (.string []),.lit (.string [])]],[],qdn):=
 ⟨[],by kernel_rfl⟩
theorem qnh(os:Os)(started:os.Started)(H:Type)(enc:TypeId × Value→H)(F:Stop.Interp):
  ReturnsInHanded {} Tryz.checked os 4 .any ((OpenSpec.ofChange Rows.measureRoundedSpec).preRow enc Tryz.prog Tryz.f4 Rows.measureRoundedRow.domain false Rows.measureRoundedRow.laid) (((OpenSpec.ofChange Rows.measureRoundedSpec).at F).post enc Tryz.prog Tryz.f4 false true false false):=by
 obtain⟨qdn,hx⟩:=qp9 os enc
 refine returnsInHanded_of_row (C:=Tryz.checked) (s:=OpenSpec.ofChange Rows.measureRoundedSpec) q8t started (by kernel_rfl) Tryz.func4
  (witness_row_atRef (enc:=enc) (C:=Tryz.checked) false (qwg os) qfr rfl (by kernel_rfl) (by kernel_rfl) (by kernel_rfl)
   (OpenSpec.preRow_of_cond 8 hx (by kernel_rfl) (fun k hk=>by cases hk) (by kernel_rfl) (qng os))) ?_
 intro W base args ds gs before hval hW _ _ _ _ hsh _
 exact qk5 H enc W base args ds gs before hval hW hsh
theorem qn8:joinedFacts Tryz.pinned.checked.prog 4 Tryz.f4 (OpenSpec.ofChange Rows.measureRoundedSpec).bare Rows.measureRoundedRow=true:=by
 unfold joinedFacts
 simp only[Bool.and_eq_true]
 repeat' (refine And.intro ?_ ?_)
 all_goals decide +kernel
theorem quq:Rows.measureRoundedRow.wfByText (OpenSpec.ofChange Rows.measureRoundedSpec)=true:=by kernel_rfl
theorem qqp:false=Rows.measureRoundedRow.goesBy Tryz.pinned.checked.prog:=by kernel_rfl
theorem qqa:Rows.MeasureRoundedSaid:=
 OpenClaim.holds_of_cond 4 Tryz.f4 rfl rfl rfl rfl rfl rfl rfl ⟨rfl,rfl,rfl,rfl,rfl⟩ rfl rfl rfl rfl rfl (by kernel_rfl) Tryz.func4 qn8
  (of_decide_eq_true (by kernel_rfl)) (by unfold Func.isWrapper;first|(rw[if_pos (by decide +kernel)];kernel_rfl)|(rw[if_neg (by decide +kernel)];exact⟨rfl,rfl⟩))
  (fun os started H enc _ F=>by rw[OpenClaim.pre_eq_preRow];exact qnh os started H enc F)
theorem qn9(f:FuncId)(fn:Func)(hf:Tryz.pinned.checked.prog.funcNamed Rows.measureRoundedRow.func=some f)(hfn:Tryz.pinned.checked.prog.funcs[f]? = some fn):
  true=Tryz.pinned.checked.prog.looks []∧∀(j:Nat) t,fn.params[j]? = some t→Tryz.pinned.checked.prog.wantsStandIn t=false:=by
 obtain rfl:f=4:=Option.some.inj ((show Tryz.prog.funcNamed Rows.measureRoundedRow.func=some 4 by kernel_rfl).symm.trans hf) |>.symm
 obtain rfl:fn=Tryz.f4:=(Option.some.inj (Tryz.func4.symm.trans hfn)).symm
 refine⟨by kernel_rfl,fun j t ht => ?_⟩
 rw[Tryz.params4] at ht
 have h3:t=22∨t=40:=by simpa using Array.mem_of_getElem? ht
 rcases h3 with rfl|rfl
 ·exact(show Tryz.prog.wantsStandIn 22=false by kernel_rfl)
 ·exact(show Tryz.prog.wantsStandIn 40=false by kernel_rfl)
theorem roundedLaw_card:Rows.MeasureRoundedCardSaid:=
 Claim7.holds_tied_plain_at .later [] _ _ _ _ qqa (fun _ h=>by cases h) quq (fun _ h=>by cases h) measureRounded_row_tie rfl ⟨rfl,rfl⟩ (by kernel_rfl) rfl qn9 qqp
end Go.Proofs.YtfbjgppfpcgclaaGreatDoor
