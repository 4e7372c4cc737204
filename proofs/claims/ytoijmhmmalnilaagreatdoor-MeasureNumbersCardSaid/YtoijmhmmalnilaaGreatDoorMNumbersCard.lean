/- MeasureNumbers: for every input the call returns true, and each argument reads afterwards as before. Its statement and its card. -/
import Derived.Test.YtoijmhmmalnilaaGreatDoorMNumbersRow
set_option linter.all false
namespace Go.Proofs.YtoijmhmmalnilaaGreatDoor
open Go.ChangeShapes Go.WideShapes Go.ChangeAt Go.RowKit
set_option maxRecDepth 100000
set_option maxHeartbeats 400000000
theorem qu2(os:Os){H:Type}(enc:TypeId × Value→H):∃places,DataW.whole enc Tryz.prog ((qne os).forCall (fun _ _=>0) ⟨#[],qih,[]⟩).memory Tryz.f3.params.toList Rows.measureNumbersSpec.vars false qih.toList 8=some ([.lit (.string []),.lit (.string [])],[],places):=
 ⟨[],by kernel_rfl⟩
theorem qqh(os:Os)(started:os.Started)(H:Type)(enc:TypeId × Value→H)(F:Stop.Interp):
  ReturnsInHanded {} Tryz.checked os 3 .any ((OpenSpec.ofChange Rows.measureNumbersSpec).preRow enc Tryz.prog Tryz.f3 Rows.measureNumbersRow.domain false Rows.measureNumbersRow.laid) (((OpenSpec.ofChange Rows.measureNumbersSpec).at F).post enc Tryz.prog Tryz.f3 false true false false):=by
 obtain⟨places,hx⟩:=qu2 os enc
 refine returnsInHanded_of_row (C:=Tryz.checked) (s:=OpenSpec.ofChange Rows.measureNumbersSpec) q6r started (by kernel_rfl) Tryz.func3
  (witness_row_atRef (enc:=enc) (C:=Tryz.checked) false (qne os) qih rfl (by kernel_rfl) (by kernel_rfl) (by kernel_rfl)
   (OpenSpec.preRow_of_cond 8 hx (by kernel_rfl) (fun k hk=>by cases hk) (by kernel_rfl) (qqg os))) ?_
 intro W base args ds gs before hval hW _ _ _ _ hsh _
 exact qn1 H enc W base args ds gs before hval hW hsh
theorem qso:joinedFacts Tryz.pinned.checked.prog 3 Tryz.f3 (OpenSpec.ofChange Rows.measureNumbersSpec).bare Rows.measureNumbersRow=true:=by
 unfold joinedFacts
 simp only[Bool.and_eq_true]
 repeat' (refine And.intro ?_ ?_)
 all_goals decide +kernel
theorem q31:Rows.measureNumbersRow.wfByText (OpenSpec.ofChange Rows.measureNumbersSpec)=true:=by kernel_rfl
theorem qww:false=Rows.measureNumbersRow.goesBy Tryz.pinned.checked.prog:=by kernel_rfl
theorem qu3:Rows.MeasureNumbersSaid:=
 OpenClaim.holds_of_cond 3 Tryz.f3 rfl rfl rfl rfl rfl rfl rfl ⟨rfl,rfl,rfl,rfl,rfl⟩ rfl rfl rfl rfl rfl (by kernel_rfl) Tryz.func3 qso
  (of_decide_eq_true (by kernel_rfl)) (by unfold Func.isWrapper;first|(rw[if_pos (by decide +kernel)];kernel_rfl)|(rw[if_neg (by decide +kernel)];exact⟨rfl,rfl⟩))
  (fun os started H enc _ F=>by rw[OpenClaim.pre_eq_preRow];exact qqh os started H enc F)
theorem qsp(f:FuncId)(fn:Func)(hf:Tryz.pinned.checked.prog.funcNamed Rows.measureNumbersRow.func=some f)(hfn:Tryz.pinned.checked.prog.funcs[f]? = some fn):
  true=Tryz.pinned.checked.prog.looks []∧∀(j:Nat) t,fn.params[j]? = some t→Tryz.pinned.checked.prog.wantsStandIn t=false:=by
 obtain rfl:f=3:=Option.some.inj ((show Tryz.prog.funcNamed Rows.measureNumbersRow.func=some 3 by kernel_rfl).symm.trans hf) |>.symm
 obtain rfl:fn=Tryz.f3:=(Option.some.inj (Tryz.func3.symm.trans hfn)).symm
 refine⟨by kernel_rfl,fun j t ht => ?_⟩
 rw[Tryz.params3] at ht
 have h3:t=22:=by simpa using Array.mem_of_getElem? ht
 subst h3
 exact(show Tryz.prog.wantsStandIn 22=false by kernel_rfl)
theorem numbers_card:Rows.MeasureNumbersCardSaid:=
 Claim7.holds_tied_plain_at .later [] _ _ _ _ qu3 (fun _ h=>by cases h) q31 (fun _ h=>by cases h) measureNumbers_row_tie rfl ⟨rfl,rfl⟩ (by kernel_rfl) rfl qsp qww
end Go.Proofs.YtoijmhmmalnilaaGreatDoor
