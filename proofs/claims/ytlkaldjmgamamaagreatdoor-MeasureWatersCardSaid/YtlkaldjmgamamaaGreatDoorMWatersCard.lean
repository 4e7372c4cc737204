/- MeasureWaters: its row. -/
import Derived.Test.YtlkaldjmgamamaaGreatDoorMWaters
import Derived.Test.YtlkaldjmgamamaaGreatDoorMLawRow
import Derived.ChangeMaps5
import Derived.Lib.SmallJoins
set_option linter.all false
namespace Go.Proofs.YtlkaldjmgamamaaGreatDoor
open Go.ChangeShapes Go.WideShapes Go.ChangeAt Go.RowKit
set_option maxRecDepth 100000
set_option maxHeartbeats 400000000
theorem qpx(H:Type)(enc:TypeId × Value→H)(W:World)(base:Nat)(args:Array Value)(ds gs:List (DataW H))(before:List MemPlace)
  (hval:∀(j:Nat) t v,Tryz.f3.params[j]? = some t→args[j]? = some v→Value.okWide Tryz.prog W .any base t v)
  (hW:DataW.Whole enc Tryz.prog Tryz.f3.params.toList Rows.measureWatersSpec.vars false W args.toList ds gs before) (hsh:W.ShapedOpen Tryz.prog):
  Calls Tryz.prog 3 args W fun e W'=>∃v,e = .returned v∧Rows.measureWatersSpec.post enc Tryz.prog Tryz.f3 false true false false W args v W':=by
 have hW':=hW;obtain⟨p,q,hA0,hV,rfl,hfz,hnd⟩:=hW;have hA:DataW.TrodAll enc Tryz.prog W 0 (fun _=>true) true Tryz.f3.params.toList args.toList ds p:=hA0;rw[Tryz.params3] at hA hval;obtain⟨v0,vs0,d0,ds0,p0,q0,hargs,rfl,rfl,h0,r0⟩:=trodAll_cons hA;obtain⟨v1,vs1,d1,ds1,p1,q1,rfl,rfl,rfl,h1,r1⟩:=trodAll_cons r0;obtain⟨v2,vs2,d2,ds2,p2,q2,rfl,rfl,rfl,h2,r2⟩:=trodAll_cons r1;obtain⟨rfl,rfl,rfl⟩:=trodAll_nil r2;obtain rfl:args=#[v0,v1,v2]:=by cases args;simp_all
 obtain⟨rfl,rfl⟩:=trodVars_none hV;clear hA0;have hg:=quw hsh;have hlt:∀x ∈ p0++(p1++(p2++[])),x.block<W.heap.size:=fun x hx=>by simpa using hW'.lt x (by simpa using hx)
 have hl0:∀x ∈ p0,x.block<W.heap.size:=fun x hx=>hlt x (by simp[hx]);have hl1:∀x ∈ p1,x.block<W.heap.size:=fun x hx=>hlt x (by simp[hx]);have hl2:∀x ∈ p2,x.block<W.heap.size:=fun x hx=>hlt x (by simp[hx])
 have fin:(Calls Tryz.prog 3 #[v0,v1,v2] W fun e w'=>e = .returned (.bool true)∧Below W.heap.size W w')→Calls Tryz.prog 3 #[v0,v1,v2] W fun e W'=>∃v,e = .returned v∧Rows.measureWatersSpec.post enc Tryz.prog Tryz.f3 false true false false W #[v0,v1,v2] v W':=fun h=>h.mono fun e W' ⟨he,hb⟩=>by
  subst he;refine⟨_,rfl,_,_,_,[],p0++(p1++(p2++[])),[],hW', ?_, ?_,rfl,hb.frame _,fun h=>by cases h⟩
  ·exact trodAll_cons_mk (shut_bool Tryz.underlying4 _) trodAll_mk0
  ·exact trodAll_cons_mk (Below.trod qsm (by kernel_rfl) (of_decide_eq_true (by kernel_rfl)) h0 hb hl0) (trodAll_cons_mk (Below.trod qsm (by kernel_rfl) (of_decide_eq_true (by kernel_rfl)) h1 hb hl1) (trodAll_cons_mk (Below.trod qsm (by kernel_rfl) (of_decide_eq_true (by kernel_rfl)) h2 hb hl2) (trodAll_mk0)))
 refine fin ?_;obtain⟨s0,rfl,-,-,-⟩:=open_int Tryz.underlying3 (hval 0 3 v0 rfl rfl) h0;obtain⟨s1,rfl,-,-,-⟩:=Go.ChangeMaps.open_string Tryz.underlying22 (hval 1 22 v1 rfl rfl) h1;obtain⟨s2,rfl,-,-,-⟩:=Go.ChangeMaps.open_string Tryz.underlying22 (hval 2 22 v2 rfl rfl) h2;exact q0m s0 s1 s2 W hg
abbrev qj8:Array Value:=#[.int .i64 0,.string ⟨#[]⟩,.string ⟨#[]⟩]
theorem qsn(os:Os):laidMet Tryz.prog Rows.measureWatersRow.laid ((qm8 os).forCall (fun _ _=>0) ⟨#[],qj8,[]⟩).memory:=
 laidMet_of_run' 8 (by kernel_rfl) (by kernel_rfl)
theorem qwy(os:Os){H:Type}(enc:TypeId × Value→H):∃places,DataW.whole enc Tryz.prog ((qm8 os).forCall (fun _ _=>0) ⟨#[],qj8,[]⟩).memory Tryz.f3.params.toList Rows.measureWatersSpec.vars false qj8.toList 8=some ([.lit (.int .i64 0),.lit (.string []),.lit (.string [])],[],places):=
 ⟨[],by kernel_rfl⟩
theorem qso(os:Os)(started:os.Started)(H:Type)(enc:TypeId × Value→H)(F:Stop.Interp):
  ReturnsInHanded {} Tryz.checked os 3 .any ((OpenSpec.ofChange Rows.measureWatersSpec).preRow enc Tryz.prog Tryz.f3 Rows.measureWatersRow.domain false Rows.measureWatersRow.laid) (((OpenSpec.ofChange Rows.measureWatersSpec).at F).post enc Tryz.prog Tryz.f3 false true false false):=by
 obtain⟨places,hx⟩:=qwy os enc
 refine returnsInHanded_of_row (C:=Tryz.checked) (s:=OpenSpec.ofChange Rows.measureWatersSpec) q7h started (by kernel_rfl) Tryz.func3
  (witness_row_atRef (enc:=enc) (C:=Tryz.checked) false (qm8 os) qj8 rfl (by kernel_rfl) (by kernel_rfl) (by kernel_rfl)
   (OpenSpec.preRow_of_cond 8 hx (by kernel_rfl) (fun k hk=>by cases hk) (by kernel_rfl) (qsn os))) ?_
 intro W base args ds gs before hval hW _ _ _ _ hsh _;exact qpx H enc W base args ds gs before hval hW hsh
theorem qux:joinedFacts Tryz.pinned.checked.prog 3 Tryz.f3 (OpenSpec.ofChange Rows.measureWatersSpec).bare Rows.measureWatersRow=true:=by
 unfold joinedFacts;simp only[Bool.and_eq_true]
 repeat' (refine And.intro ?_ ?_)
 all_goals decide +kernel
theorem q6r:Rows.measureWatersRow.wfByText (OpenSpec.ofChange Rows.measureWatersSpec)=true:=by kernel_rfl
theorem q0n:false=Rows.measureWatersRow.goesBy Tryz.pinned.checked.prog:=by kernel_rfl
theorem qwz:Rows.MeasureWatersSaid:=
 OpenClaim.holds_of_cond 3 Tryz.f3 rfl rfl rfl rfl rfl rfl rfl ⟨rfl,rfl,rfl,rfl,rfl⟩ rfl rfl rfl rfl rfl (by kernel_rfl) Tryz.func3 qux
  (of_decide_eq_true (by kernel_rfl)) (by unfold Func.isWrapper;first|(rw[if_pos (by decide +kernel)];kernel_rfl)|(rw[if_neg (by decide +kernel)];exact⟨rfl,rfl⟩))
  (fun os started H enc _ F=>by rw[OpenClaim.pre_eq_preRow];exact qso os started H enc F)
theorem quy(f:FuncId)(fn:Func)(hf:Tryz.pinned.checked.prog.funcNamed Rows.measureWatersRow.func=some f)(hfn:Tryz.pinned.checked.prog.funcs[f]? = some fn):
  true=Tryz.pinned.checked.prog.looks []∧∀(j:Nat) t,fn.params[j]? = some t→Tryz.pinned.checked.prog.wantsStandIn t=false:=by
 obtain rfl:f=3:=Option.some.inj ((show Tryz.prog.funcNamed Rows.measureWatersRow.func=some 3 by kernel_rfl).symm.trans hf) |>.symm;obtain rfl:fn=Tryz.f3:=(Option.some.inj (Tryz.func3.symm.trans hfn)).symm;refine⟨by kernel_rfl,fun j t ht => ?_⟩;rw[Tryz.params3] at ht;have h3:t=3∨t=22:=by simpa using Array.mem_of_getElem? ht
 rcases h3 with rfl|rfl
 ·exact(show Tryz.prog.wantsStandIn 3=false by kernel_rfl)
 ·exact(show Tryz.prog.wantsStandIn 22=false by kernel_rfl)
theorem waters_card:Rows.MeasureWatersCardSaid:=
 Claim7.holds_tied_plain_at .later [] _ _ _ _ qwz (fun _ h=>by cases h) q6r (fun _ h=>by cases h) measureWaters_row_tie rfl ⟨rfl,rfl⟩ (by kernel_rfl) rfl quy q0n
end Go.Proofs.YtlkaldjmgamamaaGreatDoor
