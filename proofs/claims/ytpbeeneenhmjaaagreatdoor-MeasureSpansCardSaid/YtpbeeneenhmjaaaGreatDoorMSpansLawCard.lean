/- MeasureSpans: its row. -/
import Derived.Test.YtpbeeneenhmjaaaGreatDoorMSpansLaw
import Derived.Test.YtpbeeneenhmjaaaGreatDoorMLawRow
import Derived.ChangeMaps5
import Derived.Lib.SmallJoins
set_option linter.all false
namespace Go.Proofs.YtpbeeneenhmjaaaGreatDoor
open Go.ChangeShapes Go.WideShapes Go.ChangeAt Go.RowKit
set_option maxRecDepth 100000
set_option maxHeartbeats 400000000
theorem qnw(H:Type)(enc:TypeId × Value→H)(W:World)(base:Nat)(args:Array Value)(ds gs:List (DataW H))(before:List MemPlace)
  (hval:∀(j:Nat) t v,Tryz.f3.params[j]? = some t→args[j]? = some v→Value.okWide Tryz.prog W .any base t v)
  (hW:DataW.Whole enc Tryz.prog Tryz.f3.params.toList Rows.measureSpansSpec.vars false W args.toList ds gs before) (hsh:W.ShapedOpen Tryz.prog):
  Calls Tryz.prog 3 args W fun e W'=>∃v,e = .returned v∧Rows.measureSpansSpec.post enc Tryz.prog Tryz.f3 false true false false W args v W':=by
 have hW':=hW;obtain⟨p,q,hA0,hV,rfl,hfz,hnd⟩:=hW;have hA:DataW.TrodAll enc Tryz.prog W 0 (fun _=>true) true Tryz.f3.params.toList args.toList ds p:=hA0;rw[Tryz.params3] at hA hval;obtain⟨v0,vs0,d0,ds0,p0,q0,hargs,rfl,rfl,h0,r0⟩:=trodAll_cons hA;obtain⟨v1,vs1,d1,ds1,p1,q1,rfl,rfl,rfl,h1,r1⟩:=trodAll_cons r0;obtain⟨rfl,rfl,rfl⟩:=trodAll_nil r1;obtain rfl:args=#[v0,v1]:=by cases args;simp_all
 obtain⟨rfl,rfl⟩:=trodVars_none hV;clear hA0;have hg:=qvx hsh;have hlt:∀x ∈ p0++(p1++[]),x.block<W.heap.size:=fun x hx=>by simpa using hW'.lt x (by simpa using hx)
 have hl0:∀x ∈ p0,x.block<W.heap.size:=fun x hx=>hlt x (by simp[hx]);have hl1:∀x ∈ p1,x.block<W.heap.size:=fun x hx=>hlt x (by simp[hx])
 have fin:(Calls Tryz.prog 3 #[v0,v1] W fun e w'=>e = .returned (.bool true)∧Below W.heap.size W w')→Calls Tryz.prog 3 #[v0,v1] W fun e W'=>∃v,e = .returned v∧Rows.measureSpansSpec.post enc Tryz.prog Tryz.f3 false true false false W #[v0,v1] v W':=fun h=>h.mono fun e W' ⟨he,hb⟩=>by
  subst he;refine⟨_,rfl,_,_,_,[],p0++(p1++[]),[],hW', ?_, ?_,rfl,hb.frame _,fun h=>by cases h⟩
  ·exact trodAll_cons_mk (shut_bool Tryz.underlying4 _) trodAll_mk0
  ·exact trodAll_cons_mk (Below.trod qtp (by kernel_rfl) (of_decide_eq_true (by kernel_rfl)) h0 hb hl0) (trodAll_cons_mk (Below.trod qtp (by kernel_rfl) (of_decide_eq_true (by kernel_rfl)) h1 hb hl1) (trodAll_mk0))
 refine fin ?_;obtain⟨x0,z0,y0,u0,n0,rfl,-,-,t0,g0⟩:=Go.Joins.open_agg2 Tryz.underlying24 (by kernel_rfl) (by kernel_rfl) (hval 0 24 v0 rfl rfl) h0;obtain⟨s0,e0,-,-⟩:=DataW.trod_string Tryz.underlying22 t0;obtain⟨j0,m0,-,-⟩:=DataW.trod_string Tryz.underlying22 g0;obtain rfl:x0 = .string s0:=by simpa using e0
 obtain rfl:z0 = .string j0:=by simpa using m0
 obtain⟨x1,z1,y1,u1,n1,rfl,-,-,t1,g1⟩:=Go.Joins.open_agg2 Tryz.underlying24 (by kernel_rfl) (by kernel_rfl) (hval 1 24 v1 rfl rfl) h1;obtain⟨s1,e1,-,-⟩:=DataW.trod_string Tryz.underlying22 t1;obtain⟨j1,m1,-,-⟩:=DataW.trod_string Tryz.underlying22 g1;obtain rfl:x1 = .string s1:=by simpa using e1
 obtain rfl:z1 = .string j1:=by simpa using m1
 exact q5f s0 j0 s1 j1 W hg
abbrev qhi:Array Value:=#[.agg #[.string ⟨#[]⟩,.string ⟨#[]⟩],.agg #[.string ⟨#[]⟩,.string ⟨#[]⟩]]
theorem qqv(os:Os):laidMet Tryz.prog Rows.measureSpansRow.laid ((qnv os).forCall (fun _ _=>0) ⟨#[],qhi,[]⟩).memory:=
 laidMet_of_run' 8 (by kernel_rfl) (by kernel_rfl)
theorem qtq(os:Os){H:Type}(enc:TypeId × Value→H):∃places,DataW.whole enc Tryz.prog ((qnv os).forCall (fun _ _=>0) ⟨#[],qhi,[]⟩).memory Tryz.f3.params.toList Rows.measureSpansSpec.vars false qhi.toList 8=some ([.agg [.lit (.string []),.lit (.string [])],.agg [.lit (.string []),.lit (.string [])]],[],places):=
 ⟨[],by kernel_rfl⟩
theorem qqw(os:Os)(started:os.Started)(H:Type)(enc:TypeId × Value→H)(F:Stop.Interp):
  ReturnsInHanded {} Tryz.checked os 3 .any ((OpenSpec.ofChange Rows.measureSpansSpec).preRow enc Tryz.prog Tryz.f3 Rows.measureSpansRow.domain false Rows.measureSpansRow.laid) (((OpenSpec.ofChange Rows.measureSpansSpec).at F).post enc Tryz.prog Tryz.f3 false true false false):=by
 obtain⟨places,hx⟩:=qtq os enc
 refine returnsInHanded_of_row (C:=Tryz.checked) (s:=OpenSpec.ofChange Rows.measureSpansSpec) q72 started (by kernel_rfl) Tryz.func3
  (witness_row_atRef (enc:=enc) (C:=Tryz.checked) false (qnv os) qhi rfl (by kernel_rfl) (by kernel_rfl) (by kernel_rfl)
   (OpenSpec.preRow_of_cond 8 hx (by kernel_rfl) (fun k hk=>by cases hk) (by kernel_rfl) (qqv os))) ?_
 intro W base args ds gs before hval hW _ _ _ _ hsh _;exact qnw H enc W base args ds gs before hval hW hsh
theorem qri:joinedFacts Tryz.pinned.checked.prog 3 Tryz.f3 (OpenSpec.ofChange Rows.measureSpansSpec).bare Rows.measureSpansRow=true:=by
 unfold joinedFacts;simp only[Bool.and_eq_true]
 repeat' (refine And.intro ?_ ?_)
 all_goals decide +kernel
theorem q1e:Rows.measureSpansRow.wfByText (OpenSpec.ofChange Rows.measureSpansSpec)=true:=by kernel_rfl
theorem qvy:false=Rows.measureSpansRow.goesBy Tryz.pinned.checked.prog:=by kernel_rfl
theorem qtr:Rows.MeasureSpansSaid:=
 OpenClaim.holds_of_cond 3 Tryz.f3 rfl rfl rfl rfl rfl rfl rfl ⟨rfl,rfl,rfl,rfl,rfl⟩ rfl rfl rfl rfl rfl (by kernel_rfl) Tryz.func3 qri
  (of_decide_eq_true (by kernel_rfl)) (by unfold Func.isWrapper;first|(rw[if_pos (by decide +kernel)];kernel_rfl)|(rw[if_neg (by decide +kernel)];exact⟨rfl,rfl⟩))
  (fun os started H enc _ F=>by rw[OpenClaim.pre_eq_preRow];exact qqw os started H enc F)
theorem qrj(f:FuncId)(fn:Func)(hf:Tryz.pinned.checked.prog.funcNamed Rows.measureSpansRow.func=some f)(hfn:Tryz.pinned.checked.prog.funcs[f]? = some fn):
  true=Tryz.pinned.checked.prog.looks []∧∀(j:Nat) t,fn.params[j]? = some t→Tryz.pinned.checked.prog.wantsStandIn t=false:=by
 obtain rfl:f=3:=Option.some.inj ((show Tryz.prog.funcNamed Rows.measureSpansRow.func=some 3 by kernel_rfl).symm.trans hf) |>.symm;obtain rfl:fn=Tryz.f3:=(Option.some.inj (Tryz.func3.symm.trans hfn)).symm;refine⟨by kernel_rfl,fun j t ht => ?_⟩;rw[Tryz.params3] at ht;have h3:t=24:=by simpa using Array.mem_of_getElem? ht
 subst h3;exact(show Tryz.prog.wantsStandIn 24=false by kernel_rfl)
theorem spansLaw_card:Rows.MeasureSpansCardSaid:=
 Claim7.holds_tied_plain_at .later [] _ _ _ _ qtr (fun _ h=>by cases h) q1e (fun _ h=>by cases h) measureSpans_row_tie rfl ⟨rfl,rfl⟩ (by kernel_rfl) rfl qrj qvy
end Go.Proofs.YtpbeeneenhmjaaaGreatDoor
