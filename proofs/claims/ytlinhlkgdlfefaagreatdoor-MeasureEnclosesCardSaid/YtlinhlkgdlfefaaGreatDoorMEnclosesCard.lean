/- Arrays of three that came in: of bytes, of structs of two texts. -/
import Derived.Laws.IdiomArrays
import Derived.Lib.SmallJoins
import Derived.ProofKit
import Derived.OpenShut
import Derived.ChangeArms
import Derived.Test.YtlinhlkgdlfefaaGreatDoorMEncloses
import Derived.Test.YtlinhlkgdlfefaaGreatDoorMLawRow
import Derived.ChangeMaps5
set_option linter.all false
namespace Go.Proofs.YtlinhlkgdlfefaaGreatDoor
open Go.ChangeShapes Go.WideShapes Go.ChangeAt Go.RowKit
set_option maxRecDepth 100000
set_option maxHeartbeats 400000000
variable {H:Type} {enc:TypeId × Value→H} {P:Program} {w:World} {base:Nat} {spare:Nat→Bool} {held:Bool}
theorem qp3{r:Reach}{b0:Nat}{t e:TypeId}{n:Nat}{v:Value}(ht:P.underlying t=some (.array n e))(h:Value.okWide P w r b0 t v):∃cs:Array Value,v = .agg cs∧cs.size=P.cellsOf t:=by
 simp only[Value.okWide,ht] at h;obtain⟨cs,h1,h2,_⟩:=h;exact⟨cs,h1,h2⟩
theorem q4l{cs:Array Value}(h:cs.size=3):∃a b c,cs=#[a,b,c]:=by
 obtain⟨l⟩:=cs
 match l,h with
 | [a,b,c],_=>exact⟨a,b,c,rfl⟩
theorem q9f{cs:Array Value}(h:cs.size=6):∃a b c d e f,cs=#[a,b,c,d,e,f]:=by
 obtain⟨l⟩:=cs
 match l,h with
 | [a,b,c,d,e,f],_=>exact⟨a,b,c,d,e,f,rfl⟩
theorem q9g{n:Int}(h:(Lit.int .u8 n).wf=true):∃k:Nat,n=(k:Int)∧k<256:=by
 have h2:=bounds_u8 h;exact⟨n.toNat,by omega,by omega⟩
theorem qvl{r:Reach}{b0:Nat}{t e:TypeId}{v:Value}{d:DataW H}{ps:List MemPlace}(ht:P.underlying t=some (.array 3 e))(he:P.underlying e=some (.int .u8))(hce:P.cellsOf e=1)(hC:P.cellsOf t=3)
  (hv:Value.okWide P w r b0 t v) (hd:DataW.Trod enc P w base spare held t v d ps):
  ∃x y z:Nat,v = .agg #[.int .u8 (x:Int),.int .u8 (y:Int),.int .u8 (z:Int)]∧x<256∧y<256∧z<256:=by
 obtain⟨cs,rfl,hsz⟩:=qp3 ht hv;obtain⟨c0,c1,c2,rfl⟩:=q4l (hsz.trans hC);obtain⟨fuel,hf⟩:=hd;obtain⟨y0,y1,y2,n,-,h0,h1,h2⟩:=trod_array3 ht hce (by simpa [Value.cells] using hf);obtain⟨n0,e0,-,w0⟩:=DataW.trod_int he h0;obtain⟨n1,e1,-,w1⟩:=DataW.trod_int he h1;obtain⟨n2,e2,-,w2⟩:=DataW.trod_int he h2;obtain⟨k0,rfl,q0⟩:=q9g w0;obtain⟨k1,rfl,q1⟩:=q9g w1;obtain⟨k2,rfl,q2⟩:=q9g w2;simp only[List.cons.injEq,and_true] at e0 e1 e2;exact⟨k0,k1,k2,by rw[e0,e1,e2],q0,q1,q2⟩
theorem qvm{t e:TypeId}{fuel:Nat}{c0 c1 c2 c3 c4 c5:Value}{x:DataW H × List MemPlace}(ht:P.underlying t=some (.array 3 e))(hce:P.cellsOf e=2)
  (h:DataW.trod enc P w base spare held fuel t [c0,c1,c2,c3,c4,c5]=some x):
  ∃y0 y1 y2 n,DataW.trod enc P w base spare held n e [c0,c1]=some y0∧DataW.trod enc P w base spare held n e [c2,c3]=some y1∧DataW.trod enc P w base spare held n e [c4,c5]=some y2:=by
 cases fuel with
 | zero=>simp[DataW.trod] at h
 | succ n=>
  unfold DataW.trod at h;rw[ht] at h;have r3:List.range 3=[0,1,2]:=rfl;simp[r3,hce] at h;obtain⟨_,h⟩:=h;cases h0:DataW.trod enc P w base spare held n e [c0,c1] with
  | none=>simp[h0] at h
  | some y0=>
   cases h1:DataW.trod enc P w base spare held n e [c2,c3] with
   | none=>simp[h0,h1] at h
   | some y1=>
    cases h2:DataW.trod enc P w base spare held n e [c4,c5] with
    | none=>simp[h0,h1,h2] at h
    | some y2=>exact⟨y0,y1,y2,n,h0,h1,h2⟩
theorem qnd{e:TypeId}{f0 f1:Field}{n:Nat}{c0 c1:Value}{y:DataW H × List MemPlace}(hs:P.underlying e=some (.struct #[f0,f1]))(u0:P.underlying f0.type=some .string)(u1:P.underlying f1.type=some .string)
  (o0:f0.offset=0∧P.cellsOf f0.type=1) (o1:f1.offset=1∧P.cellsOf f1.type=1) (h:DataW.trod enc P w base spare held n e [c0,c1]=some y):∃s0 s1:ByteArray,c0 = .string s0∧c1 = .string s1:=by
 obtain⟨z0,z1,m,-,-,h0,h1⟩:=trod_struct2 hs h;rw[o0.1,o0.2] at h0;rw[o1.1,o1.2] at h1;obtain⟨s0,e0,-,-⟩:=DataW.trod_string u0 h0;obtain⟨s1,e1,-,-⟩:=DataW.trod_string u1 h1;exact⟨s0,s1,by simpa using e0,by simpa using e1⟩
theorem q0x{r:Reach}{b0:Nat}{t e:TypeId}{f0 f1:Field}{v:Value}{d:DataW H}{ps:List MemPlace}(ht:P.underlying t=some (.array 3 e))(hs:P.underlying e=some (.struct #[f0,f1]))(u0:P.underlying f0.type=some .string)(u1:P.underlying f1.type=some .string)
  (o0:f0.offset=0∧P.cellsOf f0.type=1) (o1:f1.offset=1∧P.cellsOf f1.type=1) (hce:P.cellsOf e=2) (hC:P.cellsOf t=6)
  (hv:Value.okWide P w r b0 t v) (hd:DataW.Trod enc P w base spare held t v d ps):
  ∃a b c d e f:ByteArray,v = .agg #[.string a,.string b,.string c,.string d,.string e,.string f]:=by
 obtain⟨cs,rfl,hsz⟩:=qp3 ht hv;obtain⟨c0,c1,c2,c3,c4,c5,rfl⟩:=q9f (hsz.trans hC);obtain⟨fuel,hf⟩:=hd;obtain⟨y0,y1,y2,n,h0,h1,h2⟩:=qvm ht hce (by simpa [Value.cells] using hf);obtain⟨a,b,rfl,rfl⟩:=qnd hs u0 u1 o0 o1 h0;obtain⟨c,d',rfl,rfl⟩:=qnd hs u0 u1 o0 o1 h1;obtain⟨e',f',rfl,rfl⟩:=qnd hs u0 u1 o0 o1 h2;exact⟨_,_,_,_,_,_,rfl⟩
theorem qne(H:Type)(enc:TypeId × Value→H)(W:World)(base:Nat)(args:Array Value)(ds gs:List (DataW H))(before:List MemPlace)
  (hval:∀(j:Nat) t v,Tryz.f3.params[j]? = some t→args[j]? = some v→Value.okWide Tryz.prog W .any base t v)
  (hW:DataW.Whole enc Tryz.prog Tryz.f3.params.toList Rows.measureEnclosesSpec.vars false W args.toList ds gs before) (hsh:W.ShapedOpen Tryz.prog):
  Calls Tryz.prog 3 args W fun e W'=>∃v,e = .returned v∧Rows.measureEnclosesSpec.post enc Tryz.prog Tryz.f3 false true false false W args v W':=by
 have hW':=hW;obtain⟨p,q,hA0,hV,rfl,hfz,hnd⟩:=hW;have hA:DataW.TrodAll enc Tryz.prog W 0 (fun _=>true) true Tryz.f3.params.toList args.toList ds p:=hA0;rw[Tryz.params3] at hA hval;obtain⟨v0,vs0,d0,ds0,p0,q0,hargs,rfl,rfl,h0,r0⟩:=trodAll_cons hA;obtain⟨v1,vs1,d1,ds1,p1,q1,rfl,rfl,rfl,h1,r1⟩:=trodAll_cons r0;obtain⟨v2,vs2,d2,ds2,p2,q2,rfl,rfl,rfl,h2,r2⟩:=trodAll_cons r1;obtain⟨rfl,rfl,rfl⟩:=trodAll_nil r2;obtain rfl:args=#[v0,v1,v2]:=by cases args;simp_all
 obtain⟨rfl,rfl⟩:=trodVars_none hV;clear hA0;have hg:=qvk hsh;have hlt:∀x ∈ p0++(p1++(p2++[])),x.block<W.heap.size:=fun x hx=>by simpa using hW'.lt x (by simpa using hx)
 have hl0:∀x ∈ p0,x.block<W.heap.size:=fun x hx=>hlt x (by simp[hx]);have hl1:∀x ∈ p1,x.block<W.heap.size:=fun x hx=>hlt x (by simp[hx]);have hl2:∀x ∈ p2,x.block<W.heap.size:=fun x hx=>hlt x (by simp[hx])
 have fin:(Calls Tryz.prog 3 #[v0,v1,v2] W fun e w'=>e = .returned (.bool true)∧Below W.heap.size W w')→Calls Tryz.prog 3 #[v0,v1,v2] W fun e W'=>∃v,e = .returned v∧Rows.measureEnclosesSpec.post enc Tryz.prog Tryz.f3 false true false false W #[v0,v1,v2] v W':=fun h=>h.mono fun e W' ⟨he,hb⟩=>by
  subst he;refine⟨_,rfl,_,_,_,[],p0++(p1++(p2++[])),[],hW', ?_, ?_,rfl,hb.frame _,fun h=>by cases h⟩
  ·exact trodAll_cons_mk (shut_bool Tryz.underlying4 _) trodAll_mk0
  ·exact trodAll_cons_mk (Below.trod qsy (by kernel_rfl) (of_decide_eq_true (by kernel_rfl)) h0 hb hl0) (trodAll_cons_mk (Below.trod qsy (by kernel_rfl) (of_decide_eq_true (by kernel_rfl)) h1 hb hl1) (trodAll_cons_mk (Below.trod qsy (by kernel_rfl) (of_decide_eq_true (by kernel_rfl)) h2 hb hl2) (trodAll_mk0)))
 refine fin ?_;obtain⟨s0a,s0b,s0c,s0d,s0e,s0f,rfl⟩:=q0x Tryz.underlying25 Tryz.underlying24 Tryz.underlying22 Tryz.underlying22 ⟨by kernel_rfl,by kernel_rfl⟩ ⟨by kernel_rfl,by kernel_rfl⟩ (by kernel_rfl) (by kernel_rfl) (hval 0 25 v0 rfl rfl) h0;obtain⟨x1,y1,z1,rfl,bx1,by1,bz1⟩:=qvl Tryz.underlying26 Tryz.underlying5 (by kernel_rfl) (by kernel_rfl) (hval 1 26 v1 rfl rfl) h1;obtain⟨x2,y2,z2,rfl,bx2,by2,bz2⟩:=qvl Tryz.underlying26 Tryz.underlying5 (by kernel_rfl) (by kernel_rfl) (hval 2 26 v2 rfl rfl) h2;exact qvj s0a s0b s0c s0d s0e s0f x1 y1 z1 x2 y2 z2 W hg bx1 by1 bz1 bx2 by2 bz2
abbrev qg9:Array Value:=#[.agg #[.string ⟨#[]⟩,.string ⟨#[]⟩,.string ⟨#[]⟩,.string ⟨#[]⟩,.string ⟨#[]⟩,.string ⟨#[]⟩],.agg #[.int .u8 0,.int .u8 0,.int .u8 0],.agg #[.int .u8 0,.int .u8 0,.int .u8 0]]
theorem qp4(os:Os):laidMet Tryz.prog Rows.measureEnclosesRow.laid ((qnc os).forCall (fun _ _=>0) ⟨#[],qg9,[]⟩).memory:=
 laidMet_of_run' 8 (by kernel_rfl) (by kernel_rfl)
theorem qsz(os:Os){H:Type}(enc:TypeId × Value→H):∃places,DataW.whole enc Tryz.prog ((qnc os).forCall (fun _ _=>0) ⟨#[],qg9,[]⟩).memory Tryz.f3.params.toList Rows.measureEnclosesSpec.vars false qg9.toList 8=some ([.agg [.agg [.lit (.string []),.lit (.string [])],.agg [.lit (.string []),.lit (.string [])],.agg [.lit (.string []),.lit (.string [])]],.agg [.lit (.int .u8 0),.lit (.int .u8 0),.lit (.int .u8 0)],.agg [.lit (.int .u8 0),.lit (.int .u8 0),.lit (.int .u8 0)]],[],places):=
 ⟨[],by kernel_rfl⟩
theorem qp5(os:Os)(started:os.Started)(H:Type)(enc:TypeId × Value→H)(F:Stop.Interp):
  ReturnsInHanded {} Tryz.checked os 3 .any ((OpenSpec.ofChange Rows.measureEnclosesSpec).preRow enc Tryz.prog Tryz.f3 Rows.measureEnclosesRow.domain false Rows.measureEnclosesRow.laid) (((OpenSpec.ofChange Rows.measureEnclosesSpec).at F).post enc Tryz.prog Tryz.f3 false true false false):=by
 obtain⟨places,hx⟩:=qsz os enc
 refine returnsInHanded_of_row (C:=Tryz.checked) (s:=OpenSpec.ofChange Rows.measureEnclosesSpec) q7s started (by kernel_rfl) Tryz.func3
  (witness_row_atRef (enc:=enc) (C:=Tryz.checked) false (qnc os) qg9 rfl (by kernel_rfl) (by kernel_rfl) (by kernel_rfl)
   (OpenSpec.preRow_of_cond 8 hx (by kernel_rfl) (fun k hk=>by cases hk) (by kernel_rfl) (qp4 os))) ?_
 intro W base args ds gs before hval hW _ _ _ _ hsh _;exact qne H enc W base args ds gs before hval hW hsh
theorem qqm:joinedFacts Tryz.pinned.checked.prog 3 Tryz.f3 (OpenSpec.ofChange Rows.measureEnclosesSpec).bare Rows.measureEnclosesRow=true:=by
 unfold joinedFacts;simp only[Bool.and_eq_true]
 repeat' (refine And.intro ?_ ?_)
 all_goals decide +kernel
theorem q0y:Rows.measureEnclosesRow.wfByText (OpenSpec.ofChange Rows.measureEnclosesSpec)=true:=by kernel_rfl
theorem qvn:false=Rows.measureEnclosesRow.goesBy Tryz.pinned.checked.prog:=by kernel_rfl
theorem qs0:Rows.MeasureEnclosesSaid:=
 OpenClaim.holds_of_cond 3 Tryz.f3 rfl rfl rfl rfl rfl rfl rfl ⟨rfl,rfl,rfl,rfl,rfl⟩ rfl rfl rfl rfl rfl (by kernel_rfl) Tryz.func3 qqm
  (of_decide_eq_true (by kernel_rfl)) (by unfold Func.isWrapper;first|(rw[if_pos (by decide +kernel)];kernel_rfl)|(rw[if_neg (by decide +kernel)];exact⟨rfl,rfl⟩))
  (fun os started H enc _ F=>by rw[OpenClaim.pre_eq_preRow];exact qp5 os started H enc F)
theorem qqn(f:FuncId)(fn:Func)(hf:Tryz.pinned.checked.prog.funcNamed Rows.measureEnclosesRow.func=some f)(hfn:Tryz.pinned.checked.prog.funcs[f]? = some fn):
  true=Tryz.pinned.checked.prog.looks []∧∀(j:Nat) t,fn.params[j]? = some t→Tryz.pinned.checked.prog.wantsStandIn t=false:=by
 obtain rfl:f=3:=Option.some.inj ((show Tryz.prog.funcNamed Rows.measureEnclosesRow.func=some 3 by kernel_rfl).symm.trans hf) |>.symm;obtain rfl:fn=Tryz.f3:=(Option.some.inj (Tryz.func3.symm.trans hfn)).symm;refine⟨by kernel_rfl,fun j t ht => ?_⟩;rw[Tryz.params3] at ht;have h3:t=25∨t=26:=by simpa using Array.mem_of_getElem? ht
 rcases h3 with rfl|rfl
 ·exact(show Tryz.prog.wantsStandIn 25=false by kernel_rfl)
 ·exact(show Tryz.prog.wantsStandIn 26=false by kernel_rfl)
theorem encloses_card:Rows.MeasureEnclosesCardSaid:=
 Claim7.holds_tied_plain_at .later [] _ _ _ _ qs0 (fun _ h=>by cases h) q0y (fun _ h=>by cases h) measureEncloses_row_tie rfl ⟨rfl,rfl⟩ (by kernel_rfl) rfl qqn qvn
end Go.Proofs.YtlinhlkgdlfefaaGreatDoor
