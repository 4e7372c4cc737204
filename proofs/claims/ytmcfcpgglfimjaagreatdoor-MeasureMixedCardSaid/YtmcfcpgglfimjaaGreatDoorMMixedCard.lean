/- MeasureMixed: for every input the call returns true, and each argument reads afterwards as before. Its statement and its card. -/
import Derived.Test.YtmcfcpgglfimjaaGreatDoorMRead
import Derived.Test.YtmcfcpgglfimjaaGreatDoorCards
import Derived.Test.YtmcfcpgglfimjaaGreatDoorTie
import Derived.WalkKit
import Derived.ProofKit
import Derived.SevenTiedAt
import Derived.LaidLaws
import Derived.OpenShut
import Derived.Carry
import Derived.ChangeSlices
import Derived.Shelf.Vars
import Derived.Deep.DeepHandedRow
import Derived.Deep.DeepWitnessRowRef
import Derived.Test.YtmcfcpgglfimjaaGreatDoorMNv
import Derived.Deep.SlicePairs
import Derived.Test.YtmcfcpgglfimjaaGreatDoorMEachLayer
import Derived.Test.YtmcfcpgglfimjaaGreatDoorMMixed
import Derived.ChangeMaps5
import Derived.Lib.SmallJoins
set_option linter.all false
namespace Go.Proofs.YtmcfcpgglfimjaaGreatDoor
open Go.ChangeShapes Go.WideShapes Go.ChangeAt Go.RowKit
theorem zan:ownKnob Tryz.prog.godebug=none:=by kernel_rfl
theorem q4k:laidOutB Tryz.prog=true:=by kernel_rfl
theorem q4l{W:World}(h:W.ShapedOpen Tryz.prog):GW W:=by
 obtain⟨m,hm⟩:=cell_of_shapedOpen_int (g:=0) (k := .i64) h (by decide +kernel) (show _=some (#[.int .i64 0],3) by kernel_rfl) rfl (by kernel_rfl) (by kernel_rfl) Tryz.underlying3;exact⟨qaf W _ hm,m,hm⟩
def zao:DataW Unit→Value
 | .lit (.int k n) => .int k n
 | _ => .bool false
def q6x:DataW Unit→Array Value
 | .agg l=>(l.map zao).toArray
 | _=>#[]
def zap:DataW Unit→Array Value
 | .agg l=>(l.flatMap fun d=>match d with
  | .agg m=>m.map zao
  | _=>[]).toArray
 | _=>#[]
def q4m:DataW Unit→BA
 | .iface _ (.ptr (.agg [.lit (.string l)]))=>⟨l.toArray⟩
 | _=>⟨#[]⟩
noncomputable def zaq:Nat:=(World.holding Tryz.prog default ⟨#[],#[],[]⟩).heap.size
def qwp(h:Array Obj)(g:Nat)(cs:Array Value):Array Obj:=h.modify g fun
 | .cells _ t frozen => .cells cs t frozen
 | o=>o
noncomputable def qwq(os:Os):World:=
 let w0:=World.holding Tryz.prog os ⟨#[.cells #[.string (q4m Rows.laid_strconv_ErrRange)] 281,.cells #[.string (q4m Rows.laid_strconv_ErrSyntax)] 281],#[],[]⟩
 { w0 with heap:=qwp (qwp (qwp (qwp (qwp (qwp (qwp w0.heap 8 (q6x Rows.laid_math_bits_deBruijn32tab)) 9 (q6x Rows.laid_math_bits_deBruijn64tab)) 7 (q6x Rows.laid_internal_strconv_uint64pow10)) 6 (zap Rows.laid_unicode_utf8_acceptRanges))
   4 #[.iface 279 (.pointer (some ⟨zaq,0,none⟩))]) 3 #[.iface 279 (.pointer (some ⟨zaq+1,0,none⟩))]) 5 (q6x Rows.laid_unicode_utf8_first) }
end Go.Proofs.YtmcfcpgglfimjaaGreatDoor
namespace Go.Proofs.YtmcfcpgglfimjaaGreatDoor
open Go.RowKit
def q9h:Value→BA
 | .string s=>s
 | _=>⟨#[]⟩
theorem qx9(b o n:Nat):(⟨b,o,none⟩:Addr).add n=⟨b,o+n,none⟩:=by
 unfold Addr.add;split
 ·rename_i h
  rw[h];rfl
 ·rfl
theorem q4n{W:World}{a:Addr}{len cap:Nat}{V0 V1:Nat→Value}(hl:len≤cap)(hm:cap≤maxLen)
  (h:∀i,i<len→W.cell? (a.add (i*2))=some (V0 i)∧W.cell? (a.add (i*2+1))=some (V1 i)∧(∃s,V0 i = .string s)∧∃s,V1 i = .string s):∃l,qdc W (.slice (some a) len cap) l:=by
 have aE:((List.range len).map fun i=>(q9h (V0 i),q9h (V1 i))).length=len:=by rw[List.length_map,List.length_range]
 refine⟨(List.range len).map fun i=>(q9h (V0 i),q9h (V1 i)),some a,cap,by rw[aE],by rw[aE];exact hl,hm, ?_⟩;rw[aE];by_cases hn:len=0
 ·exact .inl hn
 ·obtain⟨b,o,sp⟩:=a
  obtain rfl:sp=none:=by simpa [Addr.add] using World.cell?_spot (h 0 (by omega)).1
  refine .inr ⟨b,o,rfl,fun j s hj => ?_⟩;rw[List.getElem?_map] at hj;obtain⟨i,hi,rfl⟩:=Option.map_eq_some_iff.1 hj
  have Rv:j<len:=by
   have:=(List.getElem?_eq_some_iff.1 hi).1
   rwa [List.length_range] at this
  rw[List.getElem?_range Rv] at hi;cases hi
  obtain⟨c0,c1,⟨s0,e0⟩,s1,e1⟩:=h j Rv;rw[qx9] at c0 c1;rw[e0] at c0;rw[e1] at c1;show W.cell? ⟨b,_,none⟩=some (.string (q9h (V0 j)))∧W.cell? ⟨b,_,none⟩=some (.string (q9h (V1 j)));rw[e0,e1];exact⟨c0,c1⟩
end Go.Proofs.YtmcfcpgglfimjaaGreatDoor
namespace Go.Proofs.YtmcfcpgglfimjaaGreatDoor
open Go.RowKit
theorem q4o{H:Type}{enc:TypeId × Value→H}{P:Program}{w:World}{base:Nat}{spare:Nat→Bool}{held:Bool}{e:TypeId}{f0 f1 f2:Field}{n i:Nat}{a:Addr}{cs:List Value}{y:DataW H × List MemPlace}
  (he:P.underlying e=some (.struct #[f0,f1,f2])) (ce:P.cellsOf e=3) (o0:f0.offset=0) (o1:f1.offset=1) (o2:f2.offset=2) (c0:P.cellsOf f0.type=1) (c1:P.cellsOf f1.type=1) (c2:P.cellsOf f2.type=1)
  (h1:w.cells? base (a.add (i*P.cellsOf e)) (P.cellsOf e)=some cs) (h2:DataW.trod enc P w base spare held n e cs=some y):
  ∃(m:Nat) (v0 v1 v2:Value) (y0 y1 y2:DataW H × List MemPlace),w.cell? (a.add (i*3))=some v0∧w.cell? (a.add (i*3+1))=some v1∧w.cell? (a.add (i*3+2))=some v2∧
   DataW.trod enc P w base spare held m f0.type [v0]=some y0∧DataW.trod enc P w base spare held m f1.type [v1]=some y1∧DataW.trod enc P w base spare held m f2.type [v2]=some y2:=by
 rw[ce] at h1;obtain⟨_,aE,aC⟩:=World.cells?_some h1;obtain⟨xs,k,-,-,-,eP,hf⟩:=DataW.trod_struct he h2
 match xs,eP,cs,aE with
 | [y0,y1,y2],_,[v0,v1,v2],_=>
  have g0:=hf 0 f0 rfl;have g1:=hf 1 f1 rfl;have g2:=hf 2 f2 rfl;simp[o0,o1,o2,c0,c1,c2] at g0 g1 g2;have e0:=aC 0 (by omega);have e1:=aC 1 (by omega);have e2:=aC 2 (by omega);rw[Go.Deep.add_add] at e0 e1 e2;exact⟨k,v0,v1,v2,y0,y1,y2,by simpa using e0,by simpa using e1,by simpa using e2,g0,g1,g2⟩
theorem q6y{W:World}{a:Addr}{len cap:Nat}(hl:len≤cap)(hm:cap≤maxLen)
  (h:∀i,i<len→∃x:Lay,W.cell? (a.add (i*3))=some (.string x.grain)∧W.cell? (a.add (i*3+1))=some (.int .i64 x.mass)∧∃p c,W.cell? (a.add (i*3+2))=some (.slice p x.shares.length c)∧qdc W (.slice p x.shares.length c) x.shares):∃l,qr6 W (.slice (some a) len cap) l:=by
 haveI:Inhabited Lay:=⟨⟨⟨#[]⟩,0,[]⟩⟩
 obtain⟨X,hX⟩:=Go.Deep.choose_lt h;have aE:((List.range len).map X).length=len:=by rw[List.length_map,List.length_range]
 refine⟨(List.range len).map X,some a,cap,by rw[aE],by rw[aE];exact hl,hm, ?_⟩;rw[aE];by_cases hn:len=0
 ·exact .inl hn
 ·obtain⟨b,o,sp⟩:=a
  obtain rfl:sp=none:=by simpa [Addr.add] using World.cell?_spot (hX 0 (by omega)).1
  refine .inr ⟨b,o,rfl,fun j x hj => ?_⟩;rw[List.getElem?_map] at hj;obtain⟨i,hi,rfl⟩:=Option.map_eq_some_iff.1 hj
  have Rv:j<len:=by
   have:=(List.getElem?_eq_some_iff.1 hi).1
   rwa [List.length_range] at this
  rw[List.getElem?_range Rv] at hi;cases hi
  obtain⟨c0,c1,p,c,c2,hs⟩:=hX j Rv;rw[qx9] at c0 c1 c2;exact⟨c0,c1,p,c,c2,hs⟩
end Go.Proofs.YtmcfcpgglfimjaaGreatDoor
namespace Go.Proofs.YtmcfcpgglfimjaaGreatDoor
open Go.ChangeShapes Go.WideShapes Go.ChangeAt Go.RowKit
set_option maxRecDepth 100000
theorem qqc(H:Type)(enc:TypeId × Value→H)(W:World)(base:Nat)(args:Array Value)(ds gs:List (DataW H))(before:List MemPlace)
  (jB:∀(j:Nat) t v,Tryz.f3.params[j]? = some t→args[j]? = some v→Value.okWide Tryz.prog W .any base t v)
  (hW:DataW.Whole enc Tryz.prog Tryz.f3.params.toList Rows.measureMixedSpec.vars false W args.toList ds gs before) (Sa:W.ShapedOpen Tryz.prog):
  Calls Tryz.prog 3 args W fun e W'=>∃v,e = .returned v∧Rows.measureMixedSpec.post enc Tryz.prog Tryz.f3 false true false false W args v W':=by
 have hW':=hW;obtain⟨p,q,hA0,hV,rfl,lO,De⟩:=hW;have hA:DataW.TrodAll enc Tryz.prog W 0 (fun _=>true) true Tryz.f3.params.toList args.toList ds p:=hA0;rw[Tryz.params3] at hA jB;obtain⟨v0,vs0,d0,ds0,p0,q0,Cv,rfl,rfl,h0,r0⟩:=trodAll_cons hA;obtain⟨v1,vs1,d1,ds1,p1,q1,rfl,rfl,rfl,h1,r1⟩:=trodAll_cons r0;obtain⟨rfl,rfl,rfl⟩:=trodAll_nil r1;obtain rfl:args=#[v0,v1]:=by cases args;simp_all
 obtain⟨rfl,rfl⟩:=trodVars_none hV;clear hA0;have hg:=q4l Sa;have bC:∀x ∈ p0++(p1++[]),x.block<W.heap.size:=fun x hx=>by simpa using hW'.lt x (by simpa using hx)
 have kK:∀x ∈ p0,x.block<W.heap.size:=fun x hx=>bC x (by simp[hx]);have oK:∀x ∈ p1,x.block<W.heap.size:=fun x hx=>bC x (by simp[hx])
 have fin:(Calls Tryz.prog 3 #[v0,v1] W fun e w'=>e = .returned (.bool true)∧Below W.heap.size W w')→Calls Tryz.prog 3 #[v0,v1] W fun e W'=>∃v,e = .returned v∧Rows.measureMixedSpec.post enc Tryz.prog Tryz.f3 false true false false W #[v0,v1] v W':=fun h=>h.mono fun e W' ⟨he,hb⟩=>by
  subst he;refine⟨_,rfl,_,_,_,[],p0++(p1++[]),[],hW', ?_, ?_,rfl,hb.frame _,fun h=>by cases h⟩
  ·exact trodAll_cons_mk (shut_bool Tryz.underlying4 _) trodAll_mk0
  ·exact trodAll_cons_mk (Below.trod q4k (by kernel_rfl) (of_decide_eq_true (by kernel_rfl)) h0 hb kK) (trodAll_cons_mk (Below.trod q4k (by kernel_rfl) (of_decide_eq_true (by kernel_rfl)) h1 hb oK) (trodAll_mk0))
 refine fin ?_;obtain⟨a0,Rw,cap0,rfl⟩:=okWide_slice Tryz.underlying22 (jB 0 22 v0 rfl rfl)
 obtain⟨l0,lW⟩:∃l,qr6 W (.slice a0 Rw cap0) l:=by
  obtain⟨fuel,hf⟩:=h0;rcases Go.Deep.open_slice Tryz.underlying22 hf with⟨tL,_⟩|⟨a,len,cap,m,n,D,Pl,tL,_,hl,hm,hmm,_,hx⟩
  ·simp[Value.cells] at tL
   obtain⟨rfl,rfl,rfl⟩:=tL;exact⟨[],none,0,rfl,qac _,by decide,.inl rfl⟩
  ·simp[Value.cells] at tL
   obtain⟨rfl,rfl,rfl⟩:=tL;have hlm:Rw≤m:=by rw[hmm];split<;>omega
   refine q6y hl hm fun i hi => ?_;obtain⟨cs',h1,h2⟩:=hx i (by omega);obtain⟨k,v0,v1,v2,y0,y1,y2,c0,c1,c2,t0,t1,t2⟩:=q4o Tryz.underlying28 (by kernel_rfl) rfl rfl rfl (by kernel_rfl) (by kernel_rfl) (by kernel_rfl) h1 h2;obtain⟨s0,e0,-,-⟩:=DataW.trod_string Tryz.underlying9 t0;obtain⟨z1,e1,-,-⟩:=DataW.trod_int Tryz.underlying3 t1;obtain rfl:v0 = .string s0:=by simpa using e0
   obtain rfl:v1 = .int .i64 z1:=by simpa using e1
   obtain⟨p2,n2,q2,rfl,ls,hs⟩:∃p n q,v2 = .slice p n q∧∃l,qdc W (.slice p n q) l:=by
    rcases Go.Deep.open_slice_pairs Tryz.underlying26 Tryz.underlying32 (by kernel_rfl) rfl rfl (by kernel_rfl) (by kernel_rfl) t2 with⟨tL,_⟩|⟨a',len',cap',m',n',V0,V1,D0,D1,P0,P1,tL,_,hl',hm',hmm',_,aC⟩
    ·exact⟨none,0,0,by simpa using tL,[],none,0,rfl,qac _,by decide,.inl rfl⟩
    ·have hlm':len'≤m':=by rw[hmm'];split<;>omega
     refine⟨some a',len',cap',by simpa using tL,q4n (V0:=V0) (V1:=V1) hl' hm' fun j hj => ?_⟩;obtain⟨d0,d1,u0,u1⟩:=aC j (by omega);obtain⟨x0,g0,-,-⟩:=DataW.trod_string Tryz.underlying9 u0;obtain⟨x1,g1,-,-⟩:=DataW.trod_string Tryz.underlying30 u1;exact⟨d0,d1,⟨x0,by simpa using g0⟩,x1,by simpa using g1⟩
   obtain rfl:n2=ls.length:=by
    obtain⟨p',c',he,-⟩:=hs;cases he
    rfl
   exact⟨⟨s0,z1,ls⟩,c0,c1,p2,q2,c2,hs⟩
 obtain⟨s1,rfl,-,-,w1⟩:=open_int Tryz.underlying5 (jB 1 5 v1 rfl rfl) h1;have Fi:=bounds_u8 w1;exact q4j _ l0 s1 W hg lW Fi.1 Fi.2
abbrev ql2:Array Value:=#[.slice none 0 0,.int .u8 0]
theorem qup(os:Os):laidMet Tryz.prog Rows.measureMixedRow.laid ((qwq os).forCall (fun _ _=>0) ⟨#[],ql2,[]⟩).memory:=
 laidMet_of_run' 8 (by kernel_rfl) (by kernel_rfl)
end Go.Proofs.YtmcfcpgglfimjaaGreatDoor
namespace Go.Proofs.YtmcfcpgglfimjaaGreatDoor
open Go.ChangeShapes Go.WideShapes Go.ChangeAt Go.RowKit
set_option maxRecDepth 100000
set_option maxHeartbeats 400000000
theorem q0i(os:Os){H:Type}(enc:TypeId × Value→H):∃places,DataW.whole enc Tryz.prog ((qwq os).forCall (fun _ _=>0) ⟨#[],ql2,[]⟩).memory Tryz.f3.params.toList Rows.measureMixedSpec.vars false ql2.toList 8=some ([.nil,.lit (.int .u8 0)],[],places):=
 ⟨[],by kernel_rfl⟩
theorem quq(os:Os)(started:os.Started)(H:Type)(enc:TypeId × Value→H)(F:Stop.Interp):
  ReturnsInHanded {} Tryz.checked os 3 .any ((OpenSpec.ofChange Rows.measureMixedSpec).preRow enc Tryz.prog Tryz.f3 Rows.measureMixedRow.domain false Rows.measureMixedRow.laid) (((OpenSpec.ofChange Rows.measureMixedSpec).at F).post enc Tryz.prog Tryz.f3 false true false false):=by
 obtain⟨places,hx⟩:=q0i os enc
 refine returnsInHanded_of_row (C:=Tryz.checked) (s:=OpenSpec.ofChange Rows.measureMixedSpec) zan started (by kernel_rfl) Tryz.func3
  (witness_row_atRef (enc:=enc) (C:=Tryz.checked) false (qwq os) ql2 rfl (by kernel_rfl) (by kernel_rfl) (by kernel_rfl)
   (OpenSpec.preRow_of_cond 8 hx (by kernel_rfl) (fun k hk=>by cases hk) (by kernel_rfl) (qup os))) ?_
 intro W base args ds gs before jB hW _ _ _ _ Sa _;exact qqc H enc W base args ds gs before jB hW Sa
theorem qwr:joinedFacts Tryz.pinned.checked.prog 3 Tryz.f3 (OpenSpec.ofChange Rows.measureMixedSpec).bare Rows.measureMixedRow=true:=by
 unfold joinedFacts;simp only[Bool.and_eq_true]
 repeat' (refine And.intro ?_ ?_)
 all_goals decide +kernel
theorem q9c:Rows.measureMixedRow.wfByText (OpenSpec.ofChange Rows.measureMixedSpec)=true:=by kernel_rfl
theorem q4p:false=Rows.measureMixedRow.goesBy Tryz.pinned.checked.prog:=by kernel_rfl
theorem q0j:Rows.MeasureMixedSaid:=
 OpenClaim.holds_of_cond 3 Tryz.f3 rfl rfl rfl rfl rfl rfl rfl ⟨rfl,rfl,rfl,rfl,rfl⟩ rfl rfl rfl rfl rfl (by kernel_rfl) Tryz.func3 qwr
  (of_decide_eq_true (by kernel_rfl)) (by unfold Func.isWrapper;first|(rw[if_pos (by decide +kernel)];kernel_rfl)|(rw[if_neg (by decide +kernel)];exact⟨rfl,rfl⟩))
  (fun os started H enc _ F=>by rw[OpenClaim.pre_eq_preRow];exact quq os started H enc F)
theorem qws(f:FuncId)(fn:Func)(hf:Tryz.pinned.checked.prog.funcNamed Rows.measureMixedRow.func=some f)(hfn:Tryz.pinned.checked.prog.funcs[f]? = some fn):
  true=Tryz.pinned.checked.prog.looks []∧∀(j:Nat) t,fn.params[j]? = some t→Tryz.pinned.checked.prog.wantsStandIn t=false:=by
 obtain rfl:f=3:=Option.some.inj ((show Tryz.prog.funcNamed Rows.measureMixedRow.func=some 3 by kernel_rfl).symm.trans hf) |>.symm;obtain rfl:fn=Tryz.f3:=(Option.some.inj (Tryz.func3.symm.trans hfn)).symm;refine⟨by kernel_rfl,fun j t ht => ?_⟩;rw[Tryz.params3] at ht;have h3:t=22∨t=5:=by simpa using Array.mem_of_getElem? ht
 rcases h3 with rfl|rfl
 ·exact(show Tryz.prog.wantsStandIn 22=false by kernel_rfl)
 ·exact(show Tryz.prog.wantsStandIn 5=false by kernel_rfl)
theorem mixed_card:Rows.MeasureMixedCardSaid:=
 Claim7.holds_tied_plain_at .later [] _ _ _ _ q0j (fun _ h=>by cases h) q9c (fun _ h=>by cases h) measureMixed_row_tie rfl ⟨rfl,rfl⟩ (by kernel_rfl) rfl qws q4p
end Go.Proofs.YtmcfcpgglfimjaaGreatDoor
