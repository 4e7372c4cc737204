/- A slice of layers that came in. -/
import Derived.Test.YtlkdlffhmakbgaaGreatDoorMRead
import Derived.Test.YtlkdlffhmakbgaaGreatDoorCards
import Derived.Test.YtlkdlffhmakbgaaGreatDoorTie
import Derived.WalkKit
import Derived.ProofKit
import Derived.SevenTiedAt
import Derived.LaidLaws
import Derived.OpenShut
import Derived.Carry
import Derived.ChangeSlices
import Derived.Shelf.Vars
import Derived.Deep.DeepHandedRow
import Derived.Deep.DeepWitnessRowRef
import Derived.Test.YtlkdlffhmakbgaaGreatDoorMNv
import Derived.Deep.SlicePairs
import Derived.Test.YtlkdlffhmakbgaaGreatDoorMEachLayer
import Derived.Test.YtlkdlffhmakbgaaGreatDoorMMixes
import Derived.ChangeMaps5
import Derived.Lib.SmallJoins
set_option linter.all false
namespace Go.Proofs.YtlkdlffhmakbgaaGreatDoor
open Go.ChangeShapes Go.WideShapes Go.ChangeAt Go.RowKit
theorem q9p:ownKnob Tryz.prog.godebug=none:=by kernel_rfl
theorem q7x:laidOutB Tryz.prog=true:=by kernel_rfl
theorem q14{W:World}(h:W.ShapedOpen Tryz.prog):GW W:=by
 obtain⟨m,hm⟩:=cell_of_shapedOpen_int (g:=0) (k := .i64) h (by decide +kernel) (show _=some (#[.int .i64 0],3) by kernel_rfl) rfl (by kernel_rfl) (by kernel_rfl) Tryz.underlying3;exact⟨qae W _ hm,m,hm⟩
def q9q:DataW Unit→Value
 | .lit (.int k n) => .int k n
 | _ => .bool false
def q5l:DataW Unit→Array Value
 | .agg l=>(l.map q9q).toArray
 | _=>#[]
def q9r:DataW Unit→Array Value
 | .agg l=>(l.flatMap fun d=>match d with
  | .agg m=>m.map q9q
  | _=>[]).toArray
 | _=>#[]
def q15:DataW Unit→BA
 | .iface _ (.ptr (.agg [.lit (.string l)]))=>⟨l.toArray⟩
 | _=>⟨#[]⟩
noncomputable def q9s:Nat:=(World.holding Tryz.prog default ⟨#[],#[],[]⟩).heap.size
def qvq(h:Array Obj)(g:Nat)(cs:Array Value):Array Obj:=h.modify g fun
 | .cells _ t frozen => .cells cs t frozen
 | o=>o
noncomputable def qvr(os:Os):World:=
 let w0:=World.holding Tryz.prog os ⟨#[.cells #[.string (q15 Rows.laid_strconv_ErrRange)] 283,.cells #[.string (q15 Rows.laid_strconv_ErrSyntax)] 283],#[],[]⟩
 { w0 with heap:=qvq (qvq (qvq (qvq (qvq (qvq (qvq w0.heap 8 (q5l Rows.laid_math_bits_deBruijn32tab)) 9 (q5l Rows.laid_math_bits_deBruijn64tab)) 7 (q5l Rows.laid_internal_strconv_uint64pow10)) 6 (q9r Rows.laid_unicode_utf8_acceptRanges))
   4 #[.iface 281 (.pointer (some ⟨q9s,0,none⟩))]) 3 #[.iface 281 (.pointer (some ⟨q9s+1,0,none⟩))]) 5 (q5l Rows.laid_unicode_utf8_first) }
end Go.Proofs.YtlkdlffhmakbgaaGreatDoor
namespace Go.Proofs.YtlkdlffhmakbgaaGreatDoor
open Go.RowKit
def q88:Value→BA
 | .string s=>s
 | _=>⟨#[]⟩
theorem qxk(b o n:Nat):(⟨b,o,none⟩:Addr).add n=⟨b,o+n,none⟩:=by
 unfold Addr.add;split
 ·rename_i h
  rw[h];rfl
 ·rfl
theorem q16{W:World}{a:Addr}{len cap:Nat}{V0 V1:Nat→Value}(hl:len≤cap)(hm:cap≤maxLen)
  (h:∀i,i<len→W.cell? (a.add (i*2))=some (V0 i)∧W.cell? (a.add (i*2+1))=some (V1 i)∧(∃s,V0 i = .string s)∧∃s,V1 i = .string s):∃l,qc9 W (.slice (some a) len cap) l:=by
 have aE:((List.range len).map fun i=>(q88 (V0 i),q88 (V1 i))).length=len:=by rw[List.length_map,List.length_range]
 refine⟨(List.range len).map fun i=>(q88 (V0 i),q88 (V1 i)),some a,cap,by rw[aE],by rw[aE];exact hl,hm, ?_⟩;rw[aE];by_cases hn:len=0
 ·exact .inl hn
 ·obtain⟨b,o,sp⟩:=a
  obtain rfl:sp=none:=by simpa [Addr.add] using World.cell?_spot (h 0 (by omega)).1
  refine .inr ⟨b,o,rfl,fun j s hj => ?_⟩;rw[List.getElem?_map] at hj;obtain⟨i,hi,rfl⟩:=Option.map_eq_some_iff.1 hj
  have Qm:j<len:=by
   have:=(List.getElem?_eq_some_iff.1 hi).1
   rwa [List.length_range] at this
  rw[List.getElem?_range Qm] at hi;cases hi
  obtain⟨c0,c1,⟨s0,e0⟩,s1,e1⟩:=h j Qm;rw[qxk] at c0 c1;rw[e0] at c0;rw[e1] at c1;show W.cell? ⟨b,_,none⟩=some (.string (q88 (V0 j)))∧W.cell? ⟨b,_,none⟩=some (.string (q88 (V1 j)));rw[e0,e1];exact⟨c0,c1⟩
end Go.Proofs.YtlkdlffhmakbgaaGreatDoor
namespace Go.Proofs.YtlkdlffhmakbgaaGreatDoor
open Go.RowKit
set_option maxRecDepth 100000
theorem q4h{H:Type}{enc:TypeId × Value→H}{P:Program}{w:World}{base:Nat}{spare:Nat→Bool}{held:Bool}{e:TypeId}{f0 f1 f2:Field}{n i:Nat}{a:Addr}{cs:List Value}{y:DataW H × List MemPlace}
  (he:P.underlying e=some (.struct #[f0,f1,f2])) (ce:P.cellsOf e=3) (o0:f0.offset=0) (o1:f1.offset=1) (o2:f2.offset=2) (c0:P.cellsOf f0.type=1) (c1:P.cellsOf f1.type=1) (c2:P.cellsOf f2.type=1)
  (h1:w.cells? base (a.add (i*P.cellsOf e)) (P.cellsOf e)=some cs) (h2:DataW.trod enc P w base spare held n e cs=some y):
  ∃(m:Nat) (v0 v1 v2:Value) (y0 y1 y2:DataW H × List MemPlace),w.cell? (a.add (i*3))=some v0∧w.cell? (a.add (i*3+1))=some v1∧w.cell? (a.add (i*3+2))=some v2∧
   DataW.trod enc P w base spare held m f0.type [v0]=some y0∧DataW.trod enc P w base spare held m f1.type [v1]=some y1∧DataW.trod enc P w base spare held m f2.type [v2]=some y2:=by
 rw[ce] at h1;obtain⟨_,aE,aC⟩:=World.cells?_some h1;obtain⟨xs,k,-,-,-,eF,hf⟩:=DataW.trod_struct he h2
 match xs,eF,cs,aE with
 | [y0,y1,y2],_,[v0,v1,v2],_=>
  have g0:=hf 0 f0 rfl;have g1:=hf 1 f1 rfl;have g2:=hf 2 f2 rfl;simp[o0,o1,o2,c0,c1,c2] at g0 g1 g2;have e0:=aC 0 (by omega);have e1:=aC 1 (by omega);have e2:=aC 2 (by omega);rw[Go.Deep.add_add] at e0 e1 e2;exact⟨k,v0,v1,v2,y0,y1,y2,by simpa using e0,by simpa using e1,by simpa using e2,g0,g1,g2⟩
theorem q6n{W:World}{a:Addr}{len cap:Nat}(hl:len≤cap)(hm:cap≤maxLen)
  (h:∀i,i<len→∃x:Lay,W.cell? (a.add (i*3))=some (.string x.grain)∧W.cell? (a.add (i*3+1))=some (.int .i64 x.mass)∧∃p c,W.cell? (a.add (i*3+2))=some (.slice p x.shares.length c)∧qc9 W (.slice p x.shares.length c) x.shares):∃l,qpa W (.slice (some a) len cap) l:=by
 haveI:Inhabited Lay:=⟨⟨⟨#[]⟩,0,[]⟩⟩
 obtain⟨X,hX⟩:=Go.Deep.choose_lt h;have aE:((List.range len).map X).length=len:=by rw[List.length_map,List.length_range]
 refine⟨(List.range len).map X,some a,cap,by rw[aE],by rw[aE];exact hl,hm, ?_⟩;rw[aE];by_cases hn:len=0
 ·exact .inl hn
 ·obtain⟨b,o,sp⟩:=a
  obtain rfl:sp=none:=by simpa [Addr.add] using World.cell?_spot (hX 0 (by omega)).1
  refine .inr ⟨b,o,rfl,fun j x hj => ?_⟩;rw[List.getElem?_map] at hj;obtain⟨i,hi,rfl⟩:=Option.map_eq_some_iff.1 hj
  have Qm:j<len:=by
   have:=(List.getElem?_eq_some_iff.1 hi).1
   rwa [List.length_range] at this
  rw[List.getElem?_range Qm] at hi;cases hi
  obtain⟨c0,c1,p,c,c2,hs⟩:=hX j Qm;rw[qxk] at c0 c1 c2;exact⟨c0,c1,p,c,c2,hs⟩
end Go.Proofs.YtlkdlffhmakbgaaGreatDoor
namespace Go.Proofs.YtlkdlffhmakbgaaGreatDoor
open Go.ChangeShapes Go.WideShapes Go.ChangeAt Go.RowKit
set_option maxRecDepth 100000
theorem qqd(H:Type)(enc:TypeId × Value→H)(W:World)(base:Nat)(args:Array Value)(ds gs:List (DataW H))(before:List MemPlace)
  (kC:∀(j:Nat) t v,Tryz.f3.params[j]? = some t→args[j]? = some v→Value.okWide Tryz.prog W .any base t v)
  (hW:DataW.Whole enc Tryz.prog Tryz.f3.params.toList Rows.measureMixesSpec.vars false W args.toList ds gs before) (hsh:W.ShapedOpen Tryz.prog):
  Calls Tryz.prog 3 args W fun e W'=>∃v,e = .returned v∧Rows.measureMixesSpec.post enc Tryz.prog Tryz.f3 false true false false W args v W':=by
 have hW':=hW;obtain⟨p,q,hA0,hV,rfl,mJ,Fo⟩:=hW;have hA:DataW.TrodAll enc Tryz.prog W 0 (fun _=>true) true Tryz.f3.params.toList args.toList ds p:=hA0;rw[Tryz.params3] at hA kC;obtain⟨v0,vs0,d0,ds0,p0,q0,Eh,rfl,rfl,h0,r0⟩:=trodAll_cons hA;obtain⟨rfl,rfl,rfl⟩:=trodAll_nil r0;obtain rfl:args=#[v0]:=by cases args;simp_all
 obtain⟨rfl,rfl⟩:=trodVars_none hV;clear hA0;have hg:=q14 hsh;have aY:∀x ∈ p0++[],x.block<W.heap.size:=fun x hx=>by simpa using hW'.lt x (by simpa using hx)
 have kD:∀x ∈ p0,x.block<W.heap.size:=fun x hx=>aY x (by simp[hx])
 have fin:(Calls Tryz.prog 3 #[v0] W fun e w'=>e = .returned (.bool true)∧Below W.heap.size W w')→Calls Tryz.prog 3 #[v0] W fun e W'=>∃v,e = .returned v∧Rows.measureMixesSpec.post enc Tryz.prog Tryz.f3 false true false false W #[v0] v W':=fun h=>h.mono fun e W' ⟨he,hb⟩=>by
  subst he;refine⟨_,rfl,_,_,_,[],p0++[],[],hW', ?_, ?_,rfl,hb.frame _,fun h=>by cases h⟩
  ·exact trodAll_cons_mk (shut_bool Tryz.underlying4 _) trodAll_mk0
  ·exact trodAll_cons_mk (Below.trod q7x (by kernel_rfl) (of_decide_eq_true (by kernel_rfl)) h0 hb kD) (trodAll_mk0)
 refine fin ?_;obtain⟨a0,Te,cap0,rfl⟩:=okWide_slice Tryz.underlying22 (kC 0 22 v0 rfl rfl)
 obtain⟨l0,lU⟩:∃l,qpa W (.slice a0 Te cap0) l:=by
  obtain⟨fuel,hf⟩:=h0;rcases Go.Deep.open_slice Tryz.underlying22 hf with⟨uD,_⟩|⟨a,len,cap,m,n,D,Pl,uD,_,hl,hm,hmm,_,hx⟩
  ·simp[Value.cells] at uD
   obtain⟨rfl,rfl,rfl⟩:=uD;exact⟨[],none,0,rfl,qac _,by decide,.inl rfl⟩
  ·simp[Value.cells] at uD
   obtain⟨rfl,rfl,rfl⟩:=uD;have hlm:Te≤m:=by rw[hmm];split<;>omega
   refine q6n hl hm fun i hi => ?_;obtain⟨cs',h1,h2⟩:=hx i (by omega);obtain⟨k,v0,v1,v2,y0,y1,y2,c0,c1,c2,t0,t1,t2⟩:=q4h Tryz.underlying29 (by kernel_rfl) rfl rfl rfl (by kernel_rfl) (by kernel_rfl) (by kernel_rfl) h1 h2;obtain⟨s0,e0,-,-⟩:=DataW.trod_string Tryz.underlying9 t0;obtain⟨z1,e1,-,-⟩:=DataW.trod_int Tryz.underlying3 t1;obtain rfl:v0 = .string s0:=by simpa using e0
   obtain rfl:v1 = .int .i64 z1:=by simpa using e1
   obtain⟨p2,n2,q2,rfl,ls,hs⟩:∃p n q,v2 = .slice p n q∧∃l,qc9 W (.slice p n q) l:=by
    rcases Go.Deep.open_slice_pairs Tryz.underlying27 Tryz.underlying58 (by kernel_rfl) rfl rfl (by kernel_rfl) (by kernel_rfl) t2 with⟨uD,_⟩|⟨a',len',cap',m',n',V0,V1,D0,D1,P0,P1,uD,_,hl',hm',hmm',_,aC⟩
    ·exact⟨none,0,0,by simpa using uD,[],none,0,rfl,qac _,by decide,.inl rfl⟩
    ·have hlm':len'≤m':=by rw[hmm'];split<;>omega
     refine⟨some a',len',cap',by simpa using uD,q16 (V0:=V0) (V1:=V1) hl' hm' fun j hj => ?_⟩;obtain⟨d0,d1,u0,u1⟩:=aC j (by omega);obtain⟨x0,g0,-,-⟩:=DataW.trod_string Tryz.underlying9 u0;obtain⟨x1,g1,-,-⟩:=DataW.trod_string Tryz.underlying39 u1;exact⟨d0,d1,⟨x0,by simpa using g0⟩,x1,by simpa using g1⟩
   obtain rfl:n2=ls.length:=by
    obtain⟨p',c',he,-⟩:=hs;cases he
    rfl
   exact⟨⟨s0,z1,ls⟩,c0,c1,p2,q2,c2,hs⟩
 exact q4g _ l0 W hg lU
abbrev ql9:Array Value:=#[.slice none 0 0]
theorem qup(os:Os):laidMet Tryz.prog Rows.measureMixesRow.laid ((qvr os).forCall (fun _ _=>0) ⟨#[],ql9,[]⟩).memory:=
 laidMet_of_run' 8 (by kernel_rfl) (by kernel_rfl)
end Go.Proofs.YtlkdlffhmakbgaaGreatDoor
