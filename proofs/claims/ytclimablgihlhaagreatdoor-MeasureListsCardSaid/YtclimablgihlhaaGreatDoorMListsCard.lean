/- MeasureLists: its row. -/
import Derived.Test.YtclimablgihlhaaGreatDoorMRead
import Derived.Test.YtclimablgihlhaaGreatDoorCards
import Derived.Test.YtclimablgihlhaaGreatDoorTie
import Derived.WalkKit
import Derived.ProofKit
import Derived.SevenTiedAt
import Derived.LaidLaws
import Derived.OpenShut
import Derived.Carry
import Derived.ChangeSlices
import Derived.Shelf.Vars
import Derived.Deep.DeepHandedRow
import Derived.Deep.DeepWitnessRowRef
import Derived.Test.YtclimablgihlhaaGreatDoorMNv
import Derived.Deep.SlicePairs
import Derived.Test.YtclimablgihlhaaGreatDoorMLists
import Derived.ChangeMaps5
import Derived.Lib.SmallJoins
set_option linter.all false
namespace Go.Proofs.YtclimablgihlhaaGreatDoor
open Go.ChangeShapes Go.WideShapes Go.ChangeAt Go.RowKit
theorem q91:ownKnob Tryz.prog.godebug=none:=by kernel_rfl
theorem q3l:laidOutB Tryz.prog=true:=by kernel_rfl
theorem q3m{W:World}(h:W.ShapedOpen Tryz.prog):GW W:=by
 obtain⟨m,hm⟩:=cell_of_shapedOpen_int (g:=0) (k := .i64) h (by decide +kernel) (show _=some (#[.int .i64 0],3) by kernel_rfl) rfl (by kernel_rfl) (by kernel_rfl) Tryz.underlying3;exact⟨zaq W _ hm,m,hm⟩
def q92:DataW Unit→Value
 | .lit (.int k n) => .int k n
 | _ => .bool false
def q57:DataW Unit→Array Value
 | .agg l=>(l.map q92).toArray
 | _=>#[]
def q93:DataW Unit→Array Value
 | .agg l=>(l.flatMap fun d=>match d with
  | .agg m=>m.map q92
  | _=>[]).toArray
 | _=>#[]
def q3n:DataW Unit→BA
 | .iface _ (.ptr (.agg [.lit (.string l)]))=>⟨l.toArray⟩
 | _=>⟨#[]⟩
noncomputable def q94:Nat:=(World.holding Tryz.prog default ⟨#[],#[],[]⟩).heap.size
def qv6(h:Array Obj)(g:Nat)(cs:Array Value):Array Obj:=h.modify g fun
 | .cells _ t frozen => .cells cs t frozen
 | o=>o
noncomputable def qv7(os:Os):World:=
 let w0:=World.holding Tryz.prog os ⟨#[.cells #[.string (q3n Rows.laid_strconv_ErrRange)] 287,.cells #[.string (q3n Rows.laid_strconv_ErrSyntax)] 287],#[],[]⟩
 { w0 with heap:=qv6 (qv6 (qv6 (qv6 (qv6 (qv6 (qv6 w0.heap 8 (q57 Rows.laid_math_bits_deBruijn32tab)) 9 (q57 Rows.laid_math_bits_deBruijn64tab)) 7 (q57 Rows.laid_internal_strconv_uint64pow10)) 6 (q93 Rows.laid_unicode_utf8_acceptRanges))
   4 #[.iface 285 (.pointer (some ⟨q94,0,none⟩))]) 3 #[.iface 285 (.pointer (some ⟨q94+1,0,none⟩))]) 5 (q57 Rows.laid_unicode_utf8_first) }
end Go.Proofs.YtclimablgihlhaaGreatDoor
namespace Go.Proofs.YtclimablgihlhaaGreatDoor
open Go.RowKit
def q8r:Value→BA
 | .string s=>s
 | _=>⟨#[]⟩
theorem q58(b o n:Nat):(⟨b,o,none⟩:Addr).add n=⟨b,o+n,none⟩:=by
 unfold Addr.add;split
 ·rename_i h
  rw[h];rfl
 ·rfl
theorem q3o{W:World}{a:Addr}{len cap:Nat}{V0 V1:Nat→Value}(hl:len≤cap)(hm:cap≤maxLen)
  (h:∀i,i<len→W.cell? (a.add (i*2))=some (V0 i)∧W.cell? (a.add (i*2+1))=some (V1 i)∧(∃s,V0 i = .string s)∧∃s,V1 i = .string s):∃l,qbq W (.slice (some a) len cap) l:=by
 have aF:((List.range len).map fun i=>(q8r (V0 i),q8r (V1 i))).length=len:=by rw[List.length_map,List.length_range]
 refine⟨(List.range len).map fun i=>(q8r (V0 i),q8r (V1 i)),some a,cap,by rw[aF],by rw[aF];exact hl,hm, ?_⟩;rw[aF];by_cases hn:len=0
 ·exact .inl hn
 ·obtain⟨b,o,sp⟩:=a
  obtain rfl:sp=none:=by simpa [Addr.add] using World.cell?_spot (h 0 (by omega)).1
  refine .inr ⟨b,o,rfl,fun j s hj => ?_⟩;rw[List.getElem?_map] at hj;obtain⟨i,hi,rfl⟩:=Option.map_eq_some_iff.1 hj
  have hji:j<len:=by
   have:=(List.getElem?_eq_some_iff.1 hi).1
   rwa [List.length_range] at this
  rw[List.getElem?_range hji] at hi;cases hi
  obtain⟨c0,c1,⟨s0,e0⟩,s1,e1⟩:=h j hji;rw[q58] at c0 c1;rw[e0] at c0;rw[e1] at c1;show W.cell? ⟨b,_,none⟩=some (.string (q8r (V0 j)))∧W.cell? ⟨b,_,none⟩=some (.string (q8r (V1 j)));rw[e0,e1];exact⟨c0,c1⟩
end Go.Proofs.YtclimablgihlhaaGreatDoor
namespace Go.Proofs.YtclimablgihlhaaGreatDoor
open Go.ChangeShapes Go.WideShapes Go.ChangeAt Go.RowKit
set_option maxRecDepth 100000
set_option maxHeartbeats 400000000
theorem qp0(H:Type)(enc:TypeId × Value→H)(W:World)(base:Nat)(args:Array Value)(ds gs:List (DataW H))(before:List MemPlace)
  (kF:∀(j:Nat) t v,Tryz.f3.params[j]? = some t→args[j]? = some v→Value.okWide Tryz.prog W .any base t v)
  (hW:DataW.Whole enc Tryz.prog Tryz.f3.params.toList Rows.measureListsSpec.vars false W args.toList ds gs before) (hsh:W.ShapedOpen Tryz.prog):
  Calls Tryz.prog 3 args W fun e W'=>∃v,e = .returned v∧Rows.measureListsSpec.post enc Tryz.prog Tryz.f3 false true false false W args v W':=by
 have hW':=hW;obtain⟨p,q,hA0,hV,rfl,oI,Gy⟩:=hW;have hA:DataW.TrodAll enc Tryz.prog W 0 (fun _=>true) true Tryz.f3.params.toList args.toList ds p:=hA0;rw[Tryz.params3] at hA kF;obtain⟨v0,vs0,d0,ds0,p0,q0,Fs,rfl,rfl,h0,r0⟩:=trodAll_cons hA;obtain⟨v1,vs1,d1,ds1,p1,q1,rfl,rfl,rfl,h1,r1⟩:=trodAll_cons r0;obtain⟨rfl,rfl,rfl⟩:=trodAll_nil r1;obtain rfl:args=#[v0,v1]:=by cases args;simp_all
 obtain⟨rfl,rfl⟩:=trodVars_none hV;clear hA0;have hg:=q3m hsh;have bI:∀x ∈ p0++(p1++[]),x.block<W.heap.size:=fun x hx=>by simpa using hW'.lt x (by simpa using hx)
 have lT:∀x ∈ p0,x.block<W.heap.size:=fun x hx=>bI x (by simp[hx]);have mC:∀x ∈ p1,x.block<W.heap.size:=fun x hx=>bI x (by simp[hx])
 have fin:(Calls Tryz.prog 3 #[v0,v1] W fun e w'=>e = .returned (.bool true)∧Below W.heap.size W w')→Calls Tryz.prog 3 #[v0,v1] W fun e W'=>∃v,e = .returned v∧Rows.measureListsSpec.post enc Tryz.prog Tryz.f3 false true false false W #[v0,v1] v W':=fun h=>h.mono fun e W' ⟨he,hb⟩=>by
  subst he;refine⟨_,rfl,_,_,_,[],p0++(p1++[]),[],hW', ?_, ?_,rfl,hb.frame _,fun h=>by cases h⟩
  ·exact trodAll_cons_mk (shut_bool Tryz.underlying4 _) trodAll_mk0
  ·exact trodAll_cons_mk (Below.trod q3l (by kernel_rfl) (of_decide_eq_true (by kernel_rfl)) h0 hb lT) (trodAll_cons_mk (Below.trod q3l (by kernel_rfl) (of_decide_eq_true (by kernel_rfl)) h1 hb mC) (trodAll_mk0))
 refine fin ?_;obtain⟨a0,Vf,cap0,rfl⟩:=okWide_slice Tryz.underlying22 (kF 0 22 v0 rfl rfl)
 obtain⟨l0,pW⟩:∃l,qbq W (.slice a0 Vf cap0) l:=by
  obtain⟨fuel,hf⟩:=h0;rcases Go.Deep.open_slice_pairs Tryz.underlying22 Tryz.underlying28 (by kernel_rfl) rfl rfl (by kernel_rfl) (by kernel_rfl) hf with⟨tD,_⟩|⟨a,len,cap,m,n,V0,V1,D0,D1,P0,P1,tD,_,hl,hm,Ex,_,aC⟩
  ·simp[Value.cells] at tD
   obtain⟨rfl,rfl,rfl⟩:=tD;exact⟨[],none,0,rfl,zap _,by decide,.inl rfl⟩
  ·simp[Value.cells] at tD
   obtain⟨rfl,rfl,rfl⟩:=tD;have hlm:Vf≤m:=by rw[Ex];split<;>omega
   refine q3o (V0:=V0) (V1:=V1) hl hm fun i hi => ?_;obtain⟨c0,c1,t0,t1⟩:=aC i (by omega);obtain⟨s0,e0,-,-⟩:=DataW.trod_string Tryz.underlying26 t0;obtain⟨s1,e1,-,-⟩:=DataW.trod_string Tryz.underlying26 t1;exact⟨c0,c1,⟨s0,by simpa using e0⟩,s1,by simpa using e1⟩
 obtain⟨a1,zF,Vg,rfl⟩:=okWide_slice Tryz.underlying23 (kF 1 23 v1 rfl rfl)
 obtain⟨l1,lQ⟩:∃l,qn4 W (.slice a1 zF Vg) l:=by
  obtain⟨fuel,hf⟩:=h1;rcases open_ints Tryz.underlying23 Tryz.underlying3 (by kernel_rfl) hf with⟨tD,_⟩|⟨a,len,cap,zs,tD,_,hl,hm,hz,_,aC,zU⟩
  ·simp[Value.cells] at tD
   obtain⟨rfl,rfl,rfl⟩:=tD;exact⟨[],none,0,rfl,zap _,by decide,.inl rfl⟩
  ·simp[Value.cells] at tD
   obtain⟨rfl,rfl,rfl⟩:=tD;have Fz:zF≤zs.length:=by rw[hz];split<;>omega
   have Fm:(zs.take zF).length=zF:=by rw[List.length_take];omega
   refine⟨zs.take zF,some a,Vg,by rw[Fm],by rw[Fm];exact hl,hm, ?_⟩;by_cases hn:zF=0
   ·exact .inl (by rw[Fm];exact hn)
   ·obtain⟨b,o,sp⟩:=a
    obtain rfl:sp=none:=by simpa [Addr.add] using World.cell?_spot (aC 0 (by omega))
    refine .inr ⟨b,o,rfl,fun j hj => ?_⟩;rw[Fm] at hj;have h2:=aC j (by omega);rw[add_plain] at h2;rw[h2];unfold iv;rw[zaw,zaw,List.getElem?_take_of_lt hj]
 exact q3k _ l0 _ l1 W hg pW lQ
abbrev qlu:Array Value:=#[.slice none 0 0,.slice none 0 0]
theorem quf(os:Os):laidMet Tryz.prog Rows.measureListsRow.laid ((qv7 os).forCall (fun _ _=>0) ⟨#[],qlu,[]⟩).memory:=
 laidMet_of_run' 8 (by kernel_rfl) (by kernel_rfl)
theorem qzl(os:Os){H:Type}(enc:TypeId × Value→H):∃places,DataW.whole enc Tryz.prog ((qv7 os).forCall (fun _ _=>0) ⟨#[],qlu,[]⟩).memory Tryz.f3.params.toList Rows.measureListsSpec.vars false qlu.toList 8=some ([.nil,.nil],[],places):=
 ⟨[],by kernel_rfl⟩
theorem qug(os:Os)(started:os.Started)(H:Type)(enc:TypeId × Value→H)(F:Stop.Interp):
  ReturnsInHanded {} Tryz.checked os 3 .any ((OpenSpec.ofChange Rows.measureListsSpec).preRow enc Tryz.prog Tryz.f3 Rows.measureListsRow.domain false Rows.measureListsRow.laid) (((OpenSpec.ofChange Rows.measureListsSpec).at F).post enc Tryz.prog Tryz.f3 false true false false):=by
 obtain⟨places,hx⟩:=qzl os enc
 refine returnsInHanded_of_row (C:=Tryz.checked) (s:=OpenSpec.ofChange Rows.measureListsSpec) q91 started (by kernel_rfl) Tryz.func3
  (witness_row_atRef (enc:=enc) (C:=Tryz.checked) false (qv7 os) qlu rfl (by kernel_rfl) (by kernel_rfl) (by kernel_rfl)
   (OpenSpec.preRow_of_cond 8 hx (by kernel_rfl) (fun k hk=>by cases hk) (by kernel_rfl) (quf os))) ?_
 intro W base args ds gs before kF hW _ _ _ _ hsh _;exact qp0 H enc W base args ds gs before kF hW hsh
theorem qv8:joinedFacts Tryz.pinned.checked.prog 3 Tryz.f3 (OpenSpec.ofChange Rows.measureListsSpec).bare Rows.measureListsRow=true:=by
 unfold joinedFacts;simp only[Bool.and_eq_true]
 repeat' (refine And.intro ?_ ?_)
 all_goals decide +kernel
theorem q8m:Rows.measureListsRow.wfByText (OpenSpec.ofChange Rows.measureListsSpec)=true:=by kernel_rfl
theorem q3p:false=Rows.measureListsRow.goesBy Tryz.pinned.checked.prog:=by kernel_rfl
theorem qzm:Rows.MeasureListsSaid:=
 OpenClaim.holds_of_cond 3 Tryz.f3 rfl rfl rfl rfl rfl rfl rfl ⟨rfl,rfl,rfl,rfl,rfl⟩ rfl rfl rfl rfl rfl (by kernel_rfl) Tryz.func3 qv8
  (of_decide_eq_true (by kernel_rfl)) (by unfold Func.isWrapper;first|(rw[if_pos (by decide +kernel)];kernel_rfl)|(rw[if_neg (by decide +kernel)];exact⟨rfl,rfl⟩))
  (fun os started H enc _ F=>by rw[OpenClaim.pre_eq_preRow];exact qug os started H enc F)
theorem qv9(f:FuncId)(fn:Func)(hf:Tryz.pinned.checked.prog.funcNamed Rows.measureListsRow.func=some f)(hfn:Tryz.pinned.checked.prog.funcs[f]? = some fn):
  true=Tryz.pinned.checked.prog.looks []∧∀(j:Nat) t,fn.params[j]? = some t→Tryz.pinned.checked.prog.wantsStandIn t=false:=by
 obtain rfl:f=3:=Option.some.inj ((show Tryz.prog.funcNamed Rows.measureListsRow.func=some 3 by kernel_rfl).symm.trans hf) |>.symm;obtain rfl:fn=Tryz.f3:=(Option.some.inj (Tryz.func3.symm.trans hfn)).symm;refine⟨by kernel_rfl,fun j t ht => ?_⟩;rw[Tryz.params3] at ht;have h3:t=22∨t=23:=by simpa using Array.mem_of_getElem? ht
 rcases h3 with rfl|rfl
 ·exact(show Tryz.prog.wantsStandIn 22=false by kernel_rfl)
 ·exact(show Tryz.prog.wantsStandIn 23=false by kernel_rfl)
theorem lists_card:Rows.MeasureListsCardSaid:=
 Claim7.holds_tied_plain_at .later [] _ _ _ _ qzm (fun _ h=>by cases h) q8m (fun _ h=>by cases h) measureLists_row_tie rfl ⟨rfl,rfl⟩ (by kernel_rfl) rfl qv9 q3p
end Go.Proofs.YtclimablgihlhaaGreatDoor
