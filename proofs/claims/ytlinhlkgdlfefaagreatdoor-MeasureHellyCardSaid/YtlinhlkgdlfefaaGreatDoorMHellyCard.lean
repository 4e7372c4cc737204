/- A slice of spans that came in. -/
import Derived.Test.YtlinhlkgdlfefaaGreatDoorMNv
import Derived.Deep.SlicePairs
import Derived.ProofKit
import Derived.OpenShut
import Derived.ChangeSlices
import Derived.Test.YtlinhlkgdlfefaaGreatDoorMHelly
import Derived.Test.YtlinhlkgdlfefaaGreatDoorMLawRow
import Derived.ChangeMaps5
import Derived.Lib.SmallJoins
set_option linter.all false
namespace Go.Proofs.YtlinhlkgdlfefaaGreatDoor
open Go.RowKit
set_option maxRecDepth 100000
set_option maxHeartbeats 400000000
def q9m:Value→ByteArray
 | .string s=>s
 | _=>⟨#[]⟩
theorem q65(b o n:Nat):(⟨b,o,none⟩:Addr).add n=⟨b,o+n,none⟩:=by
 unfold Addr.add;split
 ·rename_i h
  rw[h];rfl
 ·rfl
theorem q4v{W:World}{a:Addr}{len cap:Nat}{V0 V1:Nat→Value}(hl:len≤cap)(hm:cap≤maxLen)
  (h:∀i,i<len→W.cell? (a.add (i*2))=some (V0 i)∧W.cell? (a.add (i*2+1))=some (V1 i)∧(∃s,V0 i = .string s)∧∃s,V1 i = .string s):∃l,qb7 W (.slice (some a) len cap) l:=by
 have hlen:((List.range len).map fun i=>(q9m (V0 i),q9m (V1 i))).length=len:=by rw[List.length_map,List.length_range]
 refine⟨(List.range len).map fun i=>(q9m (V0 i),q9m (V1 i)),some a,cap,by rw[hlen],by rw[hlen];exact hl,hm, ?_⟩;rw[hlen];by_cases hn:len=0
 ·exact .inl hn
 ·obtain⟨b,o,sp⟩:=a
  obtain rfl:sp=none:=by simpa [Addr.add] using World.cell?_spot (h 0 (by omega)).1
  refine .inr ⟨b,o,rfl,fun j s hj => ?_⟩;rw[List.getElem?_map] at hj;obtain⟨i,hi,rfl⟩:=Option.map_eq_some_iff.1 hj
  have hji:j<len:=by
   have:=(List.getElem?_eq_some_iff.1 hi).1
   rwa [List.length_range] at this
  rw[List.getElem?_range hji] at hi;cases hi
  obtain⟨c0,c1,⟨s0,e0⟩,s1,e1⟩:=h j hji;rw[q65] at c0 c1;rw[e0] at c0;rw[e1] at c1;show W.cell? ⟨b,_,none⟩=some (.string (q9m (V0 j)))∧W.cell? ⟨b,_,none⟩=some (.string (q9m (V1 j)));rw[e0,e1];exact⟨c0,c1⟩
end Go.Proofs.YtlinhlkgdlfefaaGreatDoor
namespace Go.Proofs.YtlinhlkgdlfefaaGreatDoor
open Go.ChangeShapes Go.WideShapes Go.ChangeAt Go.RowKit
set_option maxRecDepth 100000
set_option maxHeartbeats 400000000
theorem qqo(H:Type)(enc:TypeId × Value→H)(W:World)(base:Nat)(args:Array Value)(ds gs:List (DataW H))(before:List MemPlace)
  (hval:∀(j:Nat) t v,Tryz.f4.params[j]? = some t→args[j]? = some v→Value.okWide Tryz.prog W .any base t v)
  (hW:DataW.Whole enc Tryz.prog Tryz.f4.params.toList Rows.measureHellySpec.vars false W args.toList ds gs before) (hsh:W.ShapedOpen Tryz.prog):
  Calls Tryz.prog 4 args W fun e W'=>∃v,e = .returned v∧Rows.measureHellySpec.post enc Tryz.prog Tryz.f4 false true false false W args v W':=by
 have hW':=hW;obtain⟨p,q,hA0,hV,rfl,hfz,hnd⟩:=hW;have hA:DataW.TrodAll enc Tryz.prog W 0 (fun _=>true) true Tryz.f4.params.toList args.toList ds p:=hA0;rw[Tryz.params4] at hA hval;obtain⟨v0,vs0,d0,ds0,p0,q0,hargs,rfl,rfl,h0,r0⟩:=trodAll_cons hA;obtain⟨rfl,rfl,rfl⟩:=trodAll_nil r0;obtain rfl:args=#[v0]:=by cases args;simp_all
 obtain⟨rfl,rfl⟩:=trodVars_none hV;clear hA0;have hg:=qvk hsh;have hlt:∀x ∈ p0++[],x.block<W.heap.size:=fun x hx=>by simpa using hW'.lt x (by simpa using hx)
 have hl0:∀x ∈ p0,x.block<W.heap.size:=fun x hx=>hlt x (by simp[hx])
 have fin:(Calls Tryz.prog 4 #[v0] W fun e w'=>e = .returned (.bool true)∧Below W.heap.size W w')→Calls Tryz.prog 4 #[v0] W fun e W'=>∃v,e = .returned v∧Rows.measureHellySpec.post enc Tryz.prog Tryz.f4 false true false false W #[v0] v W':=fun h=>h.mono fun e W' ⟨he,hb⟩=>by
  subst he;refine⟨_,rfl,_,_,_,[],p0++[],[],hW', ?_, ?_,rfl,hb.frame _,fun h=>by cases h⟩
  ·exact trodAll_cons_mk (shut_bool Tryz.underlying4 _) trodAll_mk0
  ·exact trodAll_cons_mk (Below.trod qsy (by kernel_rfl) (of_decide_eq_true (by kernel_rfl)) h0 hb hl0) (trodAll_mk0)
 refine fin ?_;obtain⟨a0,len0,cap0,rfl⟩:=okWide_slice Tryz.underlying29 (hval 0 29 v0 rfl rfl)
 obtain⟨l0,hv0⟩:∃l,qb7 W (.slice a0 len0 cap0) l:=by
  obtain⟨fuel,hf⟩:=h0;rcases Go.Deep.open_slice_pairs Tryz.underlying29 Tryz.underlying24 (by kernel_rfl) rfl rfl (by kernel_rfl) (by kernel_rfl) hf with⟨hcs,_⟩|⟨a,len,cap,m,n,V0,V1,D0,D1,P0,P1,hcs,_,hl,hm,hmm,_,hcell⟩
  ·simp[Value.cells] at hcs
   obtain⟨rfl,rfl,rfl⟩:=hcs;exact⟨[],none,0,rfl,Nat.le_refl _,by decide,.inl rfl⟩
  ·simp[Value.cells] at hcs
   obtain⟨rfl,rfl,rfl⟩:=hcs;have hlm:len0≤m:=by rw[hmm];split<;>omega
   refine q4v (V0:=V0) (V1:=V1) hl hm fun i hi => ?_;obtain⟨c0,c1,t0,t1⟩:=hcell i (by omega);obtain⟨s0,e0,-,-⟩:=DataW.trod_string Tryz.underlying22 t0;obtain⟨s1,e1,-,-⟩:=DataW.trod_string Tryz.underlying22 t1;exact⟨c0,c1,⟨s0,by simpa using e0⟩,s1,by simpa using e1⟩
 exact q4u _ l0 W hg hv0
abbrev qma:Array Value:=#[.slice none 0 0]
theorem qvt(os:Os):laidMet Tryz.prog Rows.measureHellyRow.laid ((qnc os).forCall (fun _ _=>0) ⟨#[],qma,[]⟩).memory:=
 laidMet_of_run' 8 (by kernel_rfl) (by kernel_rfl)
theorem q01(os:Os){H:Type}(enc:TypeId × Value→H):∃places,DataW.whole enc Tryz.prog ((qnc os).forCall (fun _ _=>0) ⟨#[],qma,[]⟩).memory Tryz.f4.params.toList Rows.measureHellySpec.vars false qma.toList 8=some ([.nil],[],places):=
 ⟨[],by kernel_rfl⟩
theorem qvu(os:Os)(started:os.Started)(H:Type)(enc:TypeId × Value→H)(F:Stop.Interp):
  ReturnsInHanded {} Tryz.checked os 4 .any ((OpenSpec.ofChange Rows.measureHellySpec).preRow enc Tryz.prog Tryz.f4 Rows.measureHellyRow.domain false Rows.measureHellyRow.laid) (((OpenSpec.ofChange Rows.measureHellySpec).at F).post enc Tryz.prog Tryz.f4 false true false false):=by
 obtain⟨places,hx⟩:=q01 os enc
 refine returnsInHanded_of_row (C:=Tryz.checked) (s:=OpenSpec.ofChange Rows.measureHellySpec) q7s started (by kernel_rfl) Tryz.func4
  (witness_row_atRef (enc:=enc) (C:=Tryz.checked) false (qnc os) qma rfl (by kernel_rfl) (by kernel_rfl) (by kernel_rfl)
   (OpenSpec.preRow_of_cond 8 hx (by kernel_rfl) (fun k hk=>by cases hk) (by kernel_rfl) (qvt os))) ?_
 intro W base args ds gs before hval hW _ _ _ _ hsh _;exact qqo H enc W base args ds gs before hval hW hsh
theorem qxn:joinedFacts Tryz.pinned.checked.prog 4 Tryz.f4 (OpenSpec.ofChange Rows.measureHellySpec).bare Rows.measureHellyRow=true:=by
 unfold joinedFacts;simp only[Bool.and_eq_true]
 repeat' (refine And.intro ?_ ?_)
 all_goals decide +kernel
theorem q9h:Rows.measureHellyRow.wfByText (OpenSpec.ofChange Rows.measureHellySpec)=true:=by kernel_rfl
theorem q4w:false=Rows.measureHellyRow.goesBy Tryz.pinned.checked.prog:=by kernel_rfl
theorem q02:Rows.MeasureHellySaid:=
 OpenClaim.holds_of_cond 4 Tryz.f4 rfl rfl rfl rfl rfl rfl rfl ⟨rfl,rfl,rfl,rfl,rfl⟩ rfl rfl rfl rfl rfl (by kernel_rfl) Tryz.func4 qxn
  (of_decide_eq_true (by kernel_rfl)) (by unfold Func.isWrapper;first|(rw[if_pos (by decide +kernel)];kernel_rfl)|(rw[if_neg (by decide +kernel)];exact⟨rfl,rfl⟩))
  (fun os started H enc _ F=>by rw[OpenClaim.pre_eq_preRow];exact qvu os started H enc F)
theorem qxo(f:FuncId)(fn:Func)(hf:Tryz.pinned.checked.prog.funcNamed Rows.measureHellyRow.func=some f)(hfn:Tryz.pinned.checked.prog.funcs[f]? = some fn):
  true=Tryz.pinned.checked.prog.looks []∧∀(j:Nat) t,fn.params[j]? = some t→Tryz.pinned.checked.prog.wantsStandIn t=false:=by
 obtain rfl:f=4:=Option.some.inj ((show Tryz.prog.funcNamed Rows.measureHellyRow.func=some 4 by kernel_rfl).symm.trans hf) |>.symm;obtain rfl:fn=Tryz.f4:=(Option.some.inj (Tryz.func4.symm.trans hfn)).symm;refine⟨by kernel_rfl,fun j t ht => ?_⟩;rw[Tryz.params4] at ht;have h3:t=29:=by simpa using Array.mem_of_getElem? ht
 subst h3;exact(show Tryz.prog.wantsStandIn 29=false by kernel_rfl)
theorem helly_card:Rows.MeasureHellyCardSaid:=
 Claim7.holds_tied_plain_at .later [] _ _ _ _ q02 (fun _ h=>by cases h) q9h (fun _ h=>by cases h) measureHelly_row_tie rfl ⟨rfl,rfl⟩ (by kernel_rfl) rfl qxo q4w
end Go.Proofs.YtlinhlkgdlfefaaGreatDoor
