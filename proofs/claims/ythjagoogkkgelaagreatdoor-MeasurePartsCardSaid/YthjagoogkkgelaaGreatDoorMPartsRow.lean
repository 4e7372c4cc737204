/- MeasureParts: its row. -/
import Derived.Test.YthjagoogkkgelaaGreatDoorMParts
import Derived.Test.YthjagoogkkgelaaGreatDoorMLawRow
set_option linter.all false
namespace Go.Proofs.YthjagoogkkgelaaGreatDoor
open Go.ChangeShapes Go.WideShapes Go.ChangeAt Go.RowKit
set_option maxRecDepth 100000
theorem qxa:Tryz.prog.cellsOf 3=1:=by kernel_rfl
theorem qqx(H:Type)(enc:TypeId × Value→H)(W:World)(base:Nat)(args:Array Value)(ds gs:List (DataW H))(before:List MemPlace)
  (hval:∀(j:Nat) t v,Tryz.f4.params[j]? = some t→args[j]? = some v→Value.okWide Tryz.prog W .any base t v)
  (hW:DataW.Whole enc Tryz.prog Tryz.f4.params.toList Rows.measurePartsSpec.vars false W args.toList ds gs before) (hsh:W.ShapedOpen Tryz.prog):
  Calls Tryz.prog 4 args W fun e W'=>∃v,e = .returned v∧Rows.measurePartsSpec.post enc Tryz.prog Tryz.f4 false true false false W args v W':=by
 have hW':=hW;obtain⟨p,q,hA0,hV,rfl,hfz,hnd⟩:=hW;have hA:DataW.TrodAll enc Tryz.prog W 0 (fun _=>true) true Tryz.f4.params.toList args.toList ds p:=hA0;rw[Tryz.params4] at hA hval;obtain⟨v0,vs0,d0,ds0,p0,q0,hargs,rfl,rfl,h0,r0⟩:=trodAll_cons hA;obtain⟨v1,vs1,d1,ds1,p1,q1,rfl,rfl,rfl,h1,r1⟩:=trodAll_cons r0;obtain⟨rfl,rfl,rfl⟩:=trodAll_nil r1;obtain rfl:args=#[v0,v1]:=by cases args;simp_all
 obtain⟨rfl,rfl⟩:=trodVars_none hV;obtain⟨T,rfl,rfl,rfl,hT⟩:=open_int Tryz.underlying3 (hval 0 3 v0 rfl rfl) h0;clear hA0;have hg:=qva hsh;have h1k:=h1;have hlt:∀x ∈ p1,x.block<W.heap.size:=fun x hx=>by simpa using hW'.lt x (by simpa using hx)
 have fin:(Calls Tryz.prog 4 #[.int .i64 T,v1] W fun e w'=>e = .returned (.bool true)∧Below W.heap.size W w')→Calls Tryz.prog 4 #[.int .i64 T,v1] W fun e W'=>∃v,e = .returned v∧Rows.measurePartsSpec.post enc Tryz.prog Tryz.f4 false true false false W #[.int .i64 T,v1] v W':=fun h=>h.mono fun e W' ⟨he,hb⟩=>by
  subst he;refine⟨_,rfl,_,_,_,[],[]++(p1++[]),[],hW', ?_, ?_,rfl,hb.frame _,fun h=>by cases h⟩
  ·exact trodAll_cons_mk (shut_bool Tryz.underlying4 _) trodAll_mk0
  ·exact trodAll_cons_mk (shut_int Tryz.underlying3 hT) (trodAll_cons_mk (Below.trod qw8 (by kernel_rfl) (of_decide_eq_true (by kernel_rfl)) h1k hb hlt) trodAll_mk0)
 refine fin ?_;obtain⟨a0,len0,cap0,rfl⟩:=okWide_slice Tryz.underlying23 (hval 1 23 v1 rfl rfl);obtain⟨fuel,hf⟩:=h1;rcases open_ints Tryz.underlying23 Tryz.underlying3 qxa hf with⟨hcs,_⟩|⟨a,len,cap,zs,hcs,_,hl,hm,hz,_,hcell,hwz⟩
 ·simp[Value.cells] at hcs
  obtain⟨rfl,rfl,rfl⟩:=hcs;exact qu9 T none 0 [] W hg ⟨none,0,rfl,Nat.le_refl _,by decide,.inl rfl⟩
 ·simp[Value.cells] at hcs
  obtain⟨rfl,rfl,rfl⟩:=hcs
  have hlz:len0≤zs.length:=by
   rw[hz];split<;>omega
  have hln:(zs.take len0).length=len0:=by rw[List.length_take];omega
  have h:=qu9 T (some a) cap0 (zs.take len0) W hg ⟨some a,cap0,rfl,by rw[hln];exact hl,hm, ?_⟩
  ·rw[hln] at h
   exact h
  ·by_cases hn:len0=0
   ·exact .inl (by rw[hln];exact hn)
   ·obtain⟨b,o,sp⟩:=a
    obtain rfl:sp=none:=by simpa [Addr.add] using World.cell?_spot (hcell 0 (by omega))
    refine .inr ⟨b,o,rfl,fun j hj => ?_⟩;rw[hln] at hj;have h2:=hcell j (by omega);rw[add_plain] at h2;rw[h2];unfold iv;rw[List.getD_eq_getElem?_getD,List.getD_eq_getElem?_getD,List.getElem?_take_of_lt hj]
abbrev qyo:Array Value:=#[.int .i64 0,.slice none 0 0]
theorem q4w(os:Os):laidMet Tryz.prog Rows.measurePartsRow.laid ((qni os).forCall (fun _ _=>0) ⟨#[],qyo,[]⟩).memory:=
 laidMet_of_run' 8 (by kernel_rfl) (by kernel_rfl)
end Go.Proofs.YthjagoogkkgelaaGreatDoor
