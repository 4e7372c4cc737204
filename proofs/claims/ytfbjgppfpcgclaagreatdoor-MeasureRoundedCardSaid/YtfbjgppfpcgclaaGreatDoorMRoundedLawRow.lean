/- MeasureRounded: its row. -/
import Derived.Test.YtfbjgppfpcgclaaGreatDoorMRoundedLaw
import Derived.Test.YtfbjgppfpcgclaaGreatDoorMLawRow
import Derived.ChangeMaps5
import Derived.Lib.SmallJoins
set_option linter.all false
namespace Go.Proofs.YtfbjgppfpcgclaaGreatDoor
open Go.ChangeShapes Go.WideShapes Go.ChangeAt Go.RowKit
set_option maxRecDepth 100000
theorem qk5(H:Type)(enc:TypeId × Value→H)(W:World)(base:Nat)(args:Array Value)(ds gs:List (DataW H))(before:List MemPlace)
  (hval:∀(j:Nat) t v,Tryz.f4.params[j]? = some t→args[j]? = some v→Value.okWide Tryz.prog W .any base t v)
  (hW:DataW.Whole enc Tryz.prog Tryz.f4.params.toList Rows.measureRoundedSpec.vars false W args.toList ds gs before) (hsh:W.ShapedOpen Tryz.prog):
  Calls Tryz.prog 4 args W fun e W'=>∃v,e = .returned v∧Rows.measureRoundedSpec.post enc Tryz.prog Tryz.f4 false true false false W args v W':=by
 have hW':=hW
 obtain⟨p,q,hA0,hV,rfl,hfz,hnd⟩:=hW
 have hA:DataW.TrodAll enc Tryz.prog W 0 (fun _=>true) true Tryz.f4.params.toList args.toList ds p:=hA0
 rw[Tryz.params4] at hA hval
 obtain⟨v0,vs0,d0,ds0,p0,q0,hargs,rfl,rfl,h0,r0⟩:=trodAll_cons hA
 obtain⟨v1,vs1,d1,ds1,p1,q1,rfl,rfl,rfl,h1,r1⟩:=trodAll_cons r0
 obtain⟨v2,vs2,d2,ds2,p2,q2,rfl,rfl,rfl,h2,r2⟩:=trodAll_cons r1
 obtain⟨rfl,rfl,rfl⟩:=trodAll_nil r2
 obtain rfl:args=#[v0,v1,v2]:=by cases args;simp_all
 obtain⟨rfl,rfl⟩:=trodVars_none hV
 clear hA0
 have hg:=q3a hsh
 have hlt:∀x ∈ p0++(p1++(p2++[])),x.block<W.heap.size:=fun x hx=>by simpa using hW'.lt x (by simpa using hx)
 have hl0:∀x ∈ p0,x.block<W.heap.size:=fun x hx=>hlt x (by simp[hx])
 have hl1:∀x ∈ p1,x.block<W.heap.size:=fun x hx=>hlt x (by simp[hx])
 have hl2:∀x ∈ p2,x.block<W.heap.size:=fun x hx=>hlt x (by simp[hx])
 have fin:(Calls Tryz.prog 4 #[v0,v1,v2] W fun e w'=>e = .returned (.bool true)∧Below W.heap.size W w')→Calls Tryz.prog 4 #[v0,v1,v2] W fun e W'=>∃v,e = .returned v∧Rows.measureRoundedSpec.post enc Tryz.prog Tryz.f4 false true false false W #[v0,v1,v2] v W':=fun h=>h.mono fun e W' ⟨he,hb⟩=>by
  subst he
  refine⟨_,rfl,_,_,_,[],p0++(p1++(p2++[])),[],hW', ?_, ?_,rfl,hb.frame _,fun h=>by cases h⟩
  ·exact trodAll_cons_mk (shut_bool Tryz.underlying4 _) trodAll_mk0
  ·exact trodAll_cons_mk (Below.trod qwe (by kernel_rfl) (of_decide_eq_true (by kernel_rfl)) h0 hb hl0) (trodAll_cons_mk (Below.trod qwe (by kernel_rfl) (of_decide_eq_true (by kernel_rfl)) h1 hb hl1) (trodAll_cons_mk (Below.trod qwe (by kernel_rfl) (of_decide_eq_true (by kernel_rfl)) h2 hb hl2) (trodAll_mk0)))
 refine fin ?_
 obtain⟨s0,rfl,-,-,-⟩:=Go.ChangeMaps.open_string Tryz.underlying22 (hval 0 22 v0 rfl rfl) h0
 obtain⟨s1,rfl,-,-,-⟩:=Go.ChangeMaps.open_string Tryz.underlying22 (hval 1 22 v1 rfl rfl) h1
 obtain⟨x2,z2,y2,u2,n2,rfl,-,-,t2,g2⟩:=Go.Joins.open_agg2 Tryz.underlying40 (by kernel_rfl) (by kernel_rfl) (hval 2 40 v2 rfl rfl) h2
 obtain⟨s2,e2,-,-⟩:=DataW.trod_string Tryz.underlying9 t2
 obtain⟨r2,q2,-,-⟩:=DataW.trod_string Tryz.underlying22 g2
 obtain rfl:x2 = .string s2:=by simpa using e2
 obtain rfl:z2 = .string r2:=by simpa using q2
 exact qwd s0 s1 s2 r2 W hg
abbrev qfr:Array Value:=#[.string ⟨#[]⟩,.string ⟨#[]⟩,.agg #[.string ⟨#[]⟩,.string ⟨#[]⟩]]
theorem qng(os:Os):laidMet Tryz.prog Rows.measureRoundedRow.laid ((qwg os).forCall (fun _ _=>0) ⟨#[],qfr,[]⟩).memory:=
 laidMet_of_run' 8 (by kernel_rfl) (by kernel_rfl)
end Go.Proofs.YtfbjgppfpcgclaaGreatDoor
