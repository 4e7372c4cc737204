/- MeasureAddsUp: its row and its card. -/
import Derived.Test.YthjagoogkkgelaaGreatDoorMAddsUp
import Derived.Test.YthjagoogkkgelaaGreatDoorCards
import Derived.Test.YthjagoogkkgelaaGreatDoorTie
import Derived.WalkKit
import Derived.ProofKit
import Derived.SevenTiedAt
import Derived.LaidLaws
import Derived.OpenShut
import Derived.Carry
import Derived.ChangeSlices
import Derived.Shelf.Vars
import Derived.Deep.DeepHandedRow
import Derived.Deep.DeepWitnessRowRef
set_option linter.all false
namespace Go.Proofs.YthjagoogkkgelaaGreatDoor
open Go.ChangeShapes Go.WideShapes Go.ChangeAt Go.RowKit
set_option maxRecDepth 100000
theorem zcj:ownKnob Tryz.prog.godebug=none:=by kernel_rfl
theorem zby:laidOutB Tryz.prog=true:=by kernel_rfl
theorem zaf:Tryz.prog.cellsOf 54=1:=by kernel_rfl
theorem zck{W:World}(h:W.ShapedOpen Tryz.prog):GW W:=by
 obtain⟨m,hm⟩:=cell_of_shapedOpen_int (g:=0) (k := .i64) h (by decide +kernel) (show _=some (#[.int .i64 0],3) by kernel_rfl) rfl (by kernel_rfl) (by kernel_rfl) Tryz.underlying3;exact⟨World.block_lt_of_cell? W _ hm,m,hm⟩
theorem qqf(H:Type)(enc:TypeId × Value→H)(W:World)(base:Nat)(args:Array Value)(ds gs:List (DataW H))(before:List MemPlace)
  (hval:∀(j:Nat) t v,Tryz.f5.params[j]? = some t→args[j]? = some v→Value.okWide Tryz.prog W .any base t v)
  (hW:DataW.Whole enc Tryz.prog Tryz.f5.params.toList Rows.measureAddsUpSpec.vars false W args.toList ds gs before) (hsh:W.ShapedOpen Tryz.prog):
  Calls Tryz.prog 5 args W fun e W'=>∃v,e = .returned v∧Rows.measureAddsUpSpec.post enc Tryz.prog Tryz.f5 false true false false W args v W':=by
 have hW':=hW;obtain⟨p,q,hA0,hV,rfl,hfz,hnd⟩:=hW;have hA:DataW.TrodAll enc Tryz.prog W 0 (fun _=>true) true Tryz.f5.params.toList args.toList ds p:=hA0;rw[Tryz.params5] at hA hval;obtain⟨v0,vs0,d0,ds0,p0,q0,hargs,rfl,rfl,h0,r0⟩:=trodAll_cons hA;obtain⟨v1,vs1,d1,ds1,p1,q1,rfl,rfl,rfl,h1,r1⟩:=trodAll_cons r0;obtain⟨rfl,rfl,rfl⟩:=trodAll_nil r1;obtain rfl:args=#[v0,v1]:=by cases args;simp_all
 obtain⟨rfl,rfl⟩:=trodVars_none hV;obtain⟨T,rfl,rfl,rfl,hT⟩:=open_int Tryz.underlying52 (hval 0 52 v0 rfl rfl) h0;have hTb:=bounds_u32 hT;clear hA0;have hg:=zck hsh;have h1k:=h1;have hlt:∀x ∈ p1,x.block<W.heap.size:=fun x hx=>by simpa using hW'.lt x (by simpa using hx)
 have fin:(Calls Tryz.prog 5 #[.int .u32 T,v1] W fun e w'=>e = .returned (.bool true)∧Below W.heap.size W w')→Calls Tryz.prog 5 #[.int .u32 T,v1] W fun e W'=>∃v,e = .returned v∧Rows.measureAddsUpSpec.post enc Tryz.prog Tryz.f5 false true false false W #[.int .u32 T,v1] v W':=fun h=>h.mono fun e W' ⟨he,hb⟩=>by
  subst he;refine⟨_,rfl,_,_,_,[],[]++(p1++[]),[],hW', ?_, ?_,rfl,hb.frame _,fun h=>by cases h⟩
  ·exact trodAll_cons_mk (shut_bool Tryz.underlying4 _) trodAll_mk0
  ·exact trodAll_cons_mk (shut_int Tryz.underlying52 hT) (trodAll_cons_mk (Below.trod zby (by kernel_rfl) (of_decide_eq_true (by kernel_rfl)) h1k hb hlt) trodAll_mk0)
 refine fin ?_;obtain⟨a0,len0,cap0,rfl⟩:=okWide_slice Tryz.underlying53 (hval 1 53 v1 rfl rfl);obtain⟨fuel,hf⟩:=h1;rcases open_ints Tryz.underlying53 Tryz.underlying54 zaf hf with⟨hcs,_⟩|⟨a,len,cap,zs,hcs,_,hl,hm,hz,_,hcell,hwz⟩
 ·simp[Value.cells] at hcs
  obtain⟨rfl,rfl,rfl⟩:=hcs;exact qqe T _ 0 0 W hg (.inl rfl) (by decide)
 ·simp[Value.cells] at hcs
  obtain⟨rfl,rfl,rfl⟩:=hcs
  have hlz:len0≤zs.length:=by
   rw[hz];split<;>omega
  by_cases hn:len0=0∨8<len0
  ·exact qqe T _ len0 cap0 W hg hn (by omega)
  ·have hln:(zs.take len0).length=len0:=by rw[List.length_take];omega
   have h:=qxc T (some a) (zs.take len0) cap0 W hg hTb.1 (by omega) (by rw[hln];omega) (by rw[hln];omega) ⟨.inr ?_, ?_⟩
   ·rw[hln] at h
    exact h
   ·obtain⟨b,o,sp⟩:=a
    obtain rfl:sp=none:=by simpa [Addr.add] using World.cell?_spot (hcell 0 (by omega))
    refine⟨b,o,rfl,fun j x hj => ?_⟩;have hj2:j<len0:=by rw[←hln];exact(List.getElem?_eq_some_iff.1 hj).1
    rw[List.getElem?_take_of_lt hj2] at hj;have h2:=hcell j (by omega);rw[add_plain,List.getD_eq_getElem?_getD,hj] at h2;exact h2
   ·intro x hx
    have:=bounds_u16 (hwz x (List.mem_of_mem_take hx));omega
def zbz:DataW Unit→Value
 | .lit (.int k n) => .int k n
 | _ => .bool false
def q7l:DataW Unit→Array Value
 | .agg l=>(l.map zbz).toArray
 | _=>#[]
def zb0:DataW Unit→Array Value
 | .agg l=>(l.flatMap fun d=>match d with
  | .agg m=>m.map zbz
  | _=>[]).toArray
 | _=>#[]
def q4y:DataW Unit→ByteArray
 | .iface _ (.ptr (.agg [.lit (.string l)]))=>⟨l.toArray⟩
 | _=>⟨#[]⟩
noncomputable def zb1:Nat:=(World.holding Tryz.prog default ⟨#[],#[],[]⟩).heap.size
def qxd(h:Array Obj)(g:Nat)(cs:Array Value):Array Obj:=h.modify g fun
 | .cells _ t frozen => .cells cs t frozen
 | o=>o
noncomputable def qxe(os:Os):World:=
 let w0:=World.holding Tryz.prog os ⟨#[.cells #[.string (q4y Rows.laid_strconv_ErrRange)] 292,.cells #[.string (q4y Rows.laid_strconv_ErrSyntax)] 292],#[],[]⟩
 { w0 with heap:=qxd (qxd (qxd (qxd (qxd (qxd (qxd w0.heap 8 (q7l Rows.laid_math_bits_deBruijn32tab)) 9 (q7l Rows.laid_math_bits_deBruijn64tab)) 7 (q7l Rows.laid_internal_strconv_uint64pow10)) 6 (zb0 Rows.laid_unicode_utf8_acceptRanges))
   4 #[.iface 290 (.pointer (some ⟨zb1,0,none⟩))]) 3 #[.iface 290 (.pointer (some ⟨zb1+1,0,none⟩))]) 5 (q7l Rows.laid_unicode_utf8_first) }
abbrev qyq:Array Value:=#[.int .u32 0,.slice none 0 0]
theorem q4z(os:Os):laidMet Tryz.prog Rows.measureAddsUpRow.laid ((qxe os).forCall (fun _ _=>0) ⟨#[],qyq,[]⟩).memory:=
 laidMet_of_run' 8 (by kernel_rfl) (by kernel_rfl)
end Go.Proofs.YthjagoogkkgelaaGreatDoor
