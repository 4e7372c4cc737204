/- What the rows of all laws of a seat need: the world of the witness, in which the listed variables hold what their initialisers lay. -/
import Derived.Test.YthjagoogkkgelaaGreatDoorMRead
import Derived.Test.YthjagoogkkgelaaGreatDoorCards
import Derived.Test.YthjagoogkkgelaaGreatDoorTie
import Derived.WalkKit
import Derived.ProofKit
import Derived.SevenTiedAt
import Derived.LaidLaws
import Derived.OpenShut
import Derived.Carry
import Derived.ChangeSlices
import Derived.Shelf.Vars
import Derived.Deep.DeepHandedRow
import Derived.Deep.DeepWitnessRowRef
import Derived.Test.YthjagoogkkgelaaGreatDoorMNv
import Derived.Deep.SlicePairs
set_option linter.all false
namespace Go.Proofs.YthjagoogkkgelaaGreatDoor
open Go.ChangeShapes Go.WideShapes Go.ChangeAt Go.RowKit
theorem q8i:ownKnob Tryz.prog.godebug=none:=by kernel_rfl
theorem qw8:laidOutB Tryz.prog=true:=by kernel_rfl
theorem qva{W:World}(h:W.ShapedOpen Tryz.prog):GW W:=by
 obtain⟨m,hm⟩:=cell_of_shapedOpen_int (g:=0) (k := .i64) h (by decide +kernel) (show _=some (#[.int .i64 0],3) by kernel_rfl) rfl (by kernel_rfl) (by kernel_rfl) Tryz.underlying3;exact⟨World.block_lt_of_cell? W _ hm,m,hm⟩
def zbu:DataW Unit→Value
 | .lit (.int k n) => .int k n
 | _ => .bool false
def q7i:DataW Unit→Array Value
 | .agg l=>(l.map zbu).toArray
 | _=>#[]
def zbv:DataW Unit→Array Value
 | .agg l=>(l.flatMap fun d=>match d with
  | .agg m=>m.map zbu
  | _=>[]).toArray
 | _=>#[]
def q4u:DataW Unit→ByteArray
 | .iface _ (.ptr (.agg [.lit (.string l)]))=>⟨l.toArray⟩
 | _=>⟨#[]⟩
noncomputable def zbw:Nat:=(World.holding Tryz.prog default ⟨#[],#[],[]⟩).heap.size
def qw9(h:Array Obj)(g:Nat)(cs:Array Value):Array Obj:=h.modify g fun
 | .cells _ t frozen => .cells cs t frozen
 | o=>o
noncomputable def qni(os:Os):World:=
 let w0:=World.holding Tryz.prog os ⟨#[.cells #[.string (q4u Rows.laid_strconv_ErrRange)] 292,.cells #[.string (q4u Rows.laid_strconv_ErrSyntax)] 292],#[],[]⟩
 { w0 with heap:=qw9 (qw9 (qw9 (qw9 (qw9 (qw9 (qw9 w0.heap 8 (q7i Rows.laid_math_bits_deBruijn32tab)) 9 (q7i Rows.laid_math_bits_deBruijn64tab)) 7 (q7i Rows.laid_internal_strconv_uint64pow10)) 6 (zbv Rows.laid_unicode_utf8_acceptRanges))
   4 #[.iface 290 (.pointer (some ⟨zbw,0,none⟩))]) 3 #[.iface 290 (.pointer (some ⟨zbw+1,0,none⟩))]) 5 (q7i Rows.laid_unicode_utf8_first) }
end Go.Proofs.YthjagoogkkgelaaGreatDoor
namespace Go.Proofs.YthjagoogkkgelaaGreatDoor
open Go.RowKit
def zao:Value→ByteArray
 | .string s=>s
 | _=>⟨#[]⟩
theorem q7j(b o n:Nat):(⟨b,o,none⟩:Addr).add n=⟨b,o+n,none⟩:=by
 unfold Addr.add;split
 ·rename_i h
  rw[h];rfl
 ·rfl
theorem q4v{W:World}{a:Addr}{len cap:Nat}{V0 V1:Nat→Value}(hl:len≤cap)(hm:cap≤maxLen)
  (h:∀i,i<len→W.cell? (a.add (i*2))=some (V0 i)∧W.cell? (a.add (i*2+1))=some (V1 i)∧(∃s,V0 i = .string s)∧∃s,V1 i = .string s):∃l,qbr W (.slice (some a) len cap) l:=by
 have hlen:((List.range len).map fun i=>(zao (V0 i),zao (V1 i))).length=len:=by rw[List.length_map,List.length_range]
 refine⟨(List.range len).map fun i=>(zao (V0 i),zao (V1 i)),some a,cap,by rw[hlen],by rw[hlen];exact hl,hm, ?_⟩;rw[hlen];by_cases hn:len=0
 ·exact .inl hn
 ·obtain⟨b,o,sp⟩:=a
  obtain rfl:sp=none:=by simpa [Addr.add] using World.cell?_spot (h 0 (by omega)).1
  refine .inr ⟨b,o,rfl,fun j s hj => ?_⟩;rw[List.getElem?_map] at hj;obtain⟨i,hi,rfl⟩:=Option.map_eq_some_iff.1 hj
  have hji:j<len:=by
   have:=(List.getElem?_eq_some_iff.1 hi).1
   rwa [List.length_range] at this
  rw[List.getElem?_range hji] at hi;cases hi
  obtain⟨c0,c1,⟨s0,e0⟩,s1,e1⟩:=h j hji;rw[q7j] at c0 c1;rw[e0] at c0;rw[e1] at c1;show W.cell? ⟨b,_,none⟩=some (.string (zao (V0 j)))∧W.cell? ⟨b,_,none⟩=some (.string (zao (V1 j)));rw[e0,e1];exact⟨c0,c1⟩
end Go.Proofs.YthjagoogkkgelaaGreatDoor
