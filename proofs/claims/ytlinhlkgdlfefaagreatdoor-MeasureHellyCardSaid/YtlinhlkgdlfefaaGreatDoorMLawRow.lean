/- What the rows of all laws of a seat need: the world of the witness, in which the listed variables hold what their initialisers lay. -/
import Derived.Test.YtlinhlkgdlfefaaGreatDoorMRead
import Derived.Test.YtlinhlkgdlfefaaGreatDoorCards
import Derived.Test.YtlinhlkgdlfefaaGreatDoorTie
import Derived.WalkKit
import Derived.ProofKit
import Derived.SevenTiedAt
import Derived.LaidLaws
import Derived.OpenShut
import Derived.Carry
import Derived.ChangeSlices
import Derived.Shelf.Vars
import Derived.Deep.DeepHandedRow
import Derived.Deep.DeepWitnessRowRef
set_option linter.all false
namespace Go.Proofs.YtlinhlkgdlfefaaGreatDoor
open Go.ChangeShapes Go.WideShapes Go.ChangeAt Go.RowKit
theorem q7s:ownKnob Tryz.prog.godebug=none:=by kernel_rfl
theorem qsy:laidOutB Tryz.prog=true:=by kernel_rfl
theorem qvk{W:World}(h:W.ShapedOpen Tryz.prog):GW W:=by
 obtain⟨m,hm⟩:=cell_of_shapedOpen_int (g:=0) (k := .i64) h (by decide +kernel) (show _=some (#[.int .i64 0],3) by kernel_rfl) rfl (by kernel_rfl) (by kernel_rfl) Tryz.underlying3;exact⟨World.block_lt_of_cell? W _ hm,m,hm⟩
def zar:DataW Unit→Value
 | .lit (.int k n) => .int k n
 | _ => .bool false
def q63:DataW Unit→Array Value
 | .agg l=>(l.map zar).toArray
 | _=>#[]
def zas:DataW Unit→Array Value
 | .agg l=>(l.flatMap fun d=>match d with
  | .agg m=>m.map zar
  | _=>[]).toArray
 | _=>#[]
def q4k:DataW Unit→ByteArray
 | .iface _ (.ptr (.agg [.lit (.string l)]))=>⟨l.toArray⟩
 | _=>⟨#[]⟩
noncomputable def zat:Nat:=(World.holding Tryz.prog default ⟨#[],#[],[]⟩).heap.size
def qxl(h:Array Obj)(g:Nat)(cs:Array Value):Array Obj:=h.modify g fun
 | .cells _ t frozen => .cells cs t frozen
 | o=>o
noncomputable def qnc(os:Os):World:=
 let w0:=World.holding Tryz.prog os ⟨#[.cells #[.string (q4k Rows.laid_strconv_ErrRange)] 282,.cells #[.string (q4k Rows.laid_strconv_ErrSyntax)] 282],#[],[]⟩
 { w0 with heap:=qxl (qxl (qxl (qxl (qxl (qxl (qxl w0.heap 8 (q63 Rows.laid_math_bits_deBruijn32tab)) 9 (q63 Rows.laid_math_bits_deBruijn64tab)) 7 (q63 Rows.laid_internal_strconv_uint64pow10)) 6 (zas Rows.laid_unicode_utf8_acceptRanges))
   4 #[.iface 280 (.pointer (some ⟨zat,0,none⟩))]) 3 #[.iface 280 (.pointer (some ⟨zat+1,0,none⟩))]) 5 (q63 Rows.laid_unicode_utf8_first) }
end Go.Proofs.YtlinhlkgdlfefaaGreatDoor
