/- What the rows of all laws of a seat need: the world of the witness, in which the listed variables hold what their initialisers lay. -/
import Derived.Test.YtlkaldjmgamamaaGreatDoorMRead
import Derived.Test.YtlkaldjmgamamaaGreatDoorCards
import Derived.Test.YtlkaldjmgamamaaGreatDoorTie
import Derived.WalkKit
import Derived.ProofKit
import Derived.SevenTiedAt
import Derived.LaidLaws
import Derived.OpenShut
import Derived.Carry
import Derived.ChangeSlices
import Derived.Shelf.Vars
import Derived.Deep.DeepHandedRow
import Derived.Deep.DeepWitnessRowRef
set_option linter.all false
namespace Go.Proofs.YtlkaldjmgamamaaGreatDoor
open Go.ChangeShapes Go.WideShapes Go.ChangeAt Go.RowKit
theorem q7h:ownKnob Tryz.prog.godebug=none:=by kernel_rfl
theorem qsm:laidOutB Tryz.prog=true:=by kernel_rfl
theorem quw{W:World}(h:W.ShapedOpen Tryz.prog):GW W:=by
 obtain⟨m,hm⟩:=cell_of_shapedOpen_int (g:=0) (k := .i64) h (by decide +kernel) (show _=some (#[.int .i64 0],3) by kernel_rfl) rfl (by kernel_rfl) (by kernel_rfl) Tryz.underlying3;exact⟨World.block_lt_of_cell? W _ hm,m,hm⟩
def zab:DataW Unit→Value
 | .lit (.int k n) => .int k n
 | _ => .bool false
def q6q:DataW Unit→Array Value
 | .agg l=>(l.map zab).toArray
 | _=>#[]
def zac:DataW Unit→Array Value
 | .agg l=>(l.flatMap fun d=>match d with
  | .agg m=>m.map zab
  | _=>[]).toArray
 | _=>#[]
def q4d:DataW Unit→ByteArray
 | .iface _ (.ptr (.agg [.lit (.string l)]))=>⟨l.toArray⟩
 | _=>⟨#[]⟩
noncomputable def zad:Nat:=(World.holding Tryz.prog default ⟨#[],#[],[]⟩).heap.size
def qwx(h:Array Obj)(g:Nat)(cs:Array Value):Array Obj:=h.modify g fun
 | .cells _ t frozen => .cells cs t frozen
 | o=>o
noncomputable def qm8(os:Os):World:=
 let w0:=World.holding Tryz.prog os ⟨#[.cells #[.string (q4d Rows.laid_strconv_ErrRange)] 284,.cells #[.string (q4d Rows.laid_strconv_ErrSyntax)] 284],#[],[]⟩
 { w0 with heap:=qwx (qwx (qwx (qwx (qwx (qwx (qwx w0.heap 8 (q6q Rows.laid_math_bits_deBruijn32tab)) 9 (q6q Rows.laid_math_bits_deBruijn64tab)) 7 (q6q Rows.laid_internal_strconv_uint64pow10)) 6 (zac Rows.laid_unicode_utf8_acceptRanges))
   4 #[.iface 282 (.pointer (some ⟨zad,0,none⟩))]) 3 #[.iface 282 (.pointer (some ⟨zad+1,0,none⟩))]) 5 (q6q Rows.laid_unicode_utf8_first) }
end Go.Proofs.YtlkaldjmgamamaaGreatDoor
