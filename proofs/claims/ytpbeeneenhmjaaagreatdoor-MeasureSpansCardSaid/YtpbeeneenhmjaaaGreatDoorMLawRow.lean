/- What the rows of all laws of a seat need: the world of the witness, in which the listed variables hold what their initialisers lay. -/
import Derived.Test.YtpbeeneenhmjaaaGreatDoorMRead
import Derived.Test.YtpbeeneenhmjaaaGreatDoorCards
import Derived.Test.YtpbeeneenhmjaaaGreatDoorTie
import Derived.WalkKit
import Derived.ProofKit
import Derived.SevenTiedAt
import Derived.LaidLaws
import Derived.OpenShut
import Derived.Carry
import Derived.ChangeSlices
import Derived.Shelf.Vars
import Derived.Deep.DeepHandedRow
import Derived.Deep.DeepWitnessRowRef
set_option linter.all false
namespace Go.Proofs.YtpbeeneenhmjaaaGreatDoor
open Go.ChangeShapes Go.WideShapes Go.ChangeAt Go.RowKit
theorem q72:ownKnob Tryz.prog.godebug=none:=by kernel_rfl
theorem qtp:laidOutB Tryz.prog=true:=by kernel_rfl
theorem qvx{W:World}(h:W.ShapedOpen Tryz.prog):GW W:=by
 obtain⟨m,hm⟩:=cell_of_shapedOpen_int (g:=0) (k := .i64) h (by decide +kernel) (show _=some (#[.int .i64 0],3) by kernel_rfl) rfl (by kernel_rfl) (by kernel_rfl) Tryz.underlying3;exact⟨World.block_lt_of_cell? W _ hm,m,hm⟩
def za0:DataW Unit→Value
 | .lit (.int k n) => .int k n
 | _ => .bool false
def q7g:DataW Unit→Array Value
 | .agg l=>(l.map za0).toArray
 | _=>#[]
def za1:DataW Unit→Array Value
 | .agg l=>(l.flatMap fun d=>match d with
  | .agg m=>m.map za0
  | _=>[]).toArray
 | _=>#[]
def q5g:DataW Unit→ByteArray
 | .iface _ (.ptr (.agg [.lit (.string l)]))=>⟨l.toArray⟩
 | _=>⟨#[]⟩
noncomputable def za2:Nat:=(World.holding Tryz.prog default ⟨#[],#[],[]⟩).heap.size
def qxx(h:Array Obj)(g:Nat)(cs:Array Value):Array Obj:=h.modify g fun
 | .cells _ t frozen => .cells cs t frozen
 | o=>o
noncomputable def qnv(os:Os):World:=
 let w0:=World.holding Tryz.prog os ⟨#[.cells #[.string (q5g Rows.laid_strconv_ErrRange)] 284,.cells #[.string (q5g Rows.laid_strconv_ErrSyntax)] 284],#[],[]⟩
 { w0 with heap:=qxx (qxx (qxx (qxx (qxx (qxx (qxx w0.heap 8 (q7g Rows.laid_math_bits_deBruijn32tab)) 9 (q7g Rows.laid_math_bits_deBruijn64tab)) 7 (q7g Rows.laid_internal_strconv_uint64pow10)) 6 (za1 Rows.laid_unicode_utf8_acceptRanges))
   4 #[.iface 282 (.pointer (some ⟨za2,0,none⟩))]) 3 #[.iface 282 (.pointer (some ⟨za2+1,0,none⟩))]) 5 (q7g Rows.laid_unicode_utf8_first) }
end Go.Proofs.YtpbeeneenhmjaaaGreatDoor
