/- Matter where there is no error; the reference's FromInt and CheckMoisture. -/
import Derived.Test.YtlinhlkgdlfefaaGreatDoorMKeeps
import Derived.Test.YtlinhlkgdlfefaaGreatDoorMMix
import Derived.Deep.RegionHeld3
set_option linter.all false
namespace Go.Proofs.YtlinhlkgdlfefaaGreatDoor
open Go.RowKit
set_option maxRecDepth 100000
theorem q6x(n:Nat)(w:World)(hn:n<9223372036854775808):
  Calls Tryz.prog 49 #[.int .i64 (n:Int)] w (qnv ((n:Int):Rat) w):=by
 have HW:=hid (q7d n w hn)
 have HT:Hid (∀W v,qcy W v (n:Int)→Calls Tryz.prog 94 #[v] W fun e w'=>e = .returned (.string (rt ((n:Int):Rat)))∧Below W.heap.size W w'):=hid fun W v hv=>
  (q25 v _ W hv (by rw[Int.natAbs_natCast];have:=qd1 (k:=19) (n:=n) (by omega) (by decide);omega)).mono fun _ _ ⟨⟨t,he,h1⟩,h2⟩=>by
   refine⟨?_,h2⟩;rw[he,q7k]
   congr 2
   exact qb4 (by rw[h1])
 clear hn;unfold qnv;generalize rt ((n:Int):Rat)=tr at *;go_enter Tryz.func49,Tryz.ntmps49;go_wp2_with fail;refine HW.out.mono ?_;rintro e w1 ⟨⟨v,rfl,hv⟩,hb⟩;have HV:=hid hv;have HB:=hid hb;clear hv hb HW;go_wp2_with fail;refine(HT.out _ _ HV.out).mono ?_;rintro e w2 ⟨rfl,hb⟩;have HB2:=hid (HB.out.trans (hb.mono HB.out.size));clear hb HT HV;go_wp2_with fail;go_ret;exact⟨rfl,HB2.out⟩
end Go.Proofs.YtlinhlkgdlfefaaGreatDoor
namespace Go.Proofs.YtlinhlkgdlfefaaGreatDoor
set_option maxRecDepth 100000
open Go.RowKit
end Go.Proofs.YtlinhlkgdlfefaaGreatDoor
