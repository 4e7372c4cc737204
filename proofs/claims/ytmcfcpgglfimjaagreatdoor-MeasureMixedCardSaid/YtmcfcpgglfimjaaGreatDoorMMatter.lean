/- Matter where there is no error; the reference's FromInt and CheckMoisture. -/
import Derived.Test.YtmcfcpgglfimjaaGreatDoorMKeeps
import Derived.Test.YtmcfcpgglfimjaaGreatDoorMMix
import Derived.Deep.RegionHeld3
import Derived.Test.YtmcfcpgglfimjaaGreatDoorMMean
import Derived.IntWalk
set_option linter.all false
namespace Go.Proofs.YtmcfcpgglfimjaaGreatDoor
open Go.RowKit
set_option maxRecDepth 100000
theorem q6p(n:Nat)(w:World)(hn:n<9223372036854775808):
  Calls Tryz.prog 36 #[.int .i64 (n:Int)] w (qus ((n:Int):Rat) w):=by
 have HW:=hid (q64 n w hn)
 have HT:Hid (∀W v,qeg W v (n:Int)→Calls Tryz.prog 78 #[v] W fun e w'=>e = .returned (.string (rt ((n:Int):Rat)))∧Below W.heap.size W w'):=hid fun W v hv=>
  (q75 v _ W hv (by rw[Int.natAbs_natCast];have:=qf4 (k:=19) (n:=n) (by omega) (by decide);omega)).mono fun _ _ ⟨⟨t,he,h1⟩,h2⟩=>by
   refine⟨?_,h2⟩;rw[he,q7b]
   congr 2
   exact qb5 (by rw[h1])
 clear hn;unfold qus;generalize rt ((n:Int):Rat)=tr at *;go_enter Tryz.func36,Tryz.ntmps36;go_wp2_with fail;refine HW.out.mono ?_;rintro e w1 ⟨⟨v,rfl,hv⟩,hb⟩;have HV:=hid hv;have HB:=hid hb;clear hv hb HW;go_wp2_with fail;refine(HT.out _ _ HV.out).mono ?_;rintro e w2 ⟨rfl,hb⟩;have aK:=hid (HB.out.trans (hb.mono HB.out.size));clear hb HT HV;go_wp2_with fail;go_ret;exact⟨rfl,aK.out⟩
end Go.Proofs.YtmcfcpgglfimjaaGreatDoor
namespace Go.Proofs.YtmcfcpgglfimjaaGreatDoor
set_option maxRecDepth 100000
open Go.RowKit
end Go.Proofs.YtmcfcpgglfimjaaGreatDoor
namespace Go.Proofs.YtmcfcpgglfimjaaGreatDoor
open Go.RowKit
set_option maxRecDepth 100000
theorem zak:(⟨#[48]⟩:BA)=rt 0:=by kernel_rfl
theorem q6q(z:Int)(W:World)(h0:0≤z)(h1:z<9223372036854775808):Calls Tryz.prog 36 #[.int .i64 z] W (qus (z:Rat) W):=by
 have h:=q6p z.toNat W (by omega)
 rwa [Int.toNat_of_nonneg h0] at h
end Go.Proofs.YtmcfcpgglfimjaaGreatDoor
