/- Matter where there is no error; the reference's FromInt and CheckMoisture. -/
import Derived.Test.YtlkdlffhmakbgaaGreatDoorMKeeps
import Derived.Test.YtlkdlffhmakbgaaGreatDoorMMix
import Derived.Deep.RegionHeld3
import Derived.Test.YtlkdlffhmakbgaaGreatDoorMMean
import Derived.IntWalk
set_option linter.all false
namespace Go.Proofs.YtlkdlffhmakbgaaGreatDoor
open Go.RowKit
set_option maxRecDepth 100000
theorem q6g(n:Nat)(w:World)(hn:n<9223372036854775808):
  Calls Tryz.prog 36 #[.int .i64 (n:Int)] w (qq0 ((n:Int):Rat) w):=by
 have HW:=hid (q6v n w hn)
 have HT:Hid (∀W v,qdb W v (n:Int)→Calls Tryz.prog 84 #[v] W fun e w'=>e = .returned (.string (rt ((n:Int):Rat)))∧Below W.heap.size W w'):=hid fun W v hv=>
  (q2p v _ W hv (by rw[Int.natAbs_natCast];have:=qd0 (k:=19) (n:=n) (by omega) (by decide);omega)).mono fun _ _ ⟨⟨t,he,h1⟩,h2⟩=>by
   refine⟨?_,h2⟩;rw[he,q64]
   congr 2
   exact qca (by rw[h1])
 clear hn;unfold qq0;generalize rt ((n:Int):Rat)=tr at *;go_enter Tryz.func36,Tryz.ntmps36;go_wp2_with fail;refine HW.out.mono ?_;rintro e w1 ⟨⟨v,rfl,hv⟩,hb⟩;have HV:=hid hv;have HB:=hid hb;clear hv hb HW;go_wp2_with fail;refine(HT.out _ _ HV.out).mono ?_;rintro e w2 ⟨rfl,hb⟩;have aK:=hid (HB.out.trans (hb.mono HB.out.size));clear hb HT HV;go_wp2_with fail;go_ret;exact⟨rfl,aK.out⟩
end Go.Proofs.YtlkdlffhmakbgaaGreatDoor
namespace Go.Proofs.YtlkdlffhmakbgaaGreatDoor
set_option maxRecDepth 100000
open Go.RowKit
end Go.Proofs.YtlkdlffhmakbgaaGreatDoor
namespace Go.Proofs.YtlkdlffhmakbgaaGreatDoor
open Go.RowKit
set_option maxRecDepth 100000
theorem zae:(⟨#[48]⟩:BA)=rt 0:=by kernel_rfl
theorem qxw(z:Int)(W:World)(h0:0≤z)(h1:z<9223372036854775808):Calls Tryz.prog 36 #[.int .i64 z] W (qq0 (z:Rat) W):=by
 have h:=q6g z.toNat W (by omega)
 rwa [Int.toNat_of_nonneg h0] at h
end Go.Proofs.YtlkdlffhmakbgaaGreatDoor
