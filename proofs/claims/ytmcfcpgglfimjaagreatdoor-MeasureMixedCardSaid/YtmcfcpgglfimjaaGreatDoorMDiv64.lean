/- math/bits.Div64: the quotient of a number of two words by one word. -/
import Derived.Test.YtmcfcpgglfimjaaGreatDoorMMaths
import Derived.Test.YtmcfcpgglfimjaaGreatDoorMMul
import Derived.Laws.Bits64b
import Derived.Test.YtmcfcpgglfimjaaGreatDoorShelf
import Derived.Deep.DeepCutAuto
import Derived.Deep.CutBlock
set_option linter.all false
namespace Go.Proofs.YtmcfcpgglfimjaaGreatDoor
open Go.RowKit
set_option maxRecDepth 100000
set_option maxHeartbeats 1000000
theorem qbn(a:Nat)(h:a<B64):IntKind.u64.wrap (a:Int)=(a:Int):=by rw[qaj] at h;exact qq7 a h
theorem qof(y:Nat)(h0:0<y)(h:y<2^64):1≤Lib.bitLen y∧2^(Lib.bitLen y-1)≤y∧y<2^Lib.bitLen y:=by
 induction y using Nat.strongRecOn with
 | ind y ih=>
  rw[Lib.bitLen_half y (by omega) h];rcases qas (y/2) with e|e
  ·rw[e,show Lib.bitLen 0=0 from rfl]
   simp;omega
  ·obtain⟨h1,h2,h3⟩:=ih (y/2) (by omega) e (by omega)
   generalize Lib.bitLen (y/2)=n at *;obtain⟨m,rfl⟩:∃m,n=m+1:=⟨n-1,by omega⟩;rw[show 1+(m+1)-1=m+1 from by omega,show 1+(m+1)=m+1+1 from by omega,Nat.pow_succ 2 (m+1)];rw[Nat.add_sub_cancel] at h2;rw[Nat.pow_succ] at *;omega
theorem q0v(y:Nat)(hy:0<y)(Da:y<B64):
  ∃s:Nat,s<64∧y*2^s<B64∧B64≤2*(y*2^s)∧∀w,Calls Tryz.prog 151 #[.int .u64 y] w fun e w'=>e = .returned (.int .i64 (s:Nat))∧w'=w:=by
 have h64:Lib.bitLen y≤64:=Lib.bitLen_le y 64 (by omega) (by rw[qaj] at Da;exact Da);obtain⟨h1,h2,h3⟩:=qof y hy (by rw[qaj] at Da;exact Da)
 have hB:B64=2^Lib.bitLen y*2^(64-Lib.bitLen y):=by
  rw[←Nat.pow_add,show Lib.bitLen y+(64-Lib.bitLen y)=64 from by omega];rfl
 have hp:(2:Nat)^Lib.bitLen y=2*2^(Lib.bitLen y-1):=by
  rw[Nat.mul_comm,←Nat.pow_succ,show(Lib.bitLen y-1).succ=Lib.bitLen y from by omega]
 refine⟨64-Lib.bitLen y,by omega, ?_, ?_,fun w => ?_⟩
 ·rw[hB];exact Nat.mul_lt_mul_of_pos_right h3 (Nat.two_pow_pos _)
 ·rw[hB,hp,←Nat.mul_assoc];exact Nat.mul_le_mul_right _ (Nat.mul_le_mul_left _ h2)
 ·have h:=Tryz.bits_LeadingZeros64 (y:Int) w (by omega) (by rw[qaj] at Da;omega)
  rw[Int.toNat_natCast] at h;rw[show((64-Lib.bitLen y:Nat):Int)=64-(Lib.bitLen y:Int) from by omega];exact h
theorem qqf{u u1 Q Y v:Nat}(h:Q*Y+v=u*4294967296+u1)(hv:v<B64):
  ∃a1 a2 a3:Nat,IntKind.u64.wrap ((u:Int)*4294967296)=(a1:Int)∧IntKind.u64.wrap ((a1:Int)+(u1:Int))=(a2:Int)∧IntKind.u64.wrap ((Q:Int)*(Y:Int))=(a3:Int)∧IntKind.u64.wrap ((a2:Int)-(a3:Int))=(v:Int):=by
 rw[qaj] at hv;refine⟨u*4294967296 % 18446744073709551616,(u*4294967296+u1) % 18446744073709551616,Q*Y % 18446744073709551616, ?_, ?_, ?_, ?_⟩
 ·rw[IntKind.wrap_u64];omega
 ·rw[IntKind.wrap_u64];omega
 ·rw[q6z];exact quu _
 ·generalize Q*Y=P at *
  rw[IntKind.wrap_u64];omega
theorem qyl(s:Nat)(hs:s<64)(w:World)(hi lo y Y y1 y0 u L u1 u0:Nat)(h1:0<hi)(h2:hi<y)(A V C R QV RV:Nat)
  (HZA:Hid ((u*4294967296+u1)/Y=A)) (mX:Hid (A*Y+V=u*4294967296+u1)) (iH:Hid (V<Y))
  (HZC:Hid ((V*4294967296+u0)/Y=C)) (kO:Hid (C*Y+R=V*4294967296+u0)) (lE:Hid (R<Y)) (Lw:Hid (QV=A*4294967296+C)) (Fv:Hid (RV=R/2^s))
  (sF:Hid (∀w,Calls Tryz.prog 151 #[.int .u64 y] w fun e w'=>e = .returned (.int .i64 (s:Nat))∧w'=w))
  (E1:IntKind.u64.wrap ((y:Int)*2^s)=(Y:Int)) (E2:(Y:Int)/4294967296=y1) (E3:bits .and .u64 (Y:Int) 4294967295=y0)
  (E4:bits .or .u64 (IntKind.u64.wrap ((hi:Int)*2^s)) ((lo:Int)/2^(64-s))=(u:Int))
  (E5:IntKind.u64.wrap ((lo:Int)*2^s)=(L:Int)) (E6:(L:Int)/4294967296=u1) (E7:bits .and .u64 (L:Int) 4294967295=u0)
  (HY:Hid (Y=y1*4294967296+y0)) (tK:Hid (y0<4294967296)) (HY1:Hid (4294967296≤2*y1)) (HU:Hid (u<Y)) (tM:Hid (Y<B64)) (uI:Hid (u1<4294967296)) (uJ:Hid (u0<4294967296)) (Az:Hid (y1<4294967296)):
  Calls Tryz.prog 185 #[.int .u64 hi,.int .u64 lo,.int .u64 y] w fun e w'=>
   e = .returned (.tuple #[.int .u64 (QV:Nat),.int .u64 (RV:Nat)])∧w=w':=by
 have eE:((y:Int)==0)=false:=qan (by omega);have aY:((hi:Int)==0)=false:=qan (by omega);have hy1p:0<y1:=by have:=HY1.out;omega
 have aR:((y1:Int)==0)=false:=qan (by omega);have Db:=uI;go_enter Tryz.func185,Tryz.ntmps185;have HS:=qn8 (u1:=u1) HY.out tK.out HY1.out hy1p Db.out HU.out;obtain⟨dL,fN,tN⟩:=HS;have cO:Hid (u/y1≤4294967297):=hid fN;have nH:Hid ((u*4294967296+u1)/Y<4294967296):=hid (qwt HU.out Db.out);have rN:Hid (u % y1<4294967296):=by refine hid ?_;have:=Nat.mod_lt u hy1p;have:=Az.out;omega
 have Ab:Hid (u/y1*y1+u % y1=u):=hid tN;have qR:Hid ((u*4294967296+u1)/Y≤u/y1):=hid dL
 have E8:IntKind.u64.wrap ((u:Int)/(y1:Int))=((u/y1:Nat):Int):=by
  rw[←Int.natCast_ediv];exact qbn _ (by have:=cO.out;rw[qaj];omega)
 have E9:IntKind.u64.wrap (((u/y1:Nat):Int)*(y1:Int))=((u/y1*y1:Nat):Int):=by
  rw[q6z];exact qbn _ (by have:=HU.out;have:=tM.out;omega)
 have E10:IntKind.u64.wrap ((u:Int)-((u/y1*y1:Nat):Int))=((u % y1:Nat):Int):=by
  rw[show(u:Int)-((u/y1*y1:Nat):Int)=((u % y1:Nat):Int) from by omega];exact qbn _ (by have:=rN.out;rw[qaj];omega)
 clear dL tN fN;have lR:Hid (0<Y):=hid (by have:=HU.out;omega);have lS:Hid (∀q r:Nat,q*y1+r=u→(4294967296≤q∨4294967296*r+u1<q*y0)→(u*4294967296+u1)/Y≤q-1∧1≤q):=hid fun q r hi h=>qsl HY.out hi nH.out lR.out h;have lT:Hid (∀q r:Nat,q*y1+r=u→q*y0≤4294967296*r+u1→q≤(u*4294967296+u1)/Y):=hid fun q r hi h=>qn7 HY.out hi lR.out h;have lU:Hid (∀q r:Nat,q*y1+r=u→q≤4294967296→4294967296≤r→q≤(u*4294967296+u1)/Y):=hid fun q r hi h1 h2=>qn9 HY.out tK.out hi lR.out h1 h2;rw[HZA.out] at lS lT lU qR nH;generalize u/y1*y1=p0 at E9 E10;generalize u/y1=qa at *;generalize u % y1=ra at *
 go_upto_block 0 with(go_at_call 151;refine(sF.out _).mono ?_;rintro e w' ⟨rfl,hw⟩;rw[hw];clear hw)
 clear E8 E9 E10
 go_cut [15,16] (fun a b wc=>∃Q r:Nat,a = .int .u64 Q∧b = .int .u64 r∧Hid (Q=A)∧w=wc)
 case first=>
  go_wp2_with fail
  go_loopg [15,16] qa (fun g a b wc=>∃q r:Nat,q=g∧a = .int .u64 q∧b = .int .u64 r∧Hid (q*y1+r=u)∧Hid (r<4294967296)∧Hid (A≤q)∧Hid (q≤4294967297)∧w=wc)
  case atStart=>exact⟨qa,ra,rfl,rfl,rfl,Ab,rN,qR,cO,rfl⟩
  case round=>
   obtain⟨q,r,rfl,rfl,rfl,HI,HR,HQ,jI,rfl⟩:=hrel;have hr:=HR.out;have hq:=jI.out;clear Ab qR cO rN
   have W1:q<4294967296→IntKind.u64.wrap ((q:Int)*(y0:Int))=((q*y0:Nat):Int):=fun h=>by
    rw[q6z];refine qbn _ ?_;have h1:q*y0≤4294967295*4294967295:=Nat.mul_le_mul (by omega) (by have:=tK.out;omega);rw[qaj];omega
   have W2:IntKind.u64.wrap (4294967296*(r:Int))=((4294967296*r:Nat):Int):=by
    rw[show(4294967296:Int)*(r:Int)=((4294967296*r:Nat):Int) from by omega];exact qbn _ (by rw[qaj];omega)
   have W3:IntKind.u64.wrap (((4294967296*r:Nat):Int)+(u1:Int))=((4294967296*r+u1:Nat):Int):=by
    rw[qww];exact qbn _ (by have:=Db.out;rw[qaj];omega)
   have nI:Hid (4294967296≤q∨4294967296*r+u1<q*y0→A≤q-1∧1≤q):=hid fun h=>lS.out q r HI.out h;have aF:Hid (q*y0≤4294967296*r+u1→q=A):=hid fun h=>Nat.le_antisymm (lT.out q r HI.out h) HQ.out
   have sG:Hid (∀q1,q1+1=q→4294967296≤r+y1→q1≤A):=hid fun q1 e h=>by
    refine lU.out q1 (r+y1) ?_ (by omega) h;have:=HI.out;rw[←e,Nat.add_mul] at this;omega
   have nJ:Hid (∀q1,q1+1=q→q1*y1+(r+y1)=u):=hid fun q1 e=>by
    have:=HI.out;rw[←e,Nat.add_mul] at this;omega
   have E1a:1≤q→IntKind.u64.wrap ((q:Int)-1)=((q-1:Nat):Int):=fun h=>by
    rw[show(q:Int)-1=((q-1:Nat):Int) from by omega];exact qbn _ (by rw[qaj];omega)
   have hy1u:=Az.out
   have E1b:IntKind.u64.wrap ((r:Int)+(y1:Int))=((r+y1:Nat):Int):=by
    rw[qww];exact qbn _ (by rw[qaj];omega)
   have E1c:1≤q→(q:Int)-1=((q-1:Nat):Int):=fun h=>by omega
   have E1d:(r:Int)+(y1:Int)=((r+y1:Nat):Int):=qww _ _;generalize 4294967296*r+u1=z at *;generalize 4294967296*r=t at *;generalize hp:q*y0=p at *;clear hp;by_cases nK:4294967296≤q∨z<p
   ·have hd:=nI.out nK
    have E1a':=E1a hd.2;have E1c':=E1c hd.2;have rO:=hid hd.1;have oH:Hid (q-1+1=q):=hid (by omega);have xT:Hid (q-1≤4294967297):=hid (by omega);have kY:Hid (q-1<q):=hid (by omega);have Lx:=sG.out (q-1) oH.out;have fY:=nJ.out (q-1) oH.out;have Ly:=hid Lx;have sH:=hid fY;clear hd E1a E1c Lx fY nI aF sG nJ HI HQ;have E1e:IntKind.u64.wrap ((q-1:Nat):Int)=((q-1:Nat):Int):=qbn _ (by rw[qaj];omega);have E1f:IntKind.u64.wrap ((r+y1:Nat):Int)=((r+y1:Nat):Int):=qbn _ (by rw[qaj];omega);generalize q-1=q1 at *;generalize r+y1=r1 at *;have lV:(4294967296:Int)≤(q:Int)∨((q:Int)<4294967296∧(z:Int)<(p:Int)):=by omega
    have W1':=fun h:(q:Int)<4294967296=>W1 (by omega);clear W1 hq hr nK;have hy1u':=hid hy1u;clear hy1u;by_cases hr1:(4294967296:Int)≤(r1:Int)
    ·rcases lV with hc|⟨hc,hc'⟩
     ·clear W1' W2 W3
      go_wp2_with fail
      go_meet
      exact⟨q1,r1,rfl,rfl,hid (Nat.le_antisymm (Ly.out (by omega)) rO.out),rfl⟩
     ·have W1:=W1' hc
      clear W1';go_wp2_with fail
      go_meet
      exact⟨q1,r1,rfl,rfl,hid (Nat.le_antisymm (Ly.out (by omega)) rO.out),rfl⟩
    ·rcases lV with hc|⟨hc,hc'⟩
     ·clear W1' W2 W3
      go_wp2_with fail
      go_roundg q1
      case measure=>exact kY.out
      case rel=>exact⟨q1,r1,rfl,rfl,rfl,sH,hid (by omega),rO,xT,rfl⟩
     ·have W1:=W1' hc
      clear W1';go_wp2_with fail
      go_roundg q1
      case measure=>exact kY.out
      case rel=>exact⟨q1,r1,rfl,rfl,rfl,sH,hid (by omega),rO,xT,rfl⟩
   ·have hc:(q:Int)<4294967296:=by omega
    have hc':p≤z:=by omega
    have hc'':¬(4294967296:Int)≤(q:Int):=by omega
    have W1':=W1 (by omega);have HE:=hid (aF.out (by omega));clear W1 nK hq hr hy1u E1a E1b E1c E1d nI aF sG nJ HI HQ hc;go_wp2_with fail
    go_meet
    exact⟨q,r,rfl,rfl,HE,rfl⟩
 case rest=>
  obtain⟨Q,Qr,rfl,rfl,HQ,rfl⟩:=hcut;clear Ab qR cO rN;obtain rfl:=HQ.out;have Fw:=nH;obtain⟨a1,a2,a3,F1,F2,F3,F4⟩:=qqf mX.out (Nat.lt_trans iH.out tM.out);clear nH lS lT lU lR mX HQ;have HU1':=HU;clear HU Db;have HU:=iH;have Db:=uJ;clear E1 E2 E3 E4 E5 E6 E7;have HS:=qn8 (u1:=u0) HY.out tK.out HY1.out hy1p Db.out HU.out;obtain⟨dL,fN,tN⟩:=HS;have cO:Hid (V/y1≤4294967297):=hid fN;have nH:Hid ((V*4294967296+u0)/Y<4294967296):=hid (qwt HU.out Db.out);have rN:Hid (V % y1<4294967296):=by refine hid ?_;have:=Nat.mod_lt V hy1p;have:=Az.out;omega
  have Ab:Hid (V/y1*y1+V % y1=V):=hid tN;have qR:Hid ((V*4294967296+u0)/Y≤V/y1):=hid dL
  have E8:IntKind.u64.wrap ((V:Int)/(y1:Int))=((V/y1:Nat):Int):=by
   rw[←Int.natCast_ediv];exact qbn _ (by have:=cO.out;rw[qaj];omega)
  have E9:IntKind.u64.wrap (((V/y1:Nat):Int)*(y1:Int))=((V/y1*y1:Nat):Int):=by
   rw[q6z];exact qbn _ (by have:=HU.out;have:=tM.out;omega)
  have E10:IntKind.u64.wrap ((V:Int)-((V/y1*y1:Nat):Int))=((V % y1:Nat):Int):=by
   rw[show(V:Int)-((V/y1*y1:Nat):Int)=((V % y1:Nat):Int) from by omega];exact qbn _ (by have:=rN.out;rw[qaj];omega)
  clear dL tN fN;have lR:Hid (0<Y):=hid (by have:=HU.out;omega);have lS:Hid (∀q r:Nat,q*y1+r=V→(4294967296≤q∨4294967296*r+u0<q*y0)→(V*4294967296+u0)/Y≤q-1∧1≤q):=hid fun q r hi h=>qsl HY.out hi nH.out lR.out h;have lT:Hid (∀q r:Nat,q*y1+r=V→q*y0≤4294967296*r+u0→q≤(V*4294967296+u0)/Y):=hid fun q r hi h=>qn7 HY.out hi lR.out h;have lU:Hid (∀q r:Nat,q*y1+r=V→q≤4294967296→4294967296≤r→q≤(V*4294967296+u0)/Y):=hid fun q r hi h1 h2=>qn9 HY.out tK.out hi lR.out h1 h2;rw[HZC.out] at lS lT lU qR nH;generalize V/y1*y1=p0 at E9 E10;generalize V/y1=qa at *;generalize V % y1=ra at *
  go_upto_block 2 with(go_at_call 151;refine(sF.out _).mono ?_;rintro e w' ⟨rfl,hw⟩;rw[hw];clear hw)
  clear E8 E9 E10
  go_cut [18,16] (fun a b wc=>∃Q r:Nat,a = .int .u64 Q∧b = .int .u64 r∧Hid (Q=C)∧w=wc)
  case first=>
   go_wp2_with fail
   go_loopg [18,16] qa (fun g a b wc=>∃q r:Nat,q=g∧a = .int .u64 q∧b = .int .u64 r∧Hid (q*y1+r=V)∧Hid (r<4294967296)∧Hid (C≤q)∧Hid (q≤4294967297)∧w=wc)
   case atStart=>exact⟨qa,ra,rfl,rfl,rfl,Ab,rN,qR,cO,rfl⟩
   case round=>
    obtain⟨q,r,rfl,rfl,rfl,HI,HR,HQ,jI,rfl⟩:=hrel;have hr:=HR.out;have hq:=jI.out;clear Ab qR cO rN
    have W1:q<4294967296→IntKind.u64.wrap ((q:Int)*(y0:Int))=((q*y0:Nat):Int):=fun h=>by
     rw[q6z];refine qbn _ ?_;have h1:q*y0≤4294967295*4294967295:=Nat.mul_le_mul (by omega) (by have:=tK.out;omega);rw[qaj];omega
    have W2:IntKind.u64.wrap (4294967296*(r:Int))=((4294967296*r:Nat):Int):=by
     rw[show(4294967296:Int)*(r:Int)=((4294967296*r:Nat):Int) from by omega];exact qbn _ (by rw[qaj];omega)
    have W3:IntKind.u64.wrap (((4294967296*r:Nat):Int)+(u0:Int))=((4294967296*r+u0:Nat):Int):=by
     rw[qww];exact qbn _ (by have:=Db.out;rw[qaj];omega)
    have nI:Hid (4294967296≤q∨4294967296*r+u0<q*y0→C≤q-1∧1≤q):=hid fun h=>lS.out q r HI.out h;have aF:Hid (q*y0≤4294967296*r+u0→q=C):=hid fun h=>Nat.le_antisymm (lT.out q r HI.out h) HQ.out
    have sG:Hid (∀q1,q1+1=q→4294967296≤r+y1→q1≤C):=hid fun q1 e h=>by
     refine lU.out q1 (r+y1) ?_ (by omega) h;have:=HI.out;rw[←e,Nat.add_mul] at this;omega
    have nJ:Hid (∀q1,q1+1=q→q1*y1+(r+y1)=V):=hid fun q1 e=>by
     have:=HI.out;rw[←e,Nat.add_mul] at this;omega
    have E1a:1≤q→IntKind.u64.wrap ((q:Int)-1)=((q-1:Nat):Int):=fun h=>by
     rw[show(q:Int)-1=((q-1:Nat):Int) from by omega];exact qbn _ (by rw[qaj];omega)
    have hy1u:=Az.out
    have E1b:IntKind.u64.wrap ((r:Int)+(y1:Int))=((r+y1:Nat):Int):=by
     rw[qww];exact qbn _ (by rw[qaj];omega)
    have E1c:1≤q→(q:Int)-1=((q-1:Nat):Int):=fun h=>by omega
    have E1d:(r:Int)+(y1:Int)=((r+y1:Nat):Int):=qww _ _;generalize 4294967296*r+u0=z at *;generalize 4294967296*r=t at *;generalize hp:q*y0=p at *;clear hp;by_cases nK:4294967296≤q∨z<p
    ·have hd:=nI.out nK
     have E1a':=E1a hd.2;have E1c':=E1c hd.2;have rO:=hid hd.1;have oH:Hid (q-1+1=q):=hid (by omega);have xT:Hid (q-1≤4294967297):=hid (by omega);have kY:Hid (q-1<q):=hid (by omega);have Lx:=sG.out (q-1) oH.out;have fY:=nJ.out (q-1) oH.out;have Ly:=hid Lx;have sH:=hid fY;clear hd E1a E1c Lx fY nI aF sG nJ HI HQ;have E1e:IntKind.u64.wrap ((q-1:Nat):Int)=((q-1:Nat):Int):=qbn _ (by rw[qaj];omega);have E1f:IntKind.u64.wrap ((r+y1:Nat):Int)=((r+y1:Nat):Int):=qbn _ (by rw[qaj];omega);generalize q-1=q1 at *;generalize r+y1=r1 at *;have lV:(4294967296:Int)≤(q:Int)∨((q:Int)<4294967296∧(z:Int)<(p:Int)):=by omega
     have W1':=fun h:(q:Int)<4294967296=>W1 (by omega);clear W1 hq hr nK;have hy1u':=hid hy1u;clear hy1u;by_cases hr1:(4294967296:Int)≤(r1:Int)
     ·rcases lV with hc|⟨hc,hc'⟩
      ·clear W1' W2 W3
       go_wp2_with fail
       go_meet
       exact⟨q1,r1,rfl,rfl,hid (Nat.le_antisymm (Ly.out (by omega)) rO.out),rfl⟩
      ·have W1:=W1' hc
       clear W1';go_wp2_with fail
       go_meet
       exact⟨q1,r1,rfl,rfl,hid (Nat.le_antisymm (Ly.out (by omega)) rO.out),rfl⟩
     ·rcases lV with hc|⟨hc,hc'⟩
      ·clear W1' W2 W3
       go_wp2_with fail
       go_roundg q1
       case measure=>exact kY.out
       case rel=>exact⟨q1,r1,rfl,rfl,rfl,sH,hid (by omega),rO,xT,rfl⟩
      ·have W1:=W1' hc
       clear W1';go_wp2_with fail
       go_roundg q1
       case measure=>exact kY.out
       case rel=>exact⟨q1,r1,rfl,rfl,rfl,sH,hid (by omega),rO,xT,rfl⟩
    ·have hc:(q:Int)<4294967296:=by omega
     have hc':p≤z:=by omega
     have hc'':¬(4294967296:Int)≤(q:Int):=by omega
     have W1':=W1 (by omega);have HE:=hid (aF.out (by omega));clear W1 nK hq hr hy1u E1a E1b E1c E1d nI aF sG nJ HI HQ hc;go_wp2_with fail
     go_meet
     exact⟨q,r,rfl,rfl,HE,rfl⟩
  case rest=>
   obtain⟨Q0,Q0r,rfl,rfl,HQ0,rfl⟩:=hcut;clear Ab qR cO rN;obtain rfl:=HQ0.out;have hQ0B:=nH.out;have hQB:=Fw.out;have G0:IntKind.u64.wrap ((Q:Int)*4294967296)=((Q*4294967296:Nat):Int):=by rw[IntKind.wrap_u64];omega
   have G1:IntKind.u64.wrap (((Q*4294967296:Nat):Int)+(Q0:Int))=((Q*4294967296+Q0:Nat):Int):=by rw[IntKind.wrap_u64];omega
   obtain⟨d1,d2,d3,G2,G3,G4,G5⟩:=qqf kO.out (Nat.lt_trans lE.out tM.out);have GR:((R:Nat):Int)/2^s=((RV:Nat):Int):=by rw[Fv.out];simp
   have HQV':=Lw.out;rw[←HQV'] at G1;clear HQV' hQ0B hQB lS lT lU lR;generalize Q*4294967296=c1 at G0 G1;go_wp2_with fail;go_ret2;exact⟨rfl,rfl⟩
theorem q4y(hi lo s:Nat)(hs:s<64)(h:hi*2^s<B64)(fH:lo<B64):
  bits .or .u64 (IntKind.u64.wrap ((hi:Int)*2^s)) ((lo:Int)/2^(64-s))=((hi*2^s+lo/2^(64-s):Nat):Int):=by
 have e1:(hi:Int)*2^s=((hi*2^s:Nat):Int):=by simp
 have e2:(lo:Int)/2^(64-s)=((lo/2^(64-s):Nat):Int):=by simp
 have h2:lo/2^(64-s)<2^s:=by
  rw[Nat.div_lt_iff_lt_mul (Nat.two_pow_pos _),←Nat.pow_add,show s+(64-s)=64 from by omega];rw[qaj] at fH;exact fH
 rw[e1,e2,qbn _ h,bits_or_u64_nat _ _ (by rw[qaj] at h;exact h) (by have:=Nat.div_le_self lo (2^(64-s));rw[qaj] at fH;omega)];rw[Nat.mul_comm hi,Nat.two_pow_add_eq_or_of_lt h2]
theorem qra(lo s:Nat):IntKind.u64.wrap ((lo:Int)*2^s)=((lo*2^s % B64:Nat):Int):=by
 rw[show(lo:Int)*2^s=((lo*2^s:Nat):Int) from by simp];exact quu _
theorem qk4(hi lo y:Nat)(h2:hi<y)(Da:y<B64)(fH:lo<B64)(w:World):
  Calls Tryz.prog 185 #[.int .u64 hi,.int .u64 lo,.int .u64 y] w fun e w'=>
   e = .returned (.tuple #[.int .u64 ((hi*B64+lo)/y:Nat),.int .u64 ((hi*B64+lo) % y:Nat)])∧∃n,w'=w.drewN n:=by
 rcases qas hi with h1|h1
 ·subst h1
  rw[Nat.zero_mul,Nat.zero_add];have eE:((y:Int)==0)=false:=qan (by omega);have h0y:¬(y:Int)≤0:=by omega
  have Lz:Hid ((lo/y:Nat)<B64):=hid (Nat.lt_of_le_of_lt (Nat.div_le_self _ _) fH);have Ba:((lo:Int)/(y:Int))=((lo/y:Nat):Int):=by simp
  have cU:IntKind.u64.wrap ((lo:Int)/(y:Int))=((lo/y:Nat):Int):=by rw[Ba];exact qbn _ Lz.out
  have HW:=hid cU;clear Da fH Ba cU;go_enter Tryz.func185,Tryz.ntmps185;go_wp2_with fail
  go_quiet (fail)
  go_wp2_with fail;go_ret2;refine⟨?_,_,rfl⟩;show Ending.returned (.tuple #[.int .u64 (IntKind.u64.wrap ((lo:Int)/(y:Int))),.int .u64 ((lo:Int) % (y:Int))])=_;rw[HW.out,Int.natCast_emod]
 ·obtain⟨s,hs,hY,hY2,Fx⟩:=q0v y (by omega) Da
  have sF:=hid Fx;have hH:hi*2^s<B64:=Nat.lt_trans (Nat.mul_lt_mul_of_pos_right h2 (Nat.two_pow_pos s)) hY;have mY:=qoa (s:=s) (lo:=lo) (by omega)
  have hu:hi*2^s+lo/2^(64-s)<y*2^s:=by
   have h3:lo/2^(64-s)<2^s:=by
    rw[Nat.div_lt_iff_lt_mul (Nat.two_pow_pos _),←Nat.pow_add,show s+(64-s)=64 from by omega];rw[qaj] at fH;exact fH
   have h4:(hi+1)*2^s≤y*2^s:=Nat.mul_le_mul_right _ h2;rw[Nat.add_mul] at h4;omega
  have xU:=q4y hi lo s hs hH fH;have eQ:=qra lo s;have hsy:IntKind.u64.wrap ((y:Int)*2^s)=((y*2^s:Nat):Int):=by rw[qra,Nat.mod_eq_of_lt hY]
  have hLB:lo*2^s % B64<B64:=Nat.mod_lt _ (by rw[qaj];omega)
  have bX:(hi*B64+lo)*2^s=(hi*2^s+lo/2^(64-s))*(4294967296*4294967296)+lo*2^s % B64:=by
   have hB:B64=2^64:=rfl;have hB2:(4294967296*4294967296:Nat)=2^64:=rfl;rw[Nat.add_mul,Nat.add_mul,hB2,hB,mY];have:hi*2^64*2^s=hi*2^s*2^64:=Nat.mul_right_comm _ _ _;omega
  have rK:0<y*2^s:=Nat.mul_pos (by omega) (Nat.two_pow_pos s);obtain⟨A,V,C,R,hAg,hA,hV,hCg,hC,hR,hf1,Ka⟩:=qya bX (L1:=lo*2^s % B64/4294967296) (L0:=lo*2^s % B64 % 4294967296) (by omega) rfl (Nat.two_pow_pos s) rK;rw[hf1,Ka];clear hf1 Ka bX mY;generalize lo*2^s % B64=L at *;generalize hi*2^s+lo/2^(64-s)=u at *;generalize y*2^s=Y at *;rw[qaj] at hLB hY hY2;refine(qyl s hs w hi lo y Y (Y/4294967296) (Y % 4294967296) u L (L/4294967296) (L % 4294967296) h1 h2 A V C R _ _ (hid hAg) (hid hA) (hid hV) (hid hCg) (hid hC) (hid hR) (hid rfl) (hid rfl) sF hsy (by omega) (qsp Y hY) xU eQ (by omega) (qsp L hLB) (hid (by omega)) (hid (by omega)) (hid (by omega)) (hid hu) (hid (by rw[qaj];exact hY)) (hid (by omega)) (hid (by omega)) (hid (by omega))).mono ?_;rintro e w' ⟨he,rfl⟩;exact⟨he,0,rfl⟩
end Go.Proofs.YtmcfcpgglfimjaaGreatDoor
