/- math/bits.Div64: the quotient of a number of two words by one word. -/
import Derived.Test.YtlkdlffhmakbgaaGreatDoorMMaths
import Derived.Test.YtlkdlffhmakbgaaGreatDoorMMul
import Derived.Laws.Bits64b
import Derived.Test.YtlkdlffhmakbgaaGreatDoorShelf
import Derived.Deep.DeepCutAuto
import Derived.Deep.CutBlock
set_option linter.all false
namespace Go.Proofs.YtlkdlffhmakbgaaGreatDoor
open Go.RowKit
set_option maxRecDepth 100000
set_option maxHeartbeats 1000000
theorem qbr(a:Nat)(h:a<B64):IntKind.u64.wrap (a:Int)=(a:Int):=by rw[qai] at h;exact qrc a h
theorem qol(y:Nat)(h0:0<y)(h:y<2^64):1≤Lib.bitLen y∧2^(Lib.bitLen y-1)≤y∧y<2^Lib.bitLen y:=by
 induction y using Nat.strongRecOn with
 | ind y ih=>
  rw[Lib.bitLen_half y (by omega) h];rcases qas (y/2) with e|e
  ·rw[e,show Lib.bitLen 0=0 from rfl]
   simp;omega
  ·obtain⟨h1,h2,h3⟩:=ih (y/2) (by omega) e (by omega)
   generalize Lib.bitLen (y/2)=n at *;obtain⟨m,rfl⟩:∃m,n=m+1:=⟨n-1,by omega⟩;rw[show 1+(m+1)-1=m+1 from by omega,show 1+(m+1)=m+1+1 from by omega,Nat.pow_succ 2 (m+1)];rw[Nat.add_sub_cancel] at h2;rw[Nat.pow_succ] at *;omega
theorem q0s(y:Nat)(hy:0<y)(Em:y<B64):
  ∃s:Nat,s<64∧y*2^s<B64∧B64≤2*(y*2^s)∧∀w,Calls Tryz.prog 159 #[.int .u64 y] w fun e w'=>e = .returned (.int .i64 (s:Nat))∧w'=w:=by
 have h64:Lib.bitLen y≤64:=Lib.bitLen_le y 64 (by omega) (by rw[qai] at Em;exact Em);obtain⟨h1,h2,h3⟩:=qol y hy (by rw[qai] at Em;exact Em)
 have hB:B64=2^Lib.bitLen y*2^(64-Lib.bitLen y):=by
  rw[←Nat.pow_add,show Lib.bitLen y+(64-Lib.bitLen y)=64 from by omega];rfl
 have hp:(2:Nat)^Lib.bitLen y=2*2^(Lib.bitLen y-1):=by
  rw[Nat.mul_comm,←Nat.pow_succ,show(Lib.bitLen y-1).succ=Lib.bitLen y from by omega]
 refine⟨64-Lib.bitLen y,by omega, ?_, ?_,fun w => ?_⟩
 ·rw[hB];exact Nat.mul_lt_mul_of_pos_right h3 (Nat.two_pow_pos _)
 ·rw[hB,hp,←Nat.mul_assoc];exact Nat.mul_le_mul_right _ (Nat.mul_le_mul_left _ h2)
 ·have h:=Tryz.bits_LeadingZeros64 (y:Int) w (by omega) (by rw[qai] at Em;omega)
  rw[Int.toNat_natCast] at h;rw[show((64-Lib.bitLen y:Nat):Int)=64-(Lib.bitLen y:Int) from by omega];exact h
theorem qqg{u u1 Q Y v:Nat}(h:Q*Y+v=u*4294967296+u1)(hv:v<B64):
  ∃a1 a2 a3:Nat,IntKind.u64.wrap ((u:Int)*4294967296)=(a1:Int)∧IntKind.u64.wrap ((a1:Int)+(u1:Int))=(a2:Int)∧IntKind.u64.wrap ((Q:Int)*(Y:Int))=(a3:Int)∧IntKind.u64.wrap ((a2:Int)-(a3:Int))=(v:Int):=by
 rw[qai] at hv;refine⟨u*4294967296 % 18446744073709551616,(u*4294967296+u1) % 18446744073709551616,Q*Y % 18446744073709551616, ?_, ?_, ?_, ?_⟩
 ·rw[IntKind.wrap_u64];omega
 ·rw[IntKind.wrap_u64];omega
 ·rw[q6o];exact qut _
 ·generalize Q*Y=P at *
  rw[IntKind.wrap_u64];omega
theorem qyl(s:Nat)(hs:s<64)(w:World)(hi lo y Y y1 y0 u L u1 u0:Nat)(h1:0<hi)(h2:hi<y)(A V C R QV RV:Nat)
  (HZA:Hid ((u*4294967296+u1)/Y=A)) (lR:Hid (A*Y+V=u*4294967296+u1)) (iT:Hid (V<Y))
  (HZC:Hid ((V*4294967296+u0)/Y=C)) (jL:Hid (C*Y+R=V*4294967296+u0)) (kF:Hid (R<Y)) (Mw:Hid (QV=A*4294967296+C)) (Gz:Hid (RV=R/2^s))
  (sG:Hid (∀w,Calls Tryz.prog 159 #[.int .u64 y] w fun e w'=>e = .returned (.int .i64 (s:Nat))∧w'=w))
  (E1:IntKind.u64.wrap ((y:Int)*2^s)=(Y:Int)) (E2:(Y:Int)/4294967296=y1) (E3:bits .and .u64 (Y:Int) 4294967295=y0)
  (E4:bits .or .u64 (IntKind.u64.wrap ((hi:Int)*2^s)) ((lo:Int)/2^(64-s))=(u:Int))
  (E5:IntKind.u64.wrap ((lo:Int)*2^s)=(L:Int)) (E6:(L:Int)/4294967296=u1) (E7:bits .and .u64 (L:Int) 4294967295=u0)
  (HY:Hid (Y=y1*4294967296+y0)) (uC:Hid (y0<4294967296)) (HY1:Hid (4294967296≤2*y1)) (HU:Hid (u<Y)) (uE:Hid (Y<B64)) (vK:Hid (u1<4294967296)) (vO:Hid (u0<4294967296)) (Cl:Hid (y1<4294967296)):
  Calls Tryz.prog 191 #[.int .u64 hi,.int .u64 lo,.int .u64 y] w fun e w'=>
   e = .returned (.tuple #[.int .u64 (QV:Nat),.int .u64 (RV:Nat)])∧w=w':=by
 have dS:((y:Int)==0)=false:=qam (by omega);have aZ:((hi:Int)==0)=false:=qam (by omega);have hy1p:0<y1:=by have:=HY1.out;omega
 have aR:((y1:Int)==0)=false:=qam (by omega);have En:=vK;go_enter Tryz.func191,Tryz.ntmps191;have HS:=qoe (u1:=u1) HY.out uC.out HY1.out hy1p En.out HU.out;obtain⟨dO,fS,uF⟩:=HS;have cL:Hid (u/y1≤4294967297):=hid fS;have nW:Hid ((u*4294967296+u1)/Y<4294967296):=hid (qwq HU.out En.out);have sH:Hid (u % y1<4294967296):=by refine hid ?_;have:=Nat.mod_lt u hy1p;have:=Cl.out;omega
 have vW:Hid (u/y1*y1+u % y1=u):=hid uF;have nX:Hid ((u*4294967296+u1)/Y≤u/y1):=hid dO
 have E8:IntKind.u64.wrap ((u:Int)/(y1:Int))=((u/y1:Nat):Int):=by
  rw[←Int.natCast_ediv];exact qbr _ (by have:=cL.out;rw[qai];omega)
 have E9:IntKind.u64.wrap (((u/y1:Nat):Int)*(y1:Int))=((u/y1*y1:Nat):Int):=by
  rw[q6o];exact qbr _ (by have:=HU.out;have:=uE.out;omega)
 have E10:IntKind.u64.wrap ((u:Int)-((u/y1*y1:Nat):Int))=((u % y1:Nat):Int):=by
  rw[show(u:Int)-((u/y1*y1:Nat):Int)=((u % y1:Nat):Int) from by omega];exact qbr _ (by have:=sH.out;rw[qai];omega)
 clear dO uF fS;have mL:Hid (0<Y):=hid (by have:=HU.out;omega);have mM:Hid (∀q r:Nat,q*y1+r=u→(4294967296≤q∨4294967296*r+u1<q*y0)→(u*4294967296+u1)/Y≤q-1∧1≤q):=hid fun q r hi h=>qsm HY.out hi nW.out mL.out h;have mN:Hid (∀q r:Nat,q*y1+r=u→q*y0≤4294967296*r+u1→q≤(u*4294967296+u1)/Y):=hid fun q r hi h=>qod HY.out hi mL.out h;have mO:Hid (∀q r:Nat,q*y1+r=u→q≤4294967296→4294967296≤r→q≤(u*4294967296+u1)/Y):=hid fun q r hi h1 h2=>qof HY.out uC.out hi mL.out h1 h2;rw[HZA.out] at mM mN mO nX nW;generalize u/y1*y1=p0 at E9 E10;generalize u/y1=qa at *;generalize u % y1=ra at *
 go_upto_block 0 with(go_at_call 159;refine(sG.out _).mono ?_;rintro e w' ⟨rfl,hw⟩;rw[hw];clear hw)
 clear E8 E9 E10
 go_cut [15,16] (fun a b wc=>∃Q r:Nat,a = .int .u64 Q∧b = .int .u64 r∧Hid (Q=A)∧w=wc)
 case first=>
  go_wp2_with fail
  go_loopg [15,16] qa (fun g a b wc=>∃q r:Nat,q=g∧a = .int .u64 q∧b = .int .u64 r∧Hid (q*y1+r=u)∧Hid (r<4294967296)∧Hid (A≤q)∧Hid (q≤4294967297)∧w=wc)
  case atStart=>exact⟨qa,ra,rfl,rfl,rfl,vW,sH,nX,cL,rfl⟩
  case round=>
   obtain⟨q,r,rfl,rfl,rfl,HI,HR,HQ,jU,rfl⟩:=hrel;have hr:=HR.out;have hq:=jU.out;clear vW nX cL sH
   have W1:q<4294967296→IntKind.u64.wrap ((q:Int)*(y0:Int))=((q*y0:Nat):Int):=fun h=>by
    rw[q6o];refine qbr _ ?_;have h1:q*y0≤4294967295*4294967295:=Nat.mul_le_mul (by omega) (by have:=uC.out;omega);rw[qai];omega
   have W2:IntKind.u64.wrap (4294967296*(r:Int))=((4294967296*r:Nat):Int):=by
    rw[show(4294967296:Int)*(r:Int)=((4294967296*r:Nat):Int) from by omega];exact qbr _ (by rw[qai];omega)
   have W3:IntKind.u64.wrap (((4294967296*r:Nat):Int)+(u1:Int))=((4294967296*r+u1:Nat):Int):=by
    rw[qwt];exact qbr _ (by have:=En.out;rw[qai];omega)
   have nY:Hid (4294967296≤q∨4294967296*r+u1<q*y0→A≤q-1∧1≤q):=hid fun h=>mM.out q r HI.out h;have aF:Hid (q*y0≤4294967296*r+u1→q=A):=hid fun h=>Nat.le_antisymm (mN.out q r HI.out h) HQ.out
   have sV:Hid (∀q1,q1+1=q→4294967296≤r+y1→q1≤A):=hid fun q1 e h=>by
    refine mO.out q1 (r+y1) ?_ (by omega) h;have:=HI.out;rw[←e,Nat.add_mul] at this;omega
   have nZ:Hid (∀q1,q1+1=q→q1*y1+(r+y1)=u):=hid fun q1 e=>by
    have:=HI.out;rw[←e,Nat.add_mul] at this;omega
   have E1a:1≤q→IntKind.u64.wrap ((q:Int)-1)=((q-1:Nat):Int):=fun h=>by
    rw[show(q:Int)-1=((q-1:Nat):Int) from by omega];exact qbr _ (by rw[qai];omega)
   have hy1u:=Cl.out
   have E1b:IntKind.u64.wrap ((r:Int)+(y1:Int))=((r+y1:Nat):Int):=by
    rw[qwt];exact qbr _ (by rw[qai];omega)
   have E1c:1≤q→(q:Int)-1=((q-1:Nat):Int):=fun h=>by omega
   have E1d:(r:Int)+(y1:Int)=((r+y1:Nat):Int):=qwt _ _;generalize 4294967296*r+u1=z at *;generalize 4294967296*r=t at *;generalize hp:q*y0=p at *;clear hp;by_cases oA:4294967296≤q∨z<p
   ·have hd:=nY.out oA
    have E1a':=E1a hd.2;have E1c':=E1c hd.2;have sI:=hid hd.1;have pI:Hid (q-1+1=q):=hid (by omega);have yR:Hid (q-1≤4294967297):=hid (by omega);have lS:Hid (q-1<q):=hid (by omega);have Mx:=sV.out (q-1) pI.out;have gK:=nZ.out (q-1) pI.out;have My:=hid Mx;have sW:=hid gK;clear hd E1a E1c Mx gK nY aF sV nZ HI HQ;have E1e:IntKind.u64.wrap ((q-1:Nat):Int)=((q-1:Nat):Int):=qbr _ (by rw[qai];omega);have E1f:IntKind.u64.wrap ((r+y1:Nat):Int)=((r+y1:Nat):Int):=qbr _ (by rw[qai];omega);generalize q-1=q1 at *;generalize r+y1=r1 at *;have mP:(4294967296:Int)≤(q:Int)∨((q:Int)<4294967296∧(z:Int)<(p:Int)):=by omega
    have W1':=fun h:(q:Int)<4294967296=>W1 (by omega);clear W1 hq hr oA;have hy1u':=hid hy1u;clear hy1u;by_cases hr1:(4294967296:Int)≤(r1:Int)
    ·rcases mP with hc|⟨hc,hc'⟩
     ·clear W1' W2 W3
      go_wp2_with fail
      go_meet
      exact⟨q1,r1,rfl,rfl,hid (Nat.le_antisymm (My.out (by omega)) sI.out),rfl⟩
     ·have W1:=W1' hc
      clear W1';go_wp2_with fail
      go_meet
      exact⟨q1,r1,rfl,rfl,hid (Nat.le_antisymm (My.out (by omega)) sI.out),rfl⟩
    ·rcases mP with hc|⟨hc,hc'⟩
     ·clear W1' W2 W3
      go_wp2_with fail
      go_roundg q1
      case measure=>exact lS.out
      case rel=>exact⟨q1,r1,rfl,rfl,rfl,sW,hid (by omega),sI,yR,rfl⟩
     ·have W1:=W1' hc
      clear W1';go_wp2_with fail
      go_roundg q1
      case measure=>exact lS.out
      case rel=>exact⟨q1,r1,rfl,rfl,rfl,sW,hid (by omega),sI,yR,rfl⟩
   ·have hc:(q:Int)<4294967296:=by omega
    have hc':p≤z:=by omega
    have hc'':¬(4294967296:Int)≤(q:Int):=by omega
    have W1':=W1 (by omega);have HE:=hid (aF.out (by omega));clear W1 oA hq hr hy1u E1a E1b E1c E1d nY aF sV nZ HI HQ hc;go_wp2_with fail
    go_meet
    exact⟨q,r,rfl,rfl,HE,rfl⟩
 case rest=>
  obtain⟨Q,Qr,rfl,rfl,HQ,rfl⟩:=hcut;clear vW nX cL sH;obtain rfl:=HQ.out;have Ha:=nW;obtain⟨a1,a2,a3,F1,F2,F3,F4⟩:=qqg lR.out (Nat.lt_trans iT.out uE.out);clear nW mM mN mO mL lR HQ;have HU1':=HU;clear HU En;have HU:=iT;have En:=vO;clear E1 E2 E3 E4 E5 E6 E7;have HS:=qoe (u1:=u0) HY.out uC.out HY1.out hy1p En.out HU.out;obtain⟨dO,fS,uF⟩:=HS;have cL:Hid (V/y1≤4294967297):=hid fS;have nW:Hid ((V*4294967296+u0)/Y<4294967296):=hid (qwq HU.out En.out);have sH:Hid (V % y1<4294967296):=by refine hid ?_;have:=Nat.mod_lt V hy1p;have:=Cl.out;omega
  have vW:Hid (V/y1*y1+V % y1=V):=hid uF;have nX:Hid ((V*4294967296+u0)/Y≤V/y1):=hid dO
  have E8:IntKind.u64.wrap ((V:Int)/(y1:Int))=((V/y1:Nat):Int):=by
   rw[←Int.natCast_ediv];exact qbr _ (by have:=cL.out;rw[qai];omega)
  have E9:IntKind.u64.wrap (((V/y1:Nat):Int)*(y1:Int))=((V/y1*y1:Nat):Int):=by
   rw[q6o];exact qbr _ (by have:=HU.out;have:=uE.out;omega)
  have E10:IntKind.u64.wrap ((V:Int)-((V/y1*y1:Nat):Int))=((V % y1:Nat):Int):=by
   rw[show(V:Int)-((V/y1*y1:Nat):Int)=((V % y1:Nat):Int) from by omega];exact qbr _ (by have:=sH.out;rw[qai];omega)
  clear dO uF fS;have mL:Hid (0<Y):=hid (by have:=HU.out;omega);have mM:Hid (∀q r:Nat,q*y1+r=V→(4294967296≤q∨4294967296*r+u0<q*y0)→(V*4294967296+u0)/Y≤q-1∧1≤q):=hid fun q r hi h=>qsm HY.out hi nW.out mL.out h;have mN:Hid (∀q r:Nat,q*y1+r=V→q*y0≤4294967296*r+u0→q≤(V*4294967296+u0)/Y):=hid fun q r hi h=>qod HY.out hi mL.out h;have mO:Hid (∀q r:Nat,q*y1+r=V→q≤4294967296→4294967296≤r→q≤(V*4294967296+u0)/Y):=hid fun q r hi h1 h2=>qof HY.out uC.out hi mL.out h1 h2;rw[HZC.out] at mM mN mO nX nW;generalize V/y1*y1=p0 at E9 E10;generalize V/y1=qa at *;generalize V % y1=ra at *
  go_upto_block 2 with(go_at_call 159;refine(sG.out _).mono ?_;rintro e w' ⟨rfl,hw⟩;rw[hw];clear hw)
  clear E8 E9 E10
  go_cut [18,16] (fun a b wc=>∃Q r:Nat,a = .int .u64 Q∧b = .int .u64 r∧Hid (Q=C)∧w=wc)
  case first=>
   go_wp2_with fail
   go_loopg [18,16] qa (fun g a b wc=>∃q r:Nat,q=g∧a = .int .u64 q∧b = .int .u64 r∧Hid (q*y1+r=V)∧Hid (r<4294967296)∧Hid (C≤q)∧Hid (q≤4294967297)∧w=wc)
   case atStart=>exact⟨qa,ra,rfl,rfl,rfl,vW,sH,nX,cL,rfl⟩
   case round=>
    obtain⟨q,r,rfl,rfl,rfl,HI,HR,HQ,jU,rfl⟩:=hrel;have hr:=HR.out;have hq:=jU.out;clear vW nX cL sH
    have W1:q<4294967296→IntKind.u64.wrap ((q:Int)*(y0:Int))=((q*y0:Nat):Int):=fun h=>by
     rw[q6o];refine qbr _ ?_;have h1:q*y0≤4294967295*4294967295:=Nat.mul_le_mul (by omega) (by have:=uC.out;omega);rw[qai];omega
    have W2:IntKind.u64.wrap (4294967296*(r:Int))=((4294967296*r:Nat):Int):=by
     rw[show(4294967296:Int)*(r:Int)=((4294967296*r:Nat):Int) from by omega];exact qbr _ (by rw[qai];omega)
    have W3:IntKind.u64.wrap (((4294967296*r:Nat):Int)+(u0:Int))=((4294967296*r+u0:Nat):Int):=by
     rw[qwt];exact qbr _ (by have:=En.out;rw[qai];omega)
    have nY:Hid (4294967296≤q∨4294967296*r+u0<q*y0→C≤q-1∧1≤q):=hid fun h=>mM.out q r HI.out h;have aF:Hid (q*y0≤4294967296*r+u0→q=C):=hid fun h=>Nat.le_antisymm (mN.out q r HI.out h) HQ.out
    have sV:Hid (∀q1,q1+1=q→4294967296≤r+y1→q1≤C):=hid fun q1 e h=>by
     refine mO.out q1 (r+y1) ?_ (by omega) h;have:=HI.out;rw[←e,Nat.add_mul] at this;omega
    have nZ:Hid (∀q1,q1+1=q→q1*y1+(r+y1)=V):=hid fun q1 e=>by
     have:=HI.out;rw[←e,Nat.add_mul] at this;omega
    have E1a:1≤q→IntKind.u64.wrap ((q:Int)-1)=((q-1:Nat):Int):=fun h=>by
     rw[show(q:Int)-1=((q-1:Nat):Int) from by omega];exact qbr _ (by rw[qai];omega)
    have hy1u:=Cl.out
    have E1b:IntKind.u64.wrap ((r:Int)+(y1:Int))=((r+y1:Nat):Int):=by
     rw[qwt];exact qbr _ (by rw[qai];omega)
    have E1c:1≤q→(q:Int)-1=((q-1:Nat):Int):=fun h=>by omega
    have E1d:(r:Int)+(y1:Int)=((r+y1:Nat):Int):=qwt _ _;generalize 4294967296*r+u0=z at *;generalize 4294967296*r=t at *;generalize hp:q*y0=p at *;clear hp;by_cases oA:4294967296≤q∨z<p
    ·have hd:=nY.out oA
     have E1a':=E1a hd.2;have E1c':=E1c hd.2;have sI:=hid hd.1;have pI:Hid (q-1+1=q):=hid (by omega);have yR:Hid (q-1≤4294967297):=hid (by omega);have lS:Hid (q-1<q):=hid (by omega);have Mx:=sV.out (q-1) pI.out;have gK:=nZ.out (q-1) pI.out;have My:=hid Mx;have sW:=hid gK;clear hd E1a E1c Mx gK nY aF sV nZ HI HQ;have E1e:IntKind.u64.wrap ((q-1:Nat):Int)=((q-1:Nat):Int):=qbr _ (by rw[qai];omega);have E1f:IntKind.u64.wrap ((r+y1:Nat):Int)=((r+y1:Nat):Int):=qbr _ (by rw[qai];omega);generalize q-1=q1 at *;generalize r+y1=r1 at *;have mP:(4294967296:Int)≤(q:Int)∨((q:Int)<4294967296∧(z:Int)<(p:Int)):=by omega
     have W1':=fun h:(q:Int)<4294967296=>W1 (by omega);clear W1 hq hr oA;have hy1u':=hid hy1u;clear hy1u;by_cases hr1:(4294967296:Int)≤(r1:Int)
     ·rcases mP with hc|⟨hc,hc'⟩
      ·clear W1' W2 W3
       go_wp2_with fail
       go_meet
       exact⟨q1,r1,rfl,rfl,hid (Nat.le_antisymm (My.out (by omega)) sI.out),rfl⟩
      ·have W1:=W1' hc
       clear W1';go_wp2_with fail
       go_meet
       exact⟨q1,r1,rfl,rfl,hid (Nat.le_antisymm (My.out (by omega)) sI.out),rfl⟩
     ·rcases mP with hc|⟨hc,hc'⟩
      ·clear W1' W2 W3
       go_wp2_with fail
       go_roundg q1
       case measure=>exact lS.out
       case rel=>exact⟨q1,r1,rfl,rfl,rfl,sW,hid (by omega),sI,yR,rfl⟩
      ·have W1:=W1' hc
       clear W1';go_wp2_with fail
       go_roundg q1
       case measure=>exact lS.out
       case rel=>exact⟨q1,r1,rfl,rfl,rfl,sW,hid (by omega),sI,yR,rfl⟩
    ·have hc:(q:Int)<4294967296:=by omega
     have hc':p≤z:=by omega
     have hc'':¬(4294967296:Int)≤(q:Int):=by omega
     have W1':=W1 (by omega);have HE:=hid (aF.out (by omega));clear W1 oA hq hr hy1u E1a E1b E1c E1d nY aF sV nZ HI HQ hc;go_wp2_with fail
     go_meet
     exact⟨q,r,rfl,rfl,HE,rfl⟩
  case rest=>
   obtain⟨Q0,Q0r,rfl,rfl,HQ0,rfl⟩:=hcut;clear vW nX cL sH;obtain rfl:=HQ0.out;have hQ0B:=nW.out;have hQB:=Ha.out;have G0:IntKind.u64.wrap ((Q:Int)*4294967296)=((Q*4294967296:Nat):Int):=by rw[IntKind.wrap_u64];omega
   have G1:IntKind.u64.wrap (((Q*4294967296:Nat):Int)+(Q0:Int))=((Q*4294967296+Q0:Nat):Int):=by rw[IntKind.wrap_u64];omega
   obtain⟨d1,d2,d3,G2,G3,G4,G5⟩:=qqg jL.out (Nat.lt_trans kF.out uE.out);have GR:((R:Nat):Int)/2^s=((RV:Nat):Int):=by rw[Gz.out];simp
   have HQV':=Mw.out;rw[←HQV'] at G1;clear HQV' hQ0B hQB mM mN mO mL;generalize Q*4294967296=c1 at G0 G1;go_wp2_with fail;go_ret2;exact⟨rfl,rfl⟩
theorem q4p(hi lo s:Nat)(hs:s<64)(h:hi*2^s<B64)(fO:lo<B64):
  bits .or .u64 (IntKind.u64.wrap ((hi:Int)*2^s)) ((lo:Int)/2^(64-s))=((hi*2^s+lo/2^(64-s):Nat):Int):=by
 have e1:(hi:Int)*2^s=((hi*2^s:Nat):Int):=by simp
 have e2:(lo:Int)/2^(64-s)=((lo/2^(64-s):Nat):Int):=by simp
 have h2:lo/2^(64-s)<2^s:=by
  rw[Nat.div_lt_iff_lt_mul (Nat.two_pow_pos _),←Nat.pow_add,show s+(64-s)=64 from by omega];rw[qai] at fO;exact fO
 rw[e1,e2,qbr _ h,bits_or_u64_nat _ _ (by rw[qai] at h;exact h) (by have:=Nat.div_le_self lo (2^(64-s));rw[qai] at fO;omega)];rw[Nat.mul_comm hi,Nat.two_pow_add_eq_or_of_lt h2]
theorem qrf(lo s:Nat):IntKind.u64.wrap ((lo:Int)*2^s)=((lo*2^s % B64:Nat):Int):=by
 rw[show(lo:Int)*2^s=((lo*2^s:Nat):Int) from by simp];exact qut _
theorem qk5(hi lo y:Nat)(h2:hi<y)(Em:y<B64)(fO:lo<B64)(w:World):
  Calls Tryz.prog 191 #[.int .u64 hi,.int .u64 lo,.int .u64 y] w fun e w'=>
   e = .returned (.tuple #[.int .u64 ((hi*B64+lo)/y:Nat),.int .u64 ((hi*B64+lo) % y:Nat)])∧∃n,w'=w.drewN n:=by
 rcases qas hi with h1|h1
 ·subst h1
  rw[Nat.zero_mul,Nat.zero_add];have dS:((y:Int)==0)=false:=qam (by omega);have h0y:¬(y:Int)≤0:=by omega
  have Mz:Hid ((lo/y:Nat)<B64):=hid (Nat.lt_of_le_of_lt (Nat.div_le_self _ _) fO);have Cm:((lo:Int)/(y:Int))=((lo/y:Nat):Int):=by simp
  have cY:IntKind.u64.wrap ((lo:Int)/(y:Int))=((lo/y:Nat):Int):=by rw[Cm];exact qbr _ Mz.out
  have HW:=hid cY;clear Em fO Cm cY;go_enter Tryz.func191,Tryz.ntmps191;go_wp2_with fail
  go_quiet (fail)
  go_wp2_with fail;go_ret2;refine⟨?_,_,rfl⟩;show Ending.returned (.tuple #[.int .u64 (IntKind.u64.wrap ((lo:Int)/(y:Int))),.int .u64 ((lo:Int) % (y:Int))])=_;rw[HW.out,Int.natCast_emod]
 ·obtain⟨s,hs,hY,hY2,Hb⟩:=q0s y (by omega) Em
  have sG:=hid Hb;have hH:hi*2^s<B64:=Nat.lt_trans (Nat.mul_lt_mul_of_pos_right h2 (Nat.two_pow_pos s)) hY;have sJ:=qog (s:=s) (lo:=lo) (by omega)
  have hu:hi*2^s+lo/2^(64-s)<y*2^s:=by
   have h3:lo/2^(64-s)<2^s:=by
    rw[Nat.div_lt_iff_lt_mul (Nat.two_pow_pos _),←Nat.pow_add,show s+(64-s)=64 from by omega];rw[qai] at fO;exact fO
   have h4:(hi+1)*2^s≤y*2^s:=Nat.mul_le_mul_right _ h2;rw[Nat.add_mul] at h4;omega
  have yS:=q4p hi lo s hs hH fO;have eS:=qrf lo s;have hsy:IntKind.u64.wrap ((y:Int)*2^s)=((y*2^s:Nat):Int):=by rw[qrf,Nat.mod_eq_of_lt hY]
  have hLB:lo*2^s % B64<B64:=Nat.mod_lt _ (by rw[qai];omega)
  have bZ:(hi*B64+lo)*2^s=(hi*2^s+lo/2^(64-s))*(4294967296*4294967296)+lo*2^s % B64:=by
   have hB:B64=2^64:=rfl;have hB2:(4294967296*4294967296:Nat)=2^64:=rfl;rw[Nat.add_mul,Nat.add_mul,hB2,hB,sJ];have:hi*2^64*2^s=hi*2^s*2^64:=Nat.mul_right_comm _ _ _;omega
  have sE:0<y*2^s:=Nat.mul_pos (by omega) (Nat.two_pow_pos s);obtain⟨A,V,C,R,hAg,hA,hV,hCg,hC,hR,hf1,hf2⟩:=qya bZ (L1:=lo*2^s % B64/4294967296) (L0:=lo*2^s % B64 % 4294967296) (by omega) rfl (Nat.two_pow_pos s) sE;rw[hf1,hf2];clear hf1 hf2 bZ sJ;generalize lo*2^s % B64=L at *;generalize hi*2^s+lo/2^(64-s)=u at *;generalize y*2^s=Y at *;rw[qai] at hLB hY hY2;refine(qyl s hs w hi lo y Y (Y/4294967296) (Y % 4294967296) u L (L/4294967296) (L % 4294967296) h1 h2 A V C R _ _ (hid hAg) (hid hA) (hid hV) (hid hCg) (hid hC) (hid hR) (hid rfl) (hid rfl) sG hsy (by omega) (qsq Y hY) yS eS (by omega) (qsq L hLB) (hid (by omega)) (hid (by omega)) (hid (by omega)) (hid hu) (hid (by rw[qai];exact hY)) (hid (by omega)) (hid (by omega)) (hid (by omega))).mono ?_;rintro e w' ⟨he,rfl⟩;exact⟨he,0,rfl⟩
end Go.Proofs.YtlkdlffhmakbgaaGreatDoor
