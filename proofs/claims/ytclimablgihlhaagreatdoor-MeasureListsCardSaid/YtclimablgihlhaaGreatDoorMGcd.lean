/- commonDivisor: the greatest common divisor. -/
import Derived.Test.YtclimablgihlhaaGreatDoorMTake
import Derived.Test.YtclimablgihlhaaGreatDoorMMine
import Derived.Deep.RegionHeld3
set_option linter.all false
namespace Go.Proofs.YtclimablgihlhaaGreatDoor
open Go.RowKit
set_option maxRecDepth 100000
set_option maxHeartbeats 4000000
def Rows(base:Nat)(w:World)(s0 s1:Value)(x y:Nat):Prop:=
 wl y≤1∨∃gx cx gy cy,s0 = .slice (some ⟨gx,0,none⟩) (wl x) cx∧s1 = .slice (some ⟨gy,0,none⟩) (wl y) cy∧qdb w base gx cx (qaf B64 x)∧qdb w base gy cy (qaf B64 y)∧gx≠gy
theorem qj6(w:World)(x:Nat)(hx:x<B64)(h0:0<x):qap (w.alloc (.cells #[.int .u64 (x:Nat)] 130)) (.slice (some ⟨w.heap.size,0,none⟩) 1 1) x:=by
 have h:=qwh w x hx
 have e:qaf B64 x=[x]:=by
  rw[qfs B64 x qae h0,Nat.mod_eq_of_lt hx,Nat.div_eq_of_lt hx,qal]
 unfold qap;rw[e];exact h
theorem q62(va vb:Value)(a b:Nat)(w:World)(ha:qap w va a)(hb:qap w vb b)(h1:a=1∨b=1):
  Calls Tryz.prog 77 #[va,vb] w fun e w'=>(∃v',e = .returned v'∧qap w' v' (Nat.gcd a b))∧Below w.heap.size w w':=by
 have hg:Nat.gcd a b=1:=by rcases h1 with rfl|rfl<;>simp
 rw[hg];have HF:=hid (qj6 w 1 (by rw[qab];omega) (by omega));have HB:Hid (Below w.heap.size w (w.alloc (.cells #[.int .u64 ((1:Nat):Int)] 130))):=hid (zam _ _);by_cases dK:a=1
 ·subst dK
  have eF:=hid (qca va 1 true rfl w ha);clear ha hb hg h1;go_enter Tryz.func77,Tryz.ntmps77;go_wp2_with fail;refine eF.out.mono ?_;rintro e w' ⟨rfl,hw⟩;subst hw;go_wp2_with fail;go_ret;exact⟨⟨_,rfl,HF.out⟩,HB.out⟩
 ·have bB:b=1:=by omega
  subst bB;have eF:=hid (qca va a false (by simp[dK]) w ha);have aQ:=hid (qca vb 1 true rfl w hb);clear ha hb hg h1 dK;go_enter Tryz.func77,Tryz.ntmps77;go_wp2_with fail;refine eF.out.mono ?_;rintro e w' ⟨rfl,hw⟩;subst hw;go_wp2_with fail;refine aQ.out.mono ?_;rintro e w' ⟨rfl,hw⟩;subst hw;go_wp2_with fail;go_ret;exact⟨⟨_,rfl,HF.out⟩,HB.out⟩
theorem q34(va vb:Value)(a b:Nat)(w:World)(ha:qap w va a)(hb:qap w vb b)(dK:a≠1)(bB:b≠1)(lM:wl a≤Cap)(Nr:wl b≤Cap):
  Calls Tryz.prog 77 #[va,vb] w fun e w'=>(∃v',e = .returned v'∧qap w' v' (Nat.gcd a b))∧Below w.heap.size w w':=by
 have eF:=hid (qca va a false (by simp[dK]) w ha);have aQ:=hid (qca vb b false (by simp[bB]) w hb);have eM:=hid (qd7 va vb a b w ha hb);obtain⟨g,hg⟩:∃g,Nat.gcd a b=g:=⟨_,rfl⟩;rw[hg];have HA:=hid ha;have HB:=hid hb;have Ej:=hid lM;have rP:=hid Nr;obtain⟨la,pa,ca,rfl,pL,rE,dJ,Cz⟩:=qgb ha;obtain⟨lb,pb,cb,rfl,hx3,hx4,dG,zL⟩:=qgb hb;have kP:=hid dJ;have jE:=hid dG;clear Cz zL dJ dG ha hb lM Nr dK bB pL rE hx3 hx4;generalize la.length=na at *;generalize lb.length=nb at *;clear la lb
 have Qx:(qen a b<0∧a<b)∨(¬qen a b<0∧b≤a):=by
  unfold qen;rcases Nat.lt_or_ge a b with h|h
  ·left;rw[qcy (by omega)];omega
  ·right
   rcases Nat.lt_or_ge b a with h'|h'
   ·rw[qch (by omega)];omega
   ·rw[qei (by omega)];omega
 have Ju:=hid Qx;clear Qx;obtain⟨mM,nE⟩:Hid (Nat.gcd a b=g)∧Hid (Nat.gcd b a=g):=⟨hid hg,hid (by rw[Nat.gcd_comm];exact hg)⟩;clear hg;go_enter Tryz.func77,Tryz.ntmps77;go_wp2_with fail;refine eF.out.mono ?_;rintro e w' ⟨rfl,hw⟩;subst hw;go_wp2_with fail;refine aQ.out.mono ?_;rintro e w' ⟨rfl,hw⟩;subst hw;go_wp2_with fail;refine eM.out.mono ?_;rintro e w1 ⟨rfl,q,dI⟩;have nF:Below w.heap.size w w1:=by rw[dI];exact below_drewN (zan _ _) q
 have HA':=hid (HA.out.later nF);have HB':=hid (HB.out.later nF);have bR:=hid nF;have pX:Hid (w1.heap.size=w.heap.size):=hid (by rw[dI];rfl);clear dI nF eM eF aQ HA HB;generalize qen a b=cv at *;rcases Ju.out with⟨rJ,iV⟩|⟨rJ,iV⟩
 ·have fF:=hid iV
  clear iV Ju;by_cases dR:1<na
  ·have hn1':(1:Int)<(na:Int):=by omega
   have pY:0<(qaf B64 a).length:=by have:=kP.out;show 0<wl a;omega
   have pZ:0<(qaf B64 b).length:=by
    have:=qad (b:=B64) qae (m:=a) (n:=b) (Nat.le_of_lt fF.out);omega
   have gG:Hid (Calls Tryz.prog 113 #[.slice pb nb cb] w1 fun e w'=>(∃g cap,e = .returned (.slice (some ⟨g,0,none⟩) (wl b) cap)∧qdb w' w.heap.size g cap (qaf B64 b))∧Below w.heap.size w1 w'):=by
    have h:=qjb _ _ w1 HB'.out pZ rP.out;rw[pX.out] at h;exact hid h
   have eU:Hid (∀w2,Below w.heap.size w1 w2→Calls Tryz.prog 113 #[.slice pa na ca] w2 fun e w'=>(∃g cap,e = .returned (.slice (some ⟨g,0,none⟩) (wl a) cap)∧qdb w' w2.heap.size g cap (qaf B64 a))∧Below w2.heap.size w2 w'):=
    hid fun w2 aT=>qjb _ _ w2 (HA'.out.later (by rw[pX.out];exact aT)) pY Ej.out
   clear pY pZ dR;go_wp2_with fail;refine gG.out.mono ?_;rintro e w2 ⟨⟨gx,cx,rfl,oV⟩,aT⟩;have aR:=hid aT;have fE:=hid oV;clear aT oV gG;go_wp2_with fail;refine(eU.out w2 aR.out).mono ?_;rintro e w3 ⟨⟨gy,cy,rfl,nG⟩,cW⟩;have Ay:Hid (qdb w3 w.heap.size gx cx (qaf B64 b)):=hid (fE.out.later cW fE.out.lt);have iF:Hid (qdb w3 w.heap.size gy cy (qaf B64 a)):=hid (nG.mono (by have:=aR.out.size;rw[pX.out] at this;exact this));have gK:Hid (gx≠gy):=hid (by have:=fE.out.lt;have:=nG.parts.1;omega);have bY:Hid (Below w.heap.size w w3):=hid (bR.out.trans (aR.out.trans (cW.mono (by have:=aR.out.size;rw[pX.out] at this;exact this))));clear nG cW eU fE aR HB' HA' bR pX;go_wp2_with fail
   go_loopg [0,1] (b+a) (fun m s0 s1 wr=>∃(p:Option Addr) (n c x y:Nat),x+y=m∧s1 = .slice p n c∧Hid (qap wr s0 x)∧Hid (qap wr (.slice p n c) y)∧Hid (n=wl y)∧Hid (Nat.gcd x y=g)∧Hid (y≤x)∧Hid (wl x≤Cap)∧Hid (Below w.heap.size w wr)∧Hid (Rows w.heap.size wr s0 (.slice p n c) x y))
   case atStart=>exact⟨_,_,_,b,a,rfl,rfl,hid Ay.out.nat,hid iF.out.nat,hid rfl,nE,hid (Nat.le_of_lt fF.out),rP,bY,hid (.inr ⟨_,_,_,_,rfl,rfl,Ay.out,iF.out,gK.out⟩)⟩
   case round=>
    obtain⟨p,n,c,x,y,rfl,rfl,HX,HY,HN,HG,fK,nH,dV,qA⟩:=hrel;have Jv:Hid (wl y≤Cap):=hid (Nat.le_trans (qad qae fK.out) nH.out);rcases Nat.lt_or_ge 1 n with hn|hn
    ·have hn':(1:Int)<(n:Int):=by omega
     obtain⟨gx,cx,gy,cy,rfl,he,oV,nG,hne⟩:∃gx cx gy cy,_=Value.slice (some ⟨gx,0,none⟩) (wl x) cx∧Value.slice p n c = .slice (some ⟨gy,0,none⟩) (wl y) cy∧qdb wr w.heap.size gx cx (qaf B64 x)∧qdb wr w.heap.size gy cy (qaf B64 y)∧gx≠gy:=by
      rcases qA.out with h|h
      ·have:=HN.out;omega
      ·exact h
     cases he
     have h2y:2≤wl y:=hn;have Az:=hid (qhs _ _ x y wr HX.out HY.out fK.out h2y nH.out);have nI:Hid (gx<wr.heap.size):=hid oV.lt;have kZ:Hid (gy<wr.heap.size):=hid nG.lt;have xH:=hid oV;have xI:=hid nG;have jW:=hid hne;have H2Y:=hid h2y;clear hn oV nG hne h2y qA;go_wp2_with fail;refine Az.out.mono ?_;rintro e w2 ⟨⟨u0,u1,t0,t1,ev,rfl,pV,nX,kB,fB,nJ⟩,aT⟩;have nK:=hid (xH.out.later aT nI.out);have jT:=hid (xI.out.later aT kZ.out);have nL:Hid (gx<w2.heap.size):=hid (Nat.lt_of_lt_of_le nI.out aT.size);have gL:Hid (gy<w2.heap.size):=hid (Nat.lt_of_lt_of_le kZ.out aT.size);have aR:=hid (dV.out.trans (aT.mono dV.out.size));have yD:=hid pV;have yC:=hid nX;have cG:=hid kB;have cE:=hid fB;have uF:=hid nJ;clear pV nX kB fB nJ aT Az HX HY xH xI dV;by_cases ht:t0=0
     ·subst ht
      have Ba:0<y:=by
       rcases zav y with e|e
       ·have:=H2Y.out;rw[e] at this;simp[wl,qal] at this
       ·exact e
      have dH:=fun W hb=>hid (qgc _ _ x y W (nK.out.later hb nL.out).nat (jT.out.later hb gL.out).nat fK.out H2Y.out nH.out);have iE:Hid (x % y<y):=hid (Nat.mod_lt _ Ba);have uG:Hid (Nat.gcd y (x % y)=g):=hid (by rw[←HG.out,Nat.gcd_comm x y,Nat.gcd_rec y x,Nat.gcd_comm]);clear Ba;go_wp2_with fail;refine((dH _ (zam _ _)).out).mono ?_;rintro e w3 ⟨⟨vq,gr,cr,rfl,hq,hr⟩,cW⟩;have fD:Below w2.heap.size w2 w3:=((zan w2.heap.size w2).alloc (zap _) _).trans (cW.mono (by rw[zao];omega));have Db:w2.heap.size≤gr:=by have:=hr.parts.1;rw[zao] at this;omega
      have HR:=hid (hr.mono (base':=w.heap.size) (by have:=aR.out.size;rw[zao];omega));have iF:=hid (jT.out.later fD gL.out);have gK:Hid (gy≠gr):=hid (by have:=gL.out;omega);have bY:=hid (aR.out.trans (fD.mono aR.out.size));clear hq hr cW fD dH Db;go_wp2_with fail
      go_roundg (y+x % y)
      case measure=>have:=iE.out;have:=fK.out;omega
      case rel=>exact⟨_,_,_,y,x % y,rfl,rfl,hid iF.out.nat,hid HR.out.nat,hid rfl,uG,hid (Nat.le_of_lt iE.out),Jv,bY,hid (.inr ⟨_,_,_,_,rfl,rfl,iF.out,HR.out,gK.out⟩)⟩
     ·have hte:((t0:Int)==0)=false:=zat (by omega)
      have iG:=fun W hb=>hid (qk3 gx cx gy c w.heap.size x y u0 u1 t0 t1 ev W (nK.out.later hb nL.out) (jT.out.later hb gL.out) jW.out yD.out yC.out cG.out cE.out uF.out ht nH.out fK.out)
      have mU:Hid (0<y):=hid (by
       rcases zav y with e|e
       ·have:=H2Y.out;rw[e] at this;simp[wl,qal] at this
       ·exact e)
      go_wp2_with fail;refine((iG _ (zam _ _)).out).mono ?_;rintro e w3 ⟨⟨gx',cx',gy',cy',x',y',rfl,hx,hy,hne',hg',hyx',cN⟩,cW⟩;have kT:=hid hx;have HR:=hid hy;have gK:=hid hne';have bY:Hid (Below w.heap.size w w3):=hid (aR.out.trans (((zan w.heap.size w2).alloc aR.out.size _).trans cW));have uG:Hid (Nat.gcd x' y'=g):=hid (hg'.trans HG.out);have HYX':=hid hyx';have uH:=hid cN;have HCX':Hid (wl x'≤Cap):=hid (Nat.le_trans (qad qae (by omega)) nH.out);clear hx hy cW iG hg' hyx' cN hne';go_wp2_with fail
      go_roundg (x'+y')
      case measure=>have:=uH.out;have:=mU.out;omega
      case rel=>exact⟨_,_,_,x',y',rfl,rfl,hid kT.out.nat,hid HR.out.nat,hid rfl,uG,HYX',HCX',bY,hid (.inr ⟨_,_,_,_,rfl,rfl,kT.out,HR.out,gK.out⟩)⟩
    ·have hn':¬(1:Int)<(n:Int):=by omega
     have uI:n=0∨n=1:=by omega
     clear hn qA;rcases uI with rfl|rfl
     ·have Jw:Hid (x=g):=hid (by have:=qek HN.out.symm;rw[←HG.out,this,Nat.gcd_zero_right])
      go_wp2_with fail;go_ret;exact⟨⟨_,rfl,by rw[←Jw.out];exact HX.out⟩,dV.out⟩
     ·obtain⟨z,hz⟩:∃z,qaf B64 y=[z]:=by
       have h3:(qaf B64 y).length=1:=HN.out.symm
       match qaf B64 y,h3 with
       | [z],_=>exact⟨z,rfl⟩
      have Jx:z=y:=by
       have:=qah B64 y qae;rw[hz] at this
       simpa using this
      subst Jx;have Bb:z<B64:=qd6 B64 z qae z (by rw[hz];simp)
      have cT:0<z:=by
       rcases zav z with e|e
       ·rw[e,qal] at hz;cases hz
       ·exact e
      have Jy:Wds wr (.slice p 1 c) [z]:=by have:=HY.out;unfold qap at this;rw[hz] at this;exact this
      obtain⟨_,p',c',he,_,_,aA⟩:=Jy;cases he
      rcases aA with h0|⟨bb,ob,rfl,aB⟩
      ·cases h0
      have aC:=aB 0 (by simp);simp[wd] at aC
      have aV:Hid (∀w',Below wr.heap.size wr w'→w'.cell? ⟨bb,ob,none⟩=some (.int .u64 z)):=hid fun w' hb'=>by
       rw[hb'.cell (p:=⟨bb,ob,none⟩) (zaq wr _ aC)];exact aC
      have bX:Below wr.heap.size wr wr.drew:=(zan _ _).drew;obtain⟨rm,qM⟩:∃rm,x % z=rm:=⟨_,rfl⟩
      have uJ:=hid ((qfu _ x z wr.drew (HX.out.later bX) cT Bb).mono (R':=fun e w'=>e = .returned (.int .u64 (rm:Nat))∧Below wr.heap.size wr w') (by
       rintro e w' ⟨rfl,hb'⟩
       exact⟨by rw[qM],bX.trans hb'⟩))
      have Bc:=hid (fun w=>qel z rm w);have nZ:Nat.gcd z rm=g:=by rw[←qM,←HG.out,Nat.gcd_comm x z,Nat.gcd_rec z x,Nat.gcd_comm]
      rw[nZ] at Bc;have uK:g≤z:=by rw[←nZ];exact Nat.gcd_le_left _ cT
      have qL:Hid (g<B64):=hid (by omega);have oW:Hid (0<g):=hid (by rw[←nZ];exact Nat.gcd_pos_of_pos_left _ cT);clear bX aB hz Bb cT qM nZ uK HN HY HG fK mM nE fF HX;go_wp2_with fail
      go_region_held3 (fun W=>W.cell? ⟨bb,ob,none⟩=some (.int .u64 z)) (first|with_reducible exact aV.out _ eN.out|with_reducible exact aV.out _ fR.out|with_reducible exact aV.out _ (eN.out.alloc eN.out.size _)|exact aC)
       (first|(go_at_call 117;refine uJ.out.mono ?_;rintro e w2 ⟨rfl,hG⟩;have fR:=hid hG;clear hG)|(go_at_call 116;refine(Bc.out _).mono ?_;rintro e w4 ⟨rfl,q4,nD⟩;have eN:Hid (Below wr.heap.size wr w4):=hid (by rw[nD];exact below_drewN fR.out q4);clear nD))
      all_goals
       have fA:Hid (Below w.heap.size w w4):=hid (dV.out.trans (eN.out.mono dV.out.size));go_wp2_with fail;go_ret;exact⟨⟨_,rfl,qj6 w4 g qL.out oW.out⟩,fA.out.alloc fA.out.size _⟩
  ·have hn1':¬(1:Int)<(na:Int):=by omega
   go_wp2_with fail
   go_loopg [0,1] (b+a) (fun m s0 s1 wr=>∃(p:Option Addr) (n c x y:Nat),x+y=m∧s1 = .slice p n c∧Hid (qap wr s0 x)∧Hid (qap wr (.slice p n c) y)∧Hid (n=wl y)∧Hid (Nat.gcd x y=g)∧Hid (y≤x)∧Hid (wl x≤Cap)∧Hid (Below w.heap.size w wr)∧Hid (Rows w.heap.size wr s0 (.slice p n c) x y))
   case atStart=>exact⟨pa,na,ca,b,a,rfl,rfl,HB',HA',kP,nE,hid (Nat.le_of_lt fF.out),rP,bR,hid (.inl (by have:=kP.out;omega))⟩
   case round=>
    obtain⟨p,n,c,x,y,rfl,rfl,HX,HY,HN,HG,fK,nH,dV,qA⟩:=hrel;have Jv:Hid (wl y≤Cap):=hid (Nat.le_trans (qad qae fK.out) nH.out);rcases Nat.lt_or_ge 1 n with hn|hn
    ·have hn':(1:Int)<(n:Int):=by omega
     obtain⟨gx,cx,gy,cy,rfl,he,oV,nG,hne⟩:∃gx cx gy cy,_=Value.slice (some ⟨gx,0,none⟩) (wl x) cx∧Value.slice p n c = .slice (some ⟨gy,0,none⟩) (wl y) cy∧qdb wr w.heap.size gx cx (qaf B64 x)∧qdb wr w.heap.size gy cy (qaf B64 y)∧gx≠gy:=by
      rcases qA.out with h|h
      ·have:=HN.out;omega
      ·exact h
     cases he
     have h2y:2≤wl y:=hn;have Az:=hid (qhs _ _ x y wr HX.out HY.out fK.out h2y nH.out);have nI:Hid (gx<wr.heap.size):=hid oV.lt;have kZ:Hid (gy<wr.heap.size):=hid nG.lt;have xH:=hid oV;have xI:=hid nG;have jW:=hid hne;have H2Y:=hid h2y;clear hn oV nG hne h2y qA;go_wp2_with fail;refine Az.out.mono ?_;rintro e w2 ⟨⟨u0,u1,t0,t1,ev,rfl,pV,nX,kB,fB,nJ⟩,aT⟩;have nK:=hid (xH.out.later aT nI.out);have jT:=hid (xI.out.later aT kZ.out);have nL:Hid (gx<w2.heap.size):=hid (Nat.lt_of_lt_of_le nI.out aT.size);have gL:Hid (gy<w2.heap.size):=hid (Nat.lt_of_lt_of_le kZ.out aT.size);have aR:=hid (dV.out.trans (aT.mono dV.out.size));have yD:=hid pV;have yC:=hid nX;have cG:=hid kB;have cE:=hid fB;have uF:=hid nJ;clear pV nX kB fB nJ aT Az HX HY xH xI dV;by_cases ht:t0=0
     ·subst ht
      have Ba:0<y:=by
       rcases zav y with e|e
       ·have:=H2Y.out;rw[e] at this;simp[wl,qal] at this
       ·exact e
      have dH:=fun W hb=>hid (qgc _ _ x y W (nK.out.later hb nL.out).nat (jT.out.later hb gL.out).nat fK.out H2Y.out nH.out);have iE:Hid (x % y<y):=hid (Nat.mod_lt _ Ba);have uG:Hid (Nat.gcd y (x % y)=g):=hid (by rw[←HG.out,Nat.gcd_comm x y,Nat.gcd_rec y x,Nat.gcd_comm]);clear Ba;go_wp2_with fail;refine((dH _ (zam _ _)).out).mono ?_;rintro e w3 ⟨⟨vq,gr,cr,rfl,hq,hr⟩,cW⟩;have fD:Below w2.heap.size w2 w3:=((zan w2.heap.size w2).alloc (zap _) _).trans (cW.mono (by rw[zao];omega));have Db:w2.heap.size≤gr:=by have:=hr.parts.1;rw[zao] at this;omega
      have HR:=hid (hr.mono (base':=w.heap.size) (by have:=aR.out.size;rw[zao];omega));have iF:=hid (jT.out.later fD gL.out);have gK:Hid (gy≠gr):=hid (by have:=gL.out;omega);have bY:=hid (aR.out.trans (fD.mono aR.out.size));clear hq hr cW fD dH Db;go_wp2_with fail
      go_roundg (y+x % y)
      case measure=>have:=iE.out;have:=fK.out;omega
      case rel=>exact⟨_,_,_,y,x % y,rfl,rfl,hid iF.out.nat,hid HR.out.nat,hid rfl,uG,hid (Nat.le_of_lt iE.out),Jv,bY,hid (.inr ⟨_,_,_,_,rfl,rfl,iF.out,HR.out,gK.out⟩)⟩
     ·have hte:((t0:Int)==0)=false:=zat (by omega)
      have iG:=fun W hb=>hid (qk3 gx cx gy c w.heap.size x y u0 u1 t0 t1 ev W (nK.out.later hb nL.out) (jT.out.later hb gL.out) jW.out yD.out yC.out cG.out cE.out uF.out ht nH.out fK.out)
      have mU:Hid (0<y):=hid (by
       rcases zav y with e|e
       ·have:=H2Y.out;rw[e] at this;simp[wl,qal] at this
       ·exact e)
      go_wp2_with fail;refine((iG _ (zam _ _)).out).mono ?_;rintro e w3 ⟨⟨gx',cx',gy',cy',x',y',rfl,hx,hy,hne',hg',hyx',cN⟩,cW⟩;have kT:=hid hx;have HR:=hid hy;have gK:=hid hne';have bY:Hid (Below w.heap.size w w3):=hid (aR.out.trans (((zan w.heap.size w2).alloc aR.out.size _).trans cW));have uG:Hid (Nat.gcd x' y'=g):=hid (hg'.trans HG.out);have HYX':=hid hyx';have uH:=hid cN;have HCX':Hid (wl x'≤Cap):=hid (Nat.le_trans (qad qae (by omega)) nH.out);clear hx hy cW iG hg' hyx' cN hne';go_wp2_with fail
      go_roundg (x'+y')
      case measure=>have:=uH.out;have:=mU.out;omega
      case rel=>exact⟨_,_,_,x',y',rfl,rfl,hid kT.out.nat,hid HR.out.nat,hid rfl,uG,HYX',HCX',bY,hid (.inr ⟨_,_,_,_,rfl,rfl,kT.out,HR.out,gK.out⟩)⟩
    ·have hn':¬(1:Int)<(n:Int):=by omega
     have uI:n=0∨n=1:=by omega
     clear hn qA;rcases uI with rfl|rfl
     ·have Jw:Hid (x=g):=hid (by have:=qek HN.out.symm;rw[←HG.out,this,Nat.gcd_zero_right])
      go_wp2_with fail;go_ret;exact⟨⟨_,rfl,by rw[←Jw.out];exact HX.out⟩,dV.out⟩
     ·obtain⟨z,hz⟩:∃z,qaf B64 y=[z]:=by
       have h3:(qaf B64 y).length=1:=HN.out.symm
       match qaf B64 y,h3 with
       | [z],_=>exact⟨z,rfl⟩
      have Jx:z=y:=by
       have:=qah B64 y qae;rw[hz] at this
       simpa using this
      subst Jx;have Bb:z<B64:=qd6 B64 z qae z (by rw[hz];simp)
      have cT:0<z:=by
       rcases zav z with e|e
       ·rw[e,qal] at hz;cases hz
       ·exact e
      have Jy:Wds wr (.slice p 1 c) [z]:=by have:=HY.out;unfold qap at this;rw[hz] at this;exact this
      obtain⟨_,p',c',he,_,_,aA⟩:=Jy;cases he
      rcases aA with h0|⟨bb,ob,rfl,aB⟩
      ·cases h0
      have aC:=aB 0 (by simp);simp[wd] at aC
      have aV:Hid (∀w',Below wr.heap.size wr w'→w'.cell? ⟨bb,ob,none⟩=some (.int .u64 z)):=hid fun w' hb'=>by
       rw[hb'.cell (p:=⟨bb,ob,none⟩) (zaq wr _ aC)];exact aC
      have bX:Below wr.heap.size wr wr.drew:=(zan _ _).drew;obtain⟨rm,qM⟩:∃rm,x % z=rm:=⟨_,rfl⟩
      have uJ:=hid ((qfu _ x z wr.drew (HX.out.later bX) cT Bb).mono (R':=fun e w'=>e = .returned (.int .u64 (rm:Nat))∧Below wr.heap.size wr w') (by
       rintro e w' ⟨rfl,hb'⟩
       exact⟨by rw[qM],bX.trans hb'⟩))
      have Bc:=hid (fun w=>qel z rm w);have nZ:Nat.gcd z rm=g:=by rw[←qM,←HG.out,Nat.gcd_comm x z,Nat.gcd_rec z x,Nat.gcd_comm]
      rw[nZ] at Bc;have uK:g≤z:=by rw[←nZ];exact Nat.gcd_le_left _ cT
      have qL:Hid (g<B64):=hid (by omega);have oW:Hid (0<g):=hid (by rw[←nZ];exact Nat.gcd_pos_of_pos_left _ cT);clear bX aB hz Bb cT qM nZ uK HN HY HG fK mM nE fF HX;go_wp2_with fail
      go_region_held3 (fun W=>W.cell? ⟨bb,ob,none⟩=some (.int .u64 z)) (first|with_reducible exact aV.out _ eN.out|with_reducible exact aV.out _ fR.out|with_reducible exact aV.out _ (eN.out.alloc eN.out.size _)|exact aC)
       (first|(go_at_call 117;refine uJ.out.mono ?_;rintro e w2 ⟨rfl,hG⟩;have fR:=hid hG;clear hG)|(go_at_call 116;refine(Bc.out _).mono ?_;rintro e w4 ⟨rfl,q4,nD⟩;have eN:Hid (Below wr.heap.size wr w4):=hid (by rw[nD];exact below_drewN fR.out q4);clear nD))
      all_goals
       have fA:Hid (Below w.heap.size w w4):=hid (dV.out.trans (eN.out.mono dV.out.size));go_wp2_with fail;go_ret;exact⟨⟨_,rfl,qj6 w4 g qL.out oW.out⟩,fA.out.alloc fA.out.size _⟩
 ·have fF:=hid iV
  clear iV Ju;by_cases dR:1<nb
  ·have hn1':(1:Int)<(nb:Int):=by omega
   have pY:0<(qaf B64 b).length:=by have:=jE.out;show 0<wl b;omega
   have pZ:0<(qaf B64 a).length:=by
    have:=qad (b:=B64) qae (m:=b) (n:=a) (fF.out);omega
   have gG:Hid (Calls Tryz.prog 113 #[.slice pa na ca] w1 fun e w'=>(∃g cap,e = .returned (.slice (some ⟨g,0,none⟩) (wl a) cap)∧qdb w' w.heap.size g cap (qaf B64 a))∧Below w.heap.size w1 w'):=by
    have h:=qjb _ _ w1 HA'.out pZ Ej.out;rw[pX.out] at h;exact hid h
   have eU:Hid (∀w2,Below w.heap.size w1 w2→Calls Tryz.prog 113 #[.slice pb nb cb] w2 fun e w'=>(∃g cap,e = .returned (.slice (some ⟨g,0,none⟩) (wl b) cap)∧qdb w' w2.heap.size g cap (qaf B64 b))∧Below w2.heap.size w2 w'):=
    hid fun w2 aT=>qjb _ _ w2 (HB'.out.later (by rw[pX.out];exact aT)) pY rP.out
   clear pY pZ dR;go_wp2_with fail;refine gG.out.mono ?_;rintro e w2 ⟨⟨gx,cx,rfl,oV⟩,aT⟩;have aR:=hid aT;have fE:=hid oV;clear aT oV gG;go_wp2_with fail;refine(eU.out w2 aR.out).mono ?_;rintro e w3 ⟨⟨gy,cy,rfl,nG⟩,cW⟩;have Ay:Hid (qdb w3 w.heap.size gx cx (qaf B64 a)):=hid (fE.out.later cW fE.out.lt);have iF:Hid (qdb w3 w.heap.size gy cy (qaf B64 b)):=hid (nG.mono (by have:=aR.out.size;rw[pX.out] at this;exact this));have gK:Hid (gx≠gy):=hid (by have:=fE.out.lt;have:=nG.parts.1;omega);have bY:Hid (Below w.heap.size w w3):=hid (bR.out.trans (aR.out.trans (cW.mono (by have:=aR.out.size;rw[pX.out] at this;exact this))));clear nG cW eU fE aR HA' HB' bR pX;go_wp2_with fail
   go_loopg [0,1] (a+b) (fun m s0 s1 wr=>∃(p:Option Addr) (n c x y:Nat),x+y=m∧s1 = .slice p n c∧Hid (qap wr s0 x)∧Hid (qap wr (.slice p n c) y)∧Hid (n=wl y)∧Hid (Nat.gcd x y=g)∧Hid (y≤x)∧Hid (wl x≤Cap)∧Hid (Below w.heap.size w wr)∧Hid (Rows w.heap.size wr s0 (.slice p n c) x y))
   case atStart=>exact⟨_,_,_,a,b,rfl,rfl,hid Ay.out.nat,hid iF.out.nat,hid rfl,mM,fF,Ej,bY,hid (.inr ⟨_,_,_,_,rfl,rfl,Ay.out,iF.out,gK.out⟩)⟩
   case round=>
    obtain⟨p,n,c,x,y,rfl,rfl,HX,HY,HN,HG,fK,nH,dV,qA⟩:=hrel;have Jv:Hid (wl y≤Cap):=hid (Nat.le_trans (qad qae fK.out) nH.out);rcases Nat.lt_or_ge 1 n with hn|hn
    ·have hn':(1:Int)<(n:Int):=by omega
     obtain⟨gx,cx,gy,cy,rfl,he,oV,nG,hne⟩:∃gx cx gy cy,_=Value.slice (some ⟨gx,0,none⟩) (wl x) cx∧Value.slice p n c = .slice (some ⟨gy,0,none⟩) (wl y) cy∧qdb wr w.heap.size gx cx (qaf B64 x)∧qdb wr w.heap.size gy cy (qaf B64 y)∧gx≠gy:=by
      rcases qA.out with h|h
      ·have:=HN.out;omega
      ·exact h
     cases he
     have h2y:2≤wl y:=hn;have Az:=hid (qhs _ _ x y wr HX.out HY.out fK.out h2y nH.out);have nI:Hid (gx<wr.heap.size):=hid oV.lt;have kZ:Hid (gy<wr.heap.size):=hid nG.lt;have xH:=hid oV;have xI:=hid nG;have jW:=hid hne;have H2Y:=hid h2y;clear hn oV nG hne h2y qA;go_wp2_with fail;refine Az.out.mono ?_;rintro e w2 ⟨⟨u0,u1,t0,t1,ev,rfl,pV,nX,kB,fB,nJ⟩,aT⟩;have nK:=hid (xH.out.later aT nI.out);have jT:=hid (xI.out.later aT kZ.out);have nL:Hid (gx<w2.heap.size):=hid (Nat.lt_of_lt_of_le nI.out aT.size);have gL:Hid (gy<w2.heap.size):=hid (Nat.lt_of_lt_of_le kZ.out aT.size);have aR:=hid (dV.out.trans (aT.mono dV.out.size));have yD:=hid pV;have yC:=hid nX;have cG:=hid kB;have cE:=hid fB;have uF:=hid nJ;clear pV nX kB fB nJ aT Az HX HY xH xI dV;by_cases ht:t0=0
     ·subst ht
      have Ba:0<y:=by
       rcases zav y with e|e
       ·have:=H2Y.out;rw[e] at this;simp[wl,qal] at this
       ·exact e
      have dH:=fun W hb=>hid (qgc _ _ x y W (nK.out.later hb nL.out).nat (jT.out.later hb gL.out).nat fK.out H2Y.out nH.out);have iE:Hid (x % y<y):=hid (Nat.mod_lt _ Ba);have uG:Hid (Nat.gcd y (x % y)=g):=hid (by rw[←HG.out,Nat.gcd_comm x y,Nat.gcd_rec y x,Nat.gcd_comm]);clear Ba;go_wp2_with fail;refine((dH _ (zam _ _)).out).mono ?_;rintro e w3 ⟨⟨vq,gr,cr,rfl,hq,hr⟩,cW⟩;have fD:Below w2.heap.size w2 w3:=((zan w2.heap.size w2).alloc (zap _) _).trans (cW.mono (by rw[zao];omega));have Db:w2.heap.size≤gr:=by have:=hr.parts.1;rw[zao] at this;omega
      have HR:=hid (hr.mono (base':=w.heap.size) (by have:=aR.out.size;rw[zao];omega));have iF:=hid (jT.out.later fD gL.out);have gK:Hid (gy≠gr):=hid (by have:=gL.out;omega);have bY:=hid (aR.out.trans (fD.mono aR.out.size));clear hq hr cW fD dH Db;go_wp2_with fail
      go_roundg (y+x % y)
      case measure=>have:=iE.out;have:=fK.out;omega
      case rel=>exact⟨_,_,_,y,x % y,rfl,rfl,hid iF.out.nat,hid HR.out.nat,hid rfl,uG,hid (Nat.le_of_lt iE.out),Jv,bY,hid (.inr ⟨_,_,_,_,rfl,rfl,iF.out,HR.out,gK.out⟩)⟩
     ·have hte:((t0:Int)==0)=false:=zat (by omega)
      have iG:=fun W hb=>hid (qk3 gx cx gy c w.heap.size x y u0 u1 t0 t1 ev W (nK.out.later hb nL.out) (jT.out.later hb gL.out) jW.out yD.out yC.out cG.out cE.out uF.out ht nH.out fK.out)
      have mU:Hid (0<y):=hid (by
       rcases zav y with e|e
       ·have:=H2Y.out;rw[e] at this;simp[wl,qal] at this
       ·exact e)
      go_wp2_with fail;refine((iG _ (zam _ _)).out).mono ?_;rintro e w3 ⟨⟨gx',cx',gy',cy',x',y',rfl,hx,hy,hne',hg',hyx',cN⟩,cW⟩;have kT:=hid hx;have HR:=hid hy;have gK:=hid hne';have bY:Hid (Below w.heap.size w w3):=hid (aR.out.trans (((zan w.heap.size w2).alloc aR.out.size _).trans cW));have uG:Hid (Nat.gcd x' y'=g):=hid (hg'.trans HG.out);have HYX':=hid hyx';have uH:=hid cN;have HCX':Hid (wl x'≤Cap):=hid (Nat.le_trans (qad qae (by omega)) nH.out);clear hx hy cW iG hg' hyx' cN hne';go_wp2_with fail
      go_roundg (x'+y')
      case measure=>have:=uH.out;have:=mU.out;omega
      case rel=>exact⟨_,_,_,x',y',rfl,rfl,hid kT.out.nat,hid HR.out.nat,hid rfl,uG,HYX',HCX',bY,hid (.inr ⟨_,_,_,_,rfl,rfl,kT.out,HR.out,gK.out⟩)⟩
    ·have hn':¬(1:Int)<(n:Int):=by omega
     have uI:n=0∨n=1:=by omega
     clear hn qA;rcases uI with rfl|rfl
     ·have Jw:Hid (x=g):=hid (by have:=qek HN.out.symm;rw[←HG.out,this,Nat.gcd_zero_right])
      go_wp2_with fail;go_ret;exact⟨⟨_,rfl,by rw[←Jw.out];exact HX.out⟩,dV.out⟩
     ·obtain⟨z,hz⟩:∃z,qaf B64 y=[z]:=by
       have h3:(qaf B64 y).length=1:=HN.out.symm
       match qaf B64 y,h3 with
       | [z],_=>exact⟨z,rfl⟩
      have Jx:z=y:=by
       have:=qah B64 y qae;rw[hz] at this
       simpa using this
      subst Jx;have Bb:z<B64:=qd6 B64 z qae z (by rw[hz];simp)
      have cT:0<z:=by
       rcases zav z with e|e
       ·rw[e,qal] at hz;cases hz
       ·exact e
      have Jy:Wds wr (.slice p 1 c) [z]:=by have:=HY.out;unfold qap at this;rw[hz] at this;exact this
      obtain⟨_,p',c',he,_,_,aA⟩:=Jy;cases he
      rcases aA with h0|⟨bb,ob,rfl,aB⟩
      ·cases h0
      have aC:=aB 0 (by simp);simp[wd] at aC
      have aV:Hid (∀w',Below wr.heap.size wr w'→w'.cell? ⟨bb,ob,none⟩=some (.int .u64 z)):=hid fun w' hb'=>by
       rw[hb'.cell (p:=⟨bb,ob,none⟩) (zaq wr _ aC)];exact aC
      have bX:Below wr.heap.size wr wr.drew:=(zan _ _).drew;obtain⟨rm,qM⟩:∃rm,x % z=rm:=⟨_,rfl⟩
      have uJ:=hid ((qfu _ x z wr.drew (HX.out.later bX) cT Bb).mono (R':=fun e w'=>e = .returned (.int .u64 (rm:Nat))∧Below wr.heap.size wr w') (by
       rintro e w' ⟨rfl,hb'⟩
       exact⟨by rw[qM],bX.trans hb'⟩))
      have Bc:=hid (fun w=>qel z rm w);have nZ:Nat.gcd z rm=g:=by rw[←qM,←HG.out,Nat.gcd_comm x z,Nat.gcd_rec z x,Nat.gcd_comm]
      rw[nZ] at Bc;have uK:g≤z:=by rw[←nZ];exact Nat.gcd_le_left _ cT
      have qL:Hid (g<B64):=hid (by omega);have oW:Hid (0<g):=hid (by rw[←nZ];exact Nat.gcd_pos_of_pos_left _ cT);clear bX aB hz Bb cT qM nZ uK HN HY HG fK mM nE fF HX;go_wp2_with fail
      go_region_held3 (fun W=>W.cell? ⟨bb,ob,none⟩=some (.int .u64 z)) (first|with_reducible exact aV.out _ eN.out|with_reducible exact aV.out _ fR.out|with_reducible exact aV.out _ (eN.out.alloc eN.out.size _)|exact aC)
       (first|(go_at_call 117;refine uJ.out.mono ?_;rintro e w2 ⟨rfl,hG⟩;have fR:=hid hG;clear hG)|(go_at_call 116;refine(Bc.out _).mono ?_;rintro e w4 ⟨rfl,q4,nD⟩;have eN:Hid (Below wr.heap.size wr w4):=hid (by rw[nD];exact below_drewN fR.out q4);clear nD))
      all_goals
       have fA:Hid (Below w.heap.size w w4):=hid (dV.out.trans (eN.out.mono dV.out.size));go_wp2_with fail;go_ret;exact⟨⟨_,rfl,qj6 w4 g qL.out oW.out⟩,fA.out.alloc fA.out.size _⟩
  ·have hn1':¬(1:Int)<(nb:Int):=by omega
   go_wp2_with fail
   go_loopg [0,1] (a+b) (fun m s0 s1 wr=>∃(p:Option Addr) (n c x y:Nat),x+y=m∧s1 = .slice p n c∧Hid (qap wr s0 x)∧Hid (qap wr (.slice p n c) y)∧Hid (n=wl y)∧Hid (Nat.gcd x y=g)∧Hid (y≤x)∧Hid (wl x≤Cap)∧Hid (Below w.heap.size w wr)∧Hid (Rows w.heap.size wr s0 (.slice p n c) x y))
   case atStart=>exact⟨pb,nb,cb,a,b,rfl,rfl,HA',HB',jE,mM,fF,Ej,bR,hid (.inl (by have:=jE.out;omega))⟩
   case round=>
    obtain⟨p,n,c,x,y,rfl,rfl,HX,HY,HN,HG,fK,nH,dV,qA⟩:=hrel;have Jv:Hid (wl y≤Cap):=hid (Nat.le_trans (qad qae fK.out) nH.out);rcases Nat.lt_or_ge 1 n with hn|hn
    ·have hn':(1:Int)<(n:Int):=by omega
     obtain⟨gx,cx,gy,cy,rfl,he,oV,nG,hne⟩:∃gx cx gy cy,_=Value.slice (some ⟨gx,0,none⟩) (wl x) cx∧Value.slice p n c = .slice (some ⟨gy,0,none⟩) (wl y) cy∧qdb wr w.heap.size gx cx (qaf B64 x)∧qdb wr w.heap.size gy cy (qaf B64 y)∧gx≠gy:=by
      rcases qA.out with h|h
      ·have:=HN.out;omega
      ·exact h
     cases he
     have h2y:2≤wl y:=hn;have Az:=hid (qhs _ _ x y wr HX.out HY.out fK.out h2y nH.out);have nI:Hid (gx<wr.heap.size):=hid oV.lt;have kZ:Hid (gy<wr.heap.size):=hid nG.lt;have xH:=hid oV;have xI:=hid nG;have jW:=hid hne;have H2Y:=hid h2y;clear hn oV nG hne h2y qA;go_wp2_with fail;refine Az.out.mono ?_;rintro e w2 ⟨⟨u0,u1,t0,t1,ev,rfl,pV,nX,kB,fB,nJ⟩,aT⟩;have nK:=hid (xH.out.later aT nI.out);have jT:=hid (xI.out.later aT kZ.out);have nL:Hid (gx<w2.heap.size):=hid (Nat.lt_of_lt_of_le nI.out aT.size);have gL:Hid (gy<w2.heap.size):=hid (Nat.lt_of_lt_of_le kZ.out aT.size);have aR:=hid (dV.out.trans (aT.mono dV.out.size));have yD:=hid pV;have yC:=hid nX;have cG:=hid kB;have cE:=hid fB;have uF:=hid nJ;clear pV nX kB fB nJ aT Az HX HY xH xI dV;by_cases ht:t0=0
     ·subst ht
      have Ba:0<y:=by
       rcases zav y with e|e
       ·have:=H2Y.out;rw[e] at this;simp[wl,qal] at this
       ·exact e
      have dH:=fun W hb=>hid (qgc _ _ x y W (nK.out.later hb nL.out).nat (jT.out.later hb gL.out).nat fK.out H2Y.out nH.out);have iE:Hid (x % y<y):=hid (Nat.mod_lt _ Ba);have uG:Hid (Nat.gcd y (x % y)=g):=hid (by rw[←HG.out,Nat.gcd_comm x y,Nat.gcd_rec y x,Nat.gcd_comm]);clear Ba;go_wp2_with fail;refine((dH _ (zam _ _)).out).mono ?_;rintro e w3 ⟨⟨vq,gr,cr,rfl,hq,hr⟩,cW⟩;have fD:Below w2.heap.size w2 w3:=((zan w2.heap.size w2).alloc (zap _) _).trans (cW.mono (by rw[zao];omega));have Db:w2.heap.size≤gr:=by have:=hr.parts.1;rw[zao] at this;omega
      have HR:=hid (hr.mono (base':=w.heap.size) (by have:=aR.out.size;rw[zao];omega));have iF:=hid (jT.out.later fD gL.out);have gK:Hid (gy≠gr):=hid (by have:=gL.out;omega);have bY:=hid (aR.out.trans (fD.mono aR.out.size));clear hq hr cW fD dH Db;go_wp2_with fail
      go_roundg (y+x % y)
      case measure=>have:=iE.out;have:=fK.out;omega
      case rel=>exact⟨_,_,_,y,x % y,rfl,rfl,hid iF.out.nat,hid HR.out.nat,hid rfl,uG,hid (Nat.le_of_lt iE.out),Jv,bY,hid (.inr ⟨_,_,_,_,rfl,rfl,iF.out,HR.out,gK.out⟩)⟩
     ·have hte:((t0:Int)==0)=false:=zat (by omega)
      have iG:=fun W hb=>hid (qk3 gx cx gy c w.heap.size x y u0 u1 t0 t1 ev W (nK.out.later hb nL.out) (jT.out.later hb gL.out) jW.out yD.out yC.out cG.out cE.out uF.out ht nH.out fK.out)
      have mU:Hid (0<y):=hid (by
       rcases zav y with e|e
       ·have:=H2Y.out;rw[e] at this;simp[wl,qal] at this
       ·exact e)
      go_wp2_with fail;refine((iG _ (zam _ _)).out).mono ?_;rintro e w3 ⟨⟨gx',cx',gy',cy',x',y',rfl,hx,hy,hne',hg',hyx',cN⟩,cW⟩;have kT:=hid hx;have HR:=hid hy;have gK:=hid hne';have bY:Hid (Below w.heap.size w w3):=hid (aR.out.trans (((zan w.heap.size w2).alloc aR.out.size _).trans cW));have uG:Hid (Nat.gcd x' y'=g):=hid (hg'.trans HG.out);have HYX':=hid hyx';have uH:=hid cN;have HCX':Hid (wl x'≤Cap):=hid (Nat.le_trans (qad qae (by omega)) nH.out);clear hx hy cW iG hg' hyx' cN hne';go_wp2_with fail
      go_roundg (x'+y')
      case measure=>have:=uH.out;have:=mU.out;omega
      case rel=>exact⟨_,_,_,x',y',rfl,rfl,hid kT.out.nat,hid HR.out.nat,hid rfl,uG,HYX',HCX',bY,hid (.inr ⟨_,_,_,_,rfl,rfl,kT.out,HR.out,gK.out⟩)⟩
    ·have hn':¬(1:Int)<(n:Int):=by omega
     have uI:n=0∨n=1:=by omega
     clear hn qA;rcases uI with rfl|rfl
     ·have Jw:Hid (x=g):=hid (by have:=qek HN.out.symm;rw[←HG.out,this,Nat.gcd_zero_right])
      go_wp2_with fail;go_ret;exact⟨⟨_,rfl,by rw[←Jw.out];exact HX.out⟩,dV.out⟩
     ·obtain⟨z,hz⟩:∃z,qaf B64 y=[z]:=by
       have h3:(qaf B64 y).length=1:=HN.out.symm
       match qaf B64 y,h3 with
       | [z],_=>exact⟨z,rfl⟩
      have Jx:z=y:=by
       have:=qah B64 y qae;rw[hz] at this
       simpa using this
      subst Jx;have Bb:z<B64:=qd6 B64 z qae z (by rw[hz];simp)
      have cT:0<z:=by
       rcases zav z with e|e
       ·rw[e,qal] at hz;cases hz
       ·exact e
      have Jy:Wds wr (.slice p 1 c) [z]:=by have:=HY.out;unfold qap at this;rw[hz] at this;exact this
      obtain⟨_,p',c',he,_,_,aA⟩:=Jy;cases he
      rcases aA with h0|⟨bb,ob,rfl,aB⟩
      ·cases h0
      have aC:=aB 0 (by simp);simp[wd] at aC
      have aV:Hid (∀w',Below wr.heap.size wr w'→w'.cell? ⟨bb,ob,none⟩=some (.int .u64 z)):=hid fun w' hb'=>by
       rw[hb'.cell (p:=⟨bb,ob,none⟩) (zaq wr _ aC)];exact aC
      have bX:Below wr.heap.size wr wr.drew:=(zan _ _).drew;obtain⟨rm,qM⟩:∃rm,x % z=rm:=⟨_,rfl⟩
      have uJ:=hid ((qfu _ x z wr.drew (HX.out.later bX) cT Bb).mono (R':=fun e w'=>e = .returned (.int .u64 (rm:Nat))∧Below wr.heap.size wr w') (by
       rintro e w' ⟨rfl,hb'⟩
       exact⟨by rw[qM],bX.trans hb'⟩))
      have Bc:=hid (fun w=>qel z rm w);have nZ:Nat.gcd z rm=g:=by rw[←qM,←HG.out,Nat.gcd_comm x z,Nat.gcd_rec z x,Nat.gcd_comm]
      rw[nZ] at Bc;have uK:g≤z:=by rw[←nZ];exact Nat.gcd_le_left _ cT
      have qL:Hid (g<B64):=hid (by omega);have oW:Hid (0<g):=hid (by rw[←nZ];exact Nat.gcd_pos_of_pos_left _ cT);clear bX aB hz Bb cT qM nZ uK HN HY HG fK mM nE fF HX;go_wp2_with fail
      go_region_held3 (fun W=>W.cell? ⟨bb,ob,none⟩=some (.int .u64 z)) (first|with_reducible exact aV.out _ eN.out|with_reducible exact aV.out _ fR.out|with_reducible exact aV.out _ (eN.out.alloc eN.out.size _)|exact aC)
       (first|(go_at_call 117;refine uJ.out.mono ?_;rintro e w2 ⟨rfl,hG⟩;have fR:=hid hG;clear hG)|(go_at_call 116;refine(Bc.out _).mono ?_;rintro e w4 ⟨rfl,q4,nD⟩;have eN:Hid (Below wr.heap.size wr w4):=hid (by rw[nD];exact below_drewN fR.out q4);clear nD))
      all_goals
       have fA:Hid (Below w.heap.size w w4):=hid (dV.out.trans (eN.out.mono dV.out.size));go_wp2_with fail;go_ret;exact⟨⟨_,rfl,qj6 w4 g qL.out oW.out⟩,fA.out.alloc fA.out.size _⟩
theorem qdk(va vb:Value)(a b:Nat)(w:World)(ha:qap w va a)(hb:qap w vb b)(lM:wl a≤Cap)(Nr:wl b≤Cap):
  Calls Tryz.prog 77 #[va,vb] w fun e w'=>(∃v',e = .returned v'∧qap w' v' (Nat.gcd a b))∧Below w.heap.size w w':=by
 by_cases h:a=1∨b=1
 ·exact q62 va vb a b w ha hb h
 ·exact q34 va vb a b w ha hb (by omega) (by omega) lM Nr
end Go.Proofs.YtclimablgihlhaaGreatDoor
