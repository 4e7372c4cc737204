/- commonDivisor: the greatest common divisor. -/
import Derived.Test.YtlkdlffhmakbgaaGreatDoorMTake
import Derived.Test.YtlkdlffhmakbgaaGreatDoorMMine
import Derived.Deep.RegionHeld3
set_option linter.all false
namespace Go.Proofs.YtlkdlffhmakbgaaGreatDoor
open Go.RowKit
set_option maxRecDepth 100000
set_option maxHeartbeats 4000000
def Rows(base:Nat)(w:World)(s0 s1:Value)(x y:Nat):Prop:=
 wl y≤1∨∃gx cx gy cy,s0 = .slice (some ⟨gx,0,none⟩) (wl x) cx∧s1 = .slice (some ⟨gy,0,none⟩) (wl y) cy∧qdm w base gx cx (qan B64 x)∧qdm w base gy cy (qan B64 y)∧gx≠gy
theorem qkj(w:World)(x:Nat)(hx:x<B64)(h0:0<x):qa5 (w.alloc (.cells #[.int .u64 (x:Nat)] 160)) (.slice (some ⟨w.heap.size,0,none⟩) 1 1) x:=by
 have h:=qw0 w x hx
 have e:qan B64 x=[x]:=by
  rw[qfx B64 x qal h0,Nat.mod_eq_of_lt hx,Nat.div_eq_of_lt hx,qat]
 unfold qa5;rw[e];exact h
theorem q7a(va vb:Value)(a b:Nat)(w:World)(ha:qa5 w va a)(hb:qa5 w vb b)(h1:a=1∨b=1):
  Calls Tryz.prog 111 #[va,vb] w fun e w'=>(∃v',e = .returned v'∧qa5 w' v' (Nat.gcd a b))∧Below w.heap.size w w':=by
 have hg:Nat.gcd a b=1:=by rcases h1 with rfl|rfl<;>simp
 rw[hg];have HF:=hid (qkj w 1 (by rw[qai];omega) (by omega));have HB:Hid (Below w.heap.size w (w.alloc (.cells #[.int .u64 ((1:Nat):Int)] 160))):=hid (qad _ _);by_cases dQ:a=1
 ·subst dQ
  have eP:=hid (qcm va 1 true rfl w ha);clear ha hb hg h1;go_enter Tryz.func111,Tryz.ntmps111;go_wp2_with fail;refine eP.out.mono ?_;rintro e w' ⟨rfl,hw⟩;subst hw;go_wp2_with fail;go_ret;exact⟨⟨_,rfl,HF.out⟩,HB.out⟩
 ·have aZ:b=1:=by omega
  subst aZ;have eP:=hid (qcm va a false (by simp[dQ]) w ha);have aP:=hid (qcm vb 1 true rfl w hb);clear ha hb hg h1 dQ;go_enter Tryz.func111,Tryz.ntmps111;go_wp2_with fail;refine eP.out.mono ?_;rintro e w' ⟨rfl,hw⟩;subst hw;go_wp2_with fail;refine aP.out.mono ?_;rintro e w' ⟨rfl,hw⟩;subst hw;go_wp2_with fail;go_ret;exact⟨⟨_,rfl,HF.out⟩,HB.out⟩
theorem q4v(va vb:Value)(a b:Nat)(w:World)(ha:qa5 w va a)(hb:qa5 w vb b)(dQ:a≠1)(aZ:b≠1)(lJ:wl a≤Cap)(Li:wl b≤Cap):
  Calls Tryz.prog 111 #[va,vb] w fun e w'=>(∃v',e = .returned v'∧qa5 w' v' (Nat.gcd a b))∧Below w.heap.size w w':=by
 have eP:=hid (qcm va a false (by simp[dQ]) w ha);have aP:=hid (qcm vb b false (by simp[aZ]) w hb);have eM:=hid (qei va vb a b w ha hb);obtain⟨g,hg⟩:∃g,Nat.gcd a b=g:=⟨_,rfl⟩;rw[hg];have HA:=hid ha;have HB:=hid hb;have Cx:=hid lJ;have rA:=hid Li;obtain⟨la,pa,ca,rfl,nS,qP,dF,Bk⟩:=qgb ha;obtain⟨lb,pb,cb,rfl,hx3,hx4,cS,yA⟩:=qgb hb;have lA:=hid dF;have jE:=hid cS;clear Bk yA dF cS ha hb lJ Li dQ aZ nS qP hx3 hx4;generalize la.length=na at *;generalize lb.length=nb at *;clear la lb
 have Oq:(qex a b<0∧a<b)∨(¬qex a b<0∧b≤a):=by
  unfold qex;rcases Nat.lt_or_ge a b with h|h
  ·left;rw[qdf (by omega)];omega
  ·right
   rcases Nat.lt_or_ge b a with h'|h'
   ·rw[qcr (by omega)];omega
   ·rw[qet (by omega)];omega
 have Hw:=hid Oq;clear Oq;obtain⟨mE,mW⟩:Hid (Nat.gcd a b=g)∧Hid (Nat.gcd b a=g):=⟨hid hg,hid (by rw[Nat.gcd_comm];exact hg)⟩;clear hg;go_enter Tryz.func111,Tryz.ntmps111;go_wp2_with fail;refine eP.out.mono ?_;rintro e w' ⟨rfl,hw⟩;subst hw;go_wp2_with fail;refine aP.out.mono ?_;rintro e w' ⟨rfl,hw⟩;subst hw;go_wp2_with fail;refine eM.out.mono ?_;rintro e w1 ⟨rfl,q,cY⟩;have lK:Below w.heap.size w w1:=by rw[cY];exact below_drewN (qaa _ _) q
 have HA':=hid (HA.out.later lK);have HB':=hid (HB.out.later lK);have bM:=hid lK;have mX:Hid (w1.heap.size=w.heap.size):=hid (by rw[cY];rfl);clear cY lK eM eP aP HA HB;generalize qex a b=cv at *;rcases Hw.out with⟨qU,oJ⟩|⟨qU,oJ⟩
 ·have jF:=hid oJ
  clear oJ Hw;by_cases dZ:1<na
  ·have hn1':(1:Int)<(na:Int):=by omega
   have pP:0<(qan B64 a).length:=by have:=lA.out;show 0<wl a;omega
   have pQ:0<(qan B64 b).length:=by
    have:=qak (b:=B64) qal (m:=a) (n:=b) (Nat.le_of_lt jF.out);omega
   have jV:Hid (Calls Tryz.prog 153 #[.slice pb nb cb] w1 fun e w'=>(∃g cap,e = .returned (.slice (some ⟨g,0,none⟩) (wl b) cap)∧qdm w' w.heap.size g cap (qan B64 b))∧Below w.heap.size w1 w'):=by
    have h:=qjm _ _ w1 HB'.out pQ rA.out;rw[mX.out] at h;exact hid h
   have iE:Hid (∀w2,Below w.heap.size w1 w2→Calls Tryz.prog 153 #[.slice pa na ca] w2 fun e w'=>(∃g cap,e = .returned (.slice (some ⟨g,0,none⟩) (wl a) cap)∧qdm w' w2.heap.size g cap (qan B64 a))∧Below w2.heap.size w2 w'):=
    hid fun w2 aR=>qjm _ _ w2 (HA'.out.later (by rw[mX.out];exact aR)) pP Cx.out
   clear pP pQ dZ;go_wp2_with fail;refine jV.out.mono ?_;rintro e w2 ⟨⟨gx,cx,rfl,oM⟩,aR⟩;have aK:=hid aR;have eV:=hid oM;clear aR oM jV;go_wp2_with fail;refine(iE.out w2 aK.out).mono ?_;rintro e w3 ⟨⟨gy,cy,rfl,mY⟩,cN⟩;have zN:Hid (qdm w3 w.heap.size gx cx (qan B64 b)):=hid (eV.out.later cN eV.out.lt);have hG:Hid (qdm w3 w.heap.size gy cy (qan B64 a)):=hid (mY.mono (by have:=aK.out.size;rw[mX.out] at this;exact this));have gA:Hid (gx≠gy):=hid (by have:=eV.out.lt;have:=mY.parts.1;omega);have bR:Hid (Below w.heap.size w w3):=hid (bM.out.trans (aK.out.trans (cN.mono (by have:=aK.out.size;rw[mX.out] at this;exact this))));clear mY cN iE eV aK HB' HA' bM mX;go_wp2_with fail
   go_loopg [0,1] (b+a) (fun m s0 s1 wr=>∃(p:Option Addr) (n c x y:Nat),x+y=m∧s1 = .slice p n c∧Hid (qa5 wr s0 x)∧Hid (qa5 wr (.slice p n c) y)∧Hid (n=wl y)∧Hid (Nat.gcd x y=g)∧Hid (y≤x)∧Hid (wl x≤Cap)∧Hid (Below w.heap.size w wr)∧Hid (Rows w.heap.size wr s0 (.slice p n c) x y))
   case atStart=>exact⟨_,_,_,b,a,rfl,rfl,hid zN.out.nat,hid hG.out.nat,hid rfl,mW,hid (Nat.le_of_lt jF.out),rA,bR,hid (.inr ⟨_,_,_,_,rfl,rfl,zN.out,hG.out,gA.out⟩)⟩
   case round=>
    obtain⟨p,n,c,x,y,rfl,rfl,HX,HY,HN,HG,fF,mZ,eG,pS⟩:=hrel;have Hx:Hid (wl y≤Cap):=hid (Nat.le_trans (qak qal fF.out) mZ.out);rcases Nat.lt_or_ge 1 n with hn|hn
    ·have hn':(1:Int)<(n:Int):=by omega
     obtain⟨gx,cx,gy,cy,rfl,he,oM,mY,hne⟩:∃gx cx gy cy,_=Value.slice (some ⟨gx,0,none⟩) (wl x) cx∧Value.slice p n c = .slice (some ⟨gy,0,none⟩) (wl y) cy∧qdm wr w.heap.size gx cx (qan B64 x)∧qdm wr w.heap.size gy cy (qan B64 y)∧gx≠gy:=by
      rcases pS.out with h|h
      ·have:=HN.out;omega
      ·exact h
     cases he
     have h2y:2≤wl y:=hn;have zO:=hid (qhv _ _ x y wr HX.out HY.out fF.out h2y mZ.out);have jO:Hid (gx<wr.heap.size):=hid oM.lt;have kN:Hid (gy<wr.heap.size):=hid mY.lt;have oN:=hid oM;have uJ:=hid mY;have iF:=hid hne;have H2Y:=hid h2y;clear hn oM mY hne h2y pS;go_wp2_with fail;refine zO.out.mono ?_;rintro e w2 ⟨⟨u0,u1,t0,t1,ev,rfl,pO,nL,jG,eW,nA⟩,aR⟩;have nB:=hid (oN.out.later aR jO.out);have iV:=hid (uJ.out.later aR kN.out);have nC:Hid (gx<w2.heap.size):=hid (Nat.lt_of_lt_of_le jO.out aR.size);have gB:Hid (gy<w2.heap.size):=hid (Nat.lt_of_lt_of_le kN.out aR.size);have aK:=hid (eG.out.trans (aR.mono eG.out.size));have vO:=hid pO;have vK:=hid nL;have bX:=hid jG;have cV:=hid eW;have tB:=hid nA;clear pO nL jG eW nA aR zO HX HY oN uJ eG;by_cases ht:t0=0
     ·subst ht
      have zP:0<y:=by
       rcases qas y with e|e
       ·have:=H2Y.out;rw[e] at this;simp[wl,qat] at this
       ·exact e
      have cW:=fun W hb=>hid (qgc _ _ x y W (nB.out.later hb nC.out).nat (iV.out.later hb gB.out).nat fF.out H2Y.out mZ.out);have gW:Hid (x % y<y):=hid (Nat.mod_lt _ zP);have oO:Hid (Nat.gcd y (x % y)=g):=hid (by rw[←HG.out,Nat.gcd_comm x y,Nat.gcd_rec y x,Nat.gcd_comm]);clear zP;go_wp2_with fail;refine((cW _ (qad _ _)).out).mono ?_;rintro e w3 ⟨⟨vq,gr,cr,rfl,hq,hr⟩,cN⟩;have fA:Below w2.heap.size w2 w3:=((qaa w2.heap.size w2).alloc (qac _) _).trans (cN.mono (by rw[qab];omega));have nN:w2.heap.size≤gr:=by have:=hr.parts.1;rw[qab] at this;omega
      have HR:=hid (hr.mono (base':=w.heap.size) (by have:=aK.out.size;rw[qab];omega));have hG:=hid (iV.out.later fA gB.out);have gA:Hid (gy≠gr):=hid (by have:=gB.out;omega);have bR:=hid (aK.out.trans (fA.mono aK.out.size));clear hq hr cN fA cW nN;go_wp2_with fail
      go_roundg (y+x % y)
      case measure=>have:=gW.out;have:=fF.out;omega
      case rel=>exact⟨_,_,_,y,x % y,rfl,rfl,hid hG.out.nat,hid HR.out.nat,hid rfl,oO,hid (Nat.le_of_lt gW.out),Hx,bR,hid (.inr ⟨_,_,_,_,rfl,rfl,hG.out,HR.out,gA.out⟩)⟩
     ·have hte:((t0:Int)==0)=false:=qam (by omega)
      have fW:=fun W hb=>hid (qlb gx cx gy c w.heap.size x y u0 u1 t0 t1 ev W (nB.out.later hb nC.out) (iV.out.later hb gB.out) iF.out vO.out vK.out bX.out cV.out tB.out ht mZ.out fF.out)
      have mL:Hid (0<y):=hid (by
       rcases qas y with e|e
       ·have:=H2Y.out;rw[e] at this;simp[wl,qat] at this
       ·exact e)
      go_wp2_with fail;refine((fW _ (qad _ _)).out).mono ?_;rintro e w3 ⟨⟨gx',cx',gy',cy',x',y',rfl,hx,hy,hne',hg',hyx',bZ⟩,cN⟩;have jW:=hid hx;have HR:=hid hy;have gA:=hid hne';have bR:Hid (Below w.heap.size w w3):=hid (aK.out.trans (((qaa w.heap.size w2).alloc aK.out.size _).trans cN));have oO:Hid (Nat.gcd x' y'=g):=hid (hg'.trans HG.out);have HYX':=hid hyx';have tC:=hid bZ;have HCX':Hid (wl x'≤Cap):=hid (Nat.le_trans (qak qal (by omega)) mZ.out);clear hx hy cN fW hg' hyx' bZ hne';go_wp2_with fail
      go_roundg (x'+y')
      case measure=>have:=tC.out;have:=mL.out;omega
      case rel=>exact⟨_,_,_,x',y',rfl,rfl,hid jW.out.nat,hid HR.out.nat,hid rfl,oO,HYX',HCX',bR,hid (.inr ⟨_,_,_,_,rfl,rfl,jW.out,HR.out,gA.out⟩)⟩
    ·have hn':¬(1:Int)<(n:Int):=by omega
     have tD:n=0∨n=1:=by omega
     clear hn pS;rcases tD with rfl|rfl
     ·have Hy:Hid (x=g):=hid (by have:=qeu HN.out.symm;rw[←HG.out,this,Nat.gcd_zero_right])
      go_wp2_with fail;go_ret;exact⟨⟨_,rfl,by rw[←Hy.out];exact HX.out⟩,eG.out⟩
     ·obtain⟨z,hz⟩:∃z,qan B64 y=[z]:=by
       have h3:(qan B64 y).length=1:=HN.out.symm
       match qan B64 y,h3 with
       | [z],_=>exact⟨z,rfl⟩
      have Hz:z=y:=by
       have:=qar B64 y qal;rw[hz] at this
       simpa using this
      subst Hz;have zQ:z<B64:=qeh B64 z qal z (by rw[hz];simp)
      have cU:0<z:=by
       rcases qas z with e|e
       ·rw[e,qat] at hz;cases hz
       ·exact e
      have Ia:Wds wr (.slice p 1 c) [z]:=by have:=HY.out;unfold qa5 at this;rw[hz] at this;exact this
      obtain⟨_,p',c',he,_,_,aA⟩:=Ia;cases he
      rcases aA with h0|⟨bb,ob,rfl,aB⟩
      ·cases h0
      have aC:=aB 0 (by simp);simp[wd] at aC
      have bA:Hid (∀w',Below wr.heap.size wr w'→w'.cell? ⟨bb,ob,none⟩=some (.int .u64 z)):=hid fun w' hb'=>by
       rw[hb'.cell (p:=⟨bb,ob,none⟩) (qae wr _ aC)];exact aC
      have bT:Below wr.heap.size wr wr.drew:=(qaa _ _).drew;obtain⟨rm,qB⟩:∃rm,x % z=rm:=⟨_,rfl⟩
      have tE:=hid ((qfz _ x z wr.drew (HX.out.later bT) cU zQ).mono (R':=fun e w'=>e = .returned (.int .u64 (rm:Nat))∧Below wr.heap.size wr w') (by
       rintro e w' ⟨rfl,hb'⟩
       exact⟨by rw[qB],bT.trans hb'⟩))
      have zR:=hid (fun w=>qev z rm w);have nO:Nat.gcd z rm=g:=by rw[←qB,←HG.out,Nat.gcd_comm x z,Nat.gcd_rec z x,Nat.gcd_comm]
      rw[nO] at zR;have tF:g≤z:=by rw[←nO];exact Nat.gcd_le_left _ cU
      have qA:Hid (g<B64):=hid (by omega);have xE:Hid (0<g):=hid (by rw[←nO];exact Nat.gcd_pos_of_pos_left _ cU);clear bT aB hz zQ cU qB nO tF HN HY HG fF mE mW jF HX;go_wp2_with fail
      go_region_held3 (fun W=>W.cell? ⟨bb,ob,none⟩=some (.int .u64 z)) (first|with_reducible exact bA.out _ eN.out|with_reducible exact bA.out _ fK.out|with_reducible exact bA.out _ (eN.out.alloc eN.out.size _)|exact aC)
       (first|(go_at_call 157;refine tE.out.mono ?_;rintro e w2 ⟨rfl,gM⟩;have fK:=hid gM;clear gM)|(go_at_call 156;refine(zR.out _).mono ?_;rintro e w4 ⟨rfl,q4,mU⟩;have eN:Hid (Below wr.heap.size wr w4):=hid (by rw[mU];exact below_drewN fK.out q4);clear mU))
      all_goals
       have eL:Hid (Below w.heap.size w w4):=hid (eG.out.trans (eN.out.mono eG.out.size));go_wp2_with fail;go_ret;exact⟨⟨_,rfl,qkj w4 g qA.out xE.out⟩,eL.out.alloc eL.out.size _⟩
  ·have hn1':¬(1:Int)<(na:Int):=by omega
   go_wp2_with fail
   go_loopg [0,1] (b+a) (fun m s0 s1 wr=>∃(p:Option Addr) (n c x y:Nat),x+y=m∧s1 = .slice p n c∧Hid (qa5 wr s0 x)∧Hid (qa5 wr (.slice p n c) y)∧Hid (n=wl y)∧Hid (Nat.gcd x y=g)∧Hid (y≤x)∧Hid (wl x≤Cap)∧Hid (Below w.heap.size w wr)∧Hid (Rows w.heap.size wr s0 (.slice p n c) x y))
   case atStart=>exact⟨pa,na,ca,b,a,rfl,rfl,HB',HA',lA,mW,hid (Nat.le_of_lt jF.out),rA,bM,hid (.inl (by have:=lA.out;omega))⟩
   case round=>
    obtain⟨p,n,c,x,y,rfl,rfl,HX,HY,HN,HG,fF,mZ,eG,pS⟩:=hrel;have Hx:Hid (wl y≤Cap):=hid (Nat.le_trans (qak qal fF.out) mZ.out);rcases Nat.lt_or_ge 1 n with hn|hn
    ·have hn':(1:Int)<(n:Int):=by omega
     obtain⟨gx,cx,gy,cy,rfl,he,oM,mY,hne⟩:∃gx cx gy cy,_=Value.slice (some ⟨gx,0,none⟩) (wl x) cx∧Value.slice p n c = .slice (some ⟨gy,0,none⟩) (wl y) cy∧qdm wr w.heap.size gx cx (qan B64 x)∧qdm wr w.heap.size gy cy (qan B64 y)∧gx≠gy:=by
      rcases pS.out with h|h
      ·have:=HN.out;omega
      ·exact h
     cases he
     have h2y:2≤wl y:=hn;have zO:=hid (qhv _ _ x y wr HX.out HY.out fF.out h2y mZ.out);have jO:Hid (gx<wr.heap.size):=hid oM.lt;have kN:Hid (gy<wr.heap.size):=hid mY.lt;have oN:=hid oM;have uJ:=hid mY;have iF:=hid hne;have H2Y:=hid h2y;clear hn oM mY hne h2y pS;go_wp2_with fail;refine zO.out.mono ?_;rintro e w2 ⟨⟨u0,u1,t0,t1,ev,rfl,pO,nL,jG,eW,nA⟩,aR⟩;have nB:=hid (oN.out.later aR jO.out);have iV:=hid (uJ.out.later aR kN.out);have nC:Hid (gx<w2.heap.size):=hid (Nat.lt_of_lt_of_le jO.out aR.size);have gB:Hid (gy<w2.heap.size):=hid (Nat.lt_of_lt_of_le kN.out aR.size);have aK:=hid (eG.out.trans (aR.mono eG.out.size));have vO:=hid pO;have vK:=hid nL;have bX:=hid jG;have cV:=hid eW;have tB:=hid nA;clear pO nL jG eW nA aR zO HX HY oN uJ eG;by_cases ht:t0=0
     ·subst ht
      have zP:0<y:=by
       rcases qas y with e|e
       ·have:=H2Y.out;rw[e] at this;simp[wl,qat] at this
       ·exact e
      have cW:=fun W hb=>hid (qgc _ _ x y W (nB.out.later hb nC.out).nat (iV.out.later hb gB.out).nat fF.out H2Y.out mZ.out);have gW:Hid (x % y<y):=hid (Nat.mod_lt _ zP);have oO:Hid (Nat.gcd y (x % y)=g):=hid (by rw[←HG.out,Nat.gcd_comm x y,Nat.gcd_rec y x,Nat.gcd_comm]);clear zP;go_wp2_with fail;refine((cW _ (qad _ _)).out).mono ?_;rintro e w3 ⟨⟨vq,gr,cr,rfl,hq,hr⟩,cN⟩;have fA:Below w2.heap.size w2 w3:=((qaa w2.heap.size w2).alloc (qac _) _).trans (cN.mono (by rw[qab];omega));have nN:w2.heap.size≤gr:=by have:=hr.parts.1;rw[qab] at this;omega
      have HR:=hid (hr.mono (base':=w.heap.size) (by have:=aK.out.size;rw[qab];omega));have hG:=hid (iV.out.later fA gB.out);have gA:Hid (gy≠gr):=hid (by have:=gB.out;omega);have bR:=hid (aK.out.trans (fA.mono aK.out.size));clear hq hr cN fA cW nN;go_wp2_with fail
      go_roundg (y+x % y)
      case measure=>have:=gW.out;have:=fF.out;omega
      case rel=>exact⟨_,_,_,y,x % y,rfl,rfl,hid hG.out.nat,hid HR.out.nat,hid rfl,oO,hid (Nat.le_of_lt gW.out),Hx,bR,hid (.inr ⟨_,_,_,_,rfl,rfl,hG.out,HR.out,gA.out⟩)⟩
     ·have hte:((t0:Int)==0)=false:=qam (by omega)
      have fW:=fun W hb=>hid (qlb gx cx gy c w.heap.size x y u0 u1 t0 t1 ev W (nB.out.later hb nC.out) (iV.out.later hb gB.out) iF.out vO.out vK.out bX.out cV.out tB.out ht mZ.out fF.out)
      have mL:Hid (0<y):=hid (by
       rcases qas y with e|e
       ·have:=H2Y.out;rw[e] at this;simp[wl,qat] at this
       ·exact e)
      go_wp2_with fail;refine((fW _ (qad _ _)).out).mono ?_;rintro e w3 ⟨⟨gx',cx',gy',cy',x',y',rfl,hx,hy,hne',hg',hyx',bZ⟩,cN⟩;have jW:=hid hx;have HR:=hid hy;have gA:=hid hne';have bR:Hid (Below w.heap.size w w3):=hid (aK.out.trans (((qaa w.heap.size w2).alloc aK.out.size _).trans cN));have oO:Hid (Nat.gcd x' y'=g):=hid (hg'.trans HG.out);have HYX':=hid hyx';have tC:=hid bZ;have HCX':Hid (wl x'≤Cap):=hid (Nat.le_trans (qak qal (by omega)) mZ.out);clear hx hy cN fW hg' hyx' bZ hne';go_wp2_with fail
      go_roundg (x'+y')
      case measure=>have:=tC.out;have:=mL.out;omega
      case rel=>exact⟨_,_,_,x',y',rfl,rfl,hid jW.out.nat,hid HR.out.nat,hid rfl,oO,HYX',HCX',bR,hid (.inr ⟨_,_,_,_,rfl,rfl,jW.out,HR.out,gA.out⟩)⟩
    ·have hn':¬(1:Int)<(n:Int):=by omega
     have tD:n=0∨n=1:=by omega
     clear hn pS;rcases tD with rfl|rfl
     ·have Hy:Hid (x=g):=hid (by have:=qeu HN.out.symm;rw[←HG.out,this,Nat.gcd_zero_right])
      go_wp2_with fail;go_ret;exact⟨⟨_,rfl,by rw[←Hy.out];exact HX.out⟩,eG.out⟩
     ·obtain⟨z,hz⟩:∃z,qan B64 y=[z]:=by
       have h3:(qan B64 y).length=1:=HN.out.symm
       match qan B64 y,h3 with
       | [z],_=>exact⟨z,rfl⟩
      have Hz:z=y:=by
       have:=qar B64 y qal;rw[hz] at this
       simpa using this
      subst Hz;have zQ:z<B64:=qeh B64 z qal z (by rw[hz];simp)
      have cU:0<z:=by
       rcases qas z with e|e
       ·rw[e,qat] at hz;cases hz
       ·exact e
      have Ia:Wds wr (.slice p 1 c) [z]:=by have:=HY.out;unfold qa5 at this;rw[hz] at this;exact this
      obtain⟨_,p',c',he,_,_,aA⟩:=Ia;cases he
      rcases aA with h0|⟨bb,ob,rfl,aB⟩
      ·cases h0
      have aC:=aB 0 (by simp);simp[wd] at aC
      have bA:Hid (∀w',Below wr.heap.size wr w'→w'.cell? ⟨bb,ob,none⟩=some (.int .u64 z)):=hid fun w' hb'=>by
       rw[hb'.cell (p:=⟨bb,ob,none⟩) (qae wr _ aC)];exact aC
      have bT:Below wr.heap.size wr wr.drew:=(qaa _ _).drew;obtain⟨rm,qB⟩:∃rm,x % z=rm:=⟨_,rfl⟩
      have tE:=hid ((qfz _ x z wr.drew (HX.out.later bT) cU zQ).mono (R':=fun e w'=>e = .returned (.int .u64 (rm:Nat))∧Below wr.heap.size wr w') (by
       rintro e w' ⟨rfl,hb'⟩
       exact⟨by rw[qB],bT.trans hb'⟩))
      have zR:=hid (fun w=>qev z rm w);have nO:Nat.gcd z rm=g:=by rw[←qB,←HG.out,Nat.gcd_comm x z,Nat.gcd_rec z x,Nat.gcd_comm]
      rw[nO] at zR;have tF:g≤z:=by rw[←nO];exact Nat.gcd_le_left _ cU
      have qA:Hid (g<B64):=hid (by omega);have xE:Hid (0<g):=hid (by rw[←nO];exact Nat.gcd_pos_of_pos_left _ cU);clear bT aB hz zQ cU qB nO tF HN HY HG fF mE mW jF HX;go_wp2_with fail
      go_region_held3 (fun W=>W.cell? ⟨bb,ob,none⟩=some (.int .u64 z)) (first|with_reducible exact bA.out _ eN.out|with_reducible exact bA.out _ fK.out|with_reducible exact bA.out _ (eN.out.alloc eN.out.size _)|exact aC)
       (first|(go_at_call 157;refine tE.out.mono ?_;rintro e w2 ⟨rfl,gM⟩;have fK:=hid gM;clear gM)|(go_at_call 156;refine(zR.out _).mono ?_;rintro e w4 ⟨rfl,q4,mU⟩;have eN:Hid (Below wr.heap.size wr w4):=hid (by rw[mU];exact below_drewN fK.out q4);clear mU))
      all_goals
       have eL:Hid (Below w.heap.size w w4):=hid (eG.out.trans (eN.out.mono eG.out.size));go_wp2_with fail;go_ret;exact⟨⟨_,rfl,qkj w4 g qA.out xE.out⟩,eL.out.alloc eL.out.size _⟩
 ·have jF:=hid oJ
  clear oJ Hw;by_cases dZ:1<nb
  ·have hn1':(1:Int)<(nb:Int):=by omega
   have pP:0<(qan B64 b).length:=by have:=jE.out;show 0<wl b;omega
   have pQ:0<(qan B64 a).length:=by
    have:=qak (b:=B64) qal (m:=b) (n:=a) (jF.out);omega
   have jV:Hid (Calls Tryz.prog 153 #[.slice pa na ca] w1 fun e w'=>(∃g cap,e = .returned (.slice (some ⟨g,0,none⟩) (wl a) cap)∧qdm w' w.heap.size g cap (qan B64 a))∧Below w.heap.size w1 w'):=by
    have h:=qjm _ _ w1 HA'.out pQ Cx.out;rw[mX.out] at h;exact hid h
   have iE:Hid (∀w2,Below w.heap.size w1 w2→Calls Tryz.prog 153 #[.slice pb nb cb] w2 fun e w'=>(∃g cap,e = .returned (.slice (some ⟨g,0,none⟩) (wl b) cap)∧qdm w' w2.heap.size g cap (qan B64 b))∧Below w2.heap.size w2 w'):=
    hid fun w2 aR=>qjm _ _ w2 (HB'.out.later (by rw[mX.out];exact aR)) pP rA.out
   clear pP pQ dZ;go_wp2_with fail;refine jV.out.mono ?_;rintro e w2 ⟨⟨gx,cx,rfl,oM⟩,aR⟩;have aK:=hid aR;have eV:=hid oM;clear aR oM jV;go_wp2_with fail;refine(iE.out w2 aK.out).mono ?_;rintro e w3 ⟨⟨gy,cy,rfl,mY⟩,cN⟩;have zN:Hid (qdm w3 w.heap.size gx cx (qan B64 a)):=hid (eV.out.later cN eV.out.lt);have hG:Hid (qdm w3 w.heap.size gy cy (qan B64 b)):=hid (mY.mono (by have:=aK.out.size;rw[mX.out] at this;exact this));have gA:Hid (gx≠gy):=hid (by have:=eV.out.lt;have:=mY.parts.1;omega);have bR:Hid (Below w.heap.size w w3):=hid (bM.out.trans (aK.out.trans (cN.mono (by have:=aK.out.size;rw[mX.out] at this;exact this))));clear mY cN iE eV aK HA' HB' bM mX;go_wp2_with fail
   go_loopg [0,1] (a+b) (fun m s0 s1 wr=>∃(p:Option Addr) (n c x y:Nat),x+y=m∧s1 = .slice p n c∧Hid (qa5 wr s0 x)∧Hid (qa5 wr (.slice p n c) y)∧Hid (n=wl y)∧Hid (Nat.gcd x y=g)∧Hid (y≤x)∧Hid (wl x≤Cap)∧Hid (Below w.heap.size w wr)∧Hid (Rows w.heap.size wr s0 (.slice p n c) x y))
   case atStart=>exact⟨_,_,_,a,b,rfl,rfl,hid zN.out.nat,hid hG.out.nat,hid rfl,mE,jF,Cx,bR,hid (.inr ⟨_,_,_,_,rfl,rfl,zN.out,hG.out,gA.out⟩)⟩
   case round=>
    obtain⟨p,n,c,x,y,rfl,rfl,HX,HY,HN,HG,fF,mZ,eG,pS⟩:=hrel;have Hx:Hid (wl y≤Cap):=hid (Nat.le_trans (qak qal fF.out) mZ.out);rcases Nat.lt_or_ge 1 n with hn|hn
    ·have hn':(1:Int)<(n:Int):=by omega
     obtain⟨gx,cx,gy,cy,rfl,he,oM,mY,hne⟩:∃gx cx gy cy,_=Value.slice (some ⟨gx,0,none⟩) (wl x) cx∧Value.slice p n c = .slice (some ⟨gy,0,none⟩) (wl y) cy∧qdm wr w.heap.size gx cx (qan B64 x)∧qdm wr w.heap.size gy cy (qan B64 y)∧gx≠gy:=by
      rcases pS.out with h|h
      ·have:=HN.out;omega
      ·exact h
     cases he
     have h2y:2≤wl y:=hn;have zO:=hid (qhv _ _ x y wr HX.out HY.out fF.out h2y mZ.out);have jO:Hid (gx<wr.heap.size):=hid oM.lt;have kN:Hid (gy<wr.heap.size):=hid mY.lt;have oN:=hid oM;have uJ:=hid mY;have iF:=hid hne;have H2Y:=hid h2y;clear hn oM mY hne h2y pS;go_wp2_with fail;refine zO.out.mono ?_;rintro e w2 ⟨⟨u0,u1,t0,t1,ev,rfl,pO,nL,jG,eW,nA⟩,aR⟩;have nB:=hid (oN.out.later aR jO.out);have iV:=hid (uJ.out.later aR kN.out);have nC:Hid (gx<w2.heap.size):=hid (Nat.lt_of_lt_of_le jO.out aR.size);have gB:Hid (gy<w2.heap.size):=hid (Nat.lt_of_lt_of_le kN.out aR.size);have aK:=hid (eG.out.trans (aR.mono eG.out.size));have vO:=hid pO;have vK:=hid nL;have bX:=hid jG;have cV:=hid eW;have tB:=hid nA;clear pO nL jG eW nA aR zO HX HY oN uJ eG;by_cases ht:t0=0
     ·subst ht
      have zP:0<y:=by
       rcases qas y with e|e
       ·have:=H2Y.out;rw[e] at this;simp[wl,qat] at this
       ·exact e
      have cW:=fun W hb=>hid (qgc _ _ x y W (nB.out.later hb nC.out).nat (iV.out.later hb gB.out).nat fF.out H2Y.out mZ.out);have gW:Hid (x % y<y):=hid (Nat.mod_lt _ zP);have oO:Hid (Nat.gcd y (x % y)=g):=hid (by rw[←HG.out,Nat.gcd_comm x y,Nat.gcd_rec y x,Nat.gcd_comm]);clear zP;go_wp2_with fail;refine((cW _ (qad _ _)).out).mono ?_;rintro e w3 ⟨⟨vq,gr,cr,rfl,hq,hr⟩,cN⟩;have fA:Below w2.heap.size w2 w3:=((qaa w2.heap.size w2).alloc (qac _) _).trans (cN.mono (by rw[qab];omega));have nN:w2.heap.size≤gr:=by have:=hr.parts.1;rw[qab] at this;omega
      have HR:=hid (hr.mono (base':=w.heap.size) (by have:=aK.out.size;rw[qab];omega));have hG:=hid (iV.out.later fA gB.out);have gA:Hid (gy≠gr):=hid (by have:=gB.out;omega);have bR:=hid (aK.out.trans (fA.mono aK.out.size));clear hq hr cN fA cW nN;go_wp2_with fail
      go_roundg (y+x % y)
      case measure=>have:=gW.out;have:=fF.out;omega
      case rel=>exact⟨_,_,_,y,x % y,rfl,rfl,hid hG.out.nat,hid HR.out.nat,hid rfl,oO,hid (Nat.le_of_lt gW.out),Hx,bR,hid (.inr ⟨_,_,_,_,rfl,rfl,hG.out,HR.out,gA.out⟩)⟩
     ·have hte:((t0:Int)==0)=false:=qam (by omega)
      have fW:=fun W hb=>hid (qlb gx cx gy c w.heap.size x y u0 u1 t0 t1 ev W (nB.out.later hb nC.out) (iV.out.later hb gB.out) iF.out vO.out vK.out bX.out cV.out tB.out ht mZ.out fF.out)
      have mL:Hid (0<y):=hid (by
       rcases qas y with e|e
       ·have:=H2Y.out;rw[e] at this;simp[wl,qat] at this
       ·exact e)
      go_wp2_with fail;refine((fW _ (qad _ _)).out).mono ?_;rintro e w3 ⟨⟨gx',cx',gy',cy',x',y',rfl,hx,hy,hne',hg',hyx',bZ⟩,cN⟩;have jW:=hid hx;have HR:=hid hy;have gA:=hid hne';have bR:Hid (Below w.heap.size w w3):=hid (aK.out.trans (((qaa w.heap.size w2).alloc aK.out.size _).trans cN));have oO:Hid (Nat.gcd x' y'=g):=hid (hg'.trans HG.out);have HYX':=hid hyx';have tC:=hid bZ;have HCX':Hid (wl x'≤Cap):=hid (Nat.le_trans (qak qal (by omega)) mZ.out);clear hx hy cN fW hg' hyx' bZ hne';go_wp2_with fail
      go_roundg (x'+y')
      case measure=>have:=tC.out;have:=mL.out;omega
      case rel=>exact⟨_,_,_,x',y',rfl,rfl,hid jW.out.nat,hid HR.out.nat,hid rfl,oO,HYX',HCX',bR,hid (.inr ⟨_,_,_,_,rfl,rfl,jW.out,HR.out,gA.out⟩)⟩
    ·have hn':¬(1:Int)<(n:Int):=by omega
     have tD:n=0∨n=1:=by omega
     clear hn pS;rcases tD with rfl|rfl
     ·have Hy:Hid (x=g):=hid (by have:=qeu HN.out.symm;rw[←HG.out,this,Nat.gcd_zero_right])
      go_wp2_with fail;go_ret;exact⟨⟨_,rfl,by rw[←Hy.out];exact HX.out⟩,eG.out⟩
     ·obtain⟨z,hz⟩:∃z,qan B64 y=[z]:=by
       have h3:(qan B64 y).length=1:=HN.out.symm
       match qan B64 y,h3 with
       | [z],_=>exact⟨z,rfl⟩
      have Hz:z=y:=by
       have:=qar B64 y qal;rw[hz] at this
       simpa using this
      subst Hz;have zQ:z<B64:=qeh B64 z qal z (by rw[hz];simp)
      have cU:0<z:=by
       rcases qas z with e|e
       ·rw[e,qat] at hz;cases hz
       ·exact e
      have Ia:Wds wr (.slice p 1 c) [z]:=by have:=HY.out;unfold qa5 at this;rw[hz] at this;exact this
      obtain⟨_,p',c',he,_,_,aA⟩:=Ia;cases he
      rcases aA with h0|⟨bb,ob,rfl,aB⟩
      ·cases h0
      have aC:=aB 0 (by simp);simp[wd] at aC
      have bA:Hid (∀w',Below wr.heap.size wr w'→w'.cell? ⟨bb,ob,none⟩=some (.int .u64 z)):=hid fun w' hb'=>by
       rw[hb'.cell (p:=⟨bb,ob,none⟩) (qae wr _ aC)];exact aC
      have bT:Below wr.heap.size wr wr.drew:=(qaa _ _).drew;obtain⟨rm,qB⟩:∃rm,x % z=rm:=⟨_,rfl⟩
      have tE:=hid ((qfz _ x z wr.drew (HX.out.later bT) cU zQ).mono (R':=fun e w'=>e = .returned (.int .u64 (rm:Nat))∧Below wr.heap.size wr w') (by
       rintro e w' ⟨rfl,hb'⟩
       exact⟨by rw[qB],bT.trans hb'⟩))
      have zR:=hid (fun w=>qev z rm w);have nO:Nat.gcd z rm=g:=by rw[←qB,←HG.out,Nat.gcd_comm x z,Nat.gcd_rec z x,Nat.gcd_comm]
      rw[nO] at zR;have tF:g≤z:=by rw[←nO];exact Nat.gcd_le_left _ cU
      have qA:Hid (g<B64):=hid (by omega);have xE:Hid (0<g):=hid (by rw[←nO];exact Nat.gcd_pos_of_pos_left _ cU);clear bT aB hz zQ cU qB nO tF HN HY HG fF mE mW jF HX;go_wp2_with fail
      go_region_held3 (fun W=>W.cell? ⟨bb,ob,none⟩=some (.int .u64 z)) (first|with_reducible exact bA.out _ eN.out|with_reducible exact bA.out _ fK.out|with_reducible exact bA.out _ (eN.out.alloc eN.out.size _)|exact aC)
       (first|(go_at_call 157;refine tE.out.mono ?_;rintro e w2 ⟨rfl,gM⟩;have fK:=hid gM;clear gM)|(go_at_call 156;refine(zR.out _).mono ?_;rintro e w4 ⟨rfl,q4,mU⟩;have eN:Hid (Below wr.heap.size wr w4):=hid (by rw[mU];exact below_drewN fK.out q4);clear mU))
      all_goals
       have eL:Hid (Below w.heap.size w w4):=hid (eG.out.trans (eN.out.mono eG.out.size));go_wp2_with fail;go_ret;exact⟨⟨_,rfl,qkj w4 g qA.out xE.out⟩,eL.out.alloc eL.out.size _⟩
  ·have hn1':¬(1:Int)<(nb:Int):=by omega
   go_wp2_with fail
   go_loopg [0,1] (a+b) (fun m s0 s1 wr=>∃(p:Option Addr) (n c x y:Nat),x+y=m∧s1 = .slice p n c∧Hid (qa5 wr s0 x)∧Hid (qa5 wr (.slice p n c) y)∧Hid (n=wl y)∧Hid (Nat.gcd x y=g)∧Hid (y≤x)∧Hid (wl x≤Cap)∧Hid (Below w.heap.size w wr)∧Hid (Rows w.heap.size wr s0 (.slice p n c) x y))
   case atStart=>exact⟨pb,nb,cb,a,b,rfl,rfl,HA',HB',jE,mE,jF,Cx,bM,hid (.inl (by have:=jE.out;omega))⟩
   case round=>
    obtain⟨p,n,c,x,y,rfl,rfl,HX,HY,HN,HG,fF,mZ,eG,pS⟩:=hrel;have Hx:Hid (wl y≤Cap):=hid (Nat.le_trans (qak qal fF.out) mZ.out);rcases Nat.lt_or_ge 1 n with hn|hn
    ·have hn':(1:Int)<(n:Int):=by omega
     obtain⟨gx,cx,gy,cy,rfl,he,oM,mY,hne⟩:∃gx cx gy cy,_=Value.slice (some ⟨gx,0,none⟩) (wl x) cx∧Value.slice p n c = .slice (some ⟨gy,0,none⟩) (wl y) cy∧qdm wr w.heap.size gx cx (qan B64 x)∧qdm wr w.heap.size gy cy (qan B64 y)∧gx≠gy:=by
      rcases pS.out with h|h
      ·have:=HN.out;omega
      ·exact h
     cases he
     have h2y:2≤wl y:=hn;have zO:=hid (qhv _ _ x y wr HX.out HY.out fF.out h2y mZ.out);have jO:Hid (gx<wr.heap.size):=hid oM.lt;have kN:Hid (gy<wr.heap.size):=hid mY.lt;have oN:=hid oM;have uJ:=hid mY;have iF:=hid hne;have H2Y:=hid h2y;clear hn oM mY hne h2y pS;go_wp2_with fail;refine zO.out.mono ?_;rintro e w2 ⟨⟨u0,u1,t0,t1,ev,rfl,pO,nL,jG,eW,nA⟩,aR⟩;have nB:=hid (oN.out.later aR jO.out);have iV:=hid (uJ.out.later aR kN.out);have nC:Hid (gx<w2.heap.size):=hid (Nat.lt_of_lt_of_le jO.out aR.size);have gB:Hid (gy<w2.heap.size):=hid (Nat.lt_of_lt_of_le kN.out aR.size);have aK:=hid (eG.out.trans (aR.mono eG.out.size));have vO:=hid pO;have vK:=hid nL;have bX:=hid jG;have cV:=hid eW;have tB:=hid nA;clear pO nL jG eW nA aR zO HX HY oN uJ eG;by_cases ht:t0=0
     ·subst ht
      have zP:0<y:=by
       rcases qas y with e|e
       ·have:=H2Y.out;rw[e] at this;simp[wl,qat] at this
       ·exact e
      have cW:=fun W hb=>hid (qgc _ _ x y W (nB.out.later hb nC.out).nat (iV.out.later hb gB.out).nat fF.out H2Y.out mZ.out);have gW:Hid (x % y<y):=hid (Nat.mod_lt _ zP);have oO:Hid (Nat.gcd y (x % y)=g):=hid (by rw[←HG.out,Nat.gcd_comm x y,Nat.gcd_rec y x,Nat.gcd_comm]);clear zP;go_wp2_with fail;refine((cW _ (qad _ _)).out).mono ?_;rintro e w3 ⟨⟨vq,gr,cr,rfl,hq,hr⟩,cN⟩;have fA:Below w2.heap.size w2 w3:=((qaa w2.heap.size w2).alloc (qac _) _).trans (cN.mono (by rw[qab];omega));have nN:w2.heap.size≤gr:=by have:=hr.parts.1;rw[qab] at this;omega
      have HR:=hid (hr.mono (base':=w.heap.size) (by have:=aK.out.size;rw[qab];omega));have hG:=hid (iV.out.later fA gB.out);have gA:Hid (gy≠gr):=hid (by have:=gB.out;omega);have bR:=hid (aK.out.trans (fA.mono aK.out.size));clear hq hr cN fA cW nN;go_wp2_with fail
      go_roundg (y+x % y)
      case measure=>have:=gW.out;have:=fF.out;omega
      case rel=>exact⟨_,_,_,y,x % y,rfl,rfl,hid hG.out.nat,hid HR.out.nat,hid rfl,oO,hid (Nat.le_of_lt gW.out),Hx,bR,hid (.inr ⟨_,_,_,_,rfl,rfl,hG.out,HR.out,gA.out⟩)⟩
     ·have hte:((t0:Int)==0)=false:=qam (by omega)
      have fW:=fun W hb=>hid (qlb gx cx gy c w.heap.size x y u0 u1 t0 t1 ev W (nB.out.later hb nC.out) (iV.out.later hb gB.out) iF.out vO.out vK.out bX.out cV.out tB.out ht mZ.out fF.out)
      have mL:Hid (0<y):=hid (by
       rcases qas y with e|e
       ·have:=H2Y.out;rw[e] at this;simp[wl,qat] at this
       ·exact e)
      go_wp2_with fail;refine((fW _ (qad _ _)).out).mono ?_;rintro e w3 ⟨⟨gx',cx',gy',cy',x',y',rfl,hx,hy,hne',hg',hyx',bZ⟩,cN⟩;have jW:=hid hx;have HR:=hid hy;have gA:=hid hne';have bR:Hid (Below w.heap.size w w3):=hid (aK.out.trans (((qaa w.heap.size w2).alloc aK.out.size _).trans cN));have oO:Hid (Nat.gcd x' y'=g):=hid (hg'.trans HG.out);have HYX':=hid hyx';have tC:=hid bZ;have HCX':Hid (wl x'≤Cap):=hid (Nat.le_trans (qak qal (by omega)) mZ.out);clear hx hy cN fW hg' hyx' bZ hne';go_wp2_with fail
      go_roundg (x'+y')
      case measure=>have:=tC.out;have:=mL.out;omega
      case rel=>exact⟨_,_,_,x',y',rfl,rfl,hid jW.out.nat,hid HR.out.nat,hid rfl,oO,HYX',HCX',bR,hid (.inr ⟨_,_,_,_,rfl,rfl,jW.out,HR.out,gA.out⟩)⟩
    ·have hn':¬(1:Int)<(n:Int):=by omega
     have tD:n=0∨n=1:=by omega
     clear hn pS;rcases tD with rfl|rfl
     ·have Hy:Hid (x=g):=hid (by have:=qeu HN.out.symm;rw[←HG.out,this,Nat.gcd_zero_right])
      go_wp2_with fail;go_ret;exact⟨⟨_,rfl,by rw[←Hy.out];exact HX.out⟩,eG.out⟩
     ·obtain⟨z,hz⟩:∃z,qan B64 y=[z]:=by
       have h3:(qan B64 y).length=1:=HN.out.symm
       match qan B64 y,h3 with
       | [z],_=>exact⟨z,rfl⟩
      have Hz:z=y:=by
       have:=qar B64 y qal;rw[hz] at this
       simpa using this
      subst Hz;have zQ:z<B64:=qeh B64 z qal z (by rw[hz];simp)
      have cU:0<z:=by
       rcases qas z with e|e
       ·rw[e,qat] at hz;cases hz
       ·exact e
      have Ia:Wds wr (.slice p 1 c) [z]:=by have:=HY.out;unfold qa5 at this;rw[hz] at this;exact this
      obtain⟨_,p',c',he,_,_,aA⟩:=Ia;cases he
      rcases aA with h0|⟨bb,ob,rfl,aB⟩
      ·cases h0
      have aC:=aB 0 (by simp);simp[wd] at aC
      have bA:Hid (∀w',Below wr.heap.size wr w'→w'.cell? ⟨bb,ob,none⟩=some (.int .u64 z)):=hid fun w' hb'=>by
       rw[hb'.cell (p:=⟨bb,ob,none⟩) (qae wr _ aC)];exact aC
      have bT:Below wr.heap.size wr wr.drew:=(qaa _ _).drew;obtain⟨rm,qB⟩:∃rm,x % z=rm:=⟨_,rfl⟩
      have tE:=hid ((qfz _ x z wr.drew (HX.out.later bT) cU zQ).mono (R':=fun e w'=>e = .returned (.int .u64 (rm:Nat))∧Below wr.heap.size wr w') (by
       rintro e w' ⟨rfl,hb'⟩
       exact⟨by rw[qB],bT.trans hb'⟩))
      have zR:=hid (fun w=>qev z rm w);have nO:Nat.gcd z rm=g:=by rw[←qB,←HG.out,Nat.gcd_comm x z,Nat.gcd_rec z x,Nat.gcd_comm]
      rw[nO] at zR;have tF:g≤z:=by rw[←nO];exact Nat.gcd_le_left _ cU
      have qA:Hid (g<B64):=hid (by omega);have xE:Hid (0<g):=hid (by rw[←nO];exact Nat.gcd_pos_of_pos_left _ cU);clear bT aB hz zQ cU qB nO tF HN HY HG fF mE mW jF HX;go_wp2_with fail
      go_region_held3 (fun W=>W.cell? ⟨bb,ob,none⟩=some (.int .u64 z)) (first|with_reducible exact bA.out _ eN.out|with_reducible exact bA.out _ fK.out|with_reducible exact bA.out _ (eN.out.alloc eN.out.size _)|exact aC)
       (first|(go_at_call 157;refine tE.out.mono ?_;rintro e w2 ⟨rfl,gM⟩;have fK:=hid gM;clear gM)|(go_at_call 156;refine(zR.out _).mono ?_;rintro e w4 ⟨rfl,q4,mU⟩;have eN:Hid (Below wr.heap.size wr w4):=hid (by rw[mU];exact below_drewN fK.out q4);clear mU))
      all_goals
       have eL:Hid (Below w.heap.size w w4):=hid (eG.out.trans (eN.out.mono eG.out.size));go_wp2_with fail;go_ret;exact⟨⟨_,rfl,qkj w4 g qA.out xE.out⟩,eL.out.alloc eL.out.size _⟩
theorem qdt(va vb:Value)(a b:Nat)(w:World)(ha:qa5 w va a)(hb:qa5 w vb b)(lJ:wl a≤Cap)(Li:wl b≤Cap):
  Calls Tryz.prog 111 #[va,vb] w fun e w'=>(∃v',e = .returned v'∧qa5 w' v' (Nat.gcd a b))∧Below w.heap.size w w':=by
 by_cases h:a=1∨b=1
 ·exact q7a va vb a b w ha hb h
 ·exact q4v va vb a b w ha hb (by omega) (by omega) lJ Li
end Go.Proofs.YtlkdlffhmakbgaaGreatDoor
