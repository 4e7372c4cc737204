/- commonDivisor: the greatest common divisor. -/
import Derived.Test.YtmcfcpgglfimjaaGreatDoorMTake
import Derived.Test.YtmcfcpgglfimjaaGreatDoorMMine
import Derived.Deep.RegionHeld3
set_option linter.all false
namespace Go.Proofs.YtmcfcpgglfimjaaGreatDoor
open Go.RowKit
set_option maxRecDepth 100000
set_option maxHeartbeats 4000000
def Rows(base:Nat)(w:World)(s0 s1:Value)(x y:Nat):Prop:=
 wl y≤1∨∃gx cx gy cy,s0 = .slice (some ⟨gx,0,none⟩) (wl x) cx∧s1 = .slice (some ⟨gy,0,none⟩) (wl y) cy∧qdl w base gx cx (qao B64 x)∧qdl w base gy cy (qao B64 y)∧gx≠gy
theorem qkj(w:World)(x:Nat)(hx:x<B64)(h0:0<x):qa2 (w.alloc (.cells #[.int .u64 (x:Nat)] 155)) (.slice (some ⟨w.heap.size,0,none⟩) 1 1) x:=by
 have h:=qw5 w x hx
 have e:qao B64 x=[x]:=by
  rw[qfx B64 x qam h0,Nat.mod_eq_of_lt hx,Nat.div_eq_of_lt hx,qau]
 unfold qa2;rw[e];exact h
theorem q7q(va vb:Value)(a b:Nat)(w:World)(ha:qa2 w va a)(hb:qa2 w vb b)(h1:a=1∨b=1):
  Calls Tryz.prog 102 #[va,vb] w fun e w'=>(∃v',e = .returned v'∧qa2 w' v' (Nat.gcd a b))∧Below w.heap.size w w':=by
 have hg:Nat.gcd a b=1:=by rcases h1 with rfl|rfl<;>simp
 rw[hg];have HF:=hid (qkj w 1 (by rw[qaj];omega) (by omega));have HB:Hid (Below w.heap.size w (w.alloc (.cells #[.int .u64 ((1:Nat):Int)] 155))):=hid (qad _ _);by_cases dM:a=1
 ·subst dM
  have eM:=hid (qcl va 1 true rfl w ha);clear ha hb hg h1;go_enter Tryz.func102,Tryz.ntmps102;go_wp2_with fail;refine eM.out.mono ?_;rintro e w' ⟨rfl,hw⟩;subst hw;go_wp2_with fail;go_ret;exact⟨⟨_,rfl,HF.out⟩,HB.out⟩
 ·have aY:b=1:=by omega
  subst aY;have eM:=hid (qcl va a false (by simp[dM]) w ha);have aP:=hid (qcl vb 1 true rfl w hb);clear ha hb hg h1 dM;go_enter Tryz.func102,Tryz.ntmps102;go_wp2_with fail;refine eM.out.mono ?_;rintro e w' ⟨rfl,hw⟩;subst hw;go_wp2_with fail;refine aP.out.mono ?_;rintro e w' ⟨rfl,hw⟩;subst hw;go_wp2_with fail;go_ret;exact⟨⟨_,rfl,HF.out⟩,HB.out⟩
theorem q48(va vb:Value)(a b:Nat)(w:World)(ha:qa2 w va a)(hb:qa2 w vb b)(dM:a≠1)(aY:b≠1)(kU:wl a≤Cap)(Kk:wl b≤Cap):
  Calls Tryz.prog 102 #[va,vb] w fun e w'=>(∃v',e = .returned v'∧qa2 w' v' (Nat.gcd a b))∧Below w.heap.size w w':=by
 have eM:=hid (qcl va a false (by simp[dM]) w ha);have aP:=hid (qcl vb b false (by simp[aY]) w hb);have eH:=hid (qee va vb a b w ha hb);obtain⟨g,hg⟩:∃g,Nat.gcd a b=g:=⟨_,rfl⟩;rw[hg];have HA:=hid ha;have HB:=hid hb;have Bq:=hid kU;have qG:=hid Kk;obtain⟨la,pa,ca,rfl,oY,pU,cX,Ac⟩:=qgd ha;obtain⟨lb,pb,cb,rfl,hx3,hx4,cS,wR⟩:=qgd hb;have kL:=hid cX;have iQ:=hid cS;clear Ac wR cX cS ha hb kU Kk dM aY oY pU hx3 hx4;generalize la.length=na at *;generalize lb.length=nb at *;clear la lb
 have Nw:(qer a b<0∧a<b)∨(¬qer a b<0∧b≤a):=by
  unfold qer;rcases Nat.lt_or_ge a b with h|h
  ·left;rw[qde (by omega)];omega
  ·right
   rcases Nat.lt_or_ge b a with h'|h'
   ·rw[qcq (by omega)];omega
   ·rw[qem (by omega)];omega
 have Gw:=hid Nw;clear Nw;obtain⟨lG,mG⟩:Hid (Nat.gcd a b=g)∧Hid (Nat.gcd b a=g):=⟨hid hg,hid (by rw[Nat.gcd_comm];exact hg)⟩;clear hg;go_enter Tryz.func102,Tryz.ntmps102;go_wp2_with fail;refine eM.out.mono ?_;rintro e w' ⟨rfl,hw⟩;subst hw;go_wp2_with fail;refine aP.out.mono ?_;rintro e w' ⟨rfl,hw⟩;subst hw;go_wp2_with fail;refine eH.out.mono ?_;rintro e w1 ⟨rfl,q,cU⟩;have rA:Below w.heap.size w w1:=by rw[cU];exact below_drewN (qaa _ _) q
 have HA':=hid (HA.out.later rA);have HB':=hid (HB.out.later rA);have bU:=hid rA;have rV:Hid (w1.heap.size=w.heap.size):=hid (by rw[cU];rfl);clear cU rA eH eM aP HA HB;generalize qer a b=cv at *;rcases Gw.out with⟨pY,mH⟩|⟨pY,mH⟩
 ·have iS:=hid mH
  clear mH Gw;by_cases dT:1<na
  ·have hn1':(1:Int)<(na:Int):=by omega
   have rB:0<(qao B64 a).length:=by have:=kL.out;show 0<wl a;omega
   have rC:0<(qao B64 b).length:=by
    have:=qal (b:=B64) qam (m:=a) (n:=b) (Nat.le_of_lt iS.out);omega
   have jJ:Hid (Calls Tryz.prog 145 #[.slice pb nb cb] w1 fun e w'=>(∃g cap,e = .returned (.slice (some ⟨g,0,none⟩) (wl b) cap)∧qdl w' w.heap.size g cap (qao B64 b))∧Below w.heap.size w1 w'):=by
    have h:=qjr _ _ w1 HB'.out rC qG.out;rw[rV.out] at h;exact hid h
   have gS:Hid (∀w2,Below w.heap.size w1 w2→Calls Tryz.prog 145 #[.slice pa na ca] w2 fun e w'=>(∃g cap,e = .returned (.slice (some ⟨g,0,none⟩) (wl a) cap)∧qdl w' w2.heap.size g cap (qao B64 a))∧Below w2.heap.size w2 w'):=
    hid fun w2 aR=>qjr _ _ w2 (HA'.out.later (by rw[rV.out];exact aR)) rB Bq.out
   clear rB rC dT;go_wp2_with fail;refine jJ.out.mono ?_;rintro e w2 ⟨⟨gx,cx,rfl,nU⟩,aR⟩;have aK:=hid aR;have fF:=hid nU;clear aR nU jJ;go_wp2_with fail;refine(gS.out w2 aK.out).mono ?_;rintro e w3 ⟨⟨gy,cy,rfl,mI⟩,cJ⟩;have yO:Hid (qdl w3 w.heap.size gx cx (qao B64 b)):=hid (fF.out.later cJ fF.out.lt);have gM:Hid (qdl w3 w.heap.size gy cy (qao B64 a)):=hid (mI.mono (by have:=aK.out.size;rw[rV.out] at this;exact this));have fR:Hid (gx≠gy):=hid (by have:=fF.out.lt;have:=mI.parts.1;omega);have bR:Hid (Below w.heap.size w w3):=hid (bU.out.trans (aK.out.trans (cJ.mono (by have:=aK.out.size;rw[rV.out] at this;exact this))));clear mI cJ gS fF aK HB' HA' bU rV;go_wp2_with fail
   go_loopg [0,1] (b+a) (fun m s0 s1 wr=>∃(p:Option Addr) (n c x y:Nat),x+y=m∧s1 = .slice p n c∧Hid (qa2 wr s0 x)∧Hid (qa2 wr (.slice p n c) y)∧Hid (n=wl y)∧Hid (Nat.gcd x y=g)∧Hid (y≤x)∧Hid (wl x≤Cap)∧Hid (Below w.heap.size w wr)∧Hid (Rows w.heap.size wr s0 (.slice p n c) x y))
   case atStart=>exact⟨_,_,_,b,a,rfl,rfl,hid yO.out.nat,hid gM.out.nat,hid rfl,mG,hid (Nat.le_of_lt iS.out),qG,bR,hid (.inr ⟨_,_,_,_,rfl,rfl,yO.out,gM.out,fR.out⟩)⟩
   case round=>
    obtain⟨p,n,c,x,y,rfl,rfl,HX,HY,HN,HG,eV,mJ,dW,oP⟩:=hrel;have Gx:Hid (wl y≤Cap):=hid (Nat.le_trans (qal qam eV.out) mJ.out);rcases Nat.lt_or_ge 1 n with hn|hn
    ·have hn':(1:Int)<(n:Int):=by omega
     obtain⟨gx,cx,gy,cy,rfl,he,nU,mI,hne⟩:∃gx cx gy cy,_=Value.slice (some ⟨gx,0,none⟩) (wl x) cx∧Value.slice p n c = .slice (some ⟨gy,0,none⟩) (wl y) cy∧qdl wr w.heap.size gx cx (qao B64 x)∧qdl wr w.heap.size gy cy (qao B64 y)∧gx≠gy:=by
      rcases oP.out with h|h
      ·have:=HN.out;omega
      ·exact h
     cases he
     have h2y:2≤wl y:=hn;have yP:=hid (qhx _ _ x y wr HX.out HY.out eV.out h2y mJ.out);have lB:Hid (gx<wr.heap.size):=hid nU.lt;have mK:Hid (gy<wr.heap.size):=hid mI.lt;have sN:=hid nU;have yQ:=hid mI;have iR:=hid hne;have H2Y:=hid h2y;clear hn nU mI hne h2y oP;go_wp2_with fail;refine yP.out.mono ?_;rintro e w2 ⟨⟨u0,u1,t0,t1,ev,rfl,oO,mV,iT,fI,mL⟩,aR⟩;have mM:=hid (sN.out.later aR lB.out);have iJ:=hid (yQ.out.later aR mK.out);have mN:Hid (gx<w2.heap.size):=hid (Nat.lt_of_lt_of_le lB.out aR.size);have fS:Hid (gy<w2.heap.size):=hid (Nat.lt_of_lt_of_le mK.out aR.size);have aK:=hid (dW.out.trans (aR.mono dW.out.size));have uJ:=hid oO;have uI:=hid mV;have cF:=hid iT;have cW:=hid fI;have sO:=hid mL;clear oO mV iT fI mL aR yP HX HY sN yQ dW;by_cases ht:t0=0
     ·subst ht
      have yR:0<y:=by
       rcases qas y with e|e
       ·have:=H2Y.out;rw[e] at this;simp[wl,qau] at this
       ·exact e
      have cT:=fun W hb=>hid (qge _ _ x y W (mM.out.later hb mN.out).nat (iJ.out.later hb fS.out).nat eV.out H2Y.out mJ.out);have gL:Hid (x % y<y):=hid (Nat.mod_lt _ yR);have rD:Hid (Nat.gcd y (x % y)=g):=hid (by rw[←HG.out,Nat.gcd_comm x y,Nat.gcd_rec y x,Nat.gcd_comm]);clear yR;go_wp2_with fail;refine((cT _ (qad _ _)).out).mono ?_;rintro e w3 ⟨⟨vq,gr,cr,rfl,hq,hr⟩,cJ⟩;have eR:Below w2.heap.size w2 w3:=((qaa w2.heap.size w2).alloc (qac _) _).trans (cJ.mono (by rw[qab];omega));have rW:w2.heap.size≤gr:=by have:=hr.parts.1;rw[qab] at this;omega
      have HR:=hid (hr.mono (base':=w.heap.size) (by have:=aK.out.size;rw[qab];omega));have gM:=hid (iJ.out.later eR fS.out);have fR:Hid (gy≠gr):=hid (by have:=fS.out;omega);have bR:=hid (aK.out.trans (eR.mono aK.out.size));clear hq hr cJ eR cT rW;go_wp2_with fail
      go_roundg (y+x % y)
      case measure=>have:=gL.out;have:=eV.out;omega
      case rel=>exact⟨_,_,_,y,x % y,rfl,rfl,hid gM.out.nat,hid HR.out.nat,hid rfl,rD,hid (Nat.le_of_lt gL.out),Gx,bR,hid (.inr ⟨_,_,_,_,rfl,rfl,gM.out,HR.out,fR.out⟩)⟩
     ·have hte:((t0:Int)==0)=false:=qan (by omega)
      have gV:=fun W hb=>hid (qlc gx cx gy c w.heap.size x y u0 u1 t0 t1 ev W (mM.out.later hb mN.out) (iJ.out.later hb fS.out) iR.out uJ.out uI.out cF.out cW.out sO.out ht mJ.out eV.out)
      have lR:Hid (0<y):=hid (by
       rcases qas y with e|e
       ·have:=H2Y.out;rw[e] at this;simp[wl,qau] at this
       ·exact e)
      go_wp2_with fail;refine((gV _ (qad _ _)).out).mono ?_;rintro e w3 ⟨⟨gx',cx',gy',cy',x',y',rfl,hx,hy,hne',hg',hyx',bX⟩,cJ⟩;have jK:=hid hx;have HR:=hid hy;have fR:=hid hne';have bR:Hid (Below w.heap.size w w3):=hid (aK.out.trans (((qaa w.heap.size w2).alloc aK.out.size _).trans cJ));have rD:Hid (Nat.gcd x' y'=g):=hid (hg'.trans HG.out);have HYX':=hid hyx';have sP:=hid bX;have HCX':Hid (wl x'≤Cap):=hid (Nat.le_trans (qal qam (by omega)) mJ.out);clear hx hy cJ gV hg' hyx' bX hne';go_wp2_with fail
      go_roundg (x'+y')
      case measure=>have:=sP.out;have:=lR.out;omega
      case rel=>exact⟨_,_,_,x',y',rfl,rfl,hid jK.out.nat,hid HR.out.nat,hid rfl,rD,HYX',HCX',bR,hid (.inr ⟨_,_,_,_,rfl,rfl,jK.out,HR.out,fR.out⟩)⟩
    ·have hn':¬(1:Int)<(n:Int):=by omega
     have sQ:n=0∨n=1:=by omega
     clear hn oP;rcases sQ with rfl|rfl
     ·have Gy:Hid (x=g):=hid (by have:=qen HN.out.symm;rw[←HG.out,this,Nat.gcd_zero_right])
      go_wp2_with fail;go_ret;exact⟨⟨_,rfl,by rw[←Gy.out];exact HX.out⟩,dW.out⟩
     ·obtain⟨z,hz⟩:∃z,qao B64 y=[z]:=by
       have h3:(qao B64 y).length=1:=HN.out.symm
       match qao B64 y,h3 with
       | [z],_=>exact⟨z,rfl⟩
      have Gz:z=y:=by
       have:=qar B64 y qam;rw[hz] at this
       simpa using this
      subst Gz;have yS:z<B64:=qed B64 z qam z (by rw[hz];simp)
      have cP:0<z:=by
       rcases qas z with e|e
       ·rw[e,qau] at hz;cases hz
       ·exact e
      have Ha:Wds wr (.slice p 1 c) [z]:=by have:=HY.out;unfold qa2 at this;rw[hz] at this;exact this
      obtain⟨_,p',c',he,_,_,aA⟩:=Ha;cases he
      rcases aA with h0|⟨bb,ob,rfl,aB⟩
      ·cases h0
      have aC:=aB 0 (by simp);simp[wd] at aC
      have bT:Hid (∀w',Below wr.heap.size wr w'→w'.cell? ⟨bb,ob,none⟩=some (.int .u64 z)):=hid fun w' hb'=>by
       rw[hb'.cell (p:=⟨bb,ob,none⟩) (qaf wr _ aC)];exact aC
      have bQ:Below wr.heap.size wr wr.drew:=(qaa _ _).drew;obtain⟨rm,pI⟩:∃rm,x % z=rm:=⟨_,rfl⟩
      have sR:=hid ((qf0 _ x z wr.drew (HX.out.later bQ) cP yS).mono (R':=fun e w'=>e = .returned (.int .u64 (rm:Nat))∧Below wr.heap.size wr w') (by
       rintro e w' ⟨rfl,hb'⟩
       exact⟨by rw[pI],bQ.trans hb'⟩))
      have yT:=hid (fun w=>qeo z rm w);have nD:Nat.gcd z rm=g:=by rw[←pI,←HG.out,Nat.gcd_comm x z,Nat.gcd_rec z x,Nat.gcd_comm]
      rw[nD] at yT;have sS:g≤z:=by rw[←nD];exact Nat.gcd_le_left _ cP
      have pG:Hid (g<B64):=hid (by omega);have yU:Hid (0<g):=hid (by rw[←nD];exact Nat.gcd_pos_of_pos_left _ cP);clear bQ aB hz yS cP pI nD sS HN HY HG eV lG mG iS HX;go_wp2_with fail
      go_region_held3 (fun W=>W.cell? ⟨bb,ob,none⟩=some (.int .u64 z)) (first|with_reducible exact bT.out _ eI.out|with_reducible exact bT.out _ fG.out|with_reducible exact bT.out _ (eI.out.alloc eI.out.size _)|exact aC)
       (first|(go_at_call 149;refine sR.out.mono ?_;rintro e w2 ⟨rfl,gA⟩;have fG:=hid gA;clear gA)|(go_at_call 148;refine(yT.out _).mono ?_;rintro e w4 ⟨rfl,q4,mF⟩;have eI:Hid (Below wr.heap.size wr w4):=hid (by rw[mF];exact below_drewN fG.out q4);clear mF))
      all_goals
       have eG:Hid (Below w.heap.size w w4):=hid (dW.out.trans (eI.out.mono dW.out.size));go_wp2_with fail;go_ret;exact⟨⟨_,rfl,qkj w4 g pG.out yU.out⟩,eG.out.alloc eG.out.size _⟩
  ·have hn1':¬(1:Int)<(na:Int):=by omega
   go_wp2_with fail
   go_loopg [0,1] (b+a) (fun m s0 s1 wr=>∃(p:Option Addr) (n c x y:Nat),x+y=m∧s1 = .slice p n c∧Hid (qa2 wr s0 x)∧Hid (qa2 wr (.slice p n c) y)∧Hid (n=wl y)∧Hid (Nat.gcd x y=g)∧Hid (y≤x)∧Hid (wl x≤Cap)∧Hid (Below w.heap.size w wr)∧Hid (Rows w.heap.size wr s0 (.slice p n c) x y))
   case atStart=>exact⟨pa,na,ca,b,a,rfl,rfl,HB',HA',kL,mG,hid (Nat.le_of_lt iS.out),qG,bU,hid (.inl (by have:=kL.out;omega))⟩
   case round=>
    obtain⟨p,n,c,x,y,rfl,rfl,HX,HY,HN,HG,eV,mJ,dW,oP⟩:=hrel;have Gx:Hid (wl y≤Cap):=hid (Nat.le_trans (qal qam eV.out) mJ.out);rcases Nat.lt_or_ge 1 n with hn|hn
    ·have hn':(1:Int)<(n:Int):=by omega
     obtain⟨gx,cx,gy,cy,rfl,he,nU,mI,hne⟩:∃gx cx gy cy,_=Value.slice (some ⟨gx,0,none⟩) (wl x) cx∧Value.slice p n c = .slice (some ⟨gy,0,none⟩) (wl y) cy∧qdl wr w.heap.size gx cx (qao B64 x)∧qdl wr w.heap.size gy cy (qao B64 y)∧gx≠gy:=by
      rcases oP.out with h|h
      ·have:=HN.out;omega
      ·exact h
     cases he
     have h2y:2≤wl y:=hn;have yP:=hid (qhx _ _ x y wr HX.out HY.out eV.out h2y mJ.out);have lB:Hid (gx<wr.heap.size):=hid nU.lt;have mK:Hid (gy<wr.heap.size):=hid mI.lt;have sN:=hid nU;have yQ:=hid mI;have iR:=hid hne;have H2Y:=hid h2y;clear hn nU mI hne h2y oP;go_wp2_with fail;refine yP.out.mono ?_;rintro e w2 ⟨⟨u0,u1,t0,t1,ev,rfl,oO,mV,iT,fI,mL⟩,aR⟩;have mM:=hid (sN.out.later aR lB.out);have iJ:=hid (yQ.out.later aR mK.out);have mN:Hid (gx<w2.heap.size):=hid (Nat.lt_of_lt_of_le lB.out aR.size);have fS:Hid (gy<w2.heap.size):=hid (Nat.lt_of_lt_of_le mK.out aR.size);have aK:=hid (dW.out.trans (aR.mono dW.out.size));have uJ:=hid oO;have uI:=hid mV;have cF:=hid iT;have cW:=hid fI;have sO:=hid mL;clear oO mV iT fI mL aR yP HX HY sN yQ dW;by_cases ht:t0=0
     ·subst ht
      have yR:0<y:=by
       rcases qas y with e|e
       ·have:=H2Y.out;rw[e] at this;simp[wl,qau] at this
       ·exact e
      have cT:=fun W hb=>hid (qge _ _ x y W (mM.out.later hb mN.out).nat (iJ.out.later hb fS.out).nat eV.out H2Y.out mJ.out);have gL:Hid (x % y<y):=hid (Nat.mod_lt _ yR);have rD:Hid (Nat.gcd y (x % y)=g):=hid (by rw[←HG.out,Nat.gcd_comm x y,Nat.gcd_rec y x,Nat.gcd_comm]);clear yR;go_wp2_with fail;refine((cT _ (qad _ _)).out).mono ?_;rintro e w3 ⟨⟨vq,gr,cr,rfl,hq,hr⟩,cJ⟩;have eR:Below w2.heap.size w2 w3:=((qaa w2.heap.size w2).alloc (qac _) _).trans (cJ.mono (by rw[qab];omega));have rW:w2.heap.size≤gr:=by have:=hr.parts.1;rw[qab] at this;omega
      have HR:=hid (hr.mono (base':=w.heap.size) (by have:=aK.out.size;rw[qab];omega));have gM:=hid (iJ.out.later eR fS.out);have fR:Hid (gy≠gr):=hid (by have:=fS.out;omega);have bR:=hid (aK.out.trans (eR.mono aK.out.size));clear hq hr cJ eR cT rW;go_wp2_with fail
      go_roundg (y+x % y)
      case measure=>have:=gL.out;have:=eV.out;omega
      case rel=>exact⟨_,_,_,y,x % y,rfl,rfl,hid gM.out.nat,hid HR.out.nat,hid rfl,rD,hid (Nat.le_of_lt gL.out),Gx,bR,hid (.inr ⟨_,_,_,_,rfl,rfl,gM.out,HR.out,fR.out⟩)⟩
     ·have hte:((t0:Int)==0)=false:=qan (by omega)
      have gV:=fun W hb=>hid (qlc gx cx gy c w.heap.size x y u0 u1 t0 t1 ev W (mM.out.later hb mN.out) (iJ.out.later hb fS.out) iR.out uJ.out uI.out cF.out cW.out sO.out ht mJ.out eV.out)
      have lR:Hid (0<y):=hid (by
       rcases qas y with e|e
       ·have:=H2Y.out;rw[e] at this;simp[wl,qau] at this
       ·exact e)
      go_wp2_with fail;refine((gV _ (qad _ _)).out).mono ?_;rintro e w3 ⟨⟨gx',cx',gy',cy',x',y',rfl,hx,hy,hne',hg',hyx',bX⟩,cJ⟩;have jK:=hid hx;have HR:=hid hy;have fR:=hid hne';have bR:Hid (Below w.heap.size w w3):=hid (aK.out.trans (((qaa w.heap.size w2).alloc aK.out.size _).trans cJ));have rD:Hid (Nat.gcd x' y'=g):=hid (hg'.trans HG.out);have HYX':=hid hyx';have sP:=hid bX;have HCX':Hid (wl x'≤Cap):=hid (Nat.le_trans (qal qam (by omega)) mJ.out);clear hx hy cJ gV hg' hyx' bX hne';go_wp2_with fail
      go_roundg (x'+y')
      case measure=>have:=sP.out;have:=lR.out;omega
      case rel=>exact⟨_,_,_,x',y',rfl,rfl,hid jK.out.nat,hid HR.out.nat,hid rfl,rD,HYX',HCX',bR,hid (.inr ⟨_,_,_,_,rfl,rfl,jK.out,HR.out,fR.out⟩)⟩
    ·have hn':¬(1:Int)<(n:Int):=by omega
     have sQ:n=0∨n=1:=by omega
     clear hn oP;rcases sQ with rfl|rfl
     ·have Gy:Hid (x=g):=hid (by have:=qen HN.out.symm;rw[←HG.out,this,Nat.gcd_zero_right])
      go_wp2_with fail;go_ret;exact⟨⟨_,rfl,by rw[←Gy.out];exact HX.out⟩,dW.out⟩
     ·obtain⟨z,hz⟩:∃z,qao B64 y=[z]:=by
       have h3:(qao B64 y).length=1:=HN.out.symm
       match qao B64 y,h3 with
       | [z],_=>exact⟨z,rfl⟩
      have Gz:z=y:=by
       have:=qar B64 y qam;rw[hz] at this
       simpa using this
      subst Gz;have yS:z<B64:=qed B64 z qam z (by rw[hz];simp)
      have cP:0<z:=by
       rcases qas z with e|e
       ·rw[e,qau] at hz;cases hz
       ·exact e
      have Ha:Wds wr (.slice p 1 c) [z]:=by have:=HY.out;unfold qa2 at this;rw[hz] at this;exact this
      obtain⟨_,p',c',he,_,_,aA⟩:=Ha;cases he
      rcases aA with h0|⟨bb,ob,rfl,aB⟩
      ·cases h0
      have aC:=aB 0 (by simp);simp[wd] at aC
      have bT:Hid (∀w',Below wr.heap.size wr w'→w'.cell? ⟨bb,ob,none⟩=some (.int .u64 z)):=hid fun w' hb'=>by
       rw[hb'.cell (p:=⟨bb,ob,none⟩) (qaf wr _ aC)];exact aC
      have bQ:Below wr.heap.size wr wr.drew:=(qaa _ _).drew;obtain⟨rm,pI⟩:∃rm,x % z=rm:=⟨_,rfl⟩
      have sR:=hid ((qf0 _ x z wr.drew (HX.out.later bQ) cP yS).mono (R':=fun e w'=>e = .returned (.int .u64 (rm:Nat))∧Below wr.heap.size wr w') (by
       rintro e w' ⟨rfl,hb'⟩
       exact⟨by rw[pI],bQ.trans hb'⟩))
      have yT:=hid (fun w=>qeo z rm w);have nD:Nat.gcd z rm=g:=by rw[←pI,←HG.out,Nat.gcd_comm x z,Nat.gcd_rec z x,Nat.gcd_comm]
      rw[nD] at yT;have sS:g≤z:=by rw[←nD];exact Nat.gcd_le_left _ cP
      have pG:Hid (g<B64):=hid (by omega);have yU:Hid (0<g):=hid (by rw[←nD];exact Nat.gcd_pos_of_pos_left _ cP);clear bQ aB hz yS cP pI nD sS HN HY HG eV lG mG iS HX;go_wp2_with fail
      go_region_held3 (fun W=>W.cell? ⟨bb,ob,none⟩=some (.int .u64 z)) (first|with_reducible exact bT.out _ eI.out|with_reducible exact bT.out _ fG.out|with_reducible exact bT.out _ (eI.out.alloc eI.out.size _)|exact aC)
       (first|(go_at_call 149;refine sR.out.mono ?_;rintro e w2 ⟨rfl,gA⟩;have fG:=hid gA;clear gA)|(go_at_call 148;refine(yT.out _).mono ?_;rintro e w4 ⟨rfl,q4,mF⟩;have eI:Hid (Below wr.heap.size wr w4):=hid (by rw[mF];exact below_drewN fG.out q4);clear mF))
      all_goals
       have eG:Hid (Below w.heap.size w w4):=hid (dW.out.trans (eI.out.mono dW.out.size));go_wp2_with fail;go_ret;exact⟨⟨_,rfl,qkj w4 g pG.out yU.out⟩,eG.out.alloc eG.out.size _⟩
 ·have iS:=hid mH
  clear mH Gw;by_cases dT:1<nb
  ·have hn1':(1:Int)<(nb:Int):=by omega
   have rB:0<(qao B64 b).length:=by have:=iQ.out;show 0<wl b;omega
   have rC:0<(qao B64 a).length:=by
    have:=qal (b:=B64) qam (m:=b) (n:=a) (iS.out);omega
   have jJ:Hid (Calls Tryz.prog 145 #[.slice pa na ca] w1 fun e w'=>(∃g cap,e = .returned (.slice (some ⟨g,0,none⟩) (wl a) cap)∧qdl w' w.heap.size g cap (qao B64 a))∧Below w.heap.size w1 w'):=by
    have h:=qjr _ _ w1 HA'.out rC Bq.out;rw[rV.out] at h;exact hid h
   have gS:Hid (∀w2,Below w.heap.size w1 w2→Calls Tryz.prog 145 #[.slice pb nb cb] w2 fun e w'=>(∃g cap,e = .returned (.slice (some ⟨g,0,none⟩) (wl b) cap)∧qdl w' w2.heap.size g cap (qao B64 b))∧Below w2.heap.size w2 w'):=
    hid fun w2 aR=>qjr _ _ w2 (HB'.out.later (by rw[rV.out];exact aR)) rB qG.out
   clear rB rC dT;go_wp2_with fail;refine jJ.out.mono ?_;rintro e w2 ⟨⟨gx,cx,rfl,nU⟩,aR⟩;have aK:=hid aR;have fF:=hid nU;clear aR nU jJ;go_wp2_with fail;refine(gS.out w2 aK.out).mono ?_;rintro e w3 ⟨⟨gy,cy,rfl,mI⟩,cJ⟩;have yO:Hid (qdl w3 w.heap.size gx cx (qao B64 a)):=hid (fF.out.later cJ fF.out.lt);have gM:Hid (qdl w3 w.heap.size gy cy (qao B64 b)):=hid (mI.mono (by have:=aK.out.size;rw[rV.out] at this;exact this));have fR:Hid (gx≠gy):=hid (by have:=fF.out.lt;have:=mI.parts.1;omega);have bR:Hid (Below w.heap.size w w3):=hid (bU.out.trans (aK.out.trans (cJ.mono (by have:=aK.out.size;rw[rV.out] at this;exact this))));clear mI cJ gS fF aK HA' HB' bU rV;go_wp2_with fail
   go_loopg [0,1] (a+b) (fun m s0 s1 wr=>∃(p:Option Addr) (n c x y:Nat),x+y=m∧s1 = .slice p n c∧Hid (qa2 wr s0 x)∧Hid (qa2 wr (.slice p n c) y)∧Hid (n=wl y)∧Hid (Nat.gcd x y=g)∧Hid (y≤x)∧Hid (wl x≤Cap)∧Hid (Below w.heap.size w wr)∧Hid (Rows w.heap.size wr s0 (.slice p n c) x y))
   case atStart=>exact⟨_,_,_,a,b,rfl,rfl,hid yO.out.nat,hid gM.out.nat,hid rfl,lG,iS,Bq,bR,hid (.inr ⟨_,_,_,_,rfl,rfl,yO.out,gM.out,fR.out⟩)⟩
   case round=>
    obtain⟨p,n,c,x,y,rfl,rfl,HX,HY,HN,HG,eV,mJ,dW,oP⟩:=hrel;have Gx:Hid (wl y≤Cap):=hid (Nat.le_trans (qal qam eV.out) mJ.out);rcases Nat.lt_or_ge 1 n with hn|hn
    ·have hn':(1:Int)<(n:Int):=by omega
     obtain⟨gx,cx,gy,cy,rfl,he,nU,mI,hne⟩:∃gx cx gy cy,_=Value.slice (some ⟨gx,0,none⟩) (wl x) cx∧Value.slice p n c = .slice (some ⟨gy,0,none⟩) (wl y) cy∧qdl wr w.heap.size gx cx (qao B64 x)∧qdl wr w.heap.size gy cy (qao B64 y)∧gx≠gy:=by
      rcases oP.out with h|h
      ·have:=HN.out;omega
      ·exact h
     cases he
     have h2y:2≤wl y:=hn;have yP:=hid (qhx _ _ x y wr HX.out HY.out eV.out h2y mJ.out);have lB:Hid (gx<wr.heap.size):=hid nU.lt;have mK:Hid (gy<wr.heap.size):=hid mI.lt;have sN:=hid nU;have yQ:=hid mI;have iR:=hid hne;have H2Y:=hid h2y;clear hn nU mI hne h2y oP;go_wp2_with fail;refine yP.out.mono ?_;rintro e w2 ⟨⟨u0,u1,t0,t1,ev,rfl,oO,mV,iT,fI,mL⟩,aR⟩;have mM:=hid (sN.out.later aR lB.out);have iJ:=hid (yQ.out.later aR mK.out);have mN:Hid (gx<w2.heap.size):=hid (Nat.lt_of_lt_of_le lB.out aR.size);have fS:Hid (gy<w2.heap.size):=hid (Nat.lt_of_lt_of_le mK.out aR.size);have aK:=hid (dW.out.trans (aR.mono dW.out.size));have uJ:=hid oO;have uI:=hid mV;have cF:=hid iT;have cW:=hid fI;have sO:=hid mL;clear oO mV iT fI mL aR yP HX HY sN yQ dW;by_cases ht:t0=0
     ·subst ht
      have yR:0<y:=by
       rcases qas y with e|e
       ·have:=H2Y.out;rw[e] at this;simp[wl,qau] at this
       ·exact e
      have cT:=fun W hb=>hid (qge _ _ x y W (mM.out.later hb mN.out).nat (iJ.out.later hb fS.out).nat eV.out H2Y.out mJ.out);have gL:Hid (x % y<y):=hid (Nat.mod_lt _ yR);have rD:Hid (Nat.gcd y (x % y)=g):=hid (by rw[←HG.out,Nat.gcd_comm x y,Nat.gcd_rec y x,Nat.gcd_comm]);clear yR;go_wp2_with fail;refine((cT _ (qad _ _)).out).mono ?_;rintro e w3 ⟨⟨vq,gr,cr,rfl,hq,hr⟩,cJ⟩;have eR:Below w2.heap.size w2 w3:=((qaa w2.heap.size w2).alloc (qac _) _).trans (cJ.mono (by rw[qab];omega));have rW:w2.heap.size≤gr:=by have:=hr.parts.1;rw[qab] at this;omega
      have HR:=hid (hr.mono (base':=w.heap.size) (by have:=aK.out.size;rw[qab];omega));have gM:=hid (iJ.out.later eR fS.out);have fR:Hid (gy≠gr):=hid (by have:=fS.out;omega);have bR:=hid (aK.out.trans (eR.mono aK.out.size));clear hq hr cJ eR cT rW;go_wp2_with fail
      go_roundg (y+x % y)
      case measure=>have:=gL.out;have:=eV.out;omega
      case rel=>exact⟨_,_,_,y,x % y,rfl,rfl,hid gM.out.nat,hid HR.out.nat,hid rfl,rD,hid (Nat.le_of_lt gL.out),Gx,bR,hid (.inr ⟨_,_,_,_,rfl,rfl,gM.out,HR.out,fR.out⟩)⟩
     ·have hte:((t0:Int)==0)=false:=qan (by omega)
      have gV:=fun W hb=>hid (qlc gx cx gy c w.heap.size x y u0 u1 t0 t1 ev W (mM.out.later hb mN.out) (iJ.out.later hb fS.out) iR.out uJ.out uI.out cF.out cW.out sO.out ht mJ.out eV.out)
      have lR:Hid (0<y):=hid (by
       rcases qas y with e|e
       ·have:=H2Y.out;rw[e] at this;simp[wl,qau] at this
       ·exact e)
      go_wp2_with fail;refine((gV _ (qad _ _)).out).mono ?_;rintro e w3 ⟨⟨gx',cx',gy',cy',x',y',rfl,hx,hy,hne',hg',hyx',bX⟩,cJ⟩;have jK:=hid hx;have HR:=hid hy;have fR:=hid hne';have bR:Hid (Below w.heap.size w w3):=hid (aK.out.trans (((qaa w.heap.size w2).alloc aK.out.size _).trans cJ));have rD:Hid (Nat.gcd x' y'=g):=hid (hg'.trans HG.out);have HYX':=hid hyx';have sP:=hid bX;have HCX':Hid (wl x'≤Cap):=hid (Nat.le_trans (qal qam (by omega)) mJ.out);clear hx hy cJ gV hg' hyx' bX hne';go_wp2_with fail
      go_roundg (x'+y')
      case measure=>have:=sP.out;have:=lR.out;omega
      case rel=>exact⟨_,_,_,x',y',rfl,rfl,hid jK.out.nat,hid HR.out.nat,hid rfl,rD,HYX',HCX',bR,hid (.inr ⟨_,_,_,_,rfl,rfl,jK.out,HR.out,fR.out⟩)⟩
    ·have hn':¬(1:Int)<(n:Int):=by omega
     have sQ:n=0∨n=1:=by omega
     clear hn oP;rcases sQ with rfl|rfl
     ·have Gy:Hid (x=g):=hid (by have:=qen HN.out.symm;rw[←HG.out,this,Nat.gcd_zero_right])
      go_wp2_with fail;go_ret;exact⟨⟨_,rfl,by rw[←Gy.out];exact HX.out⟩,dW.out⟩
     ·obtain⟨z,hz⟩:∃z,qao B64 y=[z]:=by
       have h3:(qao B64 y).length=1:=HN.out.symm
       match qao B64 y,h3 with
       | [z],_=>exact⟨z,rfl⟩
      have Gz:z=y:=by
       have:=qar B64 y qam;rw[hz] at this
       simpa using this
      subst Gz;have yS:z<B64:=qed B64 z qam z (by rw[hz];simp)
      have cP:0<z:=by
       rcases qas z with e|e
       ·rw[e,qau] at hz;cases hz
       ·exact e
      have Ha:Wds wr (.slice p 1 c) [z]:=by have:=HY.out;unfold qa2 at this;rw[hz] at this;exact this
      obtain⟨_,p',c',he,_,_,aA⟩:=Ha;cases he
      rcases aA with h0|⟨bb,ob,rfl,aB⟩
      ·cases h0
      have aC:=aB 0 (by simp);simp[wd] at aC
      have bT:Hid (∀w',Below wr.heap.size wr w'→w'.cell? ⟨bb,ob,none⟩=some (.int .u64 z)):=hid fun w' hb'=>by
       rw[hb'.cell (p:=⟨bb,ob,none⟩) (qaf wr _ aC)];exact aC
      have bQ:Below wr.heap.size wr wr.drew:=(qaa _ _).drew;obtain⟨rm,pI⟩:∃rm,x % z=rm:=⟨_,rfl⟩
      have sR:=hid ((qf0 _ x z wr.drew (HX.out.later bQ) cP yS).mono (R':=fun e w'=>e = .returned (.int .u64 (rm:Nat))∧Below wr.heap.size wr w') (by
       rintro e w' ⟨rfl,hb'⟩
       exact⟨by rw[pI],bQ.trans hb'⟩))
      have yT:=hid (fun w=>qeo z rm w);have nD:Nat.gcd z rm=g:=by rw[←pI,←HG.out,Nat.gcd_comm x z,Nat.gcd_rec z x,Nat.gcd_comm]
      rw[nD] at yT;have sS:g≤z:=by rw[←nD];exact Nat.gcd_le_left _ cP
      have pG:Hid (g<B64):=hid (by omega);have yU:Hid (0<g):=hid (by rw[←nD];exact Nat.gcd_pos_of_pos_left _ cP);clear bQ aB hz yS cP pI nD sS HN HY HG eV lG mG iS HX;go_wp2_with fail
      go_region_held3 (fun W=>W.cell? ⟨bb,ob,none⟩=some (.int .u64 z)) (first|with_reducible exact bT.out _ eI.out|with_reducible exact bT.out _ fG.out|with_reducible exact bT.out _ (eI.out.alloc eI.out.size _)|exact aC)
       (first|(go_at_call 149;refine sR.out.mono ?_;rintro e w2 ⟨rfl,gA⟩;have fG:=hid gA;clear gA)|(go_at_call 148;refine(yT.out _).mono ?_;rintro e w4 ⟨rfl,q4,mF⟩;have eI:Hid (Below wr.heap.size wr w4):=hid (by rw[mF];exact below_drewN fG.out q4);clear mF))
      all_goals
       have eG:Hid (Below w.heap.size w w4):=hid (dW.out.trans (eI.out.mono dW.out.size));go_wp2_with fail;go_ret;exact⟨⟨_,rfl,qkj w4 g pG.out yU.out⟩,eG.out.alloc eG.out.size _⟩
  ·have hn1':¬(1:Int)<(nb:Int):=by omega
   go_wp2_with fail
   go_loopg [0,1] (a+b) (fun m s0 s1 wr=>∃(p:Option Addr) (n c x y:Nat),x+y=m∧s1 = .slice p n c∧Hid (qa2 wr s0 x)∧Hid (qa2 wr (.slice p n c) y)∧Hid (n=wl y)∧Hid (Nat.gcd x y=g)∧Hid (y≤x)∧Hid (wl x≤Cap)∧Hid (Below w.heap.size w wr)∧Hid (Rows w.heap.size wr s0 (.slice p n c) x y))
   case atStart=>exact⟨pb,nb,cb,a,b,rfl,rfl,HA',HB',iQ,lG,iS,Bq,bU,hid (.inl (by have:=iQ.out;omega))⟩
   case round=>
    obtain⟨p,n,c,x,y,rfl,rfl,HX,HY,HN,HG,eV,mJ,dW,oP⟩:=hrel;have Gx:Hid (wl y≤Cap):=hid (Nat.le_trans (qal qam eV.out) mJ.out);rcases Nat.lt_or_ge 1 n with hn|hn
    ·have hn':(1:Int)<(n:Int):=by omega
     obtain⟨gx,cx,gy,cy,rfl,he,nU,mI,hne⟩:∃gx cx gy cy,_=Value.slice (some ⟨gx,0,none⟩) (wl x) cx∧Value.slice p n c = .slice (some ⟨gy,0,none⟩) (wl y) cy∧qdl wr w.heap.size gx cx (qao B64 x)∧qdl wr w.heap.size gy cy (qao B64 y)∧gx≠gy:=by
      rcases oP.out with h|h
      ·have:=HN.out;omega
      ·exact h
     cases he
     have h2y:2≤wl y:=hn;have yP:=hid (qhx _ _ x y wr HX.out HY.out eV.out h2y mJ.out);have lB:Hid (gx<wr.heap.size):=hid nU.lt;have mK:Hid (gy<wr.heap.size):=hid mI.lt;have sN:=hid nU;have yQ:=hid mI;have iR:=hid hne;have H2Y:=hid h2y;clear hn nU mI hne h2y oP;go_wp2_with fail;refine yP.out.mono ?_;rintro e w2 ⟨⟨u0,u1,t0,t1,ev,rfl,oO,mV,iT,fI,mL⟩,aR⟩;have mM:=hid (sN.out.later aR lB.out);have iJ:=hid (yQ.out.later aR mK.out);have mN:Hid (gx<w2.heap.size):=hid (Nat.lt_of_lt_of_le lB.out aR.size);have fS:Hid (gy<w2.heap.size):=hid (Nat.lt_of_lt_of_le mK.out aR.size);have aK:=hid (dW.out.trans (aR.mono dW.out.size));have uJ:=hid oO;have uI:=hid mV;have cF:=hid iT;have cW:=hid fI;have sO:=hid mL;clear oO mV iT fI mL aR yP HX HY sN yQ dW;by_cases ht:t0=0
     ·subst ht
      have yR:0<y:=by
       rcases qas y with e|e
       ·have:=H2Y.out;rw[e] at this;simp[wl,qau] at this
       ·exact e
      have cT:=fun W hb=>hid (qge _ _ x y W (mM.out.later hb mN.out).nat (iJ.out.later hb fS.out).nat eV.out H2Y.out mJ.out);have gL:Hid (x % y<y):=hid (Nat.mod_lt _ yR);have rD:Hid (Nat.gcd y (x % y)=g):=hid (by rw[←HG.out,Nat.gcd_comm x y,Nat.gcd_rec y x,Nat.gcd_comm]);clear yR;go_wp2_with fail;refine((cT _ (qad _ _)).out).mono ?_;rintro e w3 ⟨⟨vq,gr,cr,rfl,hq,hr⟩,cJ⟩;have eR:Below w2.heap.size w2 w3:=((qaa w2.heap.size w2).alloc (qac _) _).trans (cJ.mono (by rw[qab];omega));have rW:w2.heap.size≤gr:=by have:=hr.parts.1;rw[qab] at this;omega
      have HR:=hid (hr.mono (base':=w.heap.size) (by have:=aK.out.size;rw[qab];omega));have gM:=hid (iJ.out.later eR fS.out);have fR:Hid (gy≠gr):=hid (by have:=fS.out;omega);have bR:=hid (aK.out.trans (eR.mono aK.out.size));clear hq hr cJ eR cT rW;go_wp2_with fail
      go_roundg (y+x % y)
      case measure=>have:=gL.out;have:=eV.out;omega
      case rel=>exact⟨_,_,_,y,x % y,rfl,rfl,hid gM.out.nat,hid HR.out.nat,hid rfl,rD,hid (Nat.le_of_lt gL.out),Gx,bR,hid (.inr ⟨_,_,_,_,rfl,rfl,gM.out,HR.out,fR.out⟩)⟩
     ·have hte:((t0:Int)==0)=false:=qan (by omega)
      have gV:=fun W hb=>hid (qlc gx cx gy c w.heap.size x y u0 u1 t0 t1 ev W (mM.out.later hb mN.out) (iJ.out.later hb fS.out) iR.out uJ.out uI.out cF.out cW.out sO.out ht mJ.out eV.out)
      have lR:Hid (0<y):=hid (by
       rcases qas y with e|e
       ·have:=H2Y.out;rw[e] at this;simp[wl,qau] at this
       ·exact e)
      go_wp2_with fail;refine((gV _ (qad _ _)).out).mono ?_;rintro e w3 ⟨⟨gx',cx',gy',cy',x',y',rfl,hx,hy,hne',hg',hyx',bX⟩,cJ⟩;have jK:=hid hx;have HR:=hid hy;have fR:=hid hne';have bR:Hid (Below w.heap.size w w3):=hid (aK.out.trans (((qaa w.heap.size w2).alloc aK.out.size _).trans cJ));have rD:Hid (Nat.gcd x' y'=g):=hid (hg'.trans HG.out);have HYX':=hid hyx';have sP:=hid bX;have HCX':Hid (wl x'≤Cap):=hid (Nat.le_trans (qal qam (by omega)) mJ.out);clear hx hy cJ gV hg' hyx' bX hne';go_wp2_with fail
      go_roundg (x'+y')
      case measure=>have:=sP.out;have:=lR.out;omega
      case rel=>exact⟨_,_,_,x',y',rfl,rfl,hid jK.out.nat,hid HR.out.nat,hid rfl,rD,HYX',HCX',bR,hid (.inr ⟨_,_,_,_,rfl,rfl,jK.out,HR.out,fR.out⟩)⟩
    ·have hn':¬(1:Int)<(n:Int):=by omega
     have sQ:n=0∨n=1:=by omega
     clear hn oP;rcases sQ with rfl|rfl
     ·have Gy:Hid (x=g):=hid (by have:=qen HN.out.symm;rw[←HG.out,this,Nat.gcd_zero_right])
      go_wp2_with fail;go_ret;exact⟨⟨_,rfl,by rw[←Gy.out];exact HX.out⟩,dW.out⟩
     ·obtain⟨z,hz⟩:∃z,qao B64 y=[z]:=by
       have h3:(qao B64 y).length=1:=HN.out.symm
       match qao B64 y,h3 with
       | [z],_=>exact⟨z,rfl⟩
      have Gz:z=y:=by
       have:=qar B64 y qam;rw[hz] at this
       simpa using this
      subst Gz;have yS:z<B64:=qed B64 z qam z (by rw[hz];simp)
      have cP:0<z:=by
       rcases qas z with e|e
       ·rw[e,qau] at hz;cases hz
       ·exact e
      have Ha:Wds wr (.slice p 1 c) [z]:=by have:=HY.out;unfold qa2 at this;rw[hz] at this;exact this
      obtain⟨_,p',c',he,_,_,aA⟩:=Ha;cases he
      rcases aA with h0|⟨bb,ob,rfl,aB⟩
      ·cases h0
      have aC:=aB 0 (by simp);simp[wd] at aC
      have bT:Hid (∀w',Below wr.heap.size wr w'→w'.cell? ⟨bb,ob,none⟩=some (.int .u64 z)):=hid fun w' hb'=>by
       rw[hb'.cell (p:=⟨bb,ob,none⟩) (qaf wr _ aC)];exact aC
      have bQ:Below wr.heap.size wr wr.drew:=(qaa _ _).drew;obtain⟨rm,pI⟩:∃rm,x % z=rm:=⟨_,rfl⟩
      have sR:=hid ((qf0 _ x z wr.drew (HX.out.later bQ) cP yS).mono (R':=fun e w'=>e = .returned (.int .u64 (rm:Nat))∧Below wr.heap.size wr w') (by
       rintro e w' ⟨rfl,hb'⟩
       exact⟨by rw[pI],bQ.trans hb'⟩))
      have yT:=hid (fun w=>qeo z rm w);have nD:Nat.gcd z rm=g:=by rw[←pI,←HG.out,Nat.gcd_comm x z,Nat.gcd_rec z x,Nat.gcd_comm]
      rw[nD] at yT;have sS:g≤z:=by rw[←nD];exact Nat.gcd_le_left _ cP
      have pG:Hid (g<B64):=hid (by omega);have yU:Hid (0<g):=hid (by rw[←nD];exact Nat.gcd_pos_of_pos_left _ cP);clear bQ aB hz yS cP pI nD sS HN HY HG eV lG mG iS HX;go_wp2_with fail
      go_region_held3 (fun W=>W.cell? ⟨bb,ob,none⟩=some (.int .u64 z)) (first|with_reducible exact bT.out _ eI.out|with_reducible exact bT.out _ fG.out|with_reducible exact bT.out _ (eI.out.alloc eI.out.size _)|exact aC)
       (first|(go_at_call 149;refine sR.out.mono ?_;rintro e w2 ⟨rfl,gA⟩;have fG:=hid gA;clear gA)|(go_at_call 148;refine(yT.out _).mono ?_;rintro e w4 ⟨rfl,q4,mF⟩;have eI:Hid (Below wr.heap.size wr w4):=hid (by rw[mF];exact below_drewN fG.out q4);clear mF))
      all_goals
       have eG:Hid (Below w.heap.size w w4):=hid (dW.out.trans (eI.out.mono dW.out.size));go_wp2_with fail;go_ret;exact⟨⟨_,rfl,qkj w4 g pG.out yU.out⟩,eG.out.alloc eG.out.size _⟩
theorem qdu(va vb:Value)(a b:Nat)(w:World)(ha:qa2 w va a)(hb:qa2 w vb b)(kU:wl a≤Cap)(Kk:wl b≤Cap):
  Calls Tryz.prog 102 #[va,vb] w fun e w'=>(∃v',e = .returned v'∧qa2 w' v' (Nat.gcd a b))∧Below w.heap.size w w':=by
 by_cases h:a=1∨b=1
 ·exact q7q va vb a b w ha hb h
 ·exact q48 va vb a b w ha hb (by omega) (by omega) kU Kk
end Go.Proofs.YtmcfcpgglfimjaaGreatDoor
