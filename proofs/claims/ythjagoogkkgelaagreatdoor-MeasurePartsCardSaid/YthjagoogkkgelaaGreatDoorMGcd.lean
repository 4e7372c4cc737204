/- commonDivisor: the greatest common divisor. -/
import Derived.Test.YthjagoogkkgelaaGreatDoorMTake
import Derived.Test.YthjagoogkkgelaaGreatDoorMMine
import Derived.Deep.RegionHeld3
set_option linter.all false
namespace Go.Proofs.YthjagoogkkgelaaGreatDoor
open Go.RowKit
set_option maxRecDepth 100000
set_option maxHeartbeats 4000000
def Rows(base:Nat)(w:World)(s0 s1:Value)(x y:Nat):Prop:=
 wl y≤1∨∃gx cx gy cy,s0 = .slice (some ⟨gx,0,none⟩) (wl x) cx∧s1 = .slice (some ⟨gy,0,none⟩) (wl y) cy∧qdg w base gx cx (qaf B64 x)∧qdg w base gy cy (qaf B64 y)∧gx≠gy
theorem qks(w:World)(x:Nat)(hx:x<B64)(h0:0<x):qaq (w.alloc (.cells #[.int .u64 (x:Nat)] 136)) (.slice (some ⟨w.heap.size,0,none⟩) 1 1) x:=by
 have h:=qxu w x hx
 have e:qaf B64 x=[x]:=by
  rw[qf5 B64 x qae h0,Nat.mod_eq_of_lt hx,Nat.div_eq_of_lt hx,qam]
 unfold qaq;rw[e];exact h
theorem q8s(va vb:Value)(a b:Nat)(w:World)(ha:qaq w va a)(hb:qaq w vb b)(h1:a=1∨b=1):
  Calls Tryz.prog 80 #[va,vb] w fun e w'=>(∃v',e = .returned v'∧qaq w' v' (Nat.gcd a b))∧Below w.heap.size w w':=by
 have hg:Nat.gcd a b=1:=by rcases h1 with rfl|rfl<;>simp
 rw[hg];have HF:=hid (qks w 1 (by rw[qab];omega) (by omega));have HB:Hid (Below w.heap.size w (w.alloc (.cells #[.int .u64 ((1:Nat):Int)] 136))):=hid ((Below.refl _ _).alloc (Nat.le_refl _) _);by_cases ha1:a=1
 ·subst ha1
  have HA1:=hid (qce va 1 true rfl w ha);clear ha hb hg h1;go_enter Tryz.func80,Tryz.ntmps80;go_wp2_with fail;refine HA1.out.mono ?_;rintro e w' ⟨rfl,hw⟩;subst hw;go_wp2_with fail;go_ret;exact⟨⟨_,rfl,HF.out⟩,HB.out⟩
 ·have hb1:b=1:=by omega
  subst hb1;have HA1:=hid (qce va a false (by simp[ha1]) w ha);have HB1:=hid (qce vb 1 true rfl w hb);clear ha hb hg h1 ha1;go_enter Tryz.func80,Tryz.ntmps80;go_wp2_with fail;refine HA1.out.mono ?_;rintro e w' ⟨rfl,hw⟩;subst hw;go_wp2_with fail;refine HB1.out.mono ?_;rintro e w' ⟨rfl,hw⟩;subst hw;go_wp2_with fail;go_ret;exact⟨⟨_,rfl,HF.out⟩,HB.out⟩
theorem q5r(va vb:Value)(a b:Nat)(w:World)(ha:qaq w va a)(hb:qaq w vb b)(ha1:a≠1)(hb1:b≠1)(hma:wl a≤Cap)(hmb:wl b≤Cap):
  Calls Tryz.prog 80 #[va,vb] w fun e w'=>(∃v',e = .returned v'∧qaq w' v' (Nat.gcd a b))∧Below w.heap.size w w':=by
 have HA1:=hid (qce va a false (by simp[ha1]) w ha);have HB1:=hid (qce vb b false (by simp[hb1]) w hb);have HCMP:=hid (qef va vb a b w ha hb);obtain⟨g,hg⟩:∃g,Nat.gcd a b=g:=⟨_,rfl⟩;rw[hg];have HA:=hid ha;have HB:=hid hb;have HMA:=hid hma;have HMB:=hid hmb;obtain⟨la,pa,ca,rfl,hx1,hx2,hla,hld⟩:=qgp ha;obtain⟨lb,pb,cb,rfl,hx3,hx4,hlb,hrd⟩:=qgp hb;have HLA:=hid hla;have HLB:=hid hlb;clear hld hrd hla hlb ha hb hma hmb ha1 hb1 hx1 hx2 hx3 hx4;generalize la.length=na at *;generalize lb.length=nb at *;clear la lb
 have hord:(qex a b<0∧a<b)∨(¬qex a b<0∧b≤a):=by
  unfold qex;rcases Nat.lt_or_ge a b with h|h
  ·left;rw[qda (by omega)];omega
  ·right
   rcases Nat.lt_or_ge b a with h'|h'
   ·rw[qcl (by omega)];omega
   ·rw[qet (by omega)];omega
 have HORD:=hid hord;clear hord;obtain⟨HG1,HG2⟩:Hid (Nat.gcd a b=g)∧Hid (Nat.gcd b a=g):=⟨hid hg,hid (by rw[Nat.gcd_comm];exact hg)⟩;clear hg;go_enter Tryz.func80,Tryz.ntmps80;go_wp2_with fail;refine HA1.out.mono ?_;rintro e w' ⟨rfl,hw⟩;subst hw;go_wp2_with fail;refine HB1.out.mono ?_;rintro e w' ⟨rfl,hw⟩;subst hw;go_wp2_with fail;refine HCMP.out.mono ?_;rintro e w1 ⟨rfl,q,hw1⟩;have hbw:Below w.heap.size w w1:=by rw[hw1];exact below_drewN (Below.refl _ _) q
 have HA':=hid (HA.out.later hbw);have HB':=hid (HB.out.later hbw);have HBW:=hid hbw;have HSW:Hid (w1.heap.size=w.heap.size):=hid (by rw[hw1];rfl);clear hw1 hbw HCMP HA1 HB1 HA HB;generalize qex a b=cv at *;rcases HORD.out with⟨hcv,hab⟩|⟨hcv,hab⟩
 ·have HAB:=hid hab
  clear hab HORD;by_cases hn1:1<na
  ·have hn1':(1:Int)<(na:Int):=by omega
   have hly:0<(qaf B64 a).length:=by have:=HLA.out;show 0<wl a;omega
   have hlx:0<(qaf B64 b).length:=by
    have:=qad (b:=B64) qae (m:=a) (n:=b) (Nat.le_of_lt HAB.out);omega
   have HC1:Hid (Calls Tryz.prog 116 #[.slice pb nb cb] w1 fun e w'=>(∃g cap,e = .returned (.slice (some ⟨g,0,none⟩) (wl b) cap)∧qdg w' w.heap.size g cap (qaf B64 b))∧Below w.heap.size w1 w'):=by
    have h:=qjw _ _ w1 HB'.out hlx HMB.out;rw[HSW.out] at h;exact hid h
   have HC2:Hid (∀w2,Below w.heap.size w1 w2→Calls Tryz.prog 116 #[.slice pa na ca] w2 fun e w'=>(∃g cap,e = .returned (.slice (some ⟨g,0,none⟩) (wl a) cap)∧qdg w' w2.heap.size g cap (qaf B64 a))∧Below w2.heap.size w2 w'):=
    hid fun w2 hb2=>qjw _ _ w2 (HA'.out.later (by rw[HSW.out];exact hb2)) hly HMA.out
   clear hly hlx hn1;go_wp2_with fail;refine HC1.out.mono ?_;rintro e w2 ⟨⟨gx,cx,rfl,hmx⟩,hb2⟩;have HB2:=hid hb2;have HM2:=hid hmx;clear hb2 hmx HC1;go_wp2_with fail;refine(HC2.out w2 HB2.out).mono ?_;rintro e w3 ⟨⟨gy,cy,rfl,hmy⟩,hb3⟩;have HMX3:Hid (qdg w3 w.heap.size gx cx (qaf B64 b)):=hid (HM2.out.later hb3 HM2.out.lt);have HMY3:Hid (qdg w3 w.heap.size gy cy (qaf B64 a)):=hid (hmy.mono (by have:=HB2.out.size;rw[HSW.out] at this;exact this));have HNE3:Hid (gx≠gy):=hid (by have:=HM2.out.lt;have:=hmy.parts.1;omega);have HB3:Hid (Below w.heap.size w w3):=hid (HBW.out.trans (HB2.out.trans (hb3.mono (by have:=HB2.out.size;rw[HSW.out] at this;exact this))));clear hmy hb3 HC2 HM2 HB2 HB' HA' HBW HSW;go_wp2_with fail
   go_loopg [0,1] (b+a) (fun m s0 s1 wr=>∃(p:Option Addr) (n c x y:Nat),x+y=m∧s1 = .slice p n c∧Hid (qaq wr s0 x)∧Hid (qaq wr (.slice p n c) y)∧Hid (n=wl y)∧Hid (Nat.gcd x y=g)∧Hid (y≤x)∧Hid (wl x≤Cap)∧Hid (Below w.heap.size w wr)∧Hid (Rows w.heap.size wr s0 (.slice p n c) x y))
   case atStart=>exact⟨_,_,_,b,a,rfl,rfl,hid HMX3.out.nat,hid HMY3.out.nat,hid rfl,HG2,hid (Nat.le_of_lt HAB.out),HMB,HB3,hid (.inr ⟨_,_,_,_,rfl,rfl,HMX3.out,HMY3.out,HNE3.out⟩)⟩
   case round=>
    obtain⟨p,n,c,x,y,rfl,rfl,HX,HY,HN,HG,HYX,HCX,HBL,HRW⟩:=hrel;have HCY:Hid (wl y≤Cap):=hid (Nat.le_trans (qad qae HYX.out) HCX.out);rcases Nat.lt_or_ge 1 n with hn|hn
    ·have hn':(1:Int)<(n:Int):=by omega
     obtain⟨gx,cx,gy,cy,rfl,he,hmx,hmy,hne⟩:∃gx cx gy cy,_=Value.slice (some ⟨gx,0,none⟩) (wl x) cx∧Value.slice p n c = .slice (some ⟨gy,0,none⟩) (wl y) cy∧qdg wr w.heap.size gx cx (qaf B64 x)∧qdg wr w.heap.size gy cy (qaf B64 y)∧gx≠gy:=by
      rcases HRW.out with h|h
      ·have:=HN.out;omega
      ·exact h
     cases he
     have h2y:2≤wl y:=hn;have HFS:=hid (qh9 _ _ x y wr HX.out HY.out HYX.out h2y HCX.out);have HLX:Hid (gx<wr.heap.size):=hid hmx.lt;have HLY:Hid (gy<wr.heap.size):=hid hmy.lt;have HMX:=hid hmx;have HMY:=hid hmy;have HNE:=hid hne;have H2Y:=hid h2y;clear hn hmx hmy hne h2y HRW;go_wp2_with fail;refine HFS.out.mono ?_;rintro e w2 ⟨⟨u0,u1,t0,t1,ev,rfl,hu0,hu1,ht0,ht1,hrec⟩,hb2⟩;have HMX2:=hid (HMX.out.later hb2 HLX.out);have HMY2:=hid (HMY.out.later hb2 HLY.out);have HLX2:Hid (gx<w2.heap.size):=hid (Nat.lt_of_lt_of_le HLX.out hb2.size);have HLY2:Hid (gy<w2.heap.size):=hid (Nat.lt_of_lt_of_le HLY.out hb2.size);have HB2:=hid (HBL.out.trans (hb2.mono HBL.out.size));have HU0:=hid hu0;have HU1:=hid hu1;have HT0:=hid ht0;have HT1:=hid ht1;have HREC:=hid hrec;clear hu0 hu1 ht0 ht1 hrec hb2 HFS HX HY HMX HMY HBL;by_cases ht:t0=0
     ·subst ht
      have hyp:0<y:=by
       rcases Nat.eq_zero_or_pos y with e|e
       ·have:=H2Y.out;rw[e] at this;simp[wl,qam] at this
       ·exact e
      have HDIV:=fun W hb=>hid (qgq _ _ x y W (HMX2.out.later hb HLX2.out).nat (HMY2.out.later hb HLY2.out).nat HYX.out H2Y.out HCX.out);have HMOD:Hid (x % y<y):=hid (Nat.mod_lt _ hyp);have HGN:Hid (Nat.gcd y (x % y)=g):=hid (by rw[←HG.out,Nat.gcd_comm x y,Nat.gcd_rec y x,Nat.gcd_comm]);clear hyp;go_wp2_with fail;refine((HDIV _ ((Below.refl _ _).alloc (Nat.le_refl _) _)).out).mono ?_;rintro e w3 ⟨⟨vq,gr,cr,rfl,hq,hr⟩,hb3⟩;have hb23:Below w2.heap.size w2 w3:=((Below.refl w2.heap.size w2).alloc (Nat.le_refl _) _).trans (hb3.mono (by rw[World.size_alloc];omega));have hgr:w2.heap.size≤gr:=by have:=hr.parts.1;rw[World.size_alloc] at this;omega
      have HR:=hid (hr.mono (base':=w.heap.size) (by have:=HB2.out.size;rw[World.size_alloc];omega));have HMY3:=hid (HMY2.out.later hb23 HLY2.out);have HNE3:Hid (gy≠gr):=hid (by have:=HLY2.out;omega);have HB3:=hid (HB2.out.trans (hb23.mono HB2.out.size));clear hq hr hb3 hb23 HDIV hgr;go_wp2_with fail
      go_roundg (y+x % y)
      case measure=>have:=HMOD.out;have:=HYX.out;omega
      case rel=>exact⟨_,_,_,y,x % y,rfl,rfl,hid HMY3.out.nat,hid HR.out.nat,hid rfl,HGN,hid (Nat.le_of_lt HMOD.out),HCY,HB3,hid (.inr ⟨_,_,_,_,rfl,rfl,HMY3.out,HR.out,HNE3.out⟩)⟩
     ·have hte:((t0:Int)==0)=false:=beq_eq_false_iff_ne.2 (by omega)
      have HTK:=fun W hb=>hid (qlq gx cx gy c w.heap.size x y u0 u1 t0 t1 ev W (HMX2.out.later hb HLX2.out) (HMY2.out.later hb HLY2.out) HNE.out HU0.out HU1.out HT0.out HT1.out HREC.out ht HCX.out HYX.out)
      have HYP:Hid (0<y):=hid (by
       rcases Nat.eq_zero_or_pos y with e|e
       ·have:=H2Y.out;rw[e] at this;simp[wl,qam] at this
       ·exact e)
      go_wp2_with fail;refine((HTK _ ((Below.refl _ _).alloc (Nat.le_refl _) _)).out).mono ?_;rintro e w3 ⟨⟨gx',cx',gy',cy',x',y',rfl,hx,hy,hne',hg',hyx',hsum⟩,hb3⟩;have HX3:=hid hx;have HR:=hid hy;have HNE3:=hid hne';have HB3:Hid (Below w.heap.size w w3):=hid (HB2.out.trans (((Below.refl w.heap.size w2).alloc HB2.out.size _).trans hb3));have HGN:Hid (Nat.gcd x' y'=g):=hid (hg'.trans HG.out);have HYX':=hid hyx';have HSUM:=hid hsum;have HCX':Hid (wl x'≤Cap):=hid (Nat.le_trans (qad qae (by omega)) HCX.out);clear hx hy hb3 HTK hg' hyx' hsum hne';go_wp2_with fail
      go_roundg (x'+y')
      case measure=>have:=HSUM.out;have:=HYP.out;omega
      case rel=>exact⟨_,_,_,x',y',rfl,rfl,hid HX3.out.nat,hid HR.out.nat,hid rfl,HGN,HYX',HCX',HB3,hid (.inr ⟨_,_,_,_,rfl,rfl,HX3.out,HR.out,HNE3.out⟩)⟩
    ·have hn':¬(1:Int)<(n:Int):=by omega
     have hn01:n=0∨n=1:=by omega
     clear hn HRW;rcases hn01 with rfl|rfl
     ·have HXG:Hid (x=g):=hid (by have:=qeu HN.out.symm;rw[←HG.out,this,Nat.gcd_zero_right])
      go_wp2_with fail;go_ret;exact⟨⟨_,rfl,by rw[←HXG.out];exact HX.out⟩,HBL.out⟩
     ·obtain⟨z,hz⟩:∃z,qaf B64 y=[z]:=by
       have h3:(qaf B64 y).length=1:=HN.out.symm
       match qaf B64 y,h3 with
       | [z],_=>exact⟨z,rfl⟩
      have hzy:z=y:=by
       have:=qah B64 y qae;rw[hz] at this
       simpa using this
      subst hzy;have hzB:z<B64:=qee B64 z qae z (by rw[hz];simp)
      have hz0:0<z:=by
       rcases Nat.eq_zero_or_pos z with e|e
       ·rw[e,qam] at hz;cases hz
       ·exact e
      have hwy:Wds wr (.slice p 1 c) [z]:=by have:=HY.out;unfold qaq at this;rw[hz] at this;exact this
      obtain⟨_,p',c',he,_,_,hcells⟩:=hwy;cases he
      rcases hcells with h0|⟨bb,ob,rfl,hrow⟩
      ·cases h0
      have hcell:=hrow 0 (by simp);simp[wd] at hcell
      have HCELL:Hid (∀w',Below wr.heap.size wr w'→w'.cell? ⟨bb,ob,none⟩=some (.int .u64 z)):=hid fun w' hb'=>by
       rw[hb'.cell (p:=⟨bb,ob,none⟩) (World.block_lt_of_cell? wr _ hcell)];exact hcell
      have hdrew:Below wr.heap.size wr wr.drew:=(Below.refl _ _).drew;obtain⟨rm,hrm⟩:∃rm,x % z=rm:=⟨_,rfl⟩
      have HREM:=hid ((qf7 _ x z wr.drew (HX.out.later hdrew) hz0 hzB).mono (R':=fun e w'=>e = .returned (.int .u64 (rm:Nat))∧Below wr.heap.size wr w') (by
       rintro e w' ⟨rfl,hb'⟩
       exact⟨by rw[hrm],hdrew.trans hb'⟩))
      have HWD:=hid (fun w=>qev z rm w);have hgz:Nat.gcd z rm=g:=by rw[←hrm,←HG.out,Nat.gcd_comm x z,Nat.gcd_rec z x,Nat.gcd_comm]
      rw[hgz] at HWD;have hgle:g≤z:=by rw[←hgz];exact Nat.gcd_le_left _ hz0
      have HGB:Hid (g<B64):=hid (by omega);have HG0:Hid (0<g):=hid (by rw[←hgz];exact Nat.gcd_pos_of_pos_left _ hz0);clear hdrew hrow hz hzB hz0 hrm hgz hgle HN HY HG HYX HG1 HG2 HAB HX;go_wp2_with fail
      go_region_held3 (fun W=>W.cell? ⟨bb,ob,none⟩=some (.int .u64 z)) (first|with_reducible exact HCELL.out _ HB13.out|with_reducible exact HCELL.out _ HB12.out|with_reducible exact HCELL.out _ (HB13.out.alloc HB13.out.size _)|exact hcell)
       (first|(go_at_call 120;refine HREM.out.mono ?_;rintro e w2 ⟨rfl,hb12⟩;have HB12:=hid hb12;clear hb12)|(go_at_call 119;refine(HWD.out _).mono ?_;rintro e w4 ⟨rfl,q4,hw4⟩;have HB13:Hid (Below wr.heap.size wr w4):=hid (by rw[hw4];exact below_drewN HB12.out q4);clear hw4))
      all_goals
       have HB4:Hid (Below w.heap.size w w4):=hid (HBL.out.trans (HB13.out.mono HBL.out.size));go_wp2_with fail;go_ret;exact⟨⟨_,rfl,qks w4 g HGB.out HG0.out⟩,HB4.out.alloc HB4.out.size _⟩
  ·have hn1':¬(1:Int)<(na:Int):=by omega
   go_wp2_with fail
   go_loopg [0,1] (b+a) (fun m s0 s1 wr=>∃(p:Option Addr) (n c x y:Nat),x+y=m∧s1 = .slice p n c∧Hid (qaq wr s0 x)∧Hid (qaq wr (.slice p n c) y)∧Hid (n=wl y)∧Hid (Nat.gcd x y=g)∧Hid (y≤x)∧Hid (wl x≤Cap)∧Hid (Below w.heap.size w wr)∧Hid (Rows w.heap.size wr s0 (.slice p n c) x y))
   case atStart=>exact⟨pa,na,ca,b,a,rfl,rfl,HB',HA',HLA,HG2,hid (Nat.le_of_lt HAB.out),HMB,HBW,hid (.inl (by have:=HLA.out;omega))⟩
   case round=>
    obtain⟨p,n,c,x,y,rfl,rfl,HX,HY,HN,HG,HYX,HCX,HBL,HRW⟩:=hrel;have HCY:Hid (wl y≤Cap):=hid (Nat.le_trans (qad qae HYX.out) HCX.out);rcases Nat.lt_or_ge 1 n with hn|hn
    ·have hn':(1:Int)<(n:Int):=by omega
     obtain⟨gx,cx,gy,cy,rfl,he,hmx,hmy,hne⟩:∃gx cx gy cy,_=Value.slice (some ⟨gx,0,none⟩) (wl x) cx∧Value.slice p n c = .slice (some ⟨gy,0,none⟩) (wl y) cy∧qdg wr w.heap.size gx cx (qaf B64 x)∧qdg wr w.heap.size gy cy (qaf B64 y)∧gx≠gy:=by
      rcases HRW.out with h|h
      ·have:=HN.out;omega
      ·exact h
     cases he
     have h2y:2≤wl y:=hn;have HFS:=hid (qh9 _ _ x y wr HX.out HY.out HYX.out h2y HCX.out);have HLX:Hid (gx<wr.heap.size):=hid hmx.lt;have HLY:Hid (gy<wr.heap.size):=hid hmy.lt;have HMX:=hid hmx;have HMY:=hid hmy;have HNE:=hid hne;have H2Y:=hid h2y;clear hn hmx hmy hne h2y HRW;go_wp2_with fail;refine HFS.out.mono ?_;rintro e w2 ⟨⟨u0,u1,t0,t1,ev,rfl,hu0,hu1,ht0,ht1,hrec⟩,hb2⟩;have HMX2:=hid (HMX.out.later hb2 HLX.out);have HMY2:=hid (HMY.out.later hb2 HLY.out);have HLX2:Hid (gx<w2.heap.size):=hid (Nat.lt_of_lt_of_le HLX.out hb2.size);have HLY2:Hid (gy<w2.heap.size):=hid (Nat.lt_of_lt_of_le HLY.out hb2.size);have HB2:=hid (HBL.out.trans (hb2.mono HBL.out.size));have HU0:=hid hu0;have HU1:=hid hu1;have HT0:=hid ht0;have HT1:=hid ht1;have HREC:=hid hrec;clear hu0 hu1 ht0 ht1 hrec hb2 HFS HX HY HMX HMY HBL;by_cases ht:t0=0
     ·subst ht
      have hyp:0<y:=by
       rcases Nat.eq_zero_or_pos y with e|e
       ·have:=H2Y.out;rw[e] at this;simp[wl,qam] at this
       ·exact e
      have HDIV:=fun W hb=>hid (qgq _ _ x y W (HMX2.out.later hb HLX2.out).nat (HMY2.out.later hb HLY2.out).nat HYX.out H2Y.out HCX.out);have HMOD:Hid (x % y<y):=hid (Nat.mod_lt _ hyp);have HGN:Hid (Nat.gcd y (x % y)=g):=hid (by rw[←HG.out,Nat.gcd_comm x y,Nat.gcd_rec y x,Nat.gcd_comm]);clear hyp;go_wp2_with fail;refine((HDIV _ ((Below.refl _ _).alloc (Nat.le_refl _) _)).out).mono ?_;rintro e w3 ⟨⟨vq,gr,cr,rfl,hq,hr⟩,hb3⟩;have hb23:Below w2.heap.size w2 w3:=((Below.refl w2.heap.size w2).alloc (Nat.le_refl _) _).trans (hb3.mono (by rw[World.size_alloc];omega));have hgr:w2.heap.size≤gr:=by have:=hr.parts.1;rw[World.size_alloc] at this;omega
      have HR:=hid (hr.mono (base':=w.heap.size) (by have:=HB2.out.size;rw[World.size_alloc];omega));have HMY3:=hid (HMY2.out.later hb23 HLY2.out);have HNE3:Hid (gy≠gr):=hid (by have:=HLY2.out;omega);have HB3:=hid (HB2.out.trans (hb23.mono HB2.out.size));clear hq hr hb3 hb23 HDIV hgr;go_wp2_with fail
      go_roundg (y+x % y)
      case measure=>have:=HMOD.out;have:=HYX.out;omega
      case rel=>exact⟨_,_,_,y,x % y,rfl,rfl,hid HMY3.out.nat,hid HR.out.nat,hid rfl,HGN,hid (Nat.le_of_lt HMOD.out),HCY,HB3,hid (.inr ⟨_,_,_,_,rfl,rfl,HMY3.out,HR.out,HNE3.out⟩)⟩
     ·have hte:((t0:Int)==0)=false:=beq_eq_false_iff_ne.2 (by omega)
      have HTK:=fun W hb=>hid (qlq gx cx gy c w.heap.size x y u0 u1 t0 t1 ev W (HMX2.out.later hb HLX2.out) (HMY2.out.later hb HLY2.out) HNE.out HU0.out HU1.out HT0.out HT1.out HREC.out ht HCX.out HYX.out)
      have HYP:Hid (0<y):=hid (by
       rcases Nat.eq_zero_or_pos y with e|e
       ·have:=H2Y.out;rw[e] at this;simp[wl,qam] at this
       ·exact e)
      go_wp2_with fail;refine((HTK _ ((Below.refl _ _).alloc (Nat.le_refl _) _)).out).mono ?_;rintro e w3 ⟨⟨gx',cx',gy',cy',x',y',rfl,hx,hy,hne',hg',hyx',hsum⟩,hb3⟩;have HX3:=hid hx;have HR:=hid hy;have HNE3:=hid hne';have HB3:Hid (Below w.heap.size w w3):=hid (HB2.out.trans (((Below.refl w.heap.size w2).alloc HB2.out.size _).trans hb3));have HGN:Hid (Nat.gcd x' y'=g):=hid (hg'.trans HG.out);have HYX':=hid hyx';have HSUM:=hid hsum;have HCX':Hid (wl x'≤Cap):=hid (Nat.le_trans (qad qae (by omega)) HCX.out);clear hx hy hb3 HTK hg' hyx' hsum hne';go_wp2_with fail
      go_roundg (x'+y')
      case measure=>have:=HSUM.out;have:=HYP.out;omega
      case rel=>exact⟨_,_,_,x',y',rfl,rfl,hid HX3.out.nat,hid HR.out.nat,hid rfl,HGN,HYX',HCX',HB3,hid (.inr ⟨_,_,_,_,rfl,rfl,HX3.out,HR.out,HNE3.out⟩)⟩
    ·have hn':¬(1:Int)<(n:Int):=by omega
     have hn01:n=0∨n=1:=by omega
     clear hn HRW;rcases hn01 with rfl|rfl
     ·have HXG:Hid (x=g):=hid (by have:=qeu HN.out.symm;rw[←HG.out,this,Nat.gcd_zero_right])
      go_wp2_with fail;go_ret;exact⟨⟨_,rfl,by rw[←HXG.out];exact HX.out⟩,HBL.out⟩
     ·obtain⟨z,hz⟩:∃z,qaf B64 y=[z]:=by
       have h3:(qaf B64 y).length=1:=HN.out.symm
       match qaf B64 y,h3 with
       | [z],_=>exact⟨z,rfl⟩
      have hzy:z=y:=by
       have:=qah B64 y qae;rw[hz] at this
       simpa using this
      subst hzy;have hzB:z<B64:=qee B64 z qae z (by rw[hz];simp)
      have hz0:0<z:=by
       rcases Nat.eq_zero_or_pos z with e|e
       ·rw[e,qam] at hz;cases hz
       ·exact e
      have hwy:Wds wr (.slice p 1 c) [z]:=by have:=HY.out;unfold qaq at this;rw[hz] at this;exact this
      obtain⟨_,p',c',he,_,_,hcells⟩:=hwy;cases he
      rcases hcells with h0|⟨bb,ob,rfl,hrow⟩
      ·cases h0
      have hcell:=hrow 0 (by simp);simp[wd] at hcell
      have HCELL:Hid (∀w',Below wr.heap.size wr w'→w'.cell? ⟨bb,ob,none⟩=some (.int .u64 z)):=hid fun w' hb'=>by
       rw[hb'.cell (p:=⟨bb,ob,none⟩) (World.block_lt_of_cell? wr _ hcell)];exact hcell
      have hdrew:Below wr.heap.size wr wr.drew:=(Below.refl _ _).drew;obtain⟨rm,hrm⟩:∃rm,x % z=rm:=⟨_,rfl⟩
      have HREM:=hid ((qf7 _ x z wr.drew (HX.out.later hdrew) hz0 hzB).mono (R':=fun e w'=>e = .returned (.int .u64 (rm:Nat))∧Below wr.heap.size wr w') (by
       rintro e w' ⟨rfl,hb'⟩
       exact⟨by rw[hrm],hdrew.trans hb'⟩))
      have HWD:=hid (fun w=>qev z rm w);have hgz:Nat.gcd z rm=g:=by rw[←hrm,←HG.out,Nat.gcd_comm x z,Nat.gcd_rec z x,Nat.gcd_comm]
      rw[hgz] at HWD;have hgle:g≤z:=by rw[←hgz];exact Nat.gcd_le_left _ hz0
      have HGB:Hid (g<B64):=hid (by omega);have HG0:Hid (0<g):=hid (by rw[←hgz];exact Nat.gcd_pos_of_pos_left _ hz0);clear hdrew hrow hz hzB hz0 hrm hgz hgle HN HY HG HYX HG1 HG2 HAB HX;go_wp2_with fail
      go_region_held3 (fun W=>W.cell? ⟨bb,ob,none⟩=some (.int .u64 z)) (first|with_reducible exact HCELL.out _ HB13.out|with_reducible exact HCELL.out _ HB12.out|with_reducible exact HCELL.out _ (HB13.out.alloc HB13.out.size _)|exact hcell)
       (first|(go_at_call 120;refine HREM.out.mono ?_;rintro e w2 ⟨rfl,hb12⟩;have HB12:=hid hb12;clear hb12)|(go_at_call 119;refine(HWD.out _).mono ?_;rintro e w4 ⟨rfl,q4,hw4⟩;have HB13:Hid (Below wr.heap.size wr w4):=hid (by rw[hw4];exact below_drewN HB12.out q4);clear hw4))
      all_goals
       have HB4:Hid (Below w.heap.size w w4):=hid (HBL.out.trans (HB13.out.mono HBL.out.size));go_wp2_with fail;go_ret;exact⟨⟨_,rfl,qks w4 g HGB.out HG0.out⟩,HB4.out.alloc HB4.out.size _⟩
 ·have HAB:=hid hab
  clear hab HORD;by_cases hn1:1<nb
  ·have hn1':(1:Int)<(nb:Int):=by omega
   have hly:0<(qaf B64 b).length:=by have:=HLB.out;show 0<wl b;omega
   have hlx:0<(qaf B64 a).length:=by
    have:=qad (b:=B64) qae (m:=b) (n:=a) (HAB.out);omega
   have HC1:Hid (Calls Tryz.prog 116 #[.slice pa na ca] w1 fun e w'=>(∃g cap,e = .returned (.slice (some ⟨g,0,none⟩) (wl a) cap)∧qdg w' w.heap.size g cap (qaf B64 a))∧Below w.heap.size w1 w'):=by
    have h:=qjw _ _ w1 HA'.out hlx HMA.out;rw[HSW.out] at h;exact hid h
   have HC2:Hid (∀w2,Below w.heap.size w1 w2→Calls Tryz.prog 116 #[.slice pb nb cb] w2 fun e w'=>(∃g cap,e = .returned (.slice (some ⟨g,0,none⟩) (wl b) cap)∧qdg w' w2.heap.size g cap (qaf B64 b))∧Below w2.heap.size w2 w'):=
    hid fun w2 hb2=>qjw _ _ w2 (HB'.out.later (by rw[HSW.out];exact hb2)) hly HMB.out
   clear hly hlx hn1;go_wp2_with fail;refine HC1.out.mono ?_;rintro e w2 ⟨⟨gx,cx,rfl,hmx⟩,hb2⟩;have HB2:=hid hb2;have HM2:=hid hmx;clear hb2 hmx HC1;go_wp2_with fail;refine(HC2.out w2 HB2.out).mono ?_;rintro e w3 ⟨⟨gy,cy,rfl,hmy⟩,hb3⟩;have HMX3:Hid (qdg w3 w.heap.size gx cx (qaf B64 a)):=hid (HM2.out.later hb3 HM2.out.lt);have HMY3:Hid (qdg w3 w.heap.size gy cy (qaf B64 b)):=hid (hmy.mono (by have:=HB2.out.size;rw[HSW.out] at this;exact this));have HNE3:Hid (gx≠gy):=hid (by have:=HM2.out.lt;have:=hmy.parts.1;omega);have HB3:Hid (Below w.heap.size w w3):=hid (HBW.out.trans (HB2.out.trans (hb3.mono (by have:=HB2.out.size;rw[HSW.out] at this;exact this))));clear hmy hb3 HC2 HM2 HB2 HA' HB' HBW HSW;go_wp2_with fail
   go_loopg [0,1] (a+b) (fun m s0 s1 wr=>∃(p:Option Addr) (n c x y:Nat),x+y=m∧s1 = .slice p n c∧Hid (qaq wr s0 x)∧Hid (qaq wr (.slice p n c) y)∧Hid (n=wl y)∧Hid (Nat.gcd x y=g)∧Hid (y≤x)∧Hid (wl x≤Cap)∧Hid (Below w.heap.size w wr)∧Hid (Rows w.heap.size wr s0 (.slice p n c) x y))
   case atStart=>exact⟨_,_,_,a,b,rfl,rfl,hid HMX3.out.nat,hid HMY3.out.nat,hid rfl,HG1,HAB,HMA,HB3,hid (.inr ⟨_,_,_,_,rfl,rfl,HMX3.out,HMY3.out,HNE3.out⟩)⟩
   case round=>
    obtain⟨p,n,c,x,y,rfl,rfl,HX,HY,HN,HG,HYX,HCX,HBL,HRW⟩:=hrel;have HCY:Hid (wl y≤Cap):=hid (Nat.le_trans (qad qae HYX.out) HCX.out);rcases Nat.lt_or_ge 1 n with hn|hn
    ·have hn':(1:Int)<(n:Int):=by omega
     obtain⟨gx,cx,gy,cy,rfl,he,hmx,hmy,hne⟩:∃gx cx gy cy,_=Value.slice (some ⟨gx,0,none⟩) (wl x) cx∧Value.slice p n c = .slice (some ⟨gy,0,none⟩) (wl y) cy∧qdg wr w.heap.size gx cx (qaf B64 x)∧qdg wr w.heap.size gy cy (qaf B64 y)∧gx≠gy:=by
      rcases HRW.out with h|h
      ·have:=HN.out;omega
      ·exact h
     cases he
     have h2y:2≤wl y:=hn;have HFS:=hid (qh9 _ _ x y wr HX.out HY.out HYX.out h2y HCX.out);have HLX:Hid (gx<wr.heap.size):=hid hmx.lt;have HLY:Hid (gy<wr.heap.size):=hid hmy.lt;have HMX:=hid hmx;have HMY:=hid hmy;have HNE:=hid hne;have H2Y:=hid h2y;clear hn hmx hmy hne h2y HRW;go_wp2_with fail;refine HFS.out.mono ?_;rintro e w2 ⟨⟨u0,u1,t0,t1,ev,rfl,hu0,hu1,ht0,ht1,hrec⟩,hb2⟩;have HMX2:=hid (HMX.out.later hb2 HLX.out);have HMY2:=hid (HMY.out.later hb2 HLY.out);have HLX2:Hid (gx<w2.heap.size):=hid (Nat.lt_of_lt_of_le HLX.out hb2.size);have HLY2:Hid (gy<w2.heap.size):=hid (Nat.lt_of_lt_of_le HLY.out hb2.size);have HB2:=hid (HBL.out.trans (hb2.mono HBL.out.size));have HU0:=hid hu0;have HU1:=hid hu1;have HT0:=hid ht0;have HT1:=hid ht1;have HREC:=hid hrec;clear hu0 hu1 ht0 ht1 hrec hb2 HFS HX HY HMX HMY HBL;by_cases ht:t0=0
     ·subst ht
      have hyp:0<y:=by
       rcases Nat.eq_zero_or_pos y with e|e
       ·have:=H2Y.out;rw[e] at this;simp[wl,qam] at this
       ·exact e
      have HDIV:=fun W hb=>hid (qgq _ _ x y W (HMX2.out.later hb HLX2.out).nat (HMY2.out.later hb HLY2.out).nat HYX.out H2Y.out HCX.out);have HMOD:Hid (x % y<y):=hid (Nat.mod_lt _ hyp);have HGN:Hid (Nat.gcd y (x % y)=g):=hid (by rw[←HG.out,Nat.gcd_comm x y,Nat.gcd_rec y x,Nat.gcd_comm]);clear hyp;go_wp2_with fail;refine((HDIV _ ((Below.refl _ _).alloc (Nat.le_refl _) _)).out).mono ?_;rintro e w3 ⟨⟨vq,gr,cr,rfl,hq,hr⟩,hb3⟩;have hb23:Below w2.heap.size w2 w3:=((Below.refl w2.heap.size w2).alloc (Nat.le_refl _) _).trans (hb3.mono (by rw[World.size_alloc];omega));have hgr:w2.heap.size≤gr:=by have:=hr.parts.1;rw[World.size_alloc] at this;omega
      have HR:=hid (hr.mono (base':=w.heap.size) (by have:=HB2.out.size;rw[World.size_alloc];omega));have HMY3:=hid (HMY2.out.later hb23 HLY2.out);have HNE3:Hid (gy≠gr):=hid (by have:=HLY2.out;omega);have HB3:=hid (HB2.out.trans (hb23.mono HB2.out.size));clear hq hr hb3 hb23 HDIV hgr;go_wp2_with fail
      go_roundg (y+x % y)
      case measure=>have:=HMOD.out;have:=HYX.out;omega
      case rel=>exact⟨_,_,_,y,x % y,rfl,rfl,hid HMY3.out.nat,hid HR.out.nat,hid rfl,HGN,hid (Nat.le_of_lt HMOD.out),HCY,HB3,hid (.inr ⟨_,_,_,_,rfl,rfl,HMY3.out,HR.out,HNE3.out⟩)⟩
     ·have hte:((t0:Int)==0)=false:=beq_eq_false_iff_ne.2 (by omega)
      have HTK:=fun W hb=>hid (qlq gx cx gy c w.heap.size x y u0 u1 t0 t1 ev W (HMX2.out.later hb HLX2.out) (HMY2.out.later hb HLY2.out) HNE.out HU0.out HU1.out HT0.out HT1.out HREC.out ht HCX.out HYX.out)
      have HYP:Hid (0<y):=hid (by
       rcases Nat.eq_zero_or_pos y with e|e
       ·have:=H2Y.out;rw[e] at this;simp[wl,qam] at this
       ·exact e)
      go_wp2_with fail;refine((HTK _ ((Below.refl _ _).alloc (Nat.le_refl _) _)).out).mono ?_;rintro e w3 ⟨⟨gx',cx',gy',cy',x',y',rfl,hx,hy,hne',hg',hyx',hsum⟩,hb3⟩;have HX3:=hid hx;have HR:=hid hy;have HNE3:=hid hne';have HB3:Hid (Below w.heap.size w w3):=hid (HB2.out.trans (((Below.refl w.heap.size w2).alloc HB2.out.size _).trans hb3));have HGN:Hid (Nat.gcd x' y'=g):=hid (hg'.trans HG.out);have HYX':=hid hyx';have HSUM:=hid hsum;have HCX':Hid (wl x'≤Cap):=hid (Nat.le_trans (qad qae (by omega)) HCX.out);clear hx hy hb3 HTK hg' hyx' hsum hne';go_wp2_with fail
      go_roundg (x'+y')
      case measure=>have:=HSUM.out;have:=HYP.out;omega
      case rel=>exact⟨_,_,_,x',y',rfl,rfl,hid HX3.out.nat,hid HR.out.nat,hid rfl,HGN,HYX',HCX',HB3,hid (.inr ⟨_,_,_,_,rfl,rfl,HX3.out,HR.out,HNE3.out⟩)⟩
    ·have hn':¬(1:Int)<(n:Int):=by omega
     have hn01:n=0∨n=1:=by omega
     clear hn HRW;rcases hn01 with rfl|rfl
     ·have HXG:Hid (x=g):=hid (by have:=qeu HN.out.symm;rw[←HG.out,this,Nat.gcd_zero_right])
      go_wp2_with fail;go_ret;exact⟨⟨_,rfl,by rw[←HXG.out];exact HX.out⟩,HBL.out⟩
     ·obtain⟨z,hz⟩:∃z,qaf B64 y=[z]:=by
       have h3:(qaf B64 y).length=1:=HN.out.symm
       match qaf B64 y,h3 with
       | [z],_=>exact⟨z,rfl⟩
      have hzy:z=y:=by
       have:=qah B64 y qae;rw[hz] at this
       simpa using this
      subst hzy;have hzB:z<B64:=qee B64 z qae z (by rw[hz];simp)
      have hz0:0<z:=by
       rcases Nat.eq_zero_or_pos z with e|e
       ·rw[e,qam] at hz;cases hz
       ·exact e
      have hwy:Wds wr (.slice p 1 c) [z]:=by have:=HY.out;unfold qaq at this;rw[hz] at this;exact this
      obtain⟨_,p',c',he,_,_,hcells⟩:=hwy;cases he
      rcases hcells with h0|⟨bb,ob,rfl,hrow⟩
      ·cases h0
      have hcell:=hrow 0 (by simp);simp[wd] at hcell
      have HCELL:Hid (∀w',Below wr.heap.size wr w'→w'.cell? ⟨bb,ob,none⟩=some (.int .u64 z)):=hid fun w' hb'=>by
       rw[hb'.cell (p:=⟨bb,ob,none⟩) (World.block_lt_of_cell? wr _ hcell)];exact hcell
      have hdrew:Below wr.heap.size wr wr.drew:=(Below.refl _ _).drew;obtain⟨rm,hrm⟩:∃rm,x % z=rm:=⟨_,rfl⟩
      have HREM:=hid ((qf7 _ x z wr.drew (HX.out.later hdrew) hz0 hzB).mono (R':=fun e w'=>e = .returned (.int .u64 (rm:Nat))∧Below wr.heap.size wr w') (by
       rintro e w' ⟨rfl,hb'⟩
       exact⟨by rw[hrm],hdrew.trans hb'⟩))
      have HWD:=hid (fun w=>qev z rm w);have hgz:Nat.gcd z rm=g:=by rw[←hrm,←HG.out,Nat.gcd_comm x z,Nat.gcd_rec z x,Nat.gcd_comm]
      rw[hgz] at HWD;have hgle:g≤z:=by rw[←hgz];exact Nat.gcd_le_left _ hz0
      have HGB:Hid (g<B64):=hid (by omega);have HG0:Hid (0<g):=hid (by rw[←hgz];exact Nat.gcd_pos_of_pos_left _ hz0);clear hdrew hrow hz hzB hz0 hrm hgz hgle HN HY HG HYX HG1 HG2 HAB HX;go_wp2_with fail
      go_region_held3 (fun W=>W.cell? ⟨bb,ob,none⟩=some (.int .u64 z)) (first|with_reducible exact HCELL.out _ HB13.out|with_reducible exact HCELL.out _ HB12.out|with_reducible exact HCELL.out _ (HB13.out.alloc HB13.out.size _)|exact hcell)
       (first|(go_at_call 120;refine HREM.out.mono ?_;rintro e w2 ⟨rfl,hb12⟩;have HB12:=hid hb12;clear hb12)|(go_at_call 119;refine(HWD.out _).mono ?_;rintro e w4 ⟨rfl,q4,hw4⟩;have HB13:Hid (Below wr.heap.size wr w4):=hid (by rw[hw4];exact below_drewN HB12.out q4);clear hw4))
      all_goals
       have HB4:Hid (Below w.heap.size w w4):=hid (HBL.out.trans (HB13.out.mono HBL.out.size));go_wp2_with fail;go_ret;exact⟨⟨_,rfl,qks w4 g HGB.out HG0.out⟩,HB4.out.alloc HB4.out.size _⟩
  ·have hn1':¬(1:Int)<(nb:Int):=by omega
   go_wp2_with fail
   go_loopg [0,1] (a+b) (fun m s0 s1 wr=>∃(p:Option Addr) (n c x y:Nat),x+y=m∧s1 = .slice p n c∧Hid (qaq wr s0 x)∧Hid (qaq wr (.slice p n c) y)∧Hid (n=wl y)∧Hid (Nat.gcd x y=g)∧Hid (y≤x)∧Hid (wl x≤Cap)∧Hid (Below w.heap.size w wr)∧Hid (Rows w.heap.size wr s0 (.slice p n c) x y))
   case atStart=>exact⟨pb,nb,cb,a,b,rfl,rfl,HA',HB',HLB,HG1,HAB,HMA,HBW,hid (.inl (by have:=HLB.out;omega))⟩
   case round=>
    obtain⟨p,n,c,x,y,rfl,rfl,HX,HY,HN,HG,HYX,HCX,HBL,HRW⟩:=hrel;have HCY:Hid (wl y≤Cap):=hid (Nat.le_trans (qad qae HYX.out) HCX.out);rcases Nat.lt_or_ge 1 n with hn|hn
    ·have hn':(1:Int)<(n:Int):=by omega
     obtain⟨gx,cx,gy,cy,rfl,he,hmx,hmy,hne⟩:∃gx cx gy cy,_=Value.slice (some ⟨gx,0,none⟩) (wl x) cx∧Value.slice p n c = .slice (some ⟨gy,0,none⟩) (wl y) cy∧qdg wr w.heap.size gx cx (qaf B64 x)∧qdg wr w.heap.size gy cy (qaf B64 y)∧gx≠gy:=by
      rcases HRW.out with h|h
      ·have:=HN.out;omega
      ·exact h
     cases he
     have h2y:2≤wl y:=hn;have HFS:=hid (qh9 _ _ x y wr HX.out HY.out HYX.out h2y HCX.out);have HLX:Hid (gx<wr.heap.size):=hid hmx.lt;have HLY:Hid (gy<wr.heap.size):=hid hmy.lt;have HMX:=hid hmx;have HMY:=hid hmy;have HNE:=hid hne;have H2Y:=hid h2y;clear hn hmx hmy hne h2y HRW;go_wp2_with fail;refine HFS.out.mono ?_;rintro e w2 ⟨⟨u0,u1,t0,t1,ev,rfl,hu0,hu1,ht0,ht1,hrec⟩,hb2⟩;have HMX2:=hid (HMX.out.later hb2 HLX.out);have HMY2:=hid (HMY.out.later hb2 HLY.out);have HLX2:Hid (gx<w2.heap.size):=hid (Nat.lt_of_lt_of_le HLX.out hb2.size);have HLY2:Hid (gy<w2.heap.size):=hid (Nat.lt_of_lt_of_le HLY.out hb2.size);have HB2:=hid (HBL.out.trans (hb2.mono HBL.out.size));have HU0:=hid hu0;have HU1:=hid hu1;have HT0:=hid ht0;have HT1:=hid ht1;have HREC:=hid hrec;clear hu0 hu1 ht0 ht1 hrec hb2 HFS HX HY HMX HMY HBL;by_cases ht:t0=0
     ·subst ht
      have hyp:0<y:=by
       rcases Nat.eq_zero_or_pos y with e|e
       ·have:=H2Y.out;rw[e] at this;simp[wl,qam] at this
       ·exact e
      have HDIV:=fun W hb=>hid (qgq _ _ x y W (HMX2.out.later hb HLX2.out).nat (HMY2.out.later hb HLY2.out).nat HYX.out H2Y.out HCX.out);have HMOD:Hid (x % y<y):=hid (Nat.mod_lt _ hyp);have HGN:Hid (Nat.gcd y (x % y)=g):=hid (by rw[←HG.out,Nat.gcd_comm x y,Nat.gcd_rec y x,Nat.gcd_comm]);clear hyp;go_wp2_with fail;refine((HDIV _ ((Below.refl _ _).alloc (Nat.le_refl _) _)).out).mono ?_;rintro e w3 ⟨⟨vq,gr,cr,rfl,hq,hr⟩,hb3⟩;have hb23:Below w2.heap.size w2 w3:=((Below.refl w2.heap.size w2).alloc (Nat.le_refl _) _).trans (hb3.mono (by rw[World.size_alloc];omega));have hgr:w2.heap.size≤gr:=by have:=hr.parts.1;rw[World.size_alloc] at this;omega
      have HR:=hid (hr.mono (base':=w.heap.size) (by have:=HB2.out.size;rw[World.size_alloc];omega));have HMY3:=hid (HMY2.out.later hb23 HLY2.out);have HNE3:Hid (gy≠gr):=hid (by have:=HLY2.out;omega);have HB3:=hid (HB2.out.trans (hb23.mono HB2.out.size));clear hq hr hb3 hb23 HDIV hgr;go_wp2_with fail
      go_roundg (y+x % y)
      case measure=>have:=HMOD.out;have:=HYX.out;omega
      case rel=>exact⟨_,_,_,y,x % y,rfl,rfl,hid HMY3.out.nat,hid HR.out.nat,hid rfl,HGN,hid (Nat.le_of_lt HMOD.out),HCY,HB3,hid (.inr ⟨_,_,_,_,rfl,rfl,HMY3.out,HR.out,HNE3.out⟩)⟩
     ·have hte:((t0:Int)==0)=false:=beq_eq_false_iff_ne.2 (by omega)
      have HTK:=fun W hb=>hid (qlq gx cx gy c w.heap.size x y u0 u1 t0 t1 ev W (HMX2.out.later hb HLX2.out) (HMY2.out.later hb HLY2.out) HNE.out HU0.out HU1.out HT0.out HT1.out HREC.out ht HCX.out HYX.out)
      have HYP:Hid (0<y):=hid (by
       rcases Nat.eq_zero_or_pos y with e|e
       ·have:=H2Y.out;rw[e] at this;simp[wl,qam] at this
       ·exact e)
      go_wp2_with fail;refine((HTK _ ((Below.refl _ _).alloc (Nat.le_refl _) _)).out).mono ?_;rintro e w3 ⟨⟨gx',cx',gy',cy',x',y',rfl,hx,hy,hne',hg',hyx',hsum⟩,hb3⟩;have HX3:=hid hx;have HR:=hid hy;have HNE3:=hid hne';have HB3:Hid (Below w.heap.size w w3):=hid (HB2.out.trans (((Below.refl w.heap.size w2).alloc HB2.out.size _).trans hb3));have HGN:Hid (Nat.gcd x' y'=g):=hid (hg'.trans HG.out);have HYX':=hid hyx';have HSUM:=hid hsum;have HCX':Hid (wl x'≤Cap):=hid (Nat.le_trans (qad qae (by omega)) HCX.out);clear hx hy hb3 HTK hg' hyx' hsum hne';go_wp2_with fail
      go_roundg (x'+y')
      case measure=>have:=HSUM.out;have:=HYP.out;omega
      case rel=>exact⟨_,_,_,x',y',rfl,rfl,hid HX3.out.nat,hid HR.out.nat,hid rfl,HGN,HYX',HCX',HB3,hid (.inr ⟨_,_,_,_,rfl,rfl,HX3.out,HR.out,HNE3.out⟩)⟩
    ·have hn':¬(1:Int)<(n:Int):=by omega
     have hn01:n=0∨n=1:=by omega
     clear hn HRW;rcases hn01 with rfl|rfl
     ·have HXG:Hid (x=g):=hid (by have:=qeu HN.out.symm;rw[←HG.out,this,Nat.gcd_zero_right])
      go_wp2_with fail;go_ret;exact⟨⟨_,rfl,by rw[←HXG.out];exact HX.out⟩,HBL.out⟩
     ·obtain⟨z,hz⟩:∃z,qaf B64 y=[z]:=by
       have h3:(qaf B64 y).length=1:=HN.out.symm
       match qaf B64 y,h3 with
       | [z],_=>exact⟨z,rfl⟩
      have hzy:z=y:=by
       have:=qah B64 y qae;rw[hz] at this
       simpa using this
      subst hzy;have hzB:z<B64:=qee B64 z qae z (by rw[hz];simp)
      have hz0:0<z:=by
       rcases Nat.eq_zero_or_pos z with e|e
       ·rw[e,qam] at hz;cases hz
       ·exact e
      have hwy:Wds wr (.slice p 1 c) [z]:=by have:=HY.out;unfold qaq at this;rw[hz] at this;exact this
      obtain⟨_,p',c',he,_,_,hcells⟩:=hwy;cases he
      rcases hcells with h0|⟨bb,ob,rfl,hrow⟩
      ·cases h0
      have hcell:=hrow 0 (by simp);simp[wd] at hcell
      have HCELL:Hid (∀w',Below wr.heap.size wr w'→w'.cell? ⟨bb,ob,none⟩=some (.int .u64 z)):=hid fun w' hb'=>by
       rw[hb'.cell (p:=⟨bb,ob,none⟩) (World.block_lt_of_cell? wr _ hcell)];exact hcell
      have hdrew:Below wr.heap.size wr wr.drew:=(Below.refl _ _).drew;obtain⟨rm,hrm⟩:∃rm,x % z=rm:=⟨_,rfl⟩
      have HREM:=hid ((qf7 _ x z wr.drew (HX.out.later hdrew) hz0 hzB).mono (R':=fun e w'=>e = .returned (.int .u64 (rm:Nat))∧Below wr.heap.size wr w') (by
       rintro e w' ⟨rfl,hb'⟩
       exact⟨by rw[hrm],hdrew.trans hb'⟩))
      have HWD:=hid (fun w=>qev z rm w);have hgz:Nat.gcd z rm=g:=by rw[←hrm,←HG.out,Nat.gcd_comm x z,Nat.gcd_rec z x,Nat.gcd_comm]
      rw[hgz] at HWD;have hgle:g≤z:=by rw[←hgz];exact Nat.gcd_le_left _ hz0
      have HGB:Hid (g<B64):=hid (by omega);have HG0:Hid (0<g):=hid (by rw[←hgz];exact Nat.gcd_pos_of_pos_left _ hz0);clear hdrew hrow hz hzB hz0 hrm hgz hgle HN HY HG HYX HG1 HG2 HAB HX;go_wp2_with fail
      go_region_held3 (fun W=>W.cell? ⟨bb,ob,none⟩=some (.int .u64 z)) (first|with_reducible exact HCELL.out _ HB13.out|with_reducible exact HCELL.out _ HB12.out|with_reducible exact HCELL.out _ (HB13.out.alloc HB13.out.size _)|exact hcell)
       (first|(go_at_call 120;refine HREM.out.mono ?_;rintro e w2 ⟨rfl,hb12⟩;have HB12:=hid hb12;clear hb12)|(go_at_call 119;refine(HWD.out _).mono ?_;rintro e w4 ⟨rfl,q4,hw4⟩;have HB13:Hid (Below wr.heap.size wr w4):=hid (by rw[hw4];exact below_drewN HB12.out q4);clear hw4))
      all_goals
       have HB4:Hid (Below w.heap.size w w4):=hid (HBL.out.trans (HB13.out.mono HBL.out.size));go_wp2_with fail;go_ret;exact⟨⟨_,rfl,qks w4 g HGB.out HG0.out⟩,HB4.out.alloc HB4.out.size _⟩
theorem qdp(va vb:Value)(a b:Nat)(w:World)(ha:qaq w va a)(hb:qaq w vb b)(hma:wl a≤Cap)(hmb:wl b≤Cap):
  Calls Tryz.prog 80 #[va,vb] w fun e w'=>(∃v',e = .returned v'∧qaq w' v' (Nat.gcd a b))∧Below w.heap.size w w':=by
 by_cases h:a=1∨b=1
 ·exact q8s va vb a b w ha hb h
 ·exact q5r va vb a b w ha hb (by omega) (by omega) hma hmb
end Go.Proofs.YthjagoogkkgelaaGreatDoor
