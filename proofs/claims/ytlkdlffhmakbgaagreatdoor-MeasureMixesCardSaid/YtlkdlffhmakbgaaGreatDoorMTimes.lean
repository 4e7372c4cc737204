/- Negated and Minus. -/
import Derived.Test.YtlkdlffhmakbgaaGreatDoorMPlus
set_option linter.all false
namespace Go.Proofs.YtlkdlffhmakbgaaGreatDoor
open Go.RowKit
set_option maxRecDepth 100000
set_option maxHeartbeats 2000000
def qgz(w:World)(na:Bool)(ta ba:Value)(W:World):Prop:=
 Below w.heap.size w W∧Own W w.heap.size 3 (qcs na ta ba)∧Own W (w.heap.size+1) 3 (qcs false (.slice none 0 0) (.slice none 0 0))
theorem qgz.later{w:World}{na:Bool}{ta ba:Value}{W W':World}(h:qgz w na ta ba W)(hb:Below W.heap.size W W'):qgz w na ta ba W':=by
 obtain⟨h1,h2,h3⟩:=h;have:=h3.1;exact⟨h1.trans (hb.mono h1.size),h2.later (hb.mono (by omega)),h3.later (hb.mono (by omega))⟩
theorem qqk(V:World)(n:Bool)(t b:Value):Own (V.alloc (.cells #[.bool n,t,b] 87)) V.heap.size 3 (qcs n t b):=by
 refine⟨by rw[qab];omega,fun i hi => ?_⟩;rw[World.cell?_alloc_at _ _ _ _ rfl,World.frozen?_alloc_at _ _ _ _ rfl]
 match i,hi with
 | 0,_=>exact⟨rfl,rfl⟩
 | 1,_=>exact⟨rfl,rfl⟩
 | 2,_=>exact⟨rfl,rfl⟩
theorem qop(w:World)(na:Bool)(ta ba:Value):
  qgz w na ta ba ((w.alloc (.cells #[.bool na,ta,ba] 87)).alloc (.cells #[.bool false,.slice none 0 0,.slice none 0 0] 87)):=by
 have h1:=qqk w na ta ba;have h2:=qqk (w.alloc (.cells #[.bool na,ta,ba] 87)) false (.slice none 0 0) (.slice none 0 0);simp only[qab] at h2;have al:∀(V:World) (o:Obj),Below V.heap.size V (V.alloc o):=fun V o=>qad _ _;exact⟨(al w _).trans ((al _ _).mono (by rw[qab];omega)),h1.later ((al _ _).mono (by rw[qab];omega)),h2⟩
theorem qyu(a:Rat):decide ((-a).num<0)=(!decide (a.num<0)&&decide (0<a.num.natAbs)):=by
 rw[Rat.neg_num];by_cases h:a.num<0
 ·rw[qag h,qaf (by omega)];rfl
 ·rw[qaf h]
  by_cases h0:a.num=0
  ·rw[h0];rfl
  ·rw[qag (by omega),qag (by omega)];rfl
theorem qu1(v:Value)(a:Rat)(w:World)(ha:qau w v a):
  Calls Tryz.prog 150 #[v] w fun e w'=>(∃v',e = .returned v'∧qau w' v' (-a))∧Below w.heap.size w w':=by
 obtain⟨ta,ba,rfl,dQ,eR⟩:=ha;obtain⟨aH,aI,aJ,rfl,hx⟩:=qa7 dQ;clear hx;obtain⟨aN,aL,aO,rfl,hx⟩:=qa7 eR;clear hx;have eP:=hid dQ;have mC:=hid eR;have dV:=hid (qyu a);generalize decide (a.num<0)=na at *;have aM:=hid (qop w na (.slice aH aI aJ) (.slice aN aL aO))
 have fT:Hid (∀W,qgz w na (.slice aH aI aJ) (.slice aN aL aO) W→Calls Tryz.prog 94 #[.bool (!na),.slice aH aI aJ,.slice aN aL aO] W fun e w'=>(∃vb',e = .returned (.agg #[.bool (decide ((-a).num<0)),.slice aH aI aJ,vb'])∧qa5 w' (.slice aH aI aJ) a.num.natAbs∧qa5 w' vb' (if a.den=1 then 0 else a.den))∧Below W.heap.size W w'):=
  hid fun W hW=>qe5 (!na) _ _ _ _ _ _ W (eP.out.later hW.1) (mC.out.later hW.1) dV.out (by split<;>simp_all)
 clear dQ eR;go_enter Tryz.func150,Tryz.ntmps150;go_wp2_with fail;refine(fT.out _ aM.out).mono ?_;rintro e w1 ⟨⟨vF,rfl,dZ,lW⟩,hb⟩;have cV:=hid (aM.out.later hb);have gV:=hid dZ;have kH:=hid lW;clear dZ lW hb;obtain⟨pf,kf,cf,rfl,hx⟩:=qa7 kH.out;clear hx;obtain⟨r0,g0⟩:w1.cell? ⟨w.heap.size+1,0,none⟩=_∧w1.frozen? ⟨w.heap.size+1,0,none⟩=false:=cV.out.2.2.2 0 (by omega);obtain⟨r1,g1⟩:w1.cell? ⟨w.heap.size+1,1,none⟩=_∧w1.frozen? ⟨w.heap.size+1,1,none⟩=false:=cV.out.2.2.2 1 (by omega);obtain⟨r2,g2⟩:w1.cell? ⟨w.heap.size+1,2,none⟩=_∧w1.frozen? ⟨w.heap.size+1,2,none⟩=false:=cV.out.2.2.2 2 (by omega);simp only[qcs] at r0 r1 r2
 have aF:Hid (∀W,Below w.heap.size w1 W→(∀v n,qa5 w1 v n→qa5 W v n)→qau W (.agg #[.bool (decide ((-a).num<0)),.slice aH aI aJ,.slice pf kf cf]) (-a)):=by
  refine hid fun W _ hN=>⟨_,_,rfl, ?_, ?_⟩
  ·rw[Rat.neg_num,Int.natAbs_neg];exact hN _ _ gV.out
  ·rw[Rat.neg_den];exact hN _ _ kH.out
 generalize decide ((-a).num<0)=sg at *;go_wp2_with fail;refine bodyPost_ret (v := .agg #[.bool sg,.slice aH aI aJ,.slice pf kf cf]) ?_ rfl ?_
 ·simp[results,Tryz.results150,go_sem,r0,r1,r2]
 ·have hb:Below w.heap.size w1 (((w1.setCell ⟨w.heap.size+1,0,none⟩ (.bool sg)).setCell ⟨w.heap.size+1,1,none⟩ (.slice aH aI aJ)).setCell ⟨w.heap.size+1,2,none⟩ (.slice pf kf cf)):=
   (((qaa _ _).setCell (by show w.heap.size≤w.heap.size+1;omega) _).setCell (by show w.heap.size≤w.heap.size+1;omega) _).setCell (by show w.heap.size≤w.heap.size+1;omega) _
  refine⟨⟨_,rfl,aF.out _ hb ?_⟩,cV.out.1.trans hb⟩;intro v n hN;refine((hN.setOther r0 (by intro k z h;cases h)).setOther (u := .slice none 0 0) ?_ (by intro k z h;cases h)).setOther (u := .slice none 0 0) ?_ (by intro k z h;cases h)
  ·rw[World.cell?_setCell_other _ _ _ _ (by intro h;injection h with _ h;cases h)];exact r1
  ·rw[World.cell?_setCell_other _ _ _ _ (by intro h;injection h with _ h;cases h),World.cell?_setCell_other _ _ _ _ (by intro h;injection h with _ h;cases h)];exact r2
theorem qau.parts{w:World}{v:Value}{q:Rat}(h:qau w v q):∃(pt:Option Addr) (kt ct:Nat) (pf:Option Addr) (kf cf:Nat),
  v = .agg #[.bool (decide (q.num<0)),.slice pt kt ct,.slice pf kf cf]∧qa5 w (.slice pt kt ct) q.num.natAbs∧qa5 w (.slice pf kf cf) (if q.den=1 then 0 else q.den):=by
 obtain⟨t,b,rfl,h1,h2⟩:=h;obtain⟨pt,kt,ct,rfl,_⟩:=qa7 h1;obtain⟨pf,kf,cf,rfl,_⟩:=qa7 h2;exact⟨pt,kt,ct,pf,kf,cf,rfl,h1,h2⟩
theorem qu2{w W:World}{na nb:Bool}{ta ba tb bb:Value}(h:qbz w na ta ba nb tb bb W):
  (W.cell? ⟨w.heap.size+1+1,0,none⟩=some (.bool false)∧W.frozen? ⟨w.heap.size+1+1,0,none⟩=false)∧
  (W.cell? ⟨w.heap.size+1+1,1,none⟩=some (.slice none 0 0)∧W.frozen? ⟨w.heap.size+1+1,1,none⟩=false)∧
  (W.cell? ⟨w.heap.size+1+1,2,none⟩=some (.slice none 0 0)∧W.frozen? ⟨w.heap.size+1+1,2,none⟩=false):=
 ⟨h.2.2.2.2 0 (by omega),h.2.2.2.2 1 (by omega),h.2.2.2.2 2 (by omega)⟩
theorem qhx{W:World}{g1 g2:Nat}{c0 c1 c2 c3 c4 c5:Option Value}(h:W.cell? ⟨g1,0,none⟩=c0∧W.cell? ⟨g1,1,none⟩=c1∧W.cell? ⟨g1,2,none⟩=c2∧W.cell? ⟨g2,0,none⟩=c3∧W.cell? ⟨g2,1,none⟩=c4∧W.cell? ⟨g2,2,none⟩=c5){g o:Nat}(h1:g≠g1)(h2:g≠g2)(x:Value):
  (W.setCell ⟨g,o,none⟩ x).cell? ⟨g1,0,none⟩=c0∧(W.setCell ⟨g,o,none⟩ x).cell? ⟨g1,1,none⟩=c1∧(W.setCell ⟨g,o,none⟩ x).cell? ⟨g1,2,none⟩=c2∧(W.setCell ⟨g,o,none⟩ x).cell? ⟨g2,0,none⟩=c3∧(W.setCell ⟨g,o,none⟩ x).cell? ⟨g2,1,none⟩=c4∧(W.setCell ⟨g,o,none⟩ x).cell? ⟨g2,2,none⟩=c5:=by
 have k:∀(a i:Nat),g≠a→(W.setCell ⟨g,o,none⟩ x).cell? ⟨a,i,none⟩=W.cell? ⟨a,i,none⟩:=fun a i h=>World.cell?_setCell_other _ _ _ _ (by intro e;injection e with e;exact h e);rw[k _ _ h1,k _ _ h1,k _ _ h1,k _ _ h2,k _ _ h2,k _ _ h2];exact h
theorem qb5{W:World}{g:Nat}{sg:Bool}{t b:Value}{q:Rat}(h:qau W (.agg #[.bool sg,t,b]) q)(r0:W.cell? ⟨g,0,none⟩=some (.bool false))(r1:W.cell? ⟨g,1,none⟩=some (.slice none 0 0))(r2:W.cell? ⟨g,2,none⟩=some (.slice none 0 0)):
  qau (((W.setCell ⟨g,0,none⟩ (.bool sg)).setCell ⟨g,1,none⟩ t).setCell ⟨g,2,none⟩ b) (.agg #[.bool sg,t,b]) q:=by
 have key:∀v n,qa5 W v n→qa5 (((W.setCell ⟨g,0,none⟩ (.bool sg)).setCell ⟨g,1,none⟩ t).setCell ⟨g,2,none⟩ b) v n:=by
  intro v n hN;refine((hN.setOther r0 (by intro k z h;cases h)).setOther (u := .slice none 0 0) ?_ (by intro k z h;cases h)).setOther (u := .slice none 0 0) ?_ (by intro k z h;cases h)
  ·rw[World.cell?_setCell_other _ _ _ _ (by intro h;injection h with _ h;cases h)];exact r1
  ·rw[World.cell?_setCell_other _ _ _ _ (by intro h;injection h with _ h;cases h),World.cell?_setCell_other _ _ _ _ (by intro h;injection h with _ h;cases h)];exact r2
 obtain⟨t',b',e,h1,h2⟩:=h;exact⟨t',b',e,key _ _ h1,key _ _ h2⟩
theorem qaw{w W:World}{g:Nat}(h:Below w.heap.size w W)(hg:w.heap.size≤g)(x y z:Value):
  Below w.heap.size w (((W.setCell ⟨g,0,none⟩ x).setCell ⟨g,1,none⟩ y).setCell ⟨g,2,none⟩ z):=
 ((h.setCell hg _).setCell hg _).setCell hg _
theorem q9e(q:Rat):rs (-q)=rs q:=by unfold rs;rw[Rat.neg_num,Int.natAbs_neg,Rat.neg_den]
theorem qs2(va vb:Value)(a b:Rat)(w:World)(ha:qau w va a)(hb:qau w vb b)(aQ:rs a+rs b+2≤Cap):
  Calls Tryz.prog 101 #[va,vb] w fun e w'=>(∃v',e = .returned v'∧qau w' v' (a-b))∧Below w.heap.size w w':=by
 have HA:=hid ha;have HB:=hid hb;obtain⟨aH,aI,aJ,aN,aL,aO,rfl,dQ,eR⟩:=ha.parts;obtain⟨bB,bC,bE,bH,bI,bJ,rfl,aZ,aR⟩:=hb.parts;clear ha hb dQ eR aZ aR;generalize decide (a.num<0)=na at *;generalize decide (b.num<0)=nb at *;have aM:=hid (qlc w na (.slice aH aI aJ) (.slice aN aL aO) nb (.slice bB bC bE) (.slice bH bI bJ))
 have HNG:Hid (∀W,qbz w na (.slice aH aI aJ) (.slice aN aL aO) nb (.slice bB bC bE) (.slice bH bI bJ) W→Calls Tryz.prog 150 #[.agg #[.bool nb,.slice bB bC bE,.slice bH bI bJ]] W fun e w'=>(∃v',e = .returned v'∧qau w' v' (-b))∧qbz w na (.slice aH aI aJ) (.slice aN aL aO) nb (.slice bB bC bE) (.slice bH bI bJ) w'∧Below W.heap.size W w'):=
  hid fun W hW=>qcd hW (qu1 _ b W (HB.out.later hW.1))
 have hJ:Hid (∀W v,qbz w na (.slice aH aI aJ) (.slice aN aL aO) nb (.slice bB bC bE) (.slice bH bI bJ) W→qau W v (-b)→Calls Tryz.prog 67 #[.agg #[.bool na,.slice aH aI aJ,.slice aN aL aO],v] W fun e w'=>(∃v',e = .returned v'∧qau w' v' (a-b))∧qbz w na (.slice aH aI aJ) (.slice aN aL aO) nb (.slice bB bC bE) (.slice bH bI bJ) w'∧Below W.heap.size W w'):=
  hid fun W v hW hv=>qcd hW (by rw[Rat.sub_eq_add_neg];exact qhw _ v a (-b) W (HA.out.later hW.1) hv (by rw[q9e];exact aQ))
 clear aQ;go_enter Tryz.func101,Tryz.ntmps101;go_wp2_with fail;generalize ((w.alloc (.cells #[.bool na,.slice aH aI aJ,.slice aN aL aO] 87)).alloc (.cells #[.bool nb,.slice bB bC bE,.slice bH bI bJ] 87)).alloc (.cells #[.bool false,.slice none 0 0,.slice none 0 0] 87)=w0 at *;have bX:=hid aM.out.drew
 go_region_held3 (fun W=>W.cell? ⟨w.heap.size,0,none⟩=some (.bool na)∧W.cell? ⟨w.heap.size,1,none⟩=some (.slice aH aI aJ)∧W.cell? ⟨w.heap.size,2,none⟩=some (.slice aN aL aO)∧W.cell? ⟨w.heap.size+1,0,none⟩=some (.bool nb)∧W.cell? ⟨w.heap.size+1,1,none⟩=some (.slice bB bC bE)∧W.cell? ⟨w.heap.size+1,2,none⟩=some (.slice bH bI bJ)) (first|exact qa3 fG.out|exact qa3 fX.out|exact qa3 bX.out|exact qhx (qhx (qhx (qa3 fG.out) (by omega) (by omega) _) (by omega) (by omega) _) (by omega) (by omega) _)
  (first
   | (go_at_call 150;((with_reducible refine(HNG.out _ bX.out).mono ?_);rintro e wN ⟨⟨vN,rfl,hn⟩,ht,hb⟩;have oR:=hid hn;have fX:=hid ht;clear hn ht hb))
   | (go_at_call 67;((refine(hJ.out _ _ fX.out oR.out).mono ?_);rintro e wP ⟨⟨vP,rfl,hn⟩,ht,hb⟩;have oS:=hid hn;have fG:=hid ht;obtain⟨pt,kt,ct,pf,kf,cf,rfl,dW,dP⟩:=hn.parts;have gV:=hid dW;have kH:=hid dP;clear hn ht hb dW dP;generalize iJ:decide ((a-b).num<0)=sg at *;have dV:=hid iJ;clear iJ;obtain⟨⟨r0,g0⟩,⟨r1,g1⟩,⟨r2,g2⟩⟩:=qu2 fG.out)))
 have aF:=hid (qb5 oS.out r0 r1 r2);have aG:=hid (qaw fG.out.1 (show w.heap.size≤w.heap.size+1+1 by omega) (.bool sg) (.slice pt kt ct) (.slice pf kf cf));go_wp2_with fail;refine bodyPost_ret (v := .agg #[.bool sg,.slice pt kt ct,.slice pf kf cf]) ?_ rfl ?_
 ·simp[results,Tryz.results101,go_sem,r0,r1,r2]
 ·exact⟨⟨_,rfl,aF.out⟩,aG.out⟩
theorem qd8(va vb:Value)(a b:Rat)(w:World)(ha:qau w va a)(hb:qau w vb b)(aQ:rs a+rs b≤Cap):
  Calls Tryz.prog 55 #[va,vb] w fun e w'=>(∃v',e = .returned v'∧qau w' v' (a*b))∧Below w.heap.size w w':=by
 have HA:=hid ha;have HB:=hid hb;obtain⟨aH,aI,aJ,aN,aL,aO,rfl,dQ,eR⟩:=ha.parts;obtain⟨bB,bC,bE,bH,bI,bJ,rfl,aZ,aR⟩:=hb.parts;have eP:=hid dQ;have aP:=hid aZ
 have dV:Hid (decide ((a*b).num<0)=((decide (a.num<0) != decide (b.num<0))&&decide (0<a.num.natAbs/(a.num.natAbs.gcd b.den)*(b.num.natAbs/(b.num.natAbs.gcd a.den))))):=by
  refine hid ?_;have h:=(qkf a b _ _ rfl rfl).2.2;rw[Bool.eq_iff_iff,decide_eq_true_iff,h,Bool.and_eq_true,decide_eq_true_iff,Nat.pos_iff_ne_zero]
 have yB:=hid (qkf a b _ _ rfl rfl).1;have tH:=hid (qkf a b _ _ rfl rfl).2.1;have dU:Hid (wl a.num.natAbs+wl a.den+(wl b.num.natAbs+wl b.den)≤Cap):=hid aQ;clear ha hb dQ eR aZ aR;generalize decide (a.num<0)=na at *;generalize decide (b.num<0)=nb at *;have aM:=hid (qlc w na (.slice aH aI aJ) (.slice aN aL aO) nb (.slice bB bC bE) (.slice bH bI bJ));have Fj:Hid (0<(a.num.natAbs.gcd b.den)):=hid (Nat.gcd_pos_of_pos_right _ b.den_pos);have Fk:Hid (0<(b.num.natAbs.gcd a.den)):=hid (Nat.gcd_pos_of_pos_right _ a.den_pos);have gF:Hid (∀W,qbz w na (.slice aH aI aJ) (.slice aN aL aO) nb (.slice bB bC bE) (.slice bH bI bJ) W→Calls Tryz.prog 109 #[.agg #[.bool na,.slice aH aI aJ,.slice aN aL aO]] W fun e w'=>(∃v',e = .returned v'∧qa5 w' v' a.den)∧qbz w na (.slice aH aI aJ) (.slice aN aL aO) nb (.slice bB bC bE) (.slice bH bI bJ) w'∧Below W.heap.size W w'):=hid fun W hW=>qcd hW (qb8 _ a W (HA.out.later hW.1));have fV:Hid (∀W,qbz w na (.slice aH aI aJ) (.slice aN aL aO) nb (.slice bB bC bE) (.slice bH bI bJ) W→Calls Tryz.prog 109 #[.agg #[.bool nb,.slice bB bC bE,.slice bH bI bJ]] W fun e w'=>(∃v',e = .returned v'∧qa5 w' v' b.den)∧qbz w na (.slice aH aI aJ) (.slice aN aL aO) nb (.slice bB bC bE) (.slice bH bI bJ) w'∧Below W.heap.size W w'):=hid fun W hW=>qcd hW (qb8 _ b W (HB.out.later hW.1))
 have HGC1:Hid (∀W v,qbz w na (.slice aH aI aJ) (.slice aN aL aO) nb (.slice bB bC bE) (.slice bH bI bJ) W→qa5 W v b.den→Calls Tryz.prog 111 #[.slice aH aI aJ,v] W fun e w'=>(∃v',e = .returned v'∧qa5 w' v' (a.num.natAbs.gcd b.den))∧qbz w na (.slice aH aI aJ) (.slice aN aL aO) nb (.slice bB bC bE) (.slice bH bI bJ) w'∧Below W.heap.size W w'):=
  hid fun W v hW h=>qcd hW (qdt _ v _ _ W (eP.out.later hW.1) h (by have:=dU.out;omega) (by have:=dU.out;omega))
 have HGC2:Hid (∀W v,qbz w na (.slice aH aI aJ) (.slice aN aL aO) nb (.slice bB bC bE) (.slice bH bI bJ) W→qa5 W v a.den→Calls Tryz.prog 111 #[.slice bB bC bE,v] W fun e w'=>(∃v',e = .returned v'∧qa5 w' v' (b.num.natAbs.gcd a.den))∧qbz w na (.slice aH aI aJ) (.slice aN aL aO) nb (.slice bB bC bE) (.slice bH bI bJ) w'∧Below W.heap.size W w'):=
  hid fun W v hW h=>qcd hW (qdt _ v _ _ W (aP.out.later hW.1) h (by have:=dU.out;omega) (by have:=dU.out;omega))
 have cW:Hid (∀W v1 v2 m n,qbz w na (.slice aH aI aJ) (.slice aN aL aO) nb (.slice bB bC bE) (.slice bH bI bJ) W→qa5 W v1 m→qa5 W v2 n→0<n→wl m≤Cap→Calls Tryz.prog 112 #[v1,v2] W fun e w'=>(∃vq vr,e = .returned (.tuple #[vq,vr])∧qa5 w' vq (m/n)∧qa5 w' vr (m % n))∧qbz w na (.slice aH aI aJ) (.slice aN aL aO) nb (.slice bB bC bE) (.slice bH bI bJ) w'∧Below W.heap.size W w'):=
  hid fun W v1 v2 m n hW h1 h2 h3 h4=>qcd hW (qmi v1 v2 m n W h1 h2 h3 h4)
 have oC:Hid (∀W v1 v2 m n,qbz w na (.slice aH aI aJ) (.slice aN aL aO) nb (.slice bB bC bE) (.slice bH bI bJ) W→qa5 W v1 m→qa5 W v2 n→wl m≤Cap→wl n≤Cap→Calls Tryz.prog 108 #[v1,v2] W fun e w'=>(∃v',e = .returned v'∧qa5 w' v' (m*n))∧qbz w na (.slice aH aI aJ) (.slice aN aL aO) nb (.slice bB bC bE) (.slice bH bI bJ) w'∧Below W.heap.size W w'):=
  hid fun W v1 v2 m n hW h1 h2 h3 h4=>qcd hW (qgo v1 v2 m n W h1 h2 h3 h4)
 have fT:Hid (∀W v1 v2,qbz w na (.slice aH aI aJ) (.slice aN aL aO) nb (.slice bB bC bE) (.slice bH bI bJ) W→qa5 W v1 (a.num.natAbs/(a.num.natAbs.gcd b.den)*(b.num.natAbs/(b.num.natAbs.gcd a.den)))→qa5 W v2 (a.den/(b.num.natAbs.gcd a.den)*(b.den/(a.num.natAbs.gcd b.den)))→Calls Tryz.prog 94 #[.bool (na != nb),v1,v2] W fun e w'=>(∃v',e = .returned v'∧qau w' v' (a*b))∧qbz w na (.slice aH aI aJ) (.slice aN aL aO) nb (.slice bB bC bE) (.slice bH bI bJ) w'∧Below W.heap.size W w'):=by
  refine hid fun W v1 v2 hW h1 h2=>qcd hW ((qe5 (na != nb) _ v1 v2 _ _ _ W h1 h2 dV.out rfl).mono ?_);rintro e w' ⟨⟨vb',he,n1,n2⟩,hb⟩;exact⟨⟨_,he,_,_,rfl,by rw[yB.out];exact n1,by rw[tH.out];exact n2⟩,hb⟩
 clear aQ dV yB tH;go_enter Tryz.func55,Tryz.ntmps55;go_wp2_with fail;generalize ((w.alloc (.cells #[.bool na,.slice aH aI aJ,.slice aN aL aO] 87)).alloc (.cells #[.bool nb,.slice bB bC bE,.slice bH bI bJ] 87)).alloc (.cells #[.bool false,.slice none 0 0,.slice none 0 0] 87)=w0 at *;have bX:=hid aM.out.drew
 go_region_held3 (fun W=>W.cell? ⟨w.heap.size,0,none⟩=some (.bool na)∧W.cell? ⟨w.heap.size,1,none⟩=some (.slice aH aI aJ)∧W.cell? ⟨w.heap.size,2,none⟩=some (.slice aN aL aO)∧W.cell? ⟨w.heap.size+1,0,none⟩=some (.bool nb)∧W.cell? ⟨w.heap.size+1,1,none⟩=some (.slice bB bC bE)∧W.cell? ⟨w.heap.size+1,2,none⟩=some (.slice bH bI bJ)) (first|exact qa3 Ic.out|exact qa3 iI.out|exact qa3 bX.out)
  (first
   | (go_at_call 109;((with_reducible refine(fV.out _ bX.out).mono ?_);rintro e wX ⟨⟨vX,rfl,hn⟩,ht,hb⟩;have gG:=hid hn;have iI:=hid ht;clear hn ht hb))
   | (go_at_call 111;((refine(HGC1.out _ _ iI.out gG.out).mono ?_);rintro e wG ⟨⟨vG,rfl,hn⟩,ht,hb⟩;have HVG:=hid hn;have Ic:=hid ht;clear hn ht hb)))
 clear bX aM gG iI;have Ij:=hid Ic.out.drew;have Pb:Hid (qa5 wG.drew vG (a.num.natAbs.gcd b.den)):=hid (HVG.out.later ((qaa _ _).drew));go_wp2_with fail
 go_region_held3 (fun W=>W.cell? ⟨w.heap.size,0,none⟩=some (.bool na)∧W.cell? ⟨w.heap.size,1,none⟩=some (.slice aH aI aJ)∧W.cell? ⟨w.heap.size,2,none⟩=some (.slice aN aL aO)∧W.cell? ⟨w.heap.size+1,0,none⟩=some (.bool nb)∧W.cell? ⟨w.heap.size+1,1,none⟩=some (.slice bB bC bE)∧W.cell? ⟨w.heap.size+1,2,none⟩=some (.slice bH bI bJ)) (first|exact qa3 HTH.out|exact qa3 oP.out|exact qa3 Ij.out)
  (first
   | (go_at_call 109;((with_reducible refine(gF.out _ Ij.out).mono ?_);rintro e wY ⟨⟨vY,rfl,hn⟩,ht,hb⟩;have oQ:=hid hn;have oP:=hid ht;have Pc:=hid (Pb.out.later hb);clear hn ht hb))
   | (go_at_call 111;((refine(HGC2.out _ _ oP.out oQ.out).mono ?_);rintro e wH ⟨⟨vH,rfl,hn⟩,ht,hb⟩;have HVH:=hid hn;have HTH:=hid ht;have Pf:=hid (Pc.out.later hb);clear hn ht hb)))
 clear Ij Pb HVG Ic oQ oP Pc;obtain⟨d10,d11,d12,d20,d21,d22⟩:=qa3 HTH.out;go_wp2_with fail;clear d10 d11 d12 d20 d21 d22;refine(cW.out _ _ _ _ _ HTH.out (eP.out.later HTH.out.1) Pf.out Fj.out (by have:=dU.out;omega)).mono ?_;rintro e w1 ⟨⟨v1,y1,rfl,hn,_⟩,ht,hb⟩;have HP:=hid hn;have cV:=hid ht;have mE:=hid (Pf.out.later hb);have Pg:=hid (HVH.out.later hb);clear hn ht hb;obtain⟨d10,d11,d12,d20,d21,d22⟩:=qa3 cV.out;go_wp2_with fail;clear d10 d11 d12 d20 d21 d22;refine(cW.out _ _ _ _ _ cV.out (aP.out.later cV.out.1) Pg.out Fk.out (by have:=dU.out;omega)).mono ?_;rintro e w2 ⟨⟨v2,y2,rfl,hn,_⟩,ht,hb⟩;have HQ:=hid hn;have fZ:=hid ht;have mW:=hid (mE.out.later hb);have Db:=hid (Pg.out.later hb);have tH:=hid (HP.out.later hb);clear hn ht hb;obtain⟨d10,d11,d12,d20,d21,d22⟩:=qa3 fZ.out;go_wp2_with fail;clear d10 d11 d12 d20 d21 d22;refine(gF.out _ fZ.out).mono ?_;rintro e u3 ⟨⟨x3,rfl,hn⟩,ht,hb⟩;have jW:=hid hn;have HU3:=hid ht;have HGU3:=hid (mW.out.later hb);have Ph:=hid (Db.out.later hb);have HPU3:=hid (tH.out.later hb);have HQU3:=hid (HQ.out.later hb);clear hn ht hb;go_wp2_with fail;refine(cW.out _ _ _ _ _ HU3.out jW.out Ph.out Fk.out (by have:=dU.out;omega)).mono ?_;rintro e w3 ⟨⟨v3,y3,rfl,hn,_⟩,ht,hb⟩;have HR:=hid hn;have pT:=hid ht;have Ik:=hid (HGU3.out.later hb);have HH3:=hid (Ph.out.later hb);have Bp:=hid (HPU3.out.later hb);have HQ3:=hid (HQU3.out.later hb);clear hn ht hb;obtain⟨d10,d11,d12,d20,d21,d22⟩:=qa3 pT.out;go_wp2_with fail;clear d10 d11 d12 d20 d21 d22;refine(fV.out _ pT.out).mono ?_;rintro e u4 ⟨⟨x4,rfl,hn⟩,ht,hb⟩;have xF:=hid hn;have HU4:=hid ht;have Pi:=hid (Ik.out.later hb);have HHU4:=hid (HH3.out.later hb);have HPU4:=hid (Bp.out.later hb);have HQU4:=hid (HQ3.out.later hb);have HRU4:=hid (HR.out.later hb);clear hn ht hb;go_wp2_with fail
 refine(cW.out _ _ _ _ _ HU4.out xF.out Pi.out Fj.out (by have:=dU.out;omega)).mono ?_;rintro e w4 ⟨⟨v4,y4,rfl,hn,_⟩,ht,hb⟩;have HS:=hid hn;have Cz:=hid ht;have HG4:=hid (Pi.out.later hb);have HH4:=hid (HHU4.out.later hb);have uK:=hid (HPU4.out.later hb);have HQ4:=hid (HQU4.out.later hb);have oT:=hid (HRU4.out.later hb);clear hn ht hb;have fY:Hid (∀W,qbz w na (.slice aH aI aJ) (.slice aN aL aO) nb (.slice bB bC bE) (.slice bH bI bJ) W→Below w4.heap.size w4 W→Calls Tryz.prog 108 #[v1,v2] W fun e w'=>(∃v',e = .returned v'∧qa5 w' v' (a.num.natAbs/(a.num.natAbs.gcd b.den)*(b.num.natAbs/(b.num.natAbs.gcd a.den))))∧qbz w na (.slice aH aI aJ) (.slice aN aL aO) nb (.slice bB bC bE) (.slice bH bI bJ) w'∧Below w4.heap.size w4 w'∧Below W.heap.size W w'):=hid fun W hW hB=>(oC.out W _ _ _ _ hW (uK.out.later hB) (HQ4.out.later hB) (Nat.le_trans (qdp (Nat.div_le_self _ _)) (by have:=dU.out;omega)) (Nat.le_trans (qdp (Nat.div_le_self _ _)) (by have:=dU.out;omega))).mono fun _ _ ⟨h1,h2,h3⟩=>⟨h1,h2,hB.trans (h3.mono hB.size),h3⟩;have eV:Hid (∀W,qbz w na (.slice aH aI aJ) (.slice aN aL aO) nb (.slice bB bC bE) (.slice bH bI bJ) W→Below w4.heap.size w4 W→Calls Tryz.prog 108 #[v3,v4] W fun e w'=>(∃v',e = .returned v'∧qa5 w' v' (a.den/(b.num.natAbs.gcd a.den)*(b.den/(a.num.natAbs.gcd b.den))))∧qbz w na (.slice aH aI aJ) (.slice aN aL aO) nb (.slice bB bC bE) (.slice bH bI bJ) w'∧Below w4.heap.size w4 w'∧Below W.heap.size W w'):=hid fun W hW hB=>(oC.out W _ _ _ _ hW (oT.out.later hB) (HS.out.later hB) (Nat.le_trans (qdp (Nat.div_le_self _ _)) (by have:=dU.out;omega)) (Nat.le_trans (qdp (Nat.div_le_self _ _)) (by have:=dU.out;omega))).mono fun _ _ ⟨h1,h2,h3⟩=>⟨h1,h2,hB.trans (h3.mono hB.size),h3⟩;have tG:=hid Cz.out.drew;have Ox:Hid (Below w4.heap.size w4 w4.drew):=hid ((qaa _ _).drew)
 go_wp2_with fail
 go_region_held3 (fun W=>W.cell? ⟨w.heap.size,0,none⟩=some (.bool na)∧W.cell? ⟨w.heap.size,1,none⟩=some (.slice aH aI aJ)∧W.cell? ⟨w.heap.size,2,none⟩=some (.slice aN aL aO)∧W.cell? ⟨w.heap.size+1,0,none⟩=some (.bool nb)∧W.cell? ⟨w.heap.size+1,1,none⟩=some (.slice bB bC bE)∧W.cell? ⟨w.heap.size+1,2,none⟩=some (.slice bH bI bJ)) (first|exact qa3 dG.out|exact qa3 qX.out|exact qa3 gH.out|exact qa3 tG.out|exact qhx (qhx (qhx (qa3 dG.out) (by omega) (by omega) _) (by omega) (by omega) _) (by omega) (by omega) _)
  (first
   | (go_at_call 108;first
     | ((with_reducible refine(fY.out _ ?qa ?qc).mono ?_);(case qa=>first|exact gH.out|exact tG.out);(case qc=>first|exact HBM.out|exact Ox.out);rintro e wL ⟨⟨vL,rfl,hn⟩,ht,lL,hb⟩;have iT:=hid hn;have qX:=hid ht;have HBL0:=hid hb;have eG:=hid lL;clear hn ht hb lL)
     | ((with_reducible refine(eV.out _ ?qb ?qd).mono ?_);(case qb=>first|exact qX.out|exact tG.out);(case qd=>first|exact eG.out|exact Ox.out);rintro e wM ⟨⟨vM,rfl,hn⟩,ht,lL,hb⟩;have Fl:=hid hn;have gH:=hid ht;have HBM0:=hid hb;have HBM:=hid lL;clear hn ht hb lL))
   | (go_at_call 94;((first|refine(fT.out _ _ _ gH.out (iT.out.later HBM0.out) Fl.out).mono ?_|refine(fT.out _ _ _ qX.out iT.out (Fl.out.later HBL0.out)).mono ?_);rintro e wZ ⟨⟨vZ,rfl,hn⟩,ht,hb⟩;have Bo:=hid hn;have dG:=hid ht;obtain⟨pt,kt,ct,pf,kf,cf,rfl,dW,dP⟩:=hn.parts;clear hn ht hb dW dP;generalize decide ((a*b).num<0)=sg at *;obtain⟨⟨r0,g0⟩,⟨r1,g1⟩,⟨r2,g2⟩⟩:=qu2 dG.out)))
 have aF:=hid (qb5 Bo.out r0 r1 r2);have aG:=hid (qaw dG.out.1 (show w.heap.size≤w.heap.size+1+1 by omega) (.bool sg) (.slice pt kt ct) (.slice pf kf cf));go_wp2_with fail;refine bodyPost_ret (v := .agg #[.bool sg,.slice pt kt ct,.slice pf kf cf]) ?_ rfl ?_
 ·simp[results,Tryz.results55,go_sem,r0,r1,r2]
 ·exact⟨⟨_,rfl,aF.out⟩,aG.out⟩
end Go.Proofs.YtlkdlffhmakbgaaGreatDoor
