/- Negated and Minus. -/
import Derived.Test.YtmcfcpgglfimjaaGreatDoorMPlus
set_option linter.all false
namespace Go.Proofs.YtmcfcpgglfimjaaGreatDoor
open Go.RowKit
set_option maxRecDepth 100000
set_option maxHeartbeats 2000000
def qg5(w:World)(na:Bool)(ta ba:Value)(W:World):Prop:=
 Below w.heap.size w W∧Own W w.heap.size 3 (qcr na ta ba)∧Own W (w.heap.size+1) 3 (qcr false (.slice none 0 0) (.slice none 0 0))
theorem qg5.later{w:World}{na:Bool}{ta ba:Value}{W W':World}(h:qg5 w na ta ba W)(hb:Below W.heap.size W W'):qg5 w na ta ba W':=by
 obtain⟨h1,h2,h3⟩:=h;have:=h3.1;exact⟨h1.trans (hb.mono h1.size),h2.later (hb.mono (by omega)),h3.later (hb.mono (by omega))⟩
theorem qqm(V:World)(n:Bool)(t b:Value):Own (V.alloc (.cells #[.bool n,t,b] 85)) V.heap.size 3 (qcr n t b):=by
 refine⟨by rw[qab];omega,fun i hi => ?_⟩;rw[World.cell?_alloc_at _ _ _ _ rfl,World.frozen?_alloc_at _ _ _ _ rfl]
 match i,hi with
 | 0,_=>exact⟨rfl,rfl⟩
 | 1,_=>exact⟨rfl,rfl⟩
 | 2,_=>exact⟨rfl,rfl⟩
theorem qok(w:World)(na:Bool)(ta ba:Value):
  qg5 w na ta ba ((w.alloc (.cells #[.bool na,ta,ba] 85)).alloc (.cells #[.bool false,.slice none 0 0,.slice none 0 0] 85)):=by
 have h1:=qqm w na ta ba;have h2:=qqm (w.alloc (.cells #[.bool na,ta,ba] 85)) false (.slice none 0 0) (.slice none 0 0);simp only[qab] at h2;have al:∀(V:World) (o:Obj),Below V.heap.size V (V.alloc o):=fun V o=>qad _ _;exact⟨(al w _).trans ((al _ _).mono (by rw[qab];omega)),h1.later ((al _ _).mono (by rw[qab];omega)),h2⟩
theorem qy0(a:Rat):decide ((-a).num<0)=(!decide (a.num<0)&&decide (0<a.num.natAbs)):=by
 rw[Rat.neg_num];by_cases h:a.num<0
 ·rw[qag h,qae (by omega)];rfl
 ·rw[qae h]
  by_cases h0:a.num=0
  ·rw[h0];rfl
  ·rw[qag (by omega),qag (by omega)];rfl
theorem qu5(v:Value)(a:Rat)(w:World)(ha:qaw w v a):
  Calls Tryz.prog 142 #[v] w fun e w'=>(∃v',e = .returned v'∧qaw w' v' (-a))∧Below w.heap.size w w':=by
 obtain⟨ta,ba,rfl,dM,eO⟩:=ha;obtain⟨aH,aI,aJ,rfl,hx⟩:=qa4 dM;clear hx;obtain⟨aM,aL,aN,rfl,hx⟩:=qa4 eO;clear hx;have eM:=hid dM;have lD:=hid eO;have eK:=hid (qy0 a);generalize decide (a.num<0)=na at *;have aO:=hid (qok w na (.slice aH aI aJ) (.slice aM aL aN))
 have gW:Hid (∀W,qg5 w na (.slice aH aI aJ) (.slice aM aL aN) W→Calls Tryz.prog 85 #[.bool (!na),.slice aH aI aJ,.slice aM aL aN] W fun e w'=>(∃vb',e = .returned (.agg #[.bool (decide ((-a).num<0)),.slice aH aI aJ,vb'])∧qa2 w' (.slice aH aI aJ) a.num.natAbs∧qa2 w' vb' (if a.den=1 then 0 else a.den))∧Below W.heap.size W w'):=
  hid fun W hW=>qe3 (!na) _ _ _ _ _ _ W (eM.out.later hW.1) (lD.out.later hW.1) eK.out (by split<;>simp_all)
 clear dM eO;go_enter Tryz.func142,Tryz.ntmps142;go_wp2_with fail;refine(gW.out _ aO.out).mono ?_;rintro e w1 ⟨⟨vF,rfl,dT,lC⟩,hb⟩;have cW:=hid (aO.out.later hb);have gI:=hid dT;have jT:=hid lC;clear dT lC hb;obtain⟨pf,kf,cf,rfl,hx⟩:=qa4 jT.out;clear hx;obtain⟨r0,g0⟩:w1.cell? ⟨w.heap.size+1,0,none⟩=_∧w1.frozen? ⟨w.heap.size+1,0,none⟩=false:=cW.out.2.2.2 0 (by omega);obtain⟨r1,g1⟩:w1.cell? ⟨w.heap.size+1,1,none⟩=_∧w1.frozen? ⟨w.heap.size+1,1,none⟩=false:=cW.out.2.2.2 1 (by omega);obtain⟨r2,g2⟩:w1.cell? ⟨w.heap.size+1,2,none⟩=_∧w1.frozen? ⟨w.heap.size+1,2,none⟩=false:=cW.out.2.2.2 2 (by omega);simp only[qcr] at r0 r1 r2
 have aF:Hid (∀W,Below w.heap.size w1 W→(∀v n,qa2 w1 v n→qa2 W v n)→qaw W (.agg #[.bool (decide ((-a).num<0)),.slice aH aI aJ,.slice pf kf cf]) (-a)):=by
  refine hid fun W _ hN=>⟨_,_,rfl, ?_, ?_⟩
  ·rw[Rat.neg_num,Int.natAbs_neg];exact hN _ _ gI.out
  ·rw[Rat.neg_den];exact hN _ _ jT.out
 generalize decide ((-a).num<0)=sg at *;go_wp2_with fail;refine bodyPost_ret (v := .agg #[.bool sg,.slice aH aI aJ,.slice pf kf cf]) ?_ rfl ?_
 ·simp[results,Tryz.results142,go_sem,r0,r1,r2]
 ·have hb:Below w.heap.size w1 (((w1.setCell ⟨w.heap.size+1,0,none⟩ (.bool sg)).setCell ⟨w.heap.size+1,1,none⟩ (.slice aH aI aJ)).setCell ⟨w.heap.size+1,2,none⟩ (.slice pf kf cf)):=
   (((qaa _ _).setCell (by show w.heap.size≤w.heap.size+1;omega) _).setCell (by show w.heap.size≤w.heap.size+1;omega) _).setCell (by show w.heap.size≤w.heap.size+1;omega) _
  refine⟨⟨_,rfl,aF.out _ hb ?_⟩,cW.out.1.trans hb⟩;intro v n hN;refine((hN.setOther r0 (by intro k z h;cases h)).setOther (u := .slice none 0 0) ?_ (by intro k z h;cases h)).setOther (u := .slice none 0 0) ?_ (by intro k z h;cases h)
  ·rw[World.cell?_setCell_other _ _ _ _ (by intro h;injection h with _ h;cases h)];exact r1
  ·rw[World.cell?_setCell_other _ _ _ _ (by intro h;injection h with _ h;cases h),World.cell?_setCell_other _ _ _ _ (by intro h;injection h with _ h;cases h)];exact r2
theorem qaw.parts{w:World}{v:Value}{q:Rat}(h:qaw w v q):∃(pt:Option Addr) (kt ct:Nat) (pf:Option Addr) (kf cf:Nat),
  v = .agg #[.bool (decide (q.num<0)),.slice pt kt ct,.slice pf kf cf]∧qa2 w (.slice pt kt ct) q.num.natAbs∧qa2 w (.slice pf kf cf) (if q.den=1 then 0 else q.den):=by
 obtain⟨t,b,rfl,h1,h2⟩:=h;obtain⟨pt,kt,ct,rfl,_⟩:=qa4 h1;obtain⟨pf,kf,cf,rfl,_⟩:=qa4 h2;exact⟨pt,kt,ct,pf,kf,cf,rfl,h1,h2⟩
theorem qu6{w W:World}{na nb:Bool}{ta ba tb bb:Value}(h:qby w na ta ba nb tb bb W):
  (W.cell? ⟨w.heap.size+1+1,0,none⟩=some (.bool false)∧W.frozen? ⟨w.heap.size+1+1,0,none⟩=false)∧
  (W.cell? ⟨w.heap.size+1+1,1,none⟩=some (.slice none 0 0)∧W.frozen? ⟨w.heap.size+1+1,1,none⟩=false)∧
  (W.cell? ⟨w.heap.size+1+1,2,none⟩=some (.slice none 0 0)∧W.frozen? ⟨w.heap.size+1+1,2,none⟩=false):=
 ⟨h.2.2.2.2 0 (by omega),h.2.2.2.2 1 (by omega),h.2.2.2.2 2 (by omega)⟩
theorem qhz{W:World}{g1 g2:Nat}{c0 c1 c2 c3 c4 c5:Option Value}(h:W.cell? ⟨g1,0,none⟩=c0∧W.cell? ⟨g1,1,none⟩=c1∧W.cell? ⟨g1,2,none⟩=c2∧W.cell? ⟨g2,0,none⟩=c3∧W.cell? ⟨g2,1,none⟩=c4∧W.cell? ⟨g2,2,none⟩=c5){g o:Nat}(h1:g≠g1)(h2:g≠g2)(x:Value):
  (W.setCell ⟨g,o,none⟩ x).cell? ⟨g1,0,none⟩=c0∧(W.setCell ⟨g,o,none⟩ x).cell? ⟨g1,1,none⟩=c1∧(W.setCell ⟨g,o,none⟩ x).cell? ⟨g1,2,none⟩=c2∧(W.setCell ⟨g,o,none⟩ x).cell? ⟨g2,0,none⟩=c3∧(W.setCell ⟨g,o,none⟩ x).cell? ⟨g2,1,none⟩=c4∧(W.setCell ⟨g,o,none⟩ x).cell? ⟨g2,2,none⟩=c5:=by
 have k:∀(a i:Nat),g≠a→(W.setCell ⟨g,o,none⟩ x).cell? ⟨a,i,none⟩=W.cell? ⟨a,i,none⟩:=fun a i h=>World.cell?_setCell_other _ _ _ _ (by intro e;injection e with e;exact h e);rw[k _ _ h1,k _ _ h1,k _ _ h1,k _ _ h2,k _ _ h2,k _ _ h2];exact h
theorem qb6{W:World}{g:Nat}{sg:Bool}{t b:Value}{q:Rat}(h:qaw W (.agg #[.bool sg,t,b]) q)(r0:W.cell? ⟨g,0,none⟩=some (.bool false))(r1:W.cell? ⟨g,1,none⟩=some (.slice none 0 0))(r2:W.cell? ⟨g,2,none⟩=some (.slice none 0 0)):
  qaw (((W.setCell ⟨g,0,none⟩ (.bool sg)).setCell ⟨g,1,none⟩ t).setCell ⟨g,2,none⟩ b) (.agg #[.bool sg,t,b]) q:=by
 have key:∀v n,qa2 W v n→qa2 (((W.setCell ⟨g,0,none⟩ (.bool sg)).setCell ⟨g,1,none⟩ t).setCell ⟨g,2,none⟩ b) v n:=by
  intro v n hN;refine((hN.setOther r0 (by intro k z h;cases h)).setOther (u := .slice none 0 0) ?_ (by intro k z h;cases h)).setOther (u := .slice none 0 0) ?_ (by intro k z h;cases h)
  ·rw[World.cell?_setCell_other _ _ _ _ (by intro h;injection h with _ h;cases h)];exact r1
  ·rw[World.cell?_setCell_other _ _ _ _ (by intro h;injection h with _ h;cases h),World.cell?_setCell_other _ _ _ _ (by intro h;injection h with _ h;cases h)];exact r2
 obtain⟨t',b',e,h1,h2⟩:=h;exact⟨t',b',e,key _ _ h1,key _ _ h2⟩
theorem qax{w W:World}{g:Nat}(h:Below w.heap.size w W)(hg:w.heap.size≤g)(x y z:Value):
  Below w.heap.size w (((W.setCell ⟨g,0,none⟩ x).setCell ⟨g,1,none⟩ y).setCell ⟨g,2,none⟩ z):=
 ((h.setCell hg _).setCell hg _).setCell hg _
theorem q9q(q:Rat):rs (-q)=rs q:=by unfold rs;rw[Rat.neg_num,Int.natAbs_neg,Rat.neg_den]
theorem qs6(va vb:Value)(a b:Rat)(w:World)(ha:qaw w va a)(hb:qaw w vb b)(aQ:rs a+rs b+2≤Cap):
  Calls Tryz.prog 92 #[va,vb] w fun e w'=>(∃v',e = .returned v'∧qaw w' v' (a-b))∧Below w.heap.size w w':=by
 have HA:=hid ha;have HB:=hid hb;obtain⟨aH,aI,aJ,aM,aL,aN,rfl,dM,eO⟩:=ha.parts;obtain⟨aZ,bA,bB,bF,bG,bH,rfl,aY,aR⟩:=hb.parts;clear ha hb dM eO aY aR;generalize decide (a.num<0)=na at *;generalize decide (b.num<0)=nb at *;have aO:=hid (qld w na (.slice aH aI aJ) (.slice aM aL aN) nb (.slice aZ bA bB) (.slice bF bG bH))
 have HNG:Hid (∀W,qby w na (.slice aH aI aJ) (.slice aM aL aN) nb (.slice aZ bA bB) (.slice bF bG bH) W→Calls Tryz.prog 142 #[.agg #[.bool nb,.slice aZ bA bB,.slice bF bG bH]] W fun e w'=>(∃v',e = .returned v'∧qaw w' v' (-b))∧qby w na (.slice aH aI aJ) (.slice aM aL aN) nb (.slice aZ bA bB) (.slice bF bG bH) w'∧Below W.heap.size W w'):=
  hid fun W hW=>qce hW (qu5 _ b W (HB.out.later hW.1))
 have iA:Hid (∀W v,qby w na (.slice aH aI aJ) (.slice aM aL aN) nb (.slice aZ bA bB) (.slice bF bG bH) W→qaw W v (-b)→Calls Tryz.prog 72 #[.agg #[.bool na,.slice aH aI aJ,.slice aM aL aN],v] W fun e w'=>(∃v',e = .returned v'∧qaw w' v' (a-b))∧qby w na (.slice aH aI aJ) (.slice aM aL aN) nb (.slice aZ bA bB) (.slice bF bG bH) w'∧Below W.heap.size W w'):=
  hid fun W v hW hv=>qce hW (by rw[Rat.sub_eq_add_neg];exact qhy _ v a (-b) W (HA.out.later hW.1) hv (by rw[q9q];exact aQ))
 clear aQ;go_enter Tryz.func92,Tryz.ntmps92;go_wp2_with fail;generalize ((w.alloc (.cells #[.bool na,.slice aH aI aJ,.slice aM aL aN] 85)).alloc (.cells #[.bool nb,.slice aZ bA bB,.slice bF bG bH] 85)).alloc (.cells #[.bool false,.slice none 0 0,.slice none 0 0] 85)=w0 at *;have cF:=hid aO.out.drew
 go_region_held3 (fun W=>W.cell? ⟨w.heap.size,0,none⟩=some (.bool na)∧W.cell? ⟨w.heap.size,1,none⟩=some (.slice aH aI aJ)∧W.cell? ⟨w.heap.size,2,none⟩=some (.slice aM aL aN)∧W.cell? ⟨w.heap.size+1,0,none⟩=some (.bool nb)∧W.cell? ⟨w.heap.size+1,1,none⟩=some (.slice aZ bA bB)∧W.cell? ⟨w.heap.size+1,2,none⟩=some (.slice bF bG bH)) (first|exact qa1 eW.out|exact qa1 iB.out|exact qa1 cF.out|exact qhz (qhz (qhz (qa1 eW.out) (by omega) (by omega) _) (by omega) (by omega) _) (by omega) (by omega) _)
  (first
   | (go_at_call 142;((with_reducible refine(HNG.out _ cF.out).mono ?_);rintro e wN ⟨⟨vN,rfl,hn⟩,ht,hb⟩;have rE:=hid hn;have iB:=hid ht;clear hn ht hb))
   | (go_at_call 72;((refine(iA.out _ _ iB.out rE.out).mono ?_);rintro e wP ⟨⟨vP,rfl,hn⟩,ht,hb⟩;have nX:=hid hn;have eW:=hid ht;obtain⟨pt,kt,ct,pf,kf,cf,rfl,eL,dO⟩:=hn.parts;have gI:=hid eL;have jT:=hid dO;clear hn ht hb eL dO;generalize iK:decide ((a-b).num<0)=sg at *;have eK:=hid iK;clear iK;obtain⟨⟨r0,g0⟩,⟨r1,g1⟩,⟨r2,g2⟩⟩:=qu6 eW.out)))
 have aF:=hid (qb6 nX.out r0 r1 r2);have aG:=hid (qax eW.out.1 (show w.heap.size≤w.heap.size+1+1 by omega) (.bool sg) (.slice pt kt ct) (.slice pf kf cf));go_wp2_with fail;refine bodyPost_ret (v := .agg #[.bool sg,.slice pt kt ct,.slice pf kf cf]) ?_ rfl ?_
 ·simp[results,Tryz.results92,go_sem,r0,r1,r2]
 ·exact⟨⟨_,rfl,aF.out⟩,aG.out⟩
theorem qd5(va vb:Value)(a b:Rat)(w:World)(ha:qaw w va a)(hb:qaw w vb b)(aQ:rs a+rs b≤Cap):
  Calls Tryz.prog 53 #[va,vb] w fun e w'=>(∃v',e = .returned v'∧qaw w' v' (a*b))∧Below w.heap.size w w':=by
 have HA:=hid ha;have HB:=hid hb;obtain⟨aH,aI,aJ,aM,aL,aN,rfl,dM,eO⟩:=ha.parts;obtain⟨aZ,bA,bB,bF,bG,bH,rfl,aY,aR⟩:=hb.parts;have eM:=hid dM;have aP:=hid aY
 have eK:Hid (decide ((a*b).num<0)=((decide (a.num<0) != decide (b.num<0))&&decide (0<a.num.natAbs/(a.num.natAbs.gcd b.den)*(b.num.natAbs/(b.num.natAbs.gcd a.den))))):=by
  refine hid ?_;have h:=(qke a b _ _ rfl rfl).2.2;rw[Bool.eq_iff_iff,decide_eq_true_iff,h,Bool.and_eq_true,decide_eq_true_iff,Nat.pos_iff_ne_zero]
 have wS:=hid (qke a b _ _ rfl rfl).1;have xD:=hid (qke a b _ _ rfl rfl).2.1;have dQ:Hid (wl a.num.natAbs+wl a.den+(wl b.num.natAbs+wl b.den)≤Cap):=hid aQ;clear ha hb dM eO aY aR;generalize decide (a.num<0)=na at *;generalize decide (b.num<0)=nb at *;have aO:=hid (qld w na (.slice aH aI aJ) (.slice aM aL aN) nb (.slice aZ bA bB) (.slice bF bG bH));have Ef:Hid (0<(a.num.natAbs.gcd b.den)):=hid (Nat.gcd_pos_of_pos_right _ b.den_pos);have Eg:Hid (0<(b.num.natAbs.gcd a.den)):=hid (Nat.gcd_pos_of_pos_right _ a.den_pos);have gD:Hid (∀W,qby w na (.slice aH aI aJ) (.slice aM aL aN) nb (.slice aZ bA bB) (.slice bF bG bH) W→Calls Tryz.prog 100 #[.agg #[.bool na,.slice aH aI aJ,.slice aM aL aN]] W fun e w'=>(∃v',e = .returned v'∧qa2 w' v' a.den)∧qby w na (.slice aH aI aJ) (.slice aM aL aN) nb (.slice aZ bA bB) (.slice bF bG bH) w'∧Below W.heap.size W w'):=hid fun W hW=>qce hW (qb9 _ a W (HA.out.later hW.1));have fQ:Hid (∀W,qby w na (.slice aH aI aJ) (.slice aM aL aN) nb (.slice aZ bA bB) (.slice bF bG bH) W→Calls Tryz.prog 100 #[.agg #[.bool nb,.slice aZ bA bB,.slice bF bG bH]] W fun e w'=>(∃v',e = .returned v'∧qa2 w' v' b.den)∧qby w na (.slice aH aI aJ) (.slice aM aL aN) nb (.slice aZ bA bB) (.slice bF bG bH) w'∧Below W.heap.size W w'):=hid fun W hW=>qce hW (qb9 _ b W (HB.out.later hW.1))
 have HGC1:Hid (∀W v,qby w na (.slice aH aI aJ) (.slice aM aL aN) nb (.slice aZ bA bB) (.slice bF bG bH) W→qa2 W v b.den→Calls Tryz.prog 102 #[.slice aH aI aJ,v] W fun e w'=>(∃v',e = .returned v'∧qa2 w' v' (a.num.natAbs.gcd b.den))∧qby w na (.slice aH aI aJ) (.slice aM aL aN) nb (.slice aZ bA bB) (.slice bF bG bH) w'∧Below W.heap.size W w'):=
  hid fun W v hW h=>qce hW (qdu _ v _ _ W (eM.out.later hW.1) h (by have:=dQ.out;omega) (by have:=dQ.out;omega))
 have HGC2:Hid (∀W v,qby w na (.slice aH aI aJ) (.slice aM aL aN) nb (.slice aZ bA bB) (.slice bF bG bH) W→qa2 W v a.den→Calls Tryz.prog 102 #[.slice aZ bA bB,v] W fun e w'=>(∃v',e = .returned v'∧qa2 w' v' (b.num.natAbs.gcd a.den))∧qby w na (.slice aH aI aJ) (.slice aM aL aN) nb (.slice aZ bA bB) (.slice bF bG bH) w'∧Below W.heap.size W w'):=
  hid fun W v hW h=>qce hW (qdu _ v _ _ W (aP.out.later hW.1) h (by have:=dQ.out;omega) (by have:=dQ.out;omega))
 have cT:Hid (∀W v1 v2 m n,qby w na (.slice aH aI aJ) (.slice aM aL aN) nb (.slice aZ bA bB) (.slice bF bG bH) W→qa2 W v1 m→qa2 W v2 n→0<n→wl m≤Cap→Calls Tryz.prog 103 #[v1,v2] W fun e w'=>(∃vq vr,e = .returned (.tuple #[vq,vr])∧qa2 w' vq (m/n)∧qa2 w' vr (m % n))∧qby w na (.slice aH aI aJ) (.slice aM aL aN) nb (.slice aZ bA bB) (.slice bF bG bH) w'∧Below W.heap.size W w'):=
  hid fun W v1 v2 m n hW h1 h2 h3 h4=>qce hW (qme v1 v2 m n W h1 h2 h3 h4)
 have nP:Hid (∀W v1 v2 m n,qby w na (.slice aH aI aJ) (.slice aM aL aN) nb (.slice aZ bA bB) (.slice bF bG bH) W→qa2 W v1 m→qa2 W v2 n→wl m≤Cap→wl n≤Cap→Calls Tryz.prog 99 #[v1,v2] W fun e w'=>(∃v',e = .returned v'∧qa2 w' v' (m*n))∧qby w na (.slice aH aI aJ) (.slice aM aL aN) nb (.slice aZ bA bB) (.slice bF bG bH) w'∧Below W.heap.size W w'):=
  hid fun W v1 v2 m n hW h1 h2 h3 h4=>qce hW (qgs v1 v2 m n W h1 h2 h3 h4)
 have gW:Hid (∀W v1 v2,qby w na (.slice aH aI aJ) (.slice aM aL aN) nb (.slice aZ bA bB) (.slice bF bG bH) W→qa2 W v1 (a.num.natAbs/(a.num.natAbs.gcd b.den)*(b.num.natAbs/(b.num.natAbs.gcd a.den)))→qa2 W v2 (a.den/(b.num.natAbs.gcd a.den)*(b.den/(a.num.natAbs.gcd b.den)))→Calls Tryz.prog 85 #[.bool (na != nb),v1,v2] W fun e w'=>(∃v',e = .returned v'∧qaw w' v' (a*b))∧qby w na (.slice aH aI aJ) (.slice aM aL aN) nb (.slice aZ bA bB) (.slice bF bG bH) w'∧Below W.heap.size W w'):=by
  refine hid fun W v1 v2 hW h1 h2=>qce hW ((qe3 (na != nb) _ v1 v2 _ _ _ W h1 h2 eK.out rfl).mono ?_);rintro e w' ⟨⟨vb',he,n1,n2⟩,hb⟩;exact⟨⟨_,he,_,_,rfl,by rw[wS.out];exact n1,by rw[xD.out];exact n2⟩,hb⟩
 clear aQ eK wS xD;go_enter Tryz.func53,Tryz.ntmps53;go_wp2_with fail;generalize ((w.alloc (.cells #[.bool na,.slice aH aI aJ,.slice aM aL aN] 85)).alloc (.cells #[.bool nb,.slice aZ bA bB,.slice bF bG bH] 85)).alloc (.cells #[.bool false,.slice none 0 0,.slice none 0 0] 85)=w0 at *;have cF:=hid aO.out.drew
 go_region_held3 (fun W=>W.cell? ⟨w.heap.size,0,none⟩=some (.bool na)∧W.cell? ⟨w.heap.size,1,none⟩=some (.slice aH aI aJ)∧W.cell? ⟨w.heap.size,2,none⟩=some (.slice aM aL aN)∧W.cell? ⟨w.heap.size+1,0,none⟩=some (.bool nb)∧W.cell? ⟨w.heap.size+1,1,none⟩=some (.slice aZ bA bB)∧W.cell? ⟨w.heap.size+1,2,none⟩=some (.slice bF bG bH)) (first|exact qa1 Hc.out|exact qa1 iV.out|exact qa1 cF.out)
  (first
   | (go_at_call 100;((with_reducible refine(fQ.out _ cF.out).mono ?_);rintro e wX ⟨⟨vX,rfl,hn⟩,ht,hb⟩;have fW:=hid hn;have iV:=hid ht;clear hn ht hb))
   | (go_at_call 102;((refine(HGC1.out _ _ iV.out fW.out).mono ?_);rintro e wG ⟨⟨vG,rfl,hn⟩,ht,hb⟩;have HVG:=hid hn;have Hc:=hid ht;clear hn ht hb)))
 clear cF aO fW iV;have Hi:=hid Hc.out.drew;have Of:Hid (qa2 wG.drew vG (a.num.natAbs.gcd b.den)):=hid (HVG.out.later ((qaa _ _).drew));go_wp2_with fail
 go_region_held3 (fun W=>W.cell? ⟨w.heap.size,0,none⟩=some (.bool na)∧W.cell? ⟨w.heap.size,1,none⟩=some (.slice aH aI aJ)∧W.cell? ⟨w.heap.size,2,none⟩=some (.slice aM aL aN)∧W.cell? ⟨w.heap.size+1,0,none⟩=some (.bool nb)∧W.cell? ⟨w.heap.size+1,1,none⟩=some (.slice aZ bA bB)∧W.cell? ⟨w.heap.size+1,2,none⟩=some (.slice bF bG bH)) (first|exact qa1 HTH.out|exact qa1 nV.out|exact qa1 Hi.out)
  (first
   | (go_at_call 100;((with_reducible refine(gD.out _ Hi.out).mono ?_);rintro e wY ⟨⟨vY,rfl,hn⟩,ht,hb⟩;have nW:=hid hn;have nV:=hid ht;have Og:=hid (Of.out.later hb);clear hn ht hb))
   | (go_at_call 102;((refine(HGC2.out _ _ nV.out nW.out).mono ?_);rintro e wH ⟨⟨vH,rfl,hn⟩,ht,hb⟩;have HVH:=hid hn;have HTH:=hid ht;have Oh:=hid (Og.out.later hb);clear hn ht hb)))
 clear Hi Of HVG Hc nW nV Og;obtain⟨d10,d11,d12,d20,d21,d22⟩:=qa1 HTH.out;go_wp2_with fail;clear d10 d11 d12 d20 d21 d22;refine(cT.out _ _ _ _ _ HTH.out (eM.out.later HTH.out.1) Oh.out Ef.out (by have:=dQ.out;omega)).mono ?_;rintro e w1 ⟨⟨v1,y1,rfl,hn,_⟩,ht,hb⟩;have HP:=hid hn;have cW:=hid ht;have lG:=hid (Oh.out.later hb);have Oi:=hid (HVH.out.later hb);clear hn ht hb;obtain⟨d10,d11,d12,d20,d21,d22⟩:=qa1 cW.out;go_wp2_with fail;clear d10 d11 d12 d20 d21 d22;refine(cT.out _ _ _ _ _ cW.out (aP.out.later cW.out.1) Oi.out Eg.out (by have:=dQ.out;omega)).mono ?_;rintro e w2 ⟨⟨v2,y2,rfl,hn,_⟩,ht,hb⟩;have HQ:=hid hn;have gF:=hid ht;have mG:=hid (lG.out.later hb);have Bu:=hid (Oi.out.later hb);have xD:=hid (HP.out.later hb);clear hn ht hb;obtain⟨d10,d11,d12,d20,d21,d22⟩:=qa1 gF.out;go_wp2_with fail;clear d10 d11 d12 d20 d21 d22;refine(gD.out _ gF.out).mono ?_;rintro e u3 ⟨⟨x3,rfl,hn⟩,ht,hb⟩;have jK:=hid hn;have HU3:=hid ht;have HGU3:=hid (mG.out.later hb);have Oj:=hid (Bu.out.later hb);have HPU3:=hid (xD.out.later hb);have HQU3:=hid (HQ.out.later hb);clear hn ht hb;go_wp2_with fail;refine(cT.out _ _ _ _ _ HU3.out jK.out Oj.out Eg.out (by have:=dQ.out;omega)).mono ?_;rintro e w3 ⟨⟨v3,y3,rfl,hn,_⟩,ht,hb⟩;have HR:=hid hn;have oR:=hid ht;have HG3:=hid (HGU3.out.later hb);have HH3:=hid (Oj.out.later hb);have Hj:=hid (HPU3.out.later hb);have HQ3:=hid (HQU3.out.later hb);clear hn ht hb;obtain⟨d10,d11,d12,d20,d21,d22⟩:=qa1 oR.out;go_wp2_with fail;clear d10 d11 d12 d20 d21 d22;refine(fQ.out _ oR.out).mono ?_;rintro e u4 ⟨⟨x4,rfl,hn⟩,ht,hb⟩;have uV:=hid hn;have HU4:=hid ht;have Ok:=hid (HG3.out.later hb);have HHU4:=hid (HH3.out.later hb);have HPU4:=hid (Hj.out.later hb);have HQU4:=hid (HQ3.out.later hb);have HRU4:=hid (HR.out.later hb);clear hn ht hb;go_wp2_with fail
 refine(cT.out _ _ _ _ _ HU4.out uV.out Ok.out Ef.out (by have:=dQ.out;omega)).mono ?_;rintro e w4 ⟨⟨v4,y4,rfl,hn,_⟩,ht,hb⟩;have HS:=hid hn;have Bs:=hid ht;have HG4:=hid (Ok.out.later hb);have HH4:=hid (HHU4.out.later hb);have Bv:=hid (HPU4.out.later hb);have HQ4:=hid (HQU4.out.later hb);have nY:=hid (HRU4.out.later hb);clear hn ht hb;have gK:Hid (∀W,qby w na (.slice aH aI aJ) (.slice aM aL aN) nb (.slice aZ bA bB) (.slice bF bG bH) W→Below w4.heap.size w4 W→Calls Tryz.prog 99 #[v1,v2] W fun e w'=>(∃v',e = .returned v'∧qa2 w' v' (a.num.natAbs/(a.num.natAbs.gcd b.den)*(b.num.natAbs/(b.num.natAbs.gcd a.den))))∧qby w na (.slice aH aI aJ) (.slice aM aL aN) nb (.slice aZ bA bB) (.slice bF bG bH) w'∧Below w4.heap.size w4 w'∧Below W.heap.size W w'):=hid fun W hW hB=>(nP.out W _ _ _ _ hW (Bv.out.later hB) (HQ4.out.later hB) (Nat.le_trans (qdo (Nat.div_le_self _ _)) (by have:=dQ.out;omega)) (Nat.le_trans (qdo (Nat.div_le_self _ _)) (by have:=dQ.out;omega))).mono fun _ _ ⟨h1,h2,h3⟩=>⟨h1,h2,hB.trans (h3.mono hB.size),h3⟩;have fF:Hid (∀W,qby w na (.slice aH aI aJ) (.slice aM aL aN) nb (.slice aZ bA bB) (.slice bF bG bH) W→Below w4.heap.size w4 W→Calls Tryz.prog 99 #[v3,v4] W fun e w'=>(∃v',e = .returned v'∧qa2 w' v' (a.den/(b.num.natAbs.gcd a.den)*(b.den/(a.num.natAbs.gcd b.den))))∧qby w na (.slice aH aI aJ) (.slice aM aL aN) nb (.slice aZ bA bB) (.slice bF bG bH) w'∧Below w4.heap.size w4 w'∧Below W.heap.size W w'):=hid fun W hW hB=>(nP.out W _ _ _ _ hW (nY.out.later hB) (HS.out.later hB) (Nat.le_trans (qdo (Nat.div_le_self _ _)) (by have:=dQ.out;omega)) (Nat.le_trans (qdo (Nat.div_le_self _ _)) (by have:=dQ.out;omega))).mono fun _ _ ⟨h1,h2,h3⟩=>⟨h1,h2,hB.trans (h3.mono hB.size),h3⟩;have sT:=hid Bs.out.drew;have Ob:Hid (Below w4.heap.size w4 w4.drew):=hid ((qaa _ _).drew)
 go_wp2_with fail
 go_region_held3 (fun W=>W.cell? ⟨w.heap.size,0,none⟩=some (.bool na)∧W.cell? ⟨w.heap.size,1,none⟩=some (.slice aH aI aJ)∧W.cell? ⟨w.heap.size,2,none⟩=some (.slice aM aL aN)∧W.cell? ⟨w.heap.size+1,0,none⟩=some (.bool nb)∧W.cell? ⟨w.heap.size+1,1,none⟩=some (.slice aZ bA bB)∧W.cell? ⟨w.heap.size+1,2,none⟩=some (.slice bF bG bH)) (first|exact qa1 cY.out|exact qa1 qE.out|exact qa1 iL.out|exact qa1 sT.out|exact qhz (qhz (qhz (qa1 cY.out) (by omega) (by omega) _) (by omega) (by omega) _) (by omega) (by omega) _)
  (first
   | (go_at_call 99;first
     | ((with_reducible refine(gK.out _ ?qa ?qc).mono ?_);(case qa=>first|exact iL.out|exact sT.out);(case qc=>first|exact HBM.out|exact Ob.out);rintro e wL ⟨⟨vL,rfl,hn⟩,ht,kV,hb⟩;have iH:=hid hn;have qE:=hid ht;have HBL0:=hid hb;have dW:=hid kV;clear hn ht hb kV)
     | ((with_reducible refine(fF.out _ ?qb ?qd).mono ?_);(case qb=>first|exact qE.out|exact sT.out);(case qd=>first|exact dW.out|exact Ob.out);rintro e wM ⟨⟨vM,rfl,hn⟩,ht,kV,hb⟩;have HVM:=hid hn;have iL:=hid ht;have HBM0:=hid hb;have HBM:=hid kV;clear hn ht hb kV))
   | (go_at_call 85;((first|refine(gW.out _ _ _ iL.out (iH.out.later HBM0.out) HVM.out).mono ?_|refine(gW.out _ _ _ qE.out iH.out (HVM.out.later HBL0.out)).mono ?_);rintro e wZ ⟨⟨vZ,rfl,hn⟩,ht,hb⟩;have Ai:=hid hn;have cY:=hid ht;obtain⟨pt,kt,ct,pf,kf,cf,rfl,eL,dO⟩:=hn.parts;clear hn ht hb eL dO;generalize decide ((a*b).num<0)=sg at *;obtain⟨⟨r0,g0⟩,⟨r1,g1⟩,⟨r2,g2⟩⟩:=qu6 cY.out)))
 have aF:=hid (qb6 Ai.out r0 r1 r2);have aG:=hid (qax cY.out.1 (show w.heap.size≤w.heap.size+1+1 by omega) (.bool sg) (.slice pt kt ct) (.slice pf kf cf));go_wp2_with fail;refine bodyPost_ret (v := .agg #[.bool sg,.slice pt kt ct,.slice pf kf cf]) ?_ rfl ?_
 ·simp[results,Tryz.results53,go_sem,r0,r1,r2]
 ·exact⟨⟨_,rfl,aF.out⟩,aG.out⟩
end Go.Proofs.YtmcfcpgglfimjaaGreatDoor
