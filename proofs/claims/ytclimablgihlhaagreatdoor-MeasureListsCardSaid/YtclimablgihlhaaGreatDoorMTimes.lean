/- Negated and Minus. -/
import Derived.Test.YtclimablgihlhaaGreatDoorMPlus
set_option linter.all false
namespace Go.Proofs.YtclimablgihlhaaGreatDoor
open Go.RowKit
set_option maxRecDepth 100000
set_option maxHeartbeats 2000000
def qgz(w:World)(na:Bool)(ta ba:Value)(W:World):Prop:=
 Below w.heap.size w W∧Own W w.heap.size 3 (qci na ta ba)∧Own W (w.heap.size+1) 3 (qci false (.slice none 0 0) (.slice none 0 0))
theorem qgz.later{w:World}{na:Bool}{ta ba:Value}{W W':World}(h:qgz w na ta ba W)(hb:Below W.heap.size W W'):qgz w na ta ba W':=by
 obtain⟨h1,h2,h3⟩:=h;have:=h3.1;exact⟨h1.trans (hb.mono h1.size),h2.later (hb.mono (by omega)),h3.later (hb.mono (by omega))⟩
theorem qp7(V:World)(n:Bool)(t b:Value):Own (V.alloc (.cells #[.bool n,t,b] 74)) V.heap.size 3 (qci n t b):=by
 refine⟨by rw[zao];omega,fun i hi => ?_⟩;rw[World.cell?_alloc_at _ _ _ _ rfl,World.frozen?_alloc_at _ _ _ _ rfl]
 match i,hi with
 | 0,_=>exact⟨rfl,rfl⟩
 | 1,_=>exact⟨rfl,rfl⟩
 | 2,_=>exact⟨rfl,rfl⟩
theorem qod(w:World)(na:Bool)(ta ba:Value):
  qgz w na ta ba ((w.alloc (.cells #[.bool na,ta,ba] 74)).alloc (.cells #[.bool false,.slice none 0 0,.slice none 0 0] 74)):=by
 have h1:=qp7 w na ta ba;have h2:=qp7 (w.alloc (.cells #[.bool na,ta,ba] 74)) false (.slice none 0 0) (.slice none 0 0);simp only[zao] at h2;have al:∀(V:World) (o:Obj),Below V.heap.size V (V.alloc o):=fun V o=>zam _ _;exact⟨(al w _).trans ((al _ _).mono (by rw[zao];omega)),h1.later ((al _ _).mono (by rw[zao];omega)),h2⟩
theorem qxz(a:Rat):decide ((-a).num<0)=(!decide (a.num<0)&&decide (0<a.num.natAbs)):=by
 rw[Rat.neg_num];by_cases h:a.num<0
 ·rw[zas h,zar (by omega)];rfl
 ·rw[zar h]
  by_cases h0:a.num=0
  ·rw[h0];rfl
  ·rw[zas (by omega),zas (by omega)];rfl
theorem qur(v:Value)(a:Rat)(w:World)(ha:qaj w v a):
  Calls Tryz.prog 155 #[v] w fun e w'=>(∃v',e = .returned v'∧qaj w' v' (-a))∧Below w.heap.size w w':=by
 obtain⟨ta,ba,rfl,dK,dX⟩:=ha;obtain⟨aI,aJ,aK,rfl,hx⟩:=qar dK;clear hx;obtain⟨aM,aL,aN,rfl,hx⟩:=qar dX;clear hx;have eF:=hid dK;have lD:=hid dX;have fS:=hid (qxz a);generalize decide (a.num<0)=na at *;have aO:=hid (qod w na (.slice aI aJ aK) (.slice aM aL aN))
 have gD:Hid (∀W,qgz w na (.slice aI aJ aK) (.slice aM aL aN) W→Calls Tryz.prog 74 #[.bool (!na),.slice aI aJ aK,.slice aM aL aN] W fun e w'=>(∃vb',e = .returned (.agg #[.bool (decide ((-a).num<0)),.slice aI aJ aK,vb'])∧qap w' (.slice aI aJ aK) a.num.natAbs∧qap w' vb' (if a.den=1 then 0 else a.den))∧Below W.heap.size W w'):=
  hid fun W hW=>qez (!na) _ _ _ _ _ _ W (eF.out.later hW.1) (lD.out.later hW.1) fS.out (by split<;>simp_all)
 clear dK dX;go_enter Tryz.func155,Tryz.ntmps155;go_wp2_with fail;refine(gD.out _ aO.out).mono ?_;rintro e w1 ⟨⟨vF,rfl,dR,jC⟩,hb⟩;have cE:=hid (aO.out.later hb);have rH:=hid dR;have mH:=hid jC;clear dR jC hb;obtain⟨pf,kf,cf,rfl,hx⟩:=qar mH.out;clear hx;obtain⟨r0,g0⟩:w1.cell? ⟨w.heap.size+1,0,none⟩=_∧w1.frozen? ⟨w.heap.size+1,0,none⟩=false:=cE.out.2.2.2 0 (by omega);obtain⟨r1,g1⟩:w1.cell? ⟨w.heap.size+1,1,none⟩=_∧w1.frozen? ⟨w.heap.size+1,1,none⟩=false:=cE.out.2.2.2 1 (by omega);obtain⟨r2,g2⟩:w1.cell? ⟨w.heap.size+1,2,none⟩=_∧w1.frozen? ⟨w.heap.size+1,2,none⟩=false:=cE.out.2.2.2 2 (by omega);simp only[qci] at r0 r1 r2
 have aG:Hid (∀W,Below w.heap.size w1 W→(∀v n,qap w1 v n→qap W v n)→qaj W (.agg #[.bool (decide ((-a).num<0)),.slice aI aJ aK,.slice pf kf cf]) (-a)):=by
  refine hid fun W _ hN=>⟨_,_,rfl, ?_, ?_⟩
  ·rw[Rat.neg_num,Int.natAbs_neg];exact hN _ _ rH.out
  ·rw[Rat.neg_den];exact hN _ _ mH.out
 generalize decide ((-a).num<0)=sg at *;go_wp2_with fail;refine bodyPost_ret (v := .agg #[.bool sg,.slice aI aJ aK,.slice pf kf cf]) ?_ rfl ?_
 ·simp[results,Tryz.results155,go_sem,r0,r1,r2]
 ·have hb:Below w.heap.size w1 (((w1.setCell ⟨w.heap.size+1,0,none⟩ (.bool sg)).setCell ⟨w.heap.size+1,1,none⟩ (.slice aI aJ aK)).setCell ⟨w.heap.size+1,2,none⟩ (.slice pf kf cf)):=
   (((zan _ _).setCell (by show w.heap.size≤w.heap.size+1;omega) _).setCell (by show w.heap.size≤w.heap.size+1;omega) _).setCell (by show w.heap.size≤w.heap.size+1;omega) _
  refine⟨⟨_,rfl,aG.out _ hb ?_⟩,cE.out.1.trans hb⟩;intro v n hN;refine((hN.setOther r0 (by intro k z h;cases h)).setOther (u := .slice none 0 0) ?_ (by intro k z h;cases h)).setOther (u := .slice none 0 0) ?_ (by intro k z h;cases h)
  ·rw[World.cell?_setCell_other _ _ _ _ (by intro h;injection h with _ h;cases h)];exact r1
  ·rw[World.cell?_setCell_other _ _ _ _ (by intro h;injection h with _ h;cases h),World.cell?_setCell_other _ _ _ _ (by intro h;injection h with _ h;cases h)];exact r2
theorem qaj.parts{w:World}{v:Value}{q:Rat}(h:qaj w v q):∃(pt:Option Addr) (kt ct:Nat) (pf:Option Addr) (kf cf:Nat),
  v = .agg #[.bool (decide (q.num<0)),.slice pt kt ct,.slice pf kf cf]∧qap w (.slice pt kt ct) q.num.natAbs∧qap w (.slice pf kf cf) (if q.den=1 then 0 else q.den):=by
 obtain⟨t,b,rfl,h1,h2⟩:=h;obtain⟨pt,kt,ct,rfl,_⟩:=qar h1;obtain⟨pf,kf,cf,rfl,_⟩:=qar h2;exact⟨pt,kt,ct,pf,kf,cf,rfl,h1,h2⟩
theorem qj8{w W:World}{na nb:Bool}{ta ba tb bb:Value}(h:qbh w na ta ba nb tb bb W):
  (W.cell? ⟨w.heap.size+1+1,0,none⟩=some (.bool false)∧W.frozen? ⟨w.heap.size+1+1,0,none⟩=false)∧
  (W.cell? ⟨w.heap.size+1+1,1,none⟩=some (.slice none 0 0)∧W.frozen? ⟨w.heap.size+1+1,1,none⟩=false)∧
  (W.cell? ⟨w.heap.size+1+1,2,none⟩=some (.slice none 0 0)∧W.frozen? ⟨w.heap.size+1+1,2,none⟩=false):=
 ⟨h.2.2.2.2 0 (by omega),h.2.2.2.2 1 (by omega),h.2.2.2.2 2 (by omega)⟩
theorem qhu{W:World}{g1 g2:Nat}{c0 c1 c2 c3 c4 c5:Option Value}(h:W.cell? ⟨g1,0,none⟩=c0∧W.cell? ⟨g1,1,none⟩=c1∧W.cell? ⟨g1,2,none⟩=c2∧W.cell? ⟨g2,0,none⟩=c3∧W.cell? ⟨g2,1,none⟩=c4∧W.cell? ⟨g2,2,none⟩=c5){g o:Nat}(h1:g≠g1)(h2:g≠g2)(x:Value):
  (W.setCell ⟨g,o,none⟩ x).cell? ⟨g1,0,none⟩=c0∧(W.setCell ⟨g,o,none⟩ x).cell? ⟨g1,1,none⟩=c1∧(W.setCell ⟨g,o,none⟩ x).cell? ⟨g1,2,none⟩=c2∧(W.setCell ⟨g,o,none⟩ x).cell? ⟨g2,0,none⟩=c3∧(W.setCell ⟨g,o,none⟩ x).cell? ⟨g2,1,none⟩=c4∧(W.setCell ⟨g,o,none⟩ x).cell? ⟨g2,2,none⟩=c5:=by
 have k:∀(a i:Nat),g≠a→(W.setCell ⟨g,o,none⟩ x).cell? ⟨a,i,none⟩=W.cell? ⟨a,i,none⟩:=fun a i h=>World.cell?_setCell_other _ _ _ _ (by intro e;injection e with e;exact h e);rw[k _ _ h1,k _ _ h1,k _ _ h1,k _ _ h2,k _ _ h2,k _ _ h2];exact h
theorem qbc{W:World}{g:Nat}{sg:Bool}{t b:Value}{q:Rat}(h:qaj W (.agg #[.bool sg,t,b]) q)(r0:W.cell? ⟨g,0,none⟩=some (.bool false))(r1:W.cell? ⟨g,1,none⟩=some (.slice none 0 0))(r2:W.cell? ⟨g,2,none⟩=some (.slice none 0 0)):
  qaj (((W.setCell ⟨g,0,none⟩ (.bool sg)).setCell ⟨g,1,none⟩ t).setCell ⟨g,2,none⟩ b) (.agg #[.bool sg,t,b]) q:=by
 have key:∀v n,qap W v n→qap (((W.setCell ⟨g,0,none⟩ (.bool sg)).setCell ⟨g,1,none⟩ t).setCell ⟨g,2,none⟩ b) v n:=by
  intro v n hN;refine((hN.setOther r0 (by intro k z h;cases h)).setOther (u := .slice none 0 0) ?_ (by intro k z h;cases h)).setOther (u := .slice none 0 0) ?_ (by intro k z h;cases h)
  ·rw[World.cell?_setCell_other _ _ _ _ (by intro h;injection h with _ h;cases h)];exact r1
  ·rw[World.cell?_setCell_other _ _ _ _ (by intro h;injection h with _ h;cases h),World.cell?_setCell_other _ _ _ _ (by intro h;injection h with _ h;cases h)];exact r2
 obtain⟨t',b',e,h1,h2⟩:=h;exact⟨t',b',e,key _ _ h1,key _ _ h2⟩
theorem qai{w W:World}{g:Nat}(h:Below w.heap.size w W)(hg:w.heap.size≤g)(x y z:Value):
  Below w.heap.size w (((W.setCell ⟨g,0,none⟩ x).setCell ⟨g,1,none⟩ y).setCell ⟨g,2,none⟩ z):=
 ((h.setCell hg _).setCell hg _).setCell hg _
theorem q8w(q:Rat):rs (-q)=rs q:=by unfold rs;rw[Rat.neg_num,Int.natAbs_neg,Rat.neg_den]
theorem qsm(va vb:Value)(a b:Rat)(w:World)(ha:qaj w va a)(hb:qaj w vb b)(aP:rs a+rs b+2≤Cap):
  Calls Tryz.prog 97 #[va,vb] w fun e w'=>(∃v',e = .returned v'∧qaj w' v' (a-b))∧Below w.heap.size w w':=by
 have HA:=hid ha;have HB:=hid hb;obtain⟨aI,aJ,aK,aM,aL,aN,rfl,dK,dX⟩:=ha.parts;obtain⟨aY,aZ,bA,bC,bE,bF,rfl,bB,aT⟩:=hb.parts;clear ha hb dK dX bB aT;generalize decide (a.num<0)=na at *;generalize decide (b.num<0)=nb at *;have aO:=hid (qg9 w na (.slice aI aJ aK) (.slice aM aL aN) nb (.slice aY aZ bA) (.slice bC bE bF))
 have HNG:Hid (∀W,qbh w na (.slice aI aJ aK) (.slice aM aL aN) nb (.slice aY aZ bA) (.slice bC bE bF) W→Calls Tryz.prog 155 #[.agg #[.bool nb,.slice aY aZ bA,.slice bC bE bF]] W fun e w'=>(∃v',e = .returned v'∧qaj w' v' (-b))∧qbh w na (.slice aI aJ aK) (.slice aM aL aN) nb (.slice aY aZ bA) (.slice bC bE bF) w'∧Below W.heap.size W w'):=
  hid fun W hW=>qbv hW (qur _ b W (HB.out.later hW.1))
 have iH:Hid (∀W v,qbh w na (.slice aI aJ aK) (.slice aM aL aN) nb (.slice aY aZ bA) (.slice bC bE bF) W→qaj W v (-b)→Calls Tryz.prog 76 #[.agg #[.bool na,.slice aI aJ aK,.slice aM aL aN],v] W fun e w'=>(∃v',e = .returned v'∧qaj w' v' (a-b))∧qbh w na (.slice aI aJ aK) (.slice aM aL aN) nb (.slice aY aZ bA) (.slice bC bE bF) w'∧Below W.heap.size W w'):=
  hid fun W v hW hv=>qbv hW (by rw[Rat.sub_eq_add_neg];exact qht _ v a (-b) W (HA.out.later hW.1) hv (by rw[q8w];exact aP))
 clear aP;go_enter Tryz.func97,Tryz.ntmps97;go_wp2_with fail;generalize ((w.alloc (.cells #[.bool na,.slice aI aJ aK,.slice aM aL aN] 74)).alloc (.cells #[.bool nb,.slice aY aZ bA,.slice bC bE bF] 74)).alloc (.cells #[.bool false,.slice none 0 0,.slice none 0 0] 74)=w0 at *;have cG:=hid aO.out.drew
 go_region_held3 (fun W=>W.cell? ⟨w.heap.size,0,none⟩=some (.bool na)∧W.cell? ⟨w.heap.size,1,none⟩=some (.slice aI aJ aK)∧W.cell? ⟨w.heap.size,2,none⟩=some (.slice aM aL aN)∧W.cell? ⟨w.heap.size+1,0,none⟩=some (.bool nb)∧W.cell? ⟨w.heap.size+1,1,none⟩=some (.slice aY aZ bA)∧W.cell? ⟨w.heap.size+1,2,none⟩=some (.slice bC bE bF)) (first|exact qam fL.out|exact qam gJ.out|exact qam cG.out|exact qhu (qhu (qhu (qam fL.out) (by omega) (by omega) _) (by omega) (by omega) _) (by omega) (by omega) _)
  (first
   | (go_at_call 155;((with_reducible refine(HNG.out _ cG.out).mono ?_);rintro e wN ⟨⟨vN,rfl,hn⟩,ht,hb⟩;have oZ:=hid hn;have gJ:=hid ht;clear hn ht hb))
   | (go_at_call 76;((refine(iH.out _ _ gJ.out oZ.out).mono ?_);rintro e wP ⟨⟨vP,rfl,hn⟩,ht,hb⟩;have pE:=hid hn;have fL:=hid ht;obtain⟨pt,kt,ct,pf,kf,cf,rfl,eR,dZ⟩:=hn.parts;have rH:=hid eR;have mH:=hid dZ;clear hn ht hb eR dZ;generalize mE:decide ((a-b).num<0)=sg at *;have fS:=hid mE;clear mE;obtain⟨⟨r0,g0⟩,⟨r1,g1⟩,⟨r2,g2⟩⟩:=qj8 fL.out)))
 have aG:=hid (qbc pE.out r0 r1 r2);have aH:=hid (qai fL.out.1 (show w.heap.size≤w.heap.size+1+1 by omega) (.bool sg) (.slice pt kt ct) (.slice pf kf cf));go_wp2_with fail;refine bodyPost_ret (v := .agg #[.bool sg,.slice pt kt ct,.slice pf kf cf]) ?_ rfl ?_
 ·simp[results,Tryz.results97,go_sem,r0,r1,r2]
 ·exact⟨⟨_,rfl,aG.out⟩,aH.out⟩
theorem qdx(va vb:Value)(a b:Rat)(w:World)(ha:qaj w va a)(hb:qaj w vb b)(aP:rs a+rs b≤Cap):
  Calls Tryz.prog 37 #[va,vb] w fun e w'=>(∃v',e = .returned v'∧qaj w' v' (a*b))∧Below w.heap.size w w':=by
 have HA:=hid ha;have HB:=hid hb;obtain⟨aI,aJ,aK,aM,aL,aN,rfl,dK,dX⟩:=ha.parts;obtain⟨aY,aZ,bA,bC,bE,bF,rfl,bB,aT⟩:=hb.parts;have eF:=hid dK;have aQ:=hid bB
 have fS:Hid (decide ((a*b).num<0)=((decide (a.num<0) != decide (b.num<0))&&decide (0<a.num.natAbs/(a.num.natAbs.gcd b.den)*(b.num.natAbs/(b.num.natAbs.gcd a.den))))):=by
  refine hid ?_;have h:=(qj2 a b _ _ rfl rfl).2.2;rw[Bool.eq_iff_iff,decide_eq_true_iff,h,Bool.and_eq_true,decide_eq_true_iff,Nat.pos_iff_ne_zero]
 have zP:=hid (qj2 a b _ _ rfl rfl).1;have uM:=hid (qj2 a b _ _ rfl rfl).2.1;have cU:Hid (wl a.num.natAbs+wl a.den+(wl b.num.natAbs+wl b.den)≤Cap):=hid aP;clear ha hb dK dX bB aT;generalize decide (a.num<0)=na at *;generalize decide (b.num<0)=nb at *;have aO:=hid (qg9 w na (.slice aI aJ aK) (.slice aM aL aN) nb (.slice aY aZ bA) (.slice bC bE bF));have Gu:Hid (0<(a.num.natAbs.gcd b.den)):=hid (Nat.gcd_pos_of_pos_right _ b.den_pos);have Gv:Hid (0<(b.num.natAbs.gcd a.den)):=hid (Nat.gcd_pos_of_pos_right _ a.den_pos);have gR:Hid (∀W,qbh w na (.slice aI aJ aK) (.slice aM aL aN) nb (.slice aY aZ bA) (.slice bC bE bF) W→Calls Tryz.prog 73 #[.agg #[.bool na,.slice aI aJ aK,.slice aM aL aN]] W fun e w'=>(∃v',e = .returned v'∧qap w' v' a.den)∧qbh w na (.slice aI aJ aK) (.slice aM aL aN) nb (.slice aY aZ bA) (.slice bC bE bF) w'∧Below W.heap.size W w'):=hid fun W hW=>qbv hW (qbx _ a W (HA.out.later hW.1));have gH:Hid (∀W,qbh w na (.slice aI aJ aK) (.slice aM aL aN) nb (.slice aY aZ bA) (.slice bC bE bF) W→Calls Tryz.prog 73 #[.agg #[.bool nb,.slice aY aZ bA,.slice bC bE bF]] W fun e w'=>(∃v',e = .returned v'∧qap w' v' b.den)∧qbh w na (.slice aI aJ aK) (.slice aM aL aN) nb (.slice aY aZ bA) (.slice bC bE bF) w'∧Below W.heap.size W w'):=hid fun W hW=>qbv hW (qbx _ b W (HB.out.later hW.1))
 have HGC1:Hid (∀W v,qbh w na (.slice aI aJ aK) (.slice aM aL aN) nb (.slice aY aZ bA) (.slice bC bE bF) W→qap W v b.den→Calls Tryz.prog 77 #[.slice aI aJ aK,v] W fun e w'=>(∃v',e = .returned v'∧qap w' v' (a.num.natAbs.gcd b.den))∧qbh w na (.slice aI aJ aK) (.slice aM aL aN) nb (.slice aY aZ bA) (.slice bC bE bF) w'∧Below W.heap.size W w'):=
  hid fun W v hW h=>qbv hW (qdk _ v _ _ W (eF.out.later hW.1) h (by have:=cU.out;omega) (by have:=cU.out;omega))
 have HGC2:Hid (∀W v,qbh w na (.slice aI aJ aK) (.slice aM aL aN) nb (.slice aY aZ bA) (.slice bC bE bF) W→qap W v a.den→Calls Tryz.prog 77 #[.slice aY aZ bA,v] W fun e w'=>(∃v',e = .returned v'∧qap w' v' (b.num.natAbs.gcd a.den))∧qbh w na (.slice aI aJ aK) (.slice aM aL aN) nb (.slice aY aZ bA) (.slice bC bE bF) w'∧Below W.heap.size W w'):=
  hid fun W v hW h=>qbv hW (qdk _ v _ _ W (aQ.out.later hW.1) h (by have:=cU.out;omega) (by have:=cU.out;omega))
 have dH:Hid (∀W v1 v2 m n,qbh w na (.slice aI aJ aK) (.slice aM aL aN) nb (.slice aY aZ bA) (.slice bC bE bF) W→qap W v1 m→qap W v2 n→0<n→wl m≤Cap→Calls Tryz.prog 78 #[v1,v2] W fun e w'=>(∃vq vr,e = .returned (.tuple #[vq,vr])∧qap w' vq (m/n)∧qap w' vr (m % n))∧qbh w na (.slice aI aJ aK) (.slice aM aL aN) nb (.slice aY aZ bA) (.slice bC bE bF) w'∧Below W.heap.size W w'):=
  hid fun W v1 v2 m n hW h1 h2 h3 h4=>qbv hW (ql2 v1 v2 m n W h1 h2 h3 h4)
 have oQ:Hid (∀W v1 v2 m n,qbh w na (.slice aI aJ aK) (.slice aM aL aN) nb (.slice aY aZ bA) (.slice bC bE bF) W→qap W v1 m→qap W v2 n→wl m≤Cap→wl n≤Cap→Calls Tryz.prog 72 #[v1,v2] W fun e w'=>(∃v',e = .returned v'∧qap w' v' (m*n))∧qbh w na (.slice aI aJ aK) (.slice aM aL aN) nb (.slice aY aZ bA) (.slice bC bE bF) w'∧Below W.heap.size W w'):=
  hid fun W v1 v2 m n hW h1 h2 h3 h4=>qbv hW (qgo v1 v2 m n W h1 h2 h3 h4)
 have gD:Hid (∀W v1 v2,qbh w na (.slice aI aJ aK) (.slice aM aL aN) nb (.slice aY aZ bA) (.slice bC bE bF) W→qap W v1 (a.num.natAbs/(a.num.natAbs.gcd b.den)*(b.num.natAbs/(b.num.natAbs.gcd a.den)))→qap W v2 (a.den/(b.num.natAbs.gcd a.den)*(b.den/(a.num.natAbs.gcd b.den)))→Calls Tryz.prog 74 #[.bool (na != nb),v1,v2] W fun e w'=>(∃v',e = .returned v'∧qaj w' v' (a*b))∧qbh w na (.slice aI aJ aK) (.slice aM aL aN) nb (.slice aY aZ bA) (.slice bC bE bF) w'∧Below W.heap.size W w'):=by
  refine hid fun W v1 v2 hW h1 h2=>qbv hW ((qez (na != nb) _ v1 v2 _ _ _ W h1 h2 fS.out rfl).mono ?_);rintro e w' ⟨⟨vb',he,n1,n2⟩,hb⟩;exact⟨⟨_,he,_,_,rfl,by rw[zP.out];exact n1,by rw[uM.out];exact n2⟩,hb⟩
 clear aP fS zP uM;go_enter Tryz.func37,Tryz.ntmps37;go_wp2_with fail;generalize ((w.alloc (.cells #[.bool na,.slice aI aJ aK,.slice aM aL aN] 74)).alloc (.cells #[.bool nb,.slice aY aZ bA,.slice bC bE bF] 74)).alloc (.cells #[.bool false,.slice none 0 0,.slice none 0 0] 74)=w0 at *;have cG:=hid aO.out.drew
 go_region_held3 (fun W=>W.cell? ⟨w.heap.size,0,none⟩=some (.bool na)∧W.cell? ⟨w.heap.size,1,none⟩=some (.slice aI aJ aK)∧W.cell? ⟨w.heap.size,2,none⟩=some (.slice aM aL aN)∧W.cell? ⟨w.heap.size+1,0,none⟩=some (.bool nb)∧W.cell? ⟨w.heap.size+1,1,none⟩=some (.slice aY aZ bA)∧W.cell? ⟨w.heap.size+1,2,none⟩=some (.slice bC bE bF)) (first|exact qam Ka.out|exact qam iW.out|exact qam cG.out)
  (first
   | (go_at_call 73;((with_reducible refine(gH.out _ cG.out).mono ?_);rintro e wX ⟨⟨vX,rfl,hn⟩,ht,hb⟩;have gS:=hid hn;have iW:=hid ht;clear hn ht hb))
   | (go_at_call 77;((refine(HGC1.out _ _ iW.out gS.out).mono ?_);rintro e wG ⟨⟨vG,rfl,hn⟩,ht,hb⟩;have HVG:=hid hn;have Ka:=hid ht;clear hn ht hb)))
 clear cG aO gS iW;have Kf:=hid Ka.out.drew;have Ri:Hid (qap wG.drew vG (a.num.natAbs.gcd b.den)):=hid (HVG.out.later ((zan _ _).drew));go_wp2_with fail
 go_region_held3 (fun W=>W.cell? ⟨w.heap.size,0,none⟩=some (.bool na)∧W.cell? ⟨w.heap.size,1,none⟩=some (.slice aI aJ aK)∧W.cell? ⟨w.heap.size,2,none⟩=some (.slice aM aL aN)∧W.cell? ⟨w.heap.size+1,0,none⟩=some (.bool nb)∧W.cell? ⟨w.heap.size+1,1,none⟩=some (.slice aY aZ bA)∧W.cell? ⟨w.heap.size+1,2,none⟩=some (.slice bC bE bF)) (first|exact qam HTH.out|exact qam oX.out|exact qam Kf.out)
  (first
   | (go_at_call 73;((with_reducible refine(gR.out _ Kf.out).mono ?_);rintro e wY ⟨⟨vY,rfl,hn⟩,ht,hb⟩;have oY:=hid hn;have oX:=hid ht;have Rj:=hid (Ri.out.later hb);clear hn ht hb))
   | (go_at_call 77;((refine(HGC2.out _ _ oX.out oY.out).mono ?_);rintro e wH ⟨⟨vH,rfl,hn⟩,ht,hb⟩;have HVH:=hid hn;have HTH:=hid ht;have Rk:=hid (Rj.out.later hb);clear hn ht hb)))
 clear Kf Ri HVG Ka oY oX Rj;obtain⟨d10,d11,d12,d20,d21,d22⟩:=qam HTH.out;go_wp2_with fail;clear d10 d11 d12 d20 d21 d22;refine(dH.out _ _ _ _ _ HTH.out (eF.out.later HTH.out.1) Rk.out Gu.out (by have:=cU.out;omega)).mono ?_;rintro e w1 ⟨⟨v1,y1,rfl,hn,_⟩,ht,hb⟩;have HP:=hid hn;have cE:=hid ht;have mM:=hid (Rk.out.later hb);have Rl:=hid (HVH.out.later hb);clear hn ht hb;obtain⟨d10,d11,d12,d20,d21,d22⟩:=qam cE.out;go_wp2_with fail;clear d10 d11 d12 d20 d21 d22;refine(dH.out _ _ _ _ _ cE.out (aQ.out.later cE.out.1) Rl.out Gv.out (by have:=cU.out;omega)).mono ?_;rintro e w2 ⟨⟨v2,y2,rfl,hn,_⟩,ht,hb⟩;have HQ:=hid hn;have dW:=hid ht;have nE:=hid (mM.out.later hb);have En:=hid (Rl.out.later hb);have uM:=hid (HP.out.later hb);clear hn ht hb;obtain⟨d10,d11,d12,d20,d21,d22⟩:=qam dW.out;go_wp2_with fail;clear d10 d11 d12 d20 d21 d22;refine(gR.out _ dW.out).mono ?_;rintro e u3 ⟨⟨x3,rfl,hn⟩,ht,hb⟩;have kT:=hid hn;have HU3:=hid ht;have HGU3:=hid (nE.out.later hb);have Rm:=hid (En.out.later hb);have HPU3:=hid (uM.out.later hb);have HQU3:=hid (HQ.out.later hb);clear hn ht hb;go_wp2_with fail;refine(dH.out _ _ _ _ _ HU3.out kT.out Rm.out Gv.out (by have:=cU.out;omega)).mono ?_;rintro e w3 ⟨⟨v3,y3,rfl,hn,_⟩,ht,hb⟩;have HR:=hid hn;have qB:=hid ht;have Kg:=hid (HGU3.out.later hb);have HH3:=hid (Rm.out.later hb);have De:=hid (HPU3.out.later hb);have HQ3:=hid (HQU3.out.later hb);clear hn ht hb;obtain⟨d10,d11,d12,d20,d21,d22⟩:=qam qB.out;go_wp2_with fail;clear d10 d11 d12 d20 d21 d22;refine(gH.out _ qB.out).mono ?_;rintro e u4 ⟨⟨x4,rfl,hn⟩,ht,hb⟩;have yL:=hid hn;have HU4:=hid ht;have Rn:=hid (Kg.out.later hb);have HHU4:=hid (HH3.out.later hb);have HPU4:=hid (De.out.later hb);have HQU4:=hid (HQ3.out.later hb);have HRU4:=hid (HR.out.later hb);clear hn ht hb;go_wp2_with fail
 refine(dH.out _ _ _ _ _ HU4.out yL.out Rn.out Gu.out (by have:=cU.out;omega)).mono ?_;rintro e w4 ⟨⟨v4,y4,rfl,hn,_⟩,ht,hb⟩;have HS:=hid hn;have El:=hid ht;have HG4:=hid (Rn.out.later hb);have HH4:=hid (HHU4.out.later hb);have xJ:=hid (HPU4.out.later hb);have HQ4:=hid (HQU4.out.later hb);have tP:=hid (HRU4.out.later hb);clear hn ht hb;have hJ:Hid (∀W,qbh w na (.slice aI aJ aK) (.slice aM aL aN) nb (.slice aY aZ bA) (.slice bC bE bF) W→Below w4.heap.size w4 W→Calls Tryz.prog 72 #[v1,v2] W fun e w'=>(∃v',e = .returned v'∧qap w' v' (a.num.natAbs/(a.num.natAbs.gcd b.den)*(b.num.natAbs/(b.num.natAbs.gcd a.den))))∧qbh w na (.slice aI aJ aK) (.slice aM aL aN) nb (.slice aY aZ bA) (.slice bC bE bF) w'∧Below w4.heap.size w4 w'∧Below W.heap.size W w'):=hid fun W hW hB=>(oQ.out W _ _ _ _ hW (xJ.out.later hB) (HQ4.out.later hB) (Nat.le_trans (qde (Nat.div_le_self _ _)) (by have:=cU.out;omega)) (Nat.le_trans (qde (Nat.div_le_self _ _)) (by have:=cU.out;omega))).mono fun _ _ ⟨h1,h2,h3⟩=>⟨h1,h2,hB.trans (h3.mono hB.size),h3⟩;have fE:Hid (∀W,qbh w na (.slice aI aJ aK) (.slice aM aL aN) nb (.slice aY aZ bA) (.slice bC bE bF) W→Below w4.heap.size w4 W→Calls Tryz.prog 72 #[v3,v4] W fun e w'=>(∃v',e = .returned v'∧qap w' v' (a.den/(b.num.natAbs.gcd a.den)*(b.den/(a.num.natAbs.gcd b.den))))∧qbh w na (.slice aI aJ aK) (.slice aM aL aN) nb (.slice aY aZ bA) (.slice bC bE bF) w'∧Below w4.heap.size w4 w'∧Below W.heap.size W w'):=hid fun W hW hB=>(oQ.out W _ _ _ _ hW (tP.out.later hB) (HS.out.later hB) (Nat.le_trans (qde (Nat.div_le_self _ _)) (by have:=cU.out;omega)) (Nat.le_trans (qde (Nat.div_le_self _ _)) (by have:=cU.out;omega))).mono fun _ _ ⟨h1,h2,h3⟩=>⟨h1,h2,hB.trans (h3.mono hB.size),h3⟩;have uL:=hid El.out.drew;have Re:Hid (Below w4.heap.size w4 w4.drew):=hid ((zan _ _).drew)
 go_wp2_with fail
 go_region_held3 (fun W=>W.cell? ⟨w.heap.size,0,none⟩=some (.bool na)∧W.cell? ⟨w.heap.size,1,none⟩=some (.slice aI aJ aK)∧W.cell? ⟨w.heap.size,2,none⟩=some (.slice aM aL aN)∧W.cell? ⟨w.heap.size+1,0,none⟩=some (.bool nb)∧W.cell? ⟨w.heap.size+1,1,none⟩=some (.slice aY aZ bA)∧W.cell? ⟨w.heap.size+1,2,none⟩=some (.slice bC bE bF)) (first|exact qam dN.out|exact qam rM.out|exact qam gT.out|exact qam uL.out|exact qhu (qhu (qhu (qam dN.out) (by omega) (by omega) _) (by omega) (by omega) _) (by omega) (by omega) _)
  (first
   | (go_at_call 72;first
     | ((with_reducible refine(hJ.out _ ?qa ?qc).mono ?_);(case qa=>first|exact gT.out|exact uL.out);(case qc=>first|exact HBM.out|exact Re.out);rintro e wL ⟨⟨vL,rfl,hn⟩,ht,qC,hb⟩;have jO:=hid hn;have rM:=hid ht;have HBL0:=hid hb;have dV:=hid qC;clear hn ht hb qC)
     | ((with_reducible refine(fE.out _ ?qb ?qd).mono ?_);(case qb=>first|exact rM.out|exact uL.out);(case qd=>first|exact dV.out|exact Re.out);rintro e wM ⟨⟨vM,rfl,hn⟩,ht,qC,hb⟩;have Gw:=hid hn;have gT:=hid ht;have HBM0:=hid hb;have HBM:=hid qC;clear hn ht hb qC))
   | (go_at_call 74;((first|refine(gD.out _ _ _ gT.out (jO.out.later HBM0.out) Gw.out).mono ?_|refine(gD.out _ _ _ rM.out jO.out (Gw.out.later HBL0.out)).mono ?_);rintro e wZ ⟨⟨vZ,rfl,hn⟩,ht,hb⟩;have Dd:=hid hn;have dN:=hid ht;obtain⟨pt,kt,ct,pf,kf,cf,rfl,eR,dZ⟩:=hn.parts;clear hn ht hb eR dZ;generalize decide ((a*b).num<0)=sg at *;obtain⟨⟨r0,g0⟩,⟨r1,g1⟩,⟨r2,g2⟩⟩:=qj8 dN.out)))
 have aG:=hid (qbc Dd.out r0 r1 r2);have aH:=hid (qai dN.out.1 (show w.heap.size≤w.heap.size+1+1 by omega) (.bool sg) (.slice pt kt ct) (.slice pf kf cf));go_wp2_with fail;refine bodyPost_ret (v := .agg #[.bool sg,.slice pt kt ct,.slice pf kf cf]) ?_ rfl ?_
 ·simp[results,Tryz.results37,go_sem,r0,r1,r2]
 ·exact⟨⟨_,rfl,aG.out⟩,aH.out⟩
end Go.Proofs.YtclimablgihlhaaGreatDoor
