/- Negated and Minus. -/
import Derived.Test.YthjagoogkkgelaaGreatDoorMPlus
set_option linter.all false
namespace Go.Proofs.YthjagoogkkgelaaGreatDoor
open Go.RowKit
set_option maxRecDepth 100000
set_option maxHeartbeats 2000000
def qhg(w:World)(na:Bool)(ta ba:Value)(W:World):Prop:=
 Below w.heap.size w W∧Own W w.heap.size 3 (qcm na ta ba)∧Own W (w.heap.size+1) 3 (qcm false (.slice none 0 0) (.slice none 0 0))
theorem qhg.later{w:World}{na:Bool}{ta ba:Value}{W W':World}(h:qhg w na ta ba W)(hb:Below W.heap.size W W'):qhg w na ta ba W':=by
 obtain⟨h1,h2,h3⟩:=h;have:=h3.1;exact⟨h1.trans (hb.mono h1.size),h2.later (hb.mono (by omega)),h3.later (hb.mono (by omega))⟩
theorem qq5(V:World)(n:Bool)(t b:Value):Own (V.alloc (.cells #[.bool n,t,b] 80)) V.heap.size 3 (qcm n t b):=by
 refine⟨by rw[World.size_alloc];omega,fun i hi => ?_⟩;rw[World.cell?_alloc_at _ _ _ _ rfl,World.frozen?_alloc_at _ _ _ _ rfl]
 match i,hi with
 | 0,_=>exact⟨rfl,rfl⟩
 | 1,_=>exact⟨rfl,rfl⟩
 | 2,_=>exact⟨rfl,rfl⟩
theorem qo5(w:World)(na:Bool)(ta ba:Value):
  qhg w na ta ba ((w.alloc (.cells #[.bool na,ta,ba] 80)).alloc (.cells #[.bool false,.slice none 0 0,.slice none 0 0] 80)):=by
 have h1:=qq5 w na ta ba;have h2:=qq5 (w.alloc (.cells #[.bool na,ta,ba] 80)) false (.slice none 0 0) (.slice none 0 0);simp only[World.size_alloc] at h2;have al:∀(V:World) (o:Obj),Below V.heap.size V (V.alloc o):=fun V o=>(Below.refl _ _).alloc (Nat.le_refl _) _;exact⟨(al w _).trans ((al _ _).mono (by rw[World.size_alloc];omega)),h1.later ((al _ _).mono (by rw[World.size_alloc];omega)),h2⟩
theorem qze(a:Rat):decide ((-a).num<0)=(!decide (a.num<0)&&decide (0<a.num.natAbs)):=by
 rw[Rat.neg_num];by_cases h:a.num<0
 ·rw[decide_eq_true h,decide_eq_false (by omega)];rfl
 ·rw[decide_eq_false h]
  by_cases h0:a.num=0
  ·rw[h0];rfl
  ·rw[decide_eq_true (by omega),decide_eq_true (by omega)];rfl
theorem qvw(v:Value)(a:Rat)(w:World)(ha:qaj w v a):
  Calls Tryz.prog 160 #[v] w fun e w'=>(∃v',e = .returned v'∧qaj w' v' (-a))∧Below w.heap.size w w':=by
 obtain⟨ta,ba,rfl,ha1,ha2⟩:=ha;obtain⟨pa1,ka1,ca1,rfl,hx⟩:=qas ha1;clear hx;obtain⟨pa2,ka2,ca2,rfl,hx⟩:=qas ha2;clear hx;have HA1:=hid ha1;have HA2:=hid ha2;have HSG:=hid (qze a);generalize decide (a.num<0)=na at *;have HW0:=hid (qo5 w na (.slice pa1 ka1 ca1) (.slice pa2 ka2 ca2))
 have HNUM:Hid (∀W,qhg w na (.slice pa1 ka1 ca1) (.slice pa2 ka2 ca2) W→Calls Tryz.prog 77 #[.bool (!na),.slice pa1 ka1 ca1,.slice pa2 ka2 ca2] W fun e w'=>(∃vb',e = .returned (.agg #[.bool (decide ((-a).num<0)),.slice pa1 ka1 ca1,vb'])∧qaq w' (.slice pa1 ka1 ca1) a.num.natAbs∧qaq w' vb' (if a.den=1 then 0 else a.den))∧Below W.heap.size W w'):=
  hid fun W hW=>qfa (!na) _ _ _ _ _ _ W (HA1.out.later hW.1) (HA2.out.later hW.1) HSG.out (by split<;>simp_all)
 clear ha1 ha2;go_enter Tryz.func160,Tryz.ntmps160;go_wp2_with fail;refine(HNUM.out _ HW0.out).mono ?_;rintro e w1 ⟨⟨vF,rfl,hn1,hn2⟩,hb⟩;have HT1:=hid (HW0.out.later hb);have HF1:=hid hn1;have HF2:=hid hn2;clear hn1 hn2 hb;obtain⟨pf,kf,cf,rfl,hx⟩:=qas HF2.out;clear hx;obtain⟨r0,g0⟩:w1.cell? ⟨w.heap.size+1,0,none⟩=_∧w1.frozen? ⟨w.heap.size+1,0,none⟩=false:=HT1.out.2.2.2 0 (by omega);obtain⟨r1,g1⟩:w1.cell? ⟨w.heap.size+1,1,none⟩=_∧w1.frozen? ⟨w.heap.size+1,1,none⟩=false:=HT1.out.2.2.2 1 (by omega);obtain⟨r2,g2⟩:w1.cell? ⟨w.heap.size+1,2,none⟩=_∧w1.frozen? ⟨w.heap.size+1,2,none⟩=false:=HT1.out.2.2.2 2 (by omega);simp only[qcm] at r0 r1 r2
 have HFIN:Hid (∀W,Below w.heap.size w1 W→(∀v n,qaq w1 v n→qaq W v n)→qaj W (.agg #[.bool (decide ((-a).num<0)),.slice pa1 ka1 ca1,.slice pf kf cf]) (-a)):=by
  refine hid fun W _ hN=>⟨_,_,rfl, ?_, ?_⟩
  ·rw[Rat.neg_num,Int.natAbs_neg];exact hN _ _ HF1.out
  ·rw[Rat.neg_den];exact hN _ _ HF2.out
 generalize decide ((-a).num<0)=sg at *;go_wp2_with fail;refine bodyPost_ret (v := .agg #[.bool sg,.slice pa1 ka1 ca1,.slice pf kf cf]) ?_ rfl ?_
 ·simp[results,Tryz.results160,go_sem,r0,r1,r2]
 ·have hb:Below w.heap.size w1 (((w1.setCell ⟨w.heap.size+1,0,none⟩ (.bool sg)).setCell ⟨w.heap.size+1,1,none⟩ (.slice pa1 ka1 ca1)).setCell ⟨w.heap.size+1,2,none⟩ (.slice pf kf cf)):=
   (((Below.refl _ _).setCell (by show w.heap.size≤w.heap.size+1;omega) _).setCell (by show w.heap.size≤w.heap.size+1;omega) _).setCell (by show w.heap.size≤w.heap.size+1;omega) _
  refine⟨⟨_,rfl,HFIN.out _ hb ?_⟩,HT1.out.1.trans hb⟩;intro v n hN;refine((hN.setOther r0 (by intro k z h;cases h)).setOther (u := .slice none 0 0) ?_ (by intro k z h;cases h)).setOther (u := .slice none 0 0) ?_ (by intro k z h;cases h)
  ·rw[World.cell?_setCell_other _ _ _ _ (by intro h;injection h with _ h;cases h)];exact r1
  ·rw[World.cell?_setCell_other _ _ _ _ (by intro h;injection h with _ h;cases h),World.cell?_setCell_other _ _ _ _ (by intro h;injection h with _ h;cases h)];exact r2
theorem qaj.parts{w:World}{v:Value}{q:Rat}(h:qaj w v q):∃(pt:Option Addr) (kt ct:Nat) (pf:Option Addr) (kf cf:Nat),
  v = .agg #[.bool (decide (q.num<0)),.slice pt kt ct,.slice pf kf cf]∧qaq w (.slice pt kt ct) q.num.natAbs∧qaq w (.slice pf kf cf) (if q.den=1 then 0 else q.den):=by
 obtain⟨t,b,rfl,h1,h2⟩:=h;obtain⟨pt,kt,ct,rfl,_⟩:=qas h1;obtain⟨pf,kf,cf,rfl,_⟩:=qas h2;exact⟨pt,kt,ct,pf,kf,cf,rfl,h1,h2⟩
theorem qku{w W:World}{na nb:Bool}{ta ba tb bb:Value}(h:qbh w na ta ba nb tb bb W):
  (W.cell? ⟨w.heap.size+1+1,0,none⟩=some (.bool false)∧W.frozen? ⟨w.heap.size+1+1,0,none⟩=false)∧
  (W.cell? ⟨w.heap.size+1+1,1,none⟩=some (.slice none 0 0)∧W.frozen? ⟨w.heap.size+1+1,1,none⟩=false)∧
  (W.cell? ⟨w.heap.size+1+1,2,none⟩=some (.slice none 0 0)∧W.frozen? ⟨w.heap.size+1+1,2,none⟩=false):=
 ⟨h.2.2.2.2 0 (by omega),h.2.2.2.2 1 (by omega),h.2.2.2.2 2 (by omega)⟩
theorem qib{W:World}{g1 g2:Nat}{c0 c1 c2 c3 c4 c5:Option Value}(h:W.cell? ⟨g1,0,none⟩=c0∧W.cell? ⟨g1,1,none⟩=c1∧W.cell? ⟨g1,2,none⟩=c2∧W.cell? ⟨g2,0,none⟩=c3∧W.cell? ⟨g2,1,none⟩=c4∧W.cell? ⟨g2,2,none⟩=c5){g o:Nat}(h1:g≠g1)(h2:g≠g2)(x:Value):
  (W.setCell ⟨g,o,none⟩ x).cell? ⟨g1,0,none⟩=c0∧(W.setCell ⟨g,o,none⟩ x).cell? ⟨g1,1,none⟩=c1∧(W.setCell ⟨g,o,none⟩ x).cell? ⟨g1,2,none⟩=c2∧(W.setCell ⟨g,o,none⟩ x).cell? ⟨g2,0,none⟩=c3∧(W.setCell ⟨g,o,none⟩ x).cell? ⟨g2,1,none⟩=c4∧(W.setCell ⟨g,o,none⟩ x).cell? ⟨g2,2,none⟩=c5:=by
 have k:∀(a i:Nat),g≠a→(W.setCell ⟨g,o,none⟩ x).cell? ⟨a,i,none⟩=W.cell? ⟨a,i,none⟩:=fun a i h=>World.cell?_setCell_other _ _ _ _ (by intro e;injection e with e;exact h e);rw[k _ _ h1,k _ _ h1,k _ _ h1,k _ _ h2,k _ _ h2,k _ _ h2];exact h
theorem qbd{W:World}{g:Nat}{sg:Bool}{t b:Value}{q:Rat}(h:qaj W (.agg #[.bool sg,t,b]) q)(r0:W.cell? ⟨g,0,none⟩=some (.bool false))(r1:W.cell? ⟨g,1,none⟩=some (.slice none 0 0))(r2:W.cell? ⟨g,2,none⟩=some (.slice none 0 0)):
  qaj (((W.setCell ⟨g,0,none⟩ (.bool sg)).setCell ⟨g,1,none⟩ t).setCell ⟨g,2,none⟩ b) (.agg #[.bool sg,t,b]) q:=by
 have key:∀v n,qaq W v n→qaq (((W.setCell ⟨g,0,none⟩ (.bool sg)).setCell ⟨g,1,none⟩ t).setCell ⟨g,2,none⟩ b) v n:=by
  intro v n hN;refine((hN.setOther r0 (by intro k z h;cases h)).setOther (u := .slice none 0 0) ?_ (by intro k z h;cases h)).setOther (u := .slice none 0 0) ?_ (by intro k z h;cases h)
  ·rw[World.cell?_setCell_other _ _ _ _ (by intro h;injection h with _ h;cases h)];exact r1
  ·rw[World.cell?_setCell_other _ _ _ _ (by intro h;injection h with _ h;cases h),World.cell?_setCell_other _ _ _ _ (by intro h;injection h with _ h;cases h)];exact r2
 obtain⟨t',b',e,h1,h2⟩:=h;exact⟨t',b',e,key _ _ h1,key _ _ h2⟩
theorem qai{w W:World}{g:Nat}(h:Below w.heap.size w W)(hg:w.heap.size≤g)(x y z:Value):
  Below w.heap.size w (((W.setCell ⟨g,0,none⟩ x).setCell ⟨g,1,none⟩ y).setCell ⟨g,2,none⟩ z):=
 ((h.setCell hg _).setCell hg _).setCell hg _
theorem zat(q:Rat):rs (-q)=rs q:=by unfold rs;rw[Rat.neg_num,Int.natAbs_neg,Rat.neg_den]
theorem qtj(va vb:Value)(a b:Rat)(w:World)(ha:qaj w va a)(hb:qaj w vb b)(hcap:rs a+rs b+2≤Cap):
  Calls Tryz.prog 102 #[va,vb] w fun e w'=>(∃v',e = .returned v'∧qaj w' v' (a-b))∧Below w.heap.size w w':=by
 have HA:=hid ha;have HB:=hid hb;obtain⟨pa1,ka1,ca1,pa2,ka2,ca2,rfl,ha1,ha2⟩:=ha.parts;obtain⟨pb1,kb1,cb1,pb2,kb2,cb2,rfl,hb1,hb2⟩:=hb.parts;clear ha hb ha1 ha2 hb1 hb2;generalize decide (a.num<0)=na at *;generalize decide (b.num<0)=nb at *;have HW0:=hid (qhq w na (.slice pa1 ka1 ca1) (.slice pa2 ka2 ca2) nb (.slice pb1 kb1 cb1) (.slice pb2 kb2 cb2))
 have HNG:Hid (∀W,qbh w na (.slice pa1 ka1 ca1) (.slice pa2 ka2 ca2) nb (.slice pb1 kb1 cb1) (.slice pb2 kb2 cb2) W→Calls Tryz.prog 160 #[.agg #[.bool nb,.slice pb1 kb1 cb1,.slice pb2 kb2 cb2]] W fun e w'=>(∃v',e = .returned v'∧qaj w' v' (-b))∧qbh w na (.slice pa1 ka1 ca1) (.slice pa2 ka2 ca2) nb (.slice pb1 kb1 cb1) (.slice pb2 kb2 cb2) w'∧Below W.heap.size W w'):=
  hid fun W hW=>qbv hW (qvw _ b W (HB.out.later hW.1))
 have HPL:Hid (∀W v,qbh w na (.slice pa1 ka1 ca1) (.slice pa2 ka2 ca2) nb (.slice pb1 kb1 cb1) (.slice pb2 kb2 cb2) W→qaj W v (-b)→Calls Tryz.prog 79 #[.agg #[.bool na,.slice pa1 ka1 ca1,.slice pa2 ka2 ca2],v] W fun e w'=>(∃v',e = .returned v'∧qaj w' v' (a-b))∧qbh w na (.slice pa1 ka1 ca1) (.slice pa2 ka2 ca2) nb (.slice pb1 kb1 cb1) (.slice pb2 kb2 cb2) w'∧Below W.heap.size W w'):=
  hid fun W v hW hv=>qbv hW (by rw[Rat.sub_eq_add_neg];exact qia _ v a (-b) W (HA.out.later hW.1) hv (by rw[zat];exact hcap))
 clear hcap;go_enter Tryz.func102,Tryz.ntmps102;go_wp2_with fail;generalize ((w.alloc (.cells #[.bool na,.slice pa1 ka1 ca1,.slice pa2 ka2 ca2] 80)).alloc (.cells #[.bool nb,.slice pb1 kb1 cb1,.slice pb2 kb2 cb2] 80)).alloc (.cells #[.bool false,.slice none 0 0,.slice none 0 0] 80)=w0 at *;have HT0:=hid HW0.out.drew
 go_region_held3 (fun W=>W.cell? ⟨w.heap.size,0,none⟩=some (.bool na)∧W.cell? ⟨w.heap.size,1,none⟩=some (.slice pa1 ka1 ca1)∧W.cell? ⟨w.heap.size,2,none⟩=some (.slice pa2 ka2 ca2)∧W.cell? ⟨w.heap.size+1,0,none⟩=some (.bool nb)∧W.cell? ⟨w.heap.size+1,1,none⟩=some (.slice pb1 kb1 cb1)∧W.cell? ⟨w.heap.size+1,2,none⟩=some (.slice pb2 kb2 cb2)) (first|exact qan HTP.out|exact qan HTN.out|exact qan HT0.out|exact qib (qib (qib (qan HTP.out) (by omega) (by omega) _) (by omega) (by omega) _) (by omega) (by omega) _)
  (first
   | (go_at_call 160;((with_reducible refine(HNG.out _ HT0.out).mono ?_);rintro e wN ⟨⟨vN,rfl,hn⟩,ht,hb⟩;have HVN:=hid hn;have HTN:=hid ht;clear hn ht hb))
   | (go_at_call 79;((refine(HPL.out _ _ HTN.out HVN.out).mono ?_);rintro e wP ⟨⟨vP,rfl,hn⟩,ht,hb⟩;have HVP:=hid hn;have HTP:=hid ht;obtain⟨pt,kt,ct,pf,kf,cf,rfl,hp1,hp2⟩:=hn.parts;have HF1:=hid hp1;have HF2:=hid hp2;clear hn ht hb hp1 hp2;generalize hsg:decide ((a-b).num<0)=sg at *;have HSG:=hid hsg;clear hsg;obtain⟨⟨r0,g0⟩,⟨r1,g1⟩,⟨r2,g2⟩⟩:=qku HTP.out)))
 have HFIN:=hid (qbd HVP.out r0 r1 r2);have HBEL:=hid (qai HTP.out.1 (show w.heap.size≤w.heap.size+1+1 by omega) (.bool sg) (.slice pt kt ct) (.slice pf kf cf));go_wp2_with fail;refine bodyPost_ret (v := .agg #[.bool sg,.slice pt kt ct,.slice pf kf cf]) ?_ rfl ?_
 ·simp[results,Tryz.results102,go_sem,r0,r1,r2]
 ·exact⟨⟨_,rfl,HFIN.out⟩,HBEL.out⟩
theorem qd3(va vb:Value)(a b:Rat)(w:World)(ha:qaj w va a)(hb:qaj w vb b)(hcap:rs a+rs b≤Cap):
  Calls Tryz.prog 40 #[va,vb] w fun e w'=>(∃v',e = .returned v'∧qaj w' v' (a*b))∧Below w.heap.size w w':=by
 have HA:=hid ha;have HB:=hid hb;obtain⟨pa1,ka1,ca1,pa2,ka2,ca2,rfl,ha1,ha2⟩:=ha.parts;obtain⟨pb1,kb1,cb1,pb2,kb2,cb2,rfl,hb1,hb2⟩:=hb.parts;have HA1:=hid ha1;have HB1:=hid hb1
 have HSG:Hid (decide ((a*b).num<0)=((decide (a.num<0) != decide (b.num<0))&&decide (0<a.num.natAbs/(a.num.natAbs.gcd b.den)*(b.num.natAbs/(b.num.natAbs.gcd a.den))))):=by
  refine hid ?_;have h:=(qko a b _ _ rfl rfl).2.2;rw[Bool.eq_iff_iff,decide_eq_true_iff,h,Bool.and_eq_true,decide_eq_true_iff,Nat.pos_iff_ne_zero]
 have HP1:=hid (qko a b _ _ rfl rfl).1;have HP2:=hid (qko a b _ _ rfl rfl).2.1;have HRS:Hid (wl a.num.natAbs+wl a.den+(wl b.num.natAbs+wl b.den)≤Cap):=hid hcap;clear ha hb ha1 ha2 hb1 hb2;generalize decide (a.num<0)=na at *;generalize decide (b.num<0)=nb at *;have HW0:=hid (qhq w na (.slice pa1 ka1 ca1) (.slice pa2 ka2 ca2) nb (.slice pb1 kb1 cb1) (.slice pb2 kb2 cb2));have HPOS1:Hid (0<(a.num.natAbs.gcd b.den)):=hid (Nat.gcd_pos_of_pos_right _ b.den_pos);have HPOS2:Hid (0<(b.num.natAbs.gcd a.den)):=hid (Nat.gcd_pos_of_pos_right _ a.den_pos);have HDA:Hid (∀W,qbh w na (.slice pa1 ka1 ca1) (.slice pa2 ka2 ca2) nb (.slice pb1 kb1 cb1) (.slice pb2 kb2 cb2) W→Calls Tryz.prog 76 #[.agg #[.bool na,.slice pa1 ka1 ca1,.slice pa2 ka2 ca2]] W fun e w'=>(∃v',e = .returned v'∧qaq w' v' a.den)∧qbh w na (.slice pa1 ka1 ca1) (.slice pa2 ka2 ca2) nb (.slice pb1 kb1 cb1) (.slice pb2 kb2 cb2) w'∧Below W.heap.size W w'):=hid fun W hW=>qbv hW (qbx _ a W (HA.out.later hW.1));have HDB:Hid (∀W,qbh w na (.slice pa1 ka1 ca1) (.slice pa2 ka2 ca2) nb (.slice pb1 kb1 cb1) (.slice pb2 kb2 cb2) W→Calls Tryz.prog 76 #[.agg #[.bool nb,.slice pb1 kb1 cb1,.slice pb2 kb2 cb2]] W fun e w'=>(∃v',e = .returned v'∧qaq w' v' b.den)∧qbh w na (.slice pa1 ka1 ca1) (.slice pa2 ka2 ca2) nb (.slice pb1 kb1 cb1) (.slice pb2 kb2 cb2) w'∧Below W.heap.size W w'):=hid fun W hW=>qbv hW (qbx _ b W (HB.out.later hW.1))
 have HGC1:Hid (∀W v,qbh w na (.slice pa1 ka1 ca1) (.slice pa2 ka2 ca2) nb (.slice pb1 kb1 cb1) (.slice pb2 kb2 cb2) W→qaq W v b.den→Calls Tryz.prog 80 #[.slice pa1 ka1 ca1,v] W fun e w'=>(∃v',e = .returned v'∧qaq w' v' (a.num.natAbs.gcd b.den))∧qbh w na (.slice pa1 ka1 ca1) (.slice pa2 ka2 ca2) nb (.slice pb1 kb1 cb1) (.slice pb2 kb2 cb2) w'∧Below W.heap.size W w'):=
  hid fun W v hW h=>qbv hW (qdp _ v _ _ W (HA1.out.later hW.1) h (by have:=HRS.out;omega) (by have:=HRS.out;omega))
 have HGC2:Hid (∀W v,qbh w na (.slice pa1 ka1 ca1) (.slice pa2 ka2 ca2) nb (.slice pb1 kb1 cb1) (.slice pb2 kb2 cb2) W→qaq W v a.den→Calls Tryz.prog 80 #[.slice pb1 kb1 cb1,v] W fun e w'=>(∃v',e = .returned v'∧qaq w' v' (b.num.natAbs.gcd a.den))∧qbh w na (.slice pa1 ka1 ca1) (.slice pa2 ka2 ca2) nb (.slice pb1 kb1 cb1) (.slice pb2 kb2 cb2) w'∧Below W.heap.size W w'):=
  hid fun W v hW h=>qbv hW (qdp _ v _ _ W (HB1.out.later hW.1) h (by have:=HRS.out;omega) (by have:=HRS.out;omega))
 have HDIV:Hid (∀W v1 v2 m n,qbh w na (.slice pa1 ka1 ca1) (.slice pa2 ka2 ca2) nb (.slice pb1 kb1 cb1) (.slice pb2 kb2 cb2) W→qaq W v1 m→qaq W v2 n→0<n→wl m≤Cap→Calls Tryz.prog 81 #[v1,v2] W fun e w'=>(∃vq vr,e = .returned (.tuple #[vq,vr])∧qaq w' vq (m/n)∧qaq w' vr (m % n))∧qbh w na (.slice pa1 ka1 ca1) (.slice pa2 ka2 ca2) nb (.slice pb1 kb1 cb1) (.slice pb2 kb2 cb2) w'∧Below W.heap.size W w'):=
  hid fun W v1 v2 m n hW h1 h2 h3 h4=>qbv hW (qmt v1 v2 m n W h1 h2 h3 h4)
 have HMUL:Hid (∀W v1 v2 m n,qbh w na (.slice pa1 ka1 ca1) (.slice pa2 ka2 ca2) nb (.slice pb1 kb1 cb1) (.slice pb2 kb2 cb2) W→qaq W v1 m→qaq W v2 n→wl m≤Cap→wl n≤Cap→Calls Tryz.prog 75 #[v1,v2] W fun e w'=>(∃v',e = .returned v'∧qaq w' v' (m*n))∧qbh w na (.slice pa1 ka1 ca1) (.slice pa2 ka2 ca2) nb (.slice pb1 kb1 cb1) (.slice pb2 kb2 cb2) w'∧Below W.heap.size W w'):=
  hid fun W v1 v2 m n hW h1 h2 h3 h4=>qbv hW (qg4 v1 v2 m n W h1 h2 h3 h4)
 have HNUM:Hid (∀W v1 v2,qbh w na (.slice pa1 ka1 ca1) (.slice pa2 ka2 ca2) nb (.slice pb1 kb1 cb1) (.slice pb2 kb2 cb2) W→qaq W v1 (a.num.natAbs/(a.num.natAbs.gcd b.den)*(b.num.natAbs/(b.num.natAbs.gcd a.den)))→qaq W v2 (a.den/(b.num.natAbs.gcd a.den)*(b.den/(a.num.natAbs.gcd b.den)))→Calls Tryz.prog 77 #[.bool (na != nb),v1,v2] W fun e w'=>(∃v',e = .returned v'∧qaj w' v' (a*b))∧qbh w na (.slice pa1 ka1 ca1) (.slice pa2 ka2 ca2) nb (.slice pb1 kb1 cb1) (.slice pb2 kb2 cb2) w'∧Below W.heap.size W w'):=by
  refine hid fun W v1 v2 hW h1 h2=>qbv hW ((qfa (na != nb) _ v1 v2 _ _ _ W h1 h2 HSG.out rfl).mono ?_);rintro e w' ⟨⟨vb',he,n1,n2⟩,hb⟩;exact⟨⟨_,he,_,_,rfl,by rw[HP1.out];exact n1,by rw[HP2.out];exact n2⟩,hb⟩
 clear hcap HSG HP1 HP2;go_enter Tryz.func40,Tryz.ntmps40;go_wp2_with fail;generalize ((w.alloc (.cells #[.bool na,.slice pa1 ka1 ca1,.slice pa2 ka2 ca2] 80)).alloc (.cells #[.bool nb,.slice pb1 kb1 cb1,.slice pb2 kb2 cb2] 80)).alloc (.cells #[.bool false,.slice none 0 0,.slice none 0 0] 80)=w0 at *;have HT0:=hid HW0.out.drew
 go_region_held3 (fun W=>W.cell? ⟨w.heap.size,0,none⟩=some (.bool na)∧W.cell? ⟨w.heap.size,1,none⟩=some (.slice pa1 ka1 ca1)∧W.cell? ⟨w.heap.size,2,none⟩=some (.slice pa2 ka2 ca2)∧W.cell? ⟨w.heap.size+1,0,none⟩=some (.bool nb)∧W.cell? ⟨w.heap.size+1,1,none⟩=some (.slice pb1 kb1 cb1)∧W.cell? ⟨w.heap.size+1,2,none⟩=some (.slice pb2 kb2 cb2)) (first|exact qan HTG.out|exact qan HTX.out|exact qan HT0.out)
  (first
   | (go_at_call 76;((with_reducible refine(HDB.out _ HT0.out).mono ?_);rintro e wX ⟨⟨vX,rfl,hn⟩,ht,hb⟩;have HVX:=hid hn;have HTX:=hid ht;clear hn ht hb))
   | (go_at_call 80;((refine(HGC1.out _ _ HTX.out HVX.out).mono ?_);rintro e wG ⟨⟨vG,rfl,hn⟩,ht,hb⟩;have HVG:=hid hn;have HTG:=hid ht;clear hn ht hb)))
 clear HT0 HW0 HVX HTX;have HTGD:=hid HTG.out.drew;have HVGD:Hid (qaq wG.drew vG (a.num.natAbs.gcd b.den)):=hid (HVG.out.later ((Below.refl _ _).drew));go_wp2_with fail
 go_region_held3 (fun W=>W.cell? ⟨w.heap.size,0,none⟩=some (.bool na)∧W.cell? ⟨w.heap.size,1,none⟩=some (.slice pa1 ka1 ca1)∧W.cell? ⟨w.heap.size,2,none⟩=some (.slice pa2 ka2 ca2)∧W.cell? ⟨w.heap.size+1,0,none⟩=some (.bool nb)∧W.cell? ⟨w.heap.size+1,1,none⟩=some (.slice pb1 kb1 cb1)∧W.cell? ⟨w.heap.size+1,2,none⟩=some (.slice pb2 kb2 cb2)) (first|exact qan HTH.out|exact qan HTY.out|exact qan HTGD.out)
  (first
   | (go_at_call 76;((with_reducible refine(HDA.out _ HTGD.out).mono ?_);rintro e wY ⟨⟨vY,rfl,hn⟩,ht,hb⟩;have HVY:=hid hn;have HTY:=hid ht;have HVGY:=hid (HVGD.out.later hb);clear hn ht hb))
   | (go_at_call 80;((refine(HGC2.out _ _ HTY.out HVY.out).mono ?_);rintro e wH ⟨⟨vH,rfl,hn⟩,ht,hb⟩;have HVH:=hid hn;have HTH:=hid ht;have HVGH:=hid (HVGY.out.later hb);clear hn ht hb)))
 clear HTGD HVGD HVG HTG HVY HTY HVGY;obtain⟨d10,d11,d12,d20,d21,d22⟩:=qan HTH.out;go_wp2_with fail;clear d10 d11 d12 d20 d21 d22;refine(HDIV.out _ _ _ _ _ HTH.out (HA1.out.later HTH.out.1) HVGH.out HPOS1.out (by have:=HRS.out;omega)).mono ?_;rintro e w1 ⟨⟨v1,y1,rfl,hn,_⟩,ht,hb⟩;have HP:=hid hn;have HT1:=hid ht;have HG1:=hid (HVGH.out.later hb);have HH1:=hid (HVH.out.later hb);clear hn ht hb;obtain⟨d10,d11,d12,d20,d21,d22⟩:=qan HT1.out;go_wp2_with fail;clear d10 d11 d12 d20 d21 d22;refine(HDIV.out _ _ _ _ _ HT1.out (HB1.out.later HT1.out.1) HH1.out HPOS2.out (by have:=HRS.out;omega)).mono ?_;rintro e w2 ⟨⟨v2,y2,rfl,hn,_⟩,ht,hb⟩;have HQ:=hid hn;have HT2:=hid ht;have HG2:=hid (HG1.out.later hb);have HH2:=hid (HH1.out.later hb);have HP2:=hid (HP.out.later hb);clear hn ht hb;obtain⟨d10,d11,d12,d20,d21,d22⟩:=qan HT2.out;go_wp2_with fail;clear d10 d11 d12 d20 d21 d22;refine(HDA.out _ HT2.out).mono ?_;rintro e u3 ⟨⟨x3,rfl,hn⟩,ht,hb⟩;have HX3:=hid hn;have HU3:=hid ht;have HGU3:=hid (HG2.out.later hb);have HHU3:=hid (HH2.out.later hb);have HPU3:=hid (HP2.out.later hb);have HQU3:=hid (HQ.out.later hb);clear hn ht hb;go_wp2_with fail;refine(HDIV.out _ _ _ _ _ HU3.out HX3.out HHU3.out HPOS2.out (by have:=HRS.out;omega)).mono ?_;rintro e w3 ⟨⟨v3,y3,rfl,hn,_⟩,ht,hb⟩;have HR:=hid hn;have HT3:=hid ht;have HG3:=hid (HGU3.out.later hb);have HH3:=hid (HHU3.out.later hb);have HP3:=hid (HPU3.out.later hb);have HQ3:=hid (HQU3.out.later hb);clear hn ht hb;obtain⟨d10,d11,d12,d20,d21,d22⟩:=qan HT3.out;go_wp2_with fail;clear d10 d11 d12 d20 d21 d22;refine(HDB.out _ HT3.out).mono ?_;rintro e u4 ⟨⟨x4,rfl,hn⟩,ht,hb⟩;have HX4:=hid hn;have HU4:=hid ht;have HGU4:=hid (HG3.out.later hb);have HHU4:=hid (HH3.out.later hb);have HPU4:=hid (HP3.out.later hb);have HQU4:=hid (HQ3.out.later hb)
 have HRU4:=hid (HR.out.later hb);clear hn ht hb;go_wp2_with fail;refine(HDIV.out _ _ _ _ _ HU4.out HX4.out HGU4.out HPOS1.out (by have:=HRS.out;omega)).mono ?_;rintro e w4 ⟨⟨v4,y4,rfl,hn,_⟩,ht,hb⟩;have HS:=hid hn;have HT4:=hid ht;have HG4:=hid (HGU4.out.later hb);have HH4:=hid (HHU4.out.later hb);have HP4:=hid (HPU4.out.later hb);have HQ4:=hid (HQU4.out.later hb);have HR4:=hid (HRU4.out.later hb);clear hn ht hb;have HM1:Hid (∀W,qbh w na (.slice pa1 ka1 ca1) (.slice pa2 ka2 ca2) nb (.slice pb1 kb1 cb1) (.slice pb2 kb2 cb2) W→Below w4.heap.size w4 W→Calls Tryz.prog 75 #[v1,v2] W fun e w'=>(∃v',e = .returned v'∧qaq w' v' (a.num.natAbs/(a.num.natAbs.gcd b.den)*(b.num.natAbs/(b.num.natAbs.gcd a.den))))∧qbh w na (.slice pa1 ka1 ca1) (.slice pa2 ka2 ca2) nb (.slice pb1 kb1 cb1) (.slice pb2 kb2 cb2) w'∧Below w4.heap.size w4 w'∧Below W.heap.size W w'):=hid fun W hW hB=>(HMUL.out W _ _ _ _ hW (HP4.out.later hB) (HQ4.out.later hB) (Nat.le_trans (qdj (Nat.div_le_self _ _)) (by have:=HRS.out;omega)) (Nat.le_trans (qdj (Nat.div_le_self _ _)) (by have:=HRS.out;omega))).mono fun _ _ ⟨h1,h2,h3⟩=>⟨h1,h2,hB.trans (h3.mono hB.size),h3⟩
 have HM2:Hid (∀W,qbh w na (.slice pa1 ka1 ca1) (.slice pa2 ka2 ca2) nb (.slice pb1 kb1 cb1) (.slice pb2 kb2 cb2) W→Below w4.heap.size w4 W→Calls Tryz.prog 75 #[v3,v4] W fun e w'=>(∃v',e = .returned v'∧qaq w' v' (a.den/(b.num.natAbs.gcd a.den)*(b.den/(a.num.natAbs.gcd b.den))))∧qbh w na (.slice pa1 ka1 ca1) (.slice pa2 ka2 ca2) nb (.slice pb1 kb1 cb1) (.slice pb2 kb2 cb2) w'∧Below w4.heap.size w4 w'∧Below W.heap.size W w'):=hid fun W hW hB=>(HMUL.out W _ _ _ _ hW (HR4.out.later hB) (HS.out.later hB) (Nat.le_trans (qdj (Nat.div_le_self _ _)) (by have:=HRS.out;omega)) (Nat.le_trans (qdj (Nat.div_le_self _ _)) (by have:=HRS.out;omega))).mono fun _ _ ⟨h1,h2,h3⟩=>⟨h1,h2,hB.trans (h3.mono hB.size),h3⟩;have HT4D:=hid HT4.out.drew;have HDR:Hid (Below w4.heap.size w4 w4.drew):=hid ((Below.refl _ _).drew);go_wp2_with fail
 go_region_held3 (fun W=>W.cell? ⟨w.heap.size,0,none⟩=some (.bool na)∧W.cell? ⟨w.heap.size,1,none⟩=some (.slice pa1 ka1 ca1)∧W.cell? ⟨w.heap.size,2,none⟩=some (.slice pa2 ka2 ca2)∧W.cell? ⟨w.heap.size+1,0,none⟩=some (.bool nb)∧W.cell? ⟨w.heap.size+1,1,none⟩=some (.slice pb1 kb1 cb1)∧W.cell? ⟨w.heap.size+1,2,none⟩=some (.slice pb2 kb2 cb2)) (first|exact qan HTZ.out|exact qan HTL.out|exact qan HTM.out|exact qan HT4D.out|exact qib (qib (qib (qan HTZ.out) (by omega) (by omega) _) (by omega) (by omega) _) (by omega) (by omega) _)
  (first
   | (go_at_call 75;first
     | ((with_reducible refine(HM1.out _ ?qa ?qc).mono ?_);(case qa=>first|exact HTM.out|exact HT4D.out);(case qc=>first|exact HBM.out|exact HDR.out);rintro e wL ⟨⟨vL,rfl,hn⟩,ht,hb4,hb⟩;have HVL:=hid hn;have HTL:=hid ht;have HBL0:=hid hb;have HBL:=hid hb4;clear hn ht hb hb4)
     | ((with_reducible refine(HM2.out _ ?qb ?qd).mono ?_);(case qb=>first|exact HTL.out|exact HT4D.out);(case qd=>first|exact HBL.out|exact HDR.out);rintro e wM ⟨⟨vM,rfl,hn⟩,ht,hb4,hb⟩;have HVM:=hid hn;have HTM:=hid ht;have HBM0:=hid hb;have HBM:=hid hb4;clear hn ht hb hb4))
   | (go_at_call 77;((first|refine(HNUM.out _ _ _ HTM.out (HVL.out.later HBM0.out) HVM.out).mono ?_|refine(HNUM.out _ _ _ HTL.out HVL.out (HVM.out.later HBL0.out)).mono ?_);rintro e wZ ⟨⟨vZ,rfl,hn⟩,ht,hb⟩;have HVZ:=hid hn;have HTZ:=hid ht;obtain⟨pt,kt,ct,pf,kf,cf,rfl,hp1,hp2⟩:=hn.parts;clear hn ht hb hp1 hp2;generalize decide ((a*b).num<0)=sg at *;obtain⟨⟨r0,g0⟩,⟨r1,g1⟩,⟨r2,g2⟩⟩:=qku HTZ.out)))
 have HFIN:=hid (qbd HVZ.out r0 r1 r2);have HBEL:=hid (qai HTZ.out.1 (show w.heap.size≤w.heap.size+1+1 by omega) (.bool sg) (.slice pt kt ct) (.slice pf kf cf));go_wp2_with fail;refine bodyPost_ret (v := .agg #[.bool sg,.slice pt kt ct,.slice pf kf cf]) ?_ rfl ?_
 ·simp[results,Tryz.results40,go_sem,r0,r1,r2]
 ·exact⟨⟨_,rfl,HFIN.out⟩,HBEL.out⟩
end Go.Proofs.YthjagoogkkgelaaGreatDoor
