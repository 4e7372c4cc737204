/- Over. -/
import Derived.Test.YthjagoogkkgelaaGreatDoorMTimes
set_option linter.all false
namespace Go.Proofs.YthjagoogkkgelaaGreatDoor
open Go.RowKit
set_option maxRecDepth 100000
set_option maxHeartbeats 10000000
theorem qlr(b:Rat)(h:b.num≠0):(b⁻¹).num.natAbs=b.den∧(b⁻¹).den=b.num.natAbs∧(decide ((b⁻¹).num<0)=(decide (b.num<0)&&decide (0<b.den))):=by
 have hd:=b.den_pos;have e:b⁻¹ = Rat.inv b:=rfl;rw[e];unfold Rat.inv;split
 ·rename_i h1
  refine⟨by simp,rfl, ?_⟩;rw[decide_eq_true h1,decide_eq_true hd,decide_eq_true (by show -(b.den:Int)<0;omega)];rfl
 ·split
  ·rename_i h1 h2
   refine⟨by simp,rfl, ?_⟩;rw[decide_eq_false h1,decide_eq_false (by show ¬(b.den:Int)<0;omega)];rfl
  ·omega
theorem zau(b:Rat)(h:b.num≠0):rs b⁻¹ = rs b:=by
 unfold rs;rw[(qlr b h).1,(qlr b h).2.1];omega
theorem qfo(va vb:Value)(a b:Rat)(w:World)(ha:qaj w va a)(hb:qaj w vb b)(h0:b.num≠0)(hcap:rs a+rs b≤Cap):
  Calls Tryz.prog 41 #[va,vb] w fun e w'=>(∃v',e = .returned v'∧qaj w' v' (a/b))∧Below w.heap.size w w':=by
 have HA:=hid ha;have HB:=hid hb;obtain⟨pa1,ka1,ca1,pa2,ka2,ca2,rfl,ha1,ha2⟩:=ha.parts;obtain⟨pb1,kb1,cb1,pb2,kb2,cb2,rfl,hb1,hb2⟩:=hb.parts;have HB1:=hid hb1;clear ha hb ha1 ha2 hb1 hb2;have hsz:(sgn b==0)=false:=beq_eq_false_iff_ne.2 (by unfold sgn;split<;>omega);have HIN:=hid (qlr b h0);have HRI:=hid (zau b h0);generalize decide (a.num<0)=na at *;generalize decide (b.num<0)=nb at *;have HW0:=hid (qhq w na (.slice pa1 ka1 ca1) (.slice pa2 ka2 ca2) nb (.slice pb1 kb1 cb1) (.slice pb2 kb2 cb2));have HSN:Hid (∀W,qbh w na (.slice pa1 ka1 ca1) (.slice pa2 ka2 ca2) nb (.slice pb1 kb1 cb1) (.slice pb2 kb2 cb2) W→Calls Tryz.prog 73 #[.agg #[.bool nb,.slice pb1 kb1 cb1,.slice pb2 kb2 cb2]] W fun e w'=>(e = .returned (.int .i64 (sgn b)))∧qbh w na (.slice pa1 ka1 ca1) (.slice pa2 ka2 ca2) nb (.slice pb1 kb1 cb1) (.slice pb2 kb2 cb2) w'∧Below W.heap.size W w'):=hid fun W hW=>qbv hW (qdq _ b W (HB.out.later hW.1));have HDB:Hid (∀W,qbh w na (.slice pa1 ka1 ca1) (.slice pa2 ka2 ca2) nb (.slice pb1 kb1 cb1) (.slice pb2 kb2 cb2) W→Calls Tryz.prog 76 #[.agg #[.bool nb,.slice pb1 kb1 cb1,.slice pb2 kb2 cb2]] W fun e w'=>(∃v',e = .returned v'∧qaq w' v' b.den)∧qbh w na (.slice pa1 ka1 ca1) (.slice pa2 ka2 ca2) nb (.slice pb1 kb1 cb1) (.slice pb2 kb2 cb2) w'∧Below W.heap.size W w'):=hid fun W hW=>qbv hW (qbx _ b W (HB.out.later hW.1))
 have HNUM:Hid (∀W v,qbh w na (.slice pa1 ka1 ca1) (.slice pa2 ka2 ca2) nb (.slice pb1 kb1 cb1) (.slice pb2 kb2 cb2) W→qaq W v b.den→Calls Tryz.prog 77 #[.bool nb,v,.slice pb1 kb1 cb1] W fun e w'=>(∃v',e = .returned v'∧qaj w' v' b⁻¹)∧qbh w na (.slice pa1 ka1 ca1) (.slice pa2 ka2 ca2) nb (.slice pb1 kb1 cb1) (.slice pb2 kb2 cb2) w'∧Below W.heap.size W w'):=by
  refine hid fun W v hW h=>qbv hW ((qfa nb _ v _ _ _ _ W h (HB1.out.later hW.1) HIN.out.2.2 rfl).mono ?_);rintro e w' ⟨⟨vb',he,n1,n2⟩,hb⟩;exact⟨⟨_,he,_,_,rfl,by rw[HIN.out.1];exact n1,by rw[HIN.out.2.1];exact n2⟩,hb⟩
 have HTM:Hid (∀W v,qbh w na (.slice pa1 ka1 ca1) (.slice pa2 ka2 ca2) nb (.slice pb1 kb1 cb1) (.slice pb2 kb2 cb2) W→qaj W v b⁻¹ → Calls Tryz.prog 40 #[.agg #[.bool na,.slice pa1 ka1 ca1,.slice pa2 ka2 ca2],v] W fun e w'=>(∃v',e = .returned v'∧qaj w' v' (a/b))∧qbh w na (.slice pa1 ka1 ca1) (.slice pa2 ka2 ca2) nb (.slice pb1 kb1 cb1) (.slice pb2 kb2 cb2) w'∧Below W.heap.size W w'):=
  hid fun W v hW hv=>qbv hW (by rw[Rat.div_def];exact qd3 _ v a b⁻¹ W (HA.out.later hW.1) hv (by rw[HRI.out];exact hcap))
 clear hcap h0;generalize sgn b=s at *;go_enter Tryz.func41,Tryz.ntmps41;go_wp2_with fail;generalize ((w.alloc (.cells #[.bool na,.slice pa1 ka1 ca1,.slice pa2 ka2 ca2] 80)).alloc (.cells #[.bool nb,.slice pb1 kb1 cb1,.slice pb2 kb2 cb2] 80)).alloc (.cells #[.bool false,.slice none 0 0,.slice none 0 0] 80)=w0 at *;refine(HSN.out _ HW0.out).mono ?_;rintro e w1 ⟨rfl,ht,hb⟩;have HT1:=hid ht.drew;clear ht hb;go_wp2_with fail
 go_region_held3 (fun W=>W.cell? ⟨w.heap.size,0,none⟩=some (.bool na)∧W.cell? ⟨w.heap.size,1,none⟩=some (.slice pa1 ka1 ca1)∧W.cell? ⟨w.heap.size,2,none⟩=some (.slice pa2 ka2 ca2)∧W.cell? ⟨w.heap.size+1,0,none⟩=some (.bool nb)∧W.cell? ⟨w.heap.size+1,1,none⟩=some (.slice pb1 kb1 cb1)∧W.cell? ⟨w.heap.size+1,2,none⟩=some (.slice pb2 kb2 cb2)) (first|exact qan HTP.out|exact qan HTN.out|exact qan HTD.out|exact qan HT1.out|exact qib (qib (qib (qan HTP.out) (by omega) (by omega) _) (by omega) (by omega) _) (by omega) (by omega) _)
  (first
   | (go_at_call 76;((with_reducible refine(HDB.out _ HT1.out).mono ?_);rintro e wD ⟨⟨vD,rfl,hn⟩,ht,hb⟩;have HVD:=hid hn;have HTD:=hid ht;clear hn ht hb))
   | (go_at_call 77;((refine(HNUM.out _ _ HTD.out HVD.out).mono ?_);rintro e wN ⟨⟨vN,rfl,hn⟩,ht,hb⟩;have HVN:=hid hn;have HTN:=hid ht;clear hn ht hb))
   | (go_at_call 40;((refine(HTM.out _ _ HTN.out HVN.out).mono ?_);rintro e wP ⟨⟨vP,rfl,hn⟩,ht,hb⟩;have HVP:=hid hn;have HTP:=hid ht;obtain⟨pt,kt,ct,pf,kf,cf,rfl,hp1,hp2⟩:=hn.parts;clear hn ht hb hp1 hp2;generalize decide ((a/b).num<0)=sg at *;obtain⟨⟨r0,g0⟩,⟨r1,g1⟩,⟨r2,g2⟩⟩:=qku HTP.out)))
 have HFIN:=hid (qbd HVP.out r0 r1 r2);have HBEL:=hid (qai HTP.out.1 (show w.heap.size≤w.heap.size+1+1 by omega) (.bool sg) (.slice pt kt ct) (.slice pf kf cf));go_wp2_with fail;refine bodyPost_ret (v := .agg #[.bool sg,.slice pt kt ct,.slice pf kf cf]) ?_ rfl ?_
 ·simp[results,Tryz.results41,go_sem,r0,r1,r2]
 ·exact⟨⟨_,rfl,HFIN.out⟩,HBEL.out⟩
theorem qo6(a:Rat)(h:¬a.num<0):a.floor.natAbs=a.num.natAbs/a.den∧¬a.floor<0:=by
 have e:a.num=(a.num.natAbs:Int):=by omega
 rw[Rat.floor_def];generalize a.num.natAbs=m at *;rw[e,←Int.natCast_ediv];exact⟨Int.natAbs_natCast _,Int.not_lt.2 (Int.natCast_nonneg _)⟩
theorem qo7(a:Rat)(h:a.num<0):a.floor.natAbs=a.num.natAbs/a.den+(if a.num.natAbs % a.den=0 then 0 else 1)∧a.floor<0:=by
 have e:a.num = -(a.num.natAbs:Int):=by omega
 have hm:0<a.num.natAbs:=by omega
 rw[Rat.floor_def];have hn:=a.den_pos;generalize a.num.natAbs=m at *;generalize a.den=n at *;have hd:=Nat.div_add_mod m n;have hl:=Nat.mod_lt m hn;have hdi:(n:Int)*((m/n:Nat):Int)+((m % n:Nat):Int)=(m:Int):=by exact_mod_cast hd
 have hnil:m/n=0→m % n≠0:=by
  intro h1 h2;rw[h1,h2] at hd;omega
 rw[e];generalize m/n=q at *;generalize m % n=r at *;by_cases hr:r=0
 ·rw[if_pos hr]
  subst hr;have:=((Int.ediv_emod_unique (a := -(m:Int)) (b:=n) (r:=0) (q := -(q:Int)) (by omega)).2 ⟨by grind,by omega,by omega⟩).1;rw[this];omega
 ·rw[if_neg hr]
  have:=((Int.ediv_emod_unique (a := -(m:Int)) (b:=n) (r:=(n:Int)-r) (q := -(q:Int)-1) (by omega)).2 ⟨by grind,by omega,by omega⟩).1;rw[this];omega
theorem qjx{w W:World}{na:Bool}{ta ba:Value}{f:FuncId}{args:Array Value}{P:Ending→World→Prop}(hW:qhg w na ta ba W)
  (h:Calls Tryz.prog f args W fun e w'=>P e w'∧Below W.heap.size W w'):Calls Tryz.prog f args W fun e w'=>P e w'∧qhg w na ta ba w'∧Below W.heap.size W w':=
 h.mono fun _ _ ⟨h1,h2⟩=>⟨h1,hW.later h2,h2⟩
theorem qd4{w W:World}{na:Bool}{ta ba:Value}(h:qhg w na ta ba W):W.cell? ⟨w.heap.size,0,none⟩=some (.bool na)∧W.cell? ⟨w.heap.size,1,none⟩=some ta∧W.cell? ⟨w.heap.size,2,none⟩=some ba:=
 ⟨(h.2.1.2 0 (by omega)).1,(h.2.1.2 1 (by omega)).1,(h.2.1.2 2 (by omega)).1⟩
theorem qr3{w W:World}{na:Bool}{ta ba:Value}(h:qhg w na ta ba W):
  (W.cell? ⟨w.heap.size+1,0,none⟩=some (.bool false)∧W.frozen? ⟨w.heap.size+1,0,none⟩=false)∧
  (W.cell? ⟨w.heap.size+1,1,none⟩=some (.slice none 0 0)∧W.frozen? ⟨w.heap.size+1,1,none⟩=false)∧
  (W.cell? ⟨w.heap.size+1,2,none⟩=some (.slice none 0 0)∧W.frozen? ⟨w.heap.size+1,2,none⟩=false):=
 ⟨h.2.2.2 0 (by omega),h.2.2.2 1 (by omega),h.2.2.2 2 (by omega)⟩
theorem q1v(va:Value)(a:Rat)(w:World)(ha:qaj w va a)(hcap:rs a≤Cap):
  Calls Tryz.prog 101 #[va] w fun e w'=>(∃v',e = .returned v'∧qaj w' v' (a.floor:Rat))∧Below w.heap.size w w':=by
 have HA:=hid ha;obtain⟨pa1,ka1,ca1,pa2,ka2,ca2,rfl,ha1,ha2⟩:=ha.parts;have HA1:=hid ha1;clear ha ha1 ha2
 have HSG:Hid (decide (a.floor<0)=(decide (a.num<0)&&decide (0<a.floor.natAbs))):=by
  refine hid ?_;by_cases h:a.num<0
  ·have:=(qo7 a h).2
   rw[decide_eq_true h,decide_eq_true this,decide_eq_true (by omega)];rfl
  ·have:=(qo6 a h).2
   rw[decide_eq_false h,decide_eq_false this];rfl
 have HFL:Hid (a.floor.natAbs=a.num.natAbs/a.den+(if decide (a.num<0)=true∧a.num.natAbs % a.den≠0 then 1 else 0)):=by
  refine hid ?_;by_cases h:a.num<0
  ·rw[(qo7 a h).1,decide_eq_true h]
   by_cases h2:a.num.natAbs % a.den=0
   ·rw[if_pos h2,if_neg (by rintro⟨_,h3⟩;exact h3 h2)]
   ·rw[if_neg h2,if_pos ⟨rfl,h2⟩]
  ·rw[(qo6 a h).1,decide_eq_false h,if_neg (by rintro⟨h3,_⟩;cases h3)];rfl
 generalize decide (a.num<0)=na at *;have HRS:Hid (wl a.num.natAbs+wl a.den≤Cap):=hid hcap;have HW0:=hid (qo5 w na (.slice pa1 ka1 ca1) (.slice pa2 ka2 ca2));have HDA:Hid (∀W,qhg w na (.slice pa1 ka1 ca1) (.slice pa2 ka2 ca2) W→Calls Tryz.prog 76 #[.agg #[.bool na,.slice pa1 ka1 ca1,.slice pa2 ka2 ca2]] W fun e w'=>(∃v',e = .returned v'∧qaq w' v' a.den)∧qhg w na (.slice pa1 ka1 ca1) (.slice pa2 ka2 ca2) w'∧Below W.heap.size W w'):=hid fun W hW=>qjx hW (qbx _ a W (HA.out.later hW.1))
 have HDIV:Hid (∀W v,qhg w na (.slice pa1 ka1 ca1) (.slice pa2 ka2 ca2) W→qaq W v a.den→Calls Tryz.prog 81 #[.slice pa1 ka1 ca1,v] W fun e w'=>(∃vq vr,e = .returned (.tuple #[vq,vr])∧qaq w' vq (a.num.natAbs/a.den)∧qaq w' vr (a.num.natAbs % a.den))∧qhg w na (.slice pa1 ka1 ca1) (.slice pa2 ka2 ca2) w'∧Below W.heap.size W w'):=
  hid fun W v hW h=>qjx hW (qmt _ v _ _ W (HA1.out.later hW.1) h a.den_pos (by have:=HRS.out;omega))
 have HADD:Hid (∀W v1 v2,qhg w na (.slice pa1 ka1 ca1) (.slice pa2 ka2 ca2) W→qaq W v1 (a.num.natAbs/a.den)→qaq W v2 1→Calls Tryz.prog 159 #[v1,v2] W fun e w'=>(∃v',e = .returned v'∧qaq w' v' (a.num.natAbs/a.den+1))∧qhg w na (.slice pa1 ka1 ca1) (.slice pa2 ka2 ca2) w'∧Below W.heap.size W w'):=
  hid fun W v1 v2 hW h1 h2=>qjx hW (q1i v1 v2 _ _ W h1 h2 (Nat.le_trans (qdj (Nat.div_le_self _ _)) (by have:=HRS.out;omega)) (by have:=HRS.out;have:=qdj (show 1≤a.den from a.den_pos);omega))
 have HNUM:Hid (∀W v,qhg w na (.slice pa1 ka1 ca1) (.slice pa2 ka2 ca2) W→qaq W v a.floor.natAbs→Calls Tryz.prog 77 #[.bool na,v,.slice none 0 0] W fun e w'=>(∃v',e = .returned v'∧qaj w' v' (a.floor:Rat))∧qhg w na (.slice pa1 ka1 ca1) (.slice pa2 ka2 ca2) w'∧Below W.heap.size W w'):=by
  refine hid fun W v hW h=>qjx hW ((qfa na _ v _ _ 0 0 W h (qaq.nil W) HSG.out rfl).mono ?_);rintro e w' ⟨⟨vb',he,n1,n2⟩,hb⟩;exact⟨⟨_,he,_,_,rfl,n1,n2⟩,hb⟩
 have HON:Hid (∀W:World,qaq (W.alloc (.cells #[.int .u64 ((1:Nat):Int)] 136)) (.slice (some ⟨W.heap.size,0,none⟩) 1 1) 1):=hid fun W=>qks W 1 (by rw[qab];omega) (by omega);clear hcap HSG;go_enter Tryz.func101,Tryz.ntmps101;go_wp2_with fail;generalize (w.alloc (.cells #[.bool na,.slice pa1 ka1 ca1,.slice pa2 ka2 ca2] 80)).alloc (.cells #[.bool false,.slice none 0 0,.slice none 0 0] 80)=w0 at *;have HT0:=hid (HW0.out.later ((Below.refl _ _).drew))
 go_region_held3 (fun W=>W.cell? ⟨w.heap.size,0,none⟩=some (.bool na)∧W.cell? ⟨w.heap.size,1,none⟩=some (.slice pa1 ka1 ca1)∧W.cell? ⟨w.heap.size,2,none⟩=some (.slice pa2 ka2 ca2)) (first|exact qd4 HTD.out|exact qd4 HTA.out|exact qd4 HT0.out)
  (first
   | (go_at_call 76;((with_reducible refine(HDA.out _ HT0.out).mono ?_);rintro e wA ⟨⟨vA,rfl,hn⟩,ht,hb⟩;have HVA:=hid hn;have HTA:=hid ht;clear hn ht hb))
   | (go_at_call 81;((refine(HDIV.out _ _ HTA.out HVA.out).mono ?_);rintro e wD ⟨⟨vQ,vR,rfl,hn,hr⟩,ht,hb⟩;have HVQ:=hid hn;have HVR:=hid hr;have HTD:=hid ht;clear hn hr ht hb)))
 obtain⟨pR,kR,cR,rfl,hkR⟩:=qas HVR.out;clear HT0 HW0 HVA HTA;cases na
 ·have HE:Hid (qaq wD vQ a.floor.natAbs):=hid (by rw[HFL.out,if_neg (by rintro⟨h3,_⟩;cases h3)];exact HVQ.out)
  clear hkR;obtain⟨d0,d1,d2⟩:=qd4 HTD.out;go_wp2_with fail;clear d0 d1 d2;refine(HNUM.out _ _ HTD.out HE.out).mono ?_;rintro e wP ⟨⟨vP,rfl,hn⟩,ht,hb⟩;have HVP:=hid hn;have HTP:=hid ht;obtain⟨pt,kt,ct,pf,kf,cf,rfl,hp1,hp2⟩:=hn.parts;clear hn ht hb hp1 hp2;generalize decide ((a.floor:Rat).num<0)=sg at *;obtain⟨⟨r0,g0⟩,⟨r1,g1⟩,⟨r2,g2⟩⟩:=qr3 HTP.out;have HFIN:=hid (qbd HVP.out r0 r1 r2);have HBEL:=hid (qai HTP.out.1 (show w.heap.size≤w.heap.size+1 by omega) (.bool sg) (.slice pt kt ct) (.slice pf kf cf));go_wp2_with fail;refine bodyPost_ret (v := .agg #[.bool sg,.slice pt kt ct,.slice pf kf cf]) ?_ rfl ?_
  ·simp[results,Tryz.results101,go_sem,r0,r1,r2]
  ·exact⟨⟨_,rfl,HFIN.out⟩,HBEL.out⟩
 ·by_cases hr:a.num.natAbs % a.den=0
  ·have HE:Hid (qaq wD vQ a.floor.natAbs):=hid (by rw[HFL.out,if_neg (by rintro⟨_,h3⟩;exact h3 hr)];exact HVQ.out)
   rw[hr,qcp] at hkR;subst hkR;clear hr;obtain⟨d0,d1,d2⟩:=qd4 HTD.out;go_wp2_with fail;clear d0 d1 d2;refine(HNUM.out _ _ HTD.out HE.out).mono ?_;rintro e wP ⟨⟨vP,rfl,hn⟩,ht,hb⟩;have HVP:=hid hn;have HTP:=hid ht;obtain⟨pt,kt,ct,pf,kf,cf,rfl,hp1,hp2⟩:=hn.parts;clear hn ht hb hp1 hp2;generalize decide ((a.floor:Rat).num<0)=sg at *;obtain⟨⟨r0,g0⟩,⟨r1,g1⟩,⟨r2,g2⟩⟩:=qr3 HTP.out;have HFIN:=hid (qbd HVP.out r0 r1 r2);have HBEL:=hid (qai HTP.out.1 (show w.heap.size≤w.heap.size+1 by omega) (.bool sg) (.slice pt kt ct) (.slice pf kf cf));go_wp2_with fail;refine bodyPost_ret (v := .agg #[.bool sg,.slice pt kt ct,.slice pf kf cf]) ?_ rfl ?_
   ·simp[results,Tryz.results101,go_sem,r0,r1,r2]
   ·exact⟨⟨_,rfl,HFIN.out⟩,HBEL.out⟩
  ·have hk0:0<kR:=by rw[hkR];exact qq4 (by omega)
   have hkb:(0:Int)<(kR:Int):=by omega
   have HFL1:Hid (a.floor.natAbs=a.num.natAbs/a.den+1):=hid (by rw[HFL.out,if_pos ⟨rfl,hr⟩]);clear hr hkR;obtain⟨d0,d1,d2⟩:=qd4 HTD.out;go_wp2_with fail;clear d0 d1 d2;have hal:=(Below.refl wD.heap.size wD).alloc (Nat.le_refl _) (.cells #[.int .u64 ((1:Nat):Int)] 136);refine(HADD.out _ _ _ (HTD.out.later hal) (HVQ.out.later hal) (HON.out wD)).mono ?_;rintro e wB ⟨⟨vB,rfl,hn⟩,ht,hb⟩;have HE:Hid (qaq wB vB a.floor.natAbs):=hid (by rw[HFL1.out];exact hn);have HTB:=hid ht;clear hn ht hb hal;obtain⟨d0,d1,d2⟩:=qd4 HTB.out;go_wp2_with fail;clear d0 d1 d2;refine(HNUM.out _ _ HTB.out HE.out).mono ?_;rintro e wP ⟨⟨vP,rfl,hn⟩,ht,hb⟩;have HVP:=hid hn;have HTP:=hid ht;obtain⟨pt,kt,ct,pf,kf,cf,rfl,hp1,hp2⟩:=hn.parts;clear hn ht hb hp1 hp2;generalize decide ((a.floor:Rat).num<0)=sg at *;obtain⟨⟨r0,g0⟩,⟨r1,g1⟩,⟨r2,g2⟩⟩:=qr3 HTP.out;have HFIN:=hid (qbd HVP.out r0 r1 r2);have HBEL:=hid (qai HTP.out.1 (show w.heap.size≤w.heap.size+1 by omega) (.bool sg) (.slice pt kt ct) (.slice pf kf cf));go_wp2_with fail;refine bodyPost_ret (v := .agg #[.bool sg,.slice pt kt ct,.slice pf kf cf]) ?_ rfl ?_
   ·simp[results,Tryz.results101,go_sem,r0,r1,r2]
   ·exact⟨⟨_,rfl,HFIN.out⟩,HBEL.out⟩
def qb6(w:World)(na:Bool)(ta ba:Value)(nb:Bool)(tb bb:Value)(W:World):Prop:=
 Below w.heap.size w W∧Own W w.heap.size 3 (qcm na ta ba)∧Own W (w.heap.size+1) 3 (qcm nb tb bb)
theorem qb6.later{w:World}{na nb:Bool}{ta ba tb bb:Value}{W W':World}(h:qb6 w na ta ba nb tb bb W)(hb:Below W.heap.size W W'):qb6 w na ta ba nb tb bb W':=by
 obtain⟨h1,h2,h3⟩:=h;have:=h3.1;exact⟨h1.trans (hb.mono h1.size),h2.later (hb.mono (by omega)),h3.later (hb.mono (by omega))⟩
theorem qb6.drew{w:World}{na nb:Bool}{ta ba tb bb:Value}{W:World}(h:qb6 w na ta ba nb tb bb W):qb6 w na ta ba nb tb bb W.drew:=h.later ((Below.refl _ _).drew)
theorem qhr{w W:World}{na nb:Bool}{ta ba tb bb:Value}{f:FuncId}{args:Array Value}{P:Ending→World→Prop}(hW:qb6 w na ta ba nb tb bb W)
  (h:Calls Tryz.prog f args W fun e w'=>P e w'∧Below W.heap.size W w'):Calls Tryz.prog f args W fun e w'=>P e w'∧qb6 w na ta ba nb tb bb w'∧Below W.heap.size W w':=
 h.mono fun _ _ ⟨h1,h2⟩=>⟨h1,hW.later h2,h2⟩
theorem qmu(w:World)(na:Bool)(ta ba:Value)(nb:Bool)(tb bb:Value):
  qb6 w na ta ba nb tb bb ((w.alloc (.cells #[.bool na,ta,ba] 80)).alloc (.cells #[.bool nb,tb,bb] 80)):=by
 have h1:=qq5 w na ta ba;have h2:=qq5 (w.alloc (.cells #[.bool na,ta,ba] 80)) nb tb bb;simp only[World.size_alloc] at h2;have al:∀(V:World) (o:Obj),Below V.heap.size V (V.alloc o):=fun V o=>(Below.refl _ _).alloc (Nat.le_refl _) _;exact⟨(al w _).trans ((al _ _).mono (by rw[World.size_alloc];omega)),h1.later ((al _ _).mono (by rw[World.size_alloc];omega)),h2⟩
theorem qbo{w:World}{na nb:Bool}{ta ba tb bb:Value}{W:World}(h:qb6 w na ta ba nb tb bb W):
  W.cell? ⟨w.heap.size,0,none⟩=some (.bool na)∧W.cell? ⟨w.heap.size,1,none⟩=some ta∧W.cell? ⟨w.heap.size,2,none⟩=some ba∧
  W.cell? ⟨w.heap.size+1,0,none⟩=some (.bool nb)∧W.cell? ⟨w.heap.size+1,1,none⟩=some tb∧W.cell? ⟨w.heap.size+1,2,none⟩=some bb:=
 ⟨(h.2.1.2 0 (by omega)).1,(h.2.1.2 1 (by omega)).1,(h.2.1.2 2 (by omega)).1,(h.2.2.2 0 (by omega)).1,(h.2.2.2 1 (by omega)).1,(h.2.2.2 2 (by omega)).1⟩
def qcu(a b:Rat):Int:=qql (a.num*b.den) (b.num*a.den)
theorem qey(a:Rat):(sgn a = -1∧a.num<0)∨(sgn a=0∧a.num=0)∨(sgn a=1∧0<a.num):=by
 unfold sgn;split
 ·exact .inl ⟨rfl,by assumption⟩
 ·split
  ·exact .inr (.inl ⟨rfl,by assumption⟩)
  ·exact .inr (.inr ⟨rfl,by omega⟩)
theorem qq6(a b:Rat)(h:sgn a≠sgn b∨sgn a=0):qql (sgn a) (sgn b)=qcu a b:=by
 have hp:∀(x:Int) (q:Rat),0<x→0<x*(q.den:Int):=fun x q h=>Int.mul_pos h (by have:=q.den_pos;omega);have hn:∀(x:Int) (q:Rat),x<0→x*(q.den:Int)<0:=fun x q h=>Int.mul_neg_of_neg_of_pos h (by have:=q.den_pos;omega);unfold qcu;rcases qey a with⟨e1,h1⟩|⟨e1,h1⟩|⟨e1,h1⟩<;>rcases qey b with⟨e2,h2⟩|⟨e2,h2⟩|⟨e2,h2⟩<;>rw[e1,e2] at h ⊢
 ·omega
 ·have:=hn _ b h1
  rw[h2,Int.zero_mul,qda this];rfl
 ·have:=hn _ b h1
  have:=hp _ a h2;rw[qda (by omega:a.num*(b.den:Int)<b.num*a.den)];rfl
 ·have:=hn _ a h2
  rw[h1,Int.zero_mul,qcl this];rfl
 ·rw[h1,h2,Int.zero_mul,Int.zero_mul]
 ·have:=hp _ a h2
  rw[h1,Int.zero_mul,qda this];rfl
 ·have:=hp _ b h1
  have:=hn _ a h2;rw[qcl (by omega:b.num*(a.den:Int)<a.num*b.den)];rfl
 ·have:=hp _ b h1
  rw[h2,Int.zero_mul,qcl this];rfl
 ·omega
theorem q5s(a b:Rat)(h1:0<a.num)(h2:0<b.num):qex (a.num.natAbs*b.den) (b.num.natAbs*a.den)=qcu a b:=by
 unfold qex qcu;rw[Int.natCast_mul,Int.natCast_mul,Int.natAbs_of_nonneg (by omega),Int.natAbs_of_nonneg (by omega)]
theorem q5t(a b:Rat)(h1:a.num<0)(h2:b.num<0) : -qex (a.num.natAbs*b.den) (b.num.natAbs*a.den)=qcu a b:=by
 have e1:(a.num.natAbs:Int) = -a.num:=by omega
 have e2:(b.num.natAbs:Int) = -b.num:=by omega
 unfold qex qcu;rw[Int.natCast_mul,Int.natCast_mul,e1,e2,Int.neg_mul,Int.neg_mul];unfold qql;generalize a.num*(b.den:Int)=x;generalize b.num*(a.den:Int)=y;split<;>split<;>(try split)<;>(try split)<;>omega
theorem qzf(va vb:Value)(a b:Rat)(w:World)(ha:qaj w va a)(hb:qaj w vb b)(h0a:sgn a=0)(h0b:sgn b=0):
  Calls Tryz.prog 36 #[va,vb] w fun e w'=>e = .returned (.int .i64 (qcu a b))∧Below w.heap.size w w':=by
 have HA:=hid ha;have HB:=hid hb;obtain⟨pa1,ka1,ca1,pa2,ka2,ca2,rfl,ha1,ha2⟩:=ha.parts;obtain⟨pb1,kb1,cb1,pb2,kb2,cb2,rfl,hb1,hb2⟩:=hb.parts;clear ha hb ha1 ha2 hb1 hb2;generalize decide (a.num<0)=na at *;generalize decide (b.num<0)=nb at *;have HW0:=hid (qmu w na (.slice pa1 ka1 ca1) (.slice pa2 ka2 ca2) nb (.slice pb1 kb1 cb1) (.slice pb2 kb2 cb2));have HSA:Hid (∀W,qb6 w na (.slice pa1 ka1 ca1) (.slice pa2 ka2 ca2) nb (.slice pb1 kb1 cb1) (.slice pb2 kb2 cb2) W→Calls Tryz.prog 73 #[.agg #[.bool na,.slice pa1 ka1 ca1,.slice pa2 ka2 ca2]] W fun e w'=>(e = .returned (.int .i64 0))∧qb6 w na (.slice pa1 ka1 ca1) (.slice pa2 ka2 ca2) nb (.slice pb1 kb1 cb1) (.slice pb2 kb2 cb2) w'∧Below W.heap.size W w'):=hid fun W hW=>by rw[←h0a];exact qhr hW (qdq _ a W (HA.out.later hW.1))
 have HSB:Hid (∀W,qb6 w na (.slice pa1 ka1 ca1) (.slice pa2 ka2 ca2) nb (.slice pb1 kb1 cb1) (.slice pb2 kb2 cb2) W→Calls Tryz.prog 73 #[.agg #[.bool nb,.slice pb1 kb1 cb1,.slice pb2 kb2 cb2]] W fun e w'=>(e = .returned (.int .i64 0))∧qb6 w na (.slice pa1 ka1 ca1) (.slice pa2 ka2 ca2) nb (.slice pb1 kb1 cb1) (.slice pb2 kb2 cb2) w'∧Below W.heap.size W w'):=hid fun W hW=>by rw[←h0b];exact qhr hW (qdq _ b W (HB.out.later hW.1))
 have HCM:Hid (∀W,Calls Tryz.prog 50 #[.int .i64 0,.int .i64 0] W fun e w'=>e = .returned (.int .i64 (qcu a b))∧w'=W):=hid fun W=>by rw[←qq6 a b (.inr h0a),h0a,h0b];exact qju _ _ W
 generalize qcu a b=res at *;clear h0a h0b;go_enter Tryz.func36,Tryz.ntmps36;go_wp2_with fail;generalize (w.alloc (.cells #[.bool na,.slice pa1 ka1 ca1,.slice pa2 ka2 ca2] 80)).alloc (.cells #[.bool nb,.slice pb1 kb1 cb1,.slice pb2 kb2 cb2] 80)=w0 at *;have HTZ:=hid HW0.out.drew;obtain⟨d0,d1,d2,d3,d4,d5⟩:=qbo HTZ.out
 go_region_with (first
  | (go_at_call 73;first
    | ((with_reducible refine(HSA.out _ HTZ.out).mono ?_);rintro e wC ⟨rfl,ht,hb⟩;clear HTZ d0 d1 d2 d3 d4 d5;have HTZ:=hid ht;obtain⟨d0,d1,d2,d3,d4,d5⟩:=qbo ht;clear ht hb)
    | ((with_reducible refine(HSB.out _ HTZ.out).mono ?_);rintro e wC ⟨rfl,ht,hb⟩;clear HTZ d0 d1 d2 d3 d4 d5;have HTZ:=hid ht;obtain⟨d0,d1,d2,d3,d4,d5⟩:=qbo ht;clear ht hb)))
 all_goals
  clear d0 d1 d2 d3 d4 d5;have HTY:=hid HTZ.out.drew;clear HTZ HW0;have HTZ:=HTY;clear HTY;go_wp2_with fail
  go_region_held3 (fun W=>W.cell? ⟨w.heap.size,0,none⟩=some (.bool na)∧W.cell? ⟨w.heap.size,1,none⟩=some (.slice pa1 ka1 ca1)∧W.cell? ⟨w.heap.size,2,none⟩=some (.slice pa2 ka2 ca2)∧W.cell? ⟨w.heap.size+1,0,none⟩=some (.bool nb)∧W.cell? ⟨w.heap.size+1,1,none⟩=some (.slice pb1 kb1 cb1)∧W.cell? ⟨w.heap.size+1,2,none⟩=some (.slice pb2 kb2 cb2)) (exact qbo HTZ.out)
   (first
   | (go_at_call 73;first
     | ((with_reducible refine(HSA.out _ HTZ.out).mono ?_);rintro e wE ⟨rfl,ht,hb⟩;clear HTZ;have HTZ:=hid ht;clear ht hb)
     | ((with_reducible refine(HSB.out _ HTZ.out).mono ?_);rintro e wE ⟨rfl,ht,hb⟩;clear HTZ;have HTZ:=hid ht;clear ht hb))
   | (go_at_call 50;((refine(HCM.out _).mono ?_);rintro e wG ⟨rfl,rfl⟩)))
  have HBE:=hid HTZ.out.1;go_wp2_with fail;go_ret;exact⟨rfl,HBE.out⟩
theorem qzg(p q:Nat):qex p q = -1∨qex p q=0∨qex p q=1:=by
 unfold qex qql;split
 ·exact .inl rfl
 ·split
  ·exact .inr (.inr rfl)
  ·exact .inr (.inl rfl)
theorem qo8(s:Int)(va vb:Value)(a b:Rat)(w:World)(ha:qaj w va a)(hb:qaj w vb b)(hs:s = -1∨s=1)(h0a:sgn a=s)(h0b:sgn b=s)(hcap:rs a+rs b≤Cap):
  Calls Tryz.prog 36 #[va,vb] w fun e w'=>e = .returned (.int .i64 (qcu a b))∧Below w.heap.size w w':=by
 have HA:=hid ha;have HB:=hid hb;obtain⟨pa1,ka1,ca1,pa2,ka2,ca2,rfl,ha1,ha2⟩:=ha.parts;obtain⟨pb1,kb1,cb1,pb2,kb2,cb2,rfl,hb1,hb2⟩:=hb.parts;have HA1:=hid ha1;have HB1:=hid hb1;have HRS:Hid (wl a.num.natAbs+wl a.den+(wl b.num.natAbs+wl b.den)≤Cap):=hid hcap
 have HRES:Hid (IntKind.i64.wrap (qex (a.num.natAbs*b.den) (b.num.natAbs*a.den)*s)=qcu a b):=by
  refine hid ?_;have hn:=qzg (a.num.natAbs*b.den) (b.num.natAbs*a.den);have hca:=qey a;have hcb:=qey b
  have hw:∀z:Int,z = -1∨z=0∨z=1→IntKind.i64.wrap z=z:=by
   rintro z (rfl|rfl|rfl)<;>rfl
  rcases hs with rfl|rfl
  ·rw[hw _ (by omega),←q5t a b (by omega) (by omega)]
   omega
  ·rw[hw _ (by omega),←q5s a b (by omega) (by omega)]
   omega
 clear ha hb ha1 ha2 hb1 hb2 hcap;generalize decide (a.num<0)=na at *;generalize decide (b.num<0)=nb at *;have HW0:=hid (qmu w na (.slice pa1 ka1 ca1) (.slice pa2 ka2 ca2) nb (.slice pb1 kb1 cb1) (.slice pb2 kb2 cb2));have HSA:Hid (∀W,qb6 w na (.slice pa1 ka1 ca1) (.slice pa2 ka2 ca2) nb (.slice pb1 kb1 cb1) (.slice pb2 kb2 cb2) W→Calls Tryz.prog 73 #[.agg #[.bool na,.slice pa1 ka1 ca1,.slice pa2 ka2 ca2]] W fun e w'=>(e = .returned (.int .i64 s))∧qb6 w na (.slice pa1 ka1 ca1) (.slice pa2 ka2 ca2) nb (.slice pb1 kb1 cb1) (.slice pb2 kb2 cb2) w'∧Below W.heap.size W w'):=hid fun W hW=>by rw[←h0a];exact qhr hW (qdq _ a W (HA.out.later hW.1))
 have HSB:Hid (∀W,qb6 w na (.slice pa1 ka1 ca1) (.slice pa2 ka2 ca2) nb (.slice pb1 kb1 cb1) (.slice pb2 kb2 cb2) W→Calls Tryz.prog 73 #[.agg #[.bool nb,.slice pb1 kb1 cb1,.slice pb2 kb2 cb2]] W fun e w'=>(e = .returned (.int .i64 s))∧qb6 w na (.slice pa1 ka1 ca1) (.slice pa2 ka2 ca2) nb (.slice pb1 kb1 cb1) (.slice pb2 kb2 cb2) w'∧Below W.heap.size W w'):=hid fun W hW=>by rw[←h0b];exact qhr hW (qdq _ b W (HB.out.later hW.1))
 have HDA:Hid (∀W,qb6 w na (.slice pa1 ka1 ca1) (.slice pa2 ka2 ca2) nb (.slice pb1 kb1 cb1) (.slice pb2 kb2 cb2) W→Calls Tryz.prog 76 #[.agg #[.bool na,.slice pa1 ka1 ca1,.slice pa2 ka2 ca2]] W fun e w'=>(∃v',e = .returned v'∧qaq w' v' a.den)∧qb6 w na (.slice pa1 ka1 ca1) (.slice pa2 ka2 ca2) nb (.slice pb1 kb1 cb1) (.slice pb2 kb2 cb2) w'∧Below W.heap.size W w'):=hid fun W hW=>(qbx _ a W (HA.out.later hW.1)).mono fun _ _ ⟨⟨v,h1,h2⟩,h3⟩=>⟨⟨v,h1,h2⟩,hW.later h3,h3⟩;have HDB:Hid (∀W,qb6 w na (.slice pa1 ka1 ca1) (.slice pa2 ka2 ca2) nb (.slice pb1 kb1 cb1) (.slice pb2 kb2 cb2) W→Calls Tryz.prog 76 #[.agg #[.bool nb,.slice pb1 kb1 cb1,.slice pb2 kb2 cb2]] W fun e w'=>(∃v',e = .returned v'∧qaq w' v' b.den)∧qb6 w na (.slice pa1 ka1 ca1) (.slice pa2 ka2 ca2) nb (.slice pb1 kb1 cb1) (.slice pb2 kb2 cb2) w'∧Below W.heap.size W w'):=hid fun W hW=>(qbx _ b W (HB.out.later hW.1)).mono fun _ _ ⟨⟨v,h1,h2⟩,h3⟩=>⟨⟨v,h1,h2⟩,hW.later h3,h3⟩;have HMA:Hid (∀W v,qb6 w na (.slice pa1 ka1 ca1) (.slice pa2 ka2 ca2) nb (.slice pb1 kb1 cb1) (.slice pb2 kb2 cb2) W→qaq W v b.den→Calls Tryz.prog 75 #[.slice pa1 ka1 ca1,v] W fun e w'=>(∃v',e = .returned v'∧qaq w' v' (a.num.natAbs*b.den))∧qb6 w na (.slice pa1 ka1 ca1) (.slice pa2 ka2 ca2) nb (.slice pb1 kb1 cb1) (.slice pb2 kb2 cb2) w'∧Below W.heap.size W w'):=hid fun W v hW hv=>(qg4 _ v _ _ W (HA1.out.later hW.1) hv (by have:=HRS.out;omega) (by have:=HRS.out;omega)).mono fun _ _ ⟨⟨v,h1,h2⟩,h3⟩=>⟨⟨v,h1,h2⟩,hW.later h3,h3⟩
 have HMB:Hid (∀W v,qb6 w na (.slice pa1 ka1 ca1) (.slice pa2 ka2 ca2) nb (.slice pb1 kb1 cb1) (.slice pb2 kb2 cb2) W→qaq W v a.den→Calls Tryz.prog 75 #[.slice pb1 kb1 cb1,v] W fun e w'=>(∃v',e = .returned v'∧qaq w' v' (b.num.natAbs*a.den))∧qb6 w na (.slice pa1 ka1 ca1) (.slice pa2 ka2 ca2) nb (.slice pb1 kb1 cb1) (.slice pb2 kb2 cb2) w'∧Below W.heap.size W w'):=hid fun W v hW hv=>(qg4 _ v _ _ W (HB1.out.later hW.1) hv (by have:=HRS.out;omega) (by have:=HRS.out;omega)).mono fun _ _ ⟨⟨v,h1,h2⟩,h3⟩=>⟨⟨v,h1,h2⟩,hW.later h3,h3⟩
 have HCN:Hid (∀W v v',qb6 w na (.slice pa1 ka1 ca1) (.slice pa2 ka2 ca2) nb (.slice pb1 kb1 cb1) (.slice pb2 kb2 cb2) W→qaq W v (a.num.natAbs*b.den)→qaq W v' (b.num.natAbs*a.den)→Calls Tryz.prog 74 #[v,v'] W fun e w'=>e = .returned (.int .i64 (qex (a.num.natAbs*b.den) (b.num.natAbs*a.den)))∧qb6 w na (.slice pa1 ka1 ca1) (.slice pa2 ka2 ca2) nb (.slice pb1 kb1 cb1) (.slice pb2 kb2 cb2) w'∧Below W.heap.size W w'):=hid fun W v v' hW h1 h2=>(qef v v' _ _ W h1 h2).mono fun _ _ ⟨h1,k,h2⟩=>by
  subst h2;have hb:Below W.heap.size W (W.drewN k):=below_drewN (Below.refl _ _) k;exact⟨h1,hW.later hb,hb⟩
 generalize qcu a b=res at *;generalize qex (a.num.natAbs*b.den) (b.num.natAbs*a.den)=cn at *;generalize a.num.natAbs*b.den=xa at *;generalize b.num.natAbs*a.den=xb at *;generalize a.den=da at *;generalize b.den=db at *;clear h0a h0b HRS HA1 HB1;have HF1:Hid (s = -1→wrap64 (-cn)=res):=hid (by rintro rfl;have:=HRES.out;rw[Int.mul_neg_one,IntKind.wrap_i64] at this;unfold wrap64;exact this);have HF2:Hid (s=1→wrap64 cn=res):=hid (by rintro rfl;have:=HRES.out;rw[Int.mul_one,IntKind.wrap_i64] at this;unfold wrap64;exact this);clear HRES;rcases hs with rfl|rfl
 all_goals
  first
  | have HF:=hid (HF1.out rfl)
  | have HF:=hid (HF2.out rfl)
  clear HF1 HF2;go_enter Tryz.func36,Tryz.ntmps36;go_wp2_with fail;generalize (w.alloc (.cells #[.bool na,.slice pa1 ka1 ca1,.slice pa2 ka2 ca2] 80)).alloc (.cells #[.bool nb,.slice pb1 kb1 cb1,.slice pb2 kb2 cb2] 80)=w0 at *;have HTZ:=hid HW0.out.drew;obtain⟨d0,d1,d2,d3,d4,d5⟩:=qbo HTZ.out
  go_region_with (first
  | (go_at_call 73;first
    | ((with_reducible refine(HSA.out _ HTZ.out).mono ?_);rintro e wC ⟨rfl,ht,hb⟩;clear HTZ d0 d1 d2 d3 d4 d5;have HTZ:=hid ht;obtain⟨d0,d1,d2,d3,d4,d5⟩:=qbo ht;clear ht hb)
    | ((with_reducible refine(HSB.out _ HTZ.out).mono ?_);rintro e wC ⟨rfl,ht,hb⟩;clear HTZ d0 d1 d2 d3 d4 d5;have HTZ:=hid ht;obtain⟨d0,d1,d2,d3,d4,d5⟩:=qbo ht;clear ht hb)))
  all_goals
  clear d0 d1 d2 d3 d4 d5;have HTY:=hid HTZ.out.drew;clear HTZ HW0;have HTZ:=HTY;clear HTY;go_wp2_with fail
  go_region_held3 (fun W=>W.cell? ⟨w.heap.size,0,none⟩=some (.bool na)∧W.cell? ⟨w.heap.size,1,none⟩=some (.slice pa1 ka1 ca1)∧W.cell? ⟨w.heap.size,2,none⟩=some (.slice pa2 ka2 ca2)∧W.cell? ⟨w.heap.size+1,0,none⟩=some (.bool nb)∧W.cell? ⟨w.heap.size+1,1,none⟩=some (.slice pb1 kb1 cb1)∧W.cell? ⟨w.heap.size+1,2,none⟩=some (.slice pb2 kb2 cb2)) (exact qbo HTZ.out)
   (first
   | (go_at_call 76;first
     | ((with_reducible refine(HDA.out _ HTZ.out).mono ?_);rintro e wE ⟨⟨vA,rfl,hn⟩,ht,hb⟩;clear HTZ;have HTZ:=hid ht;have HVA:=hid hn;(try replace HVB:=hid (HVB.out.later hb));(try replace HVX:=hid (HVX.out.later hb));(try replace HVY:=hid (HVY.out.later hb));clear ht hb hn)
     | ((with_reducible refine(HDB.out _ HTZ.out).mono ?_);rintro e wE ⟨⟨vB,rfl,hn⟩,ht,hb⟩;clear HTZ;have HTZ:=hid ht;have HVB:=hid hn;(try replace HVA:=hid (HVA.out.later hb));(try replace HVX:=hid (HVX.out.later hb));(try replace HVY:=hid (HVY.out.later hb));clear ht hb hn))
   | (go_at_call 75;first
     | ((with_reducible refine(HMA.out _ _ HTZ.out HVB.out).mono ?_);rintro e wE ⟨⟨vX,rfl,hn⟩,ht,hb⟩;clear HTZ;have HTZ:=hid ht;have HVX:=hid hn;(try replace HVA:=hid (HVA.out.later hb));(try replace HVY:=hid (HVY.out.later hb));clear ht hb hn)
     | ((with_reducible refine(HMB.out _ _ HTZ.out HVA.out).mono ?_);rintro e wE ⟨⟨vY,rfl,hn⟩,ht,hb⟩;clear HTZ;have HTZ:=hid ht;have HVY:=hid hn;(try replace HVB:=hid (HVB.out.later hb));(try replace HVX:=hid (HVX.out.later hb));clear ht hb hn))
   | (go_at_call 74;((refine(HCN.out _ _ _ HTZ.out HVX.out HVY.out).mono ?_);rintro e wG ⟨rfl,ht,hb⟩;clear HTZ;have HTZ:=hid ht;clear ht hb)))
  all_goals
   obtain⟨d0,d1,d2,d3,d4,d5⟩:=qbo HTZ.out;go_wp2_with fail;clear d0 d1 d2 d3 d4 d5;refine(HSA.out _ ?_).mono ?_
   ·first|exact HTZ.out|exact HTZ.out.drew
   rintro e wH ⟨rfl,ht,hb⟩;have HBE:=hid ht.1;clear ht hb HTZ;go_wp2_with fail;go_ret;exact⟨qa1 HF.out,HBE.out⟩
theorem qzh(va vb:Value)(a b:Rat)(w:World)(ha:qaj w va a)(hb:qaj w vb b)(hne:sgn a=sgn b)(hcap:rs a+rs b≤Cap):
  Calls Tryz.prog 36 #[va,vb] w fun e w'=>e = .returned (.int .i64 (qcu a b))∧Below w.heap.size w w':=by
 rcases qey a with⟨h,_⟩|⟨h,_⟩|⟨h,_⟩
 ·exact qo8 (-1) va vb a b w ha hb (.inl rfl) h (hne▸h) hcap
 ·exact qzf va vb a b w ha hb h (hne▸h)
 ·exact qo8 1 va vb a b w ha hb (.inr rfl) h (hne▸h) hcap
end Go.Proofs.YthjagoogkkgelaaGreatDoor
