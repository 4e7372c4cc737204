/- Over. -/
import Derived.Test.YtlkdlffhmakbgaaGreatDoorMTimes
set_option linter.all false
namespace Go.Proofs.YtlkdlffhmakbgaaGreatDoor
open Go.RowKit
set_option maxRecDepth 100000
set_option maxHeartbeats 10000000
theorem qld(b:Rat)(h:b.num≠0):(b⁻¹).num.natAbs=b.den∧(b⁻¹).den=b.num.natAbs∧(decide ((b⁻¹).num<0)=(decide (b.num<0)&&decide (0<b.den))):=by
 have hd:=b.den_pos;have e:b⁻¹ = Rat.inv b:=rfl;rw[e];unfold Rat.inv;split
 ·rename_i h1
  refine⟨by simp,rfl, ?_⟩;rw[qag h1,qag hd,qag (by show -(b.den:Int)<0;omega)];rfl
 ·split
  ·rename_i h1 h2
   refine⟨by simp,rfl, ?_⟩;rw[qaf h1,qaf (by show ¬(b.den:Int)<0;omega)];rfl
  ·omega
theorem q9f(b:Rat)(h:b.num≠0):rs b⁻¹ = rs b:=by
 unfold rs;rw[(qld b h).1,(qld b h).2.1];omega
theorem qfl(va vb:Value)(a b:Rat)(w:World)(ha:qau w va a)(hb:qau w vb b)(h0:b.num≠0)(aQ:rs a+rs b≤Cap):
  Calls Tryz.prog 57 #[va,vb] w fun e w'=>(∃v',e = .returned v'∧qau w' v' (a/b))∧Below w.heap.size w w':=by
 have HA:=hid ha;have HB:=hid hb;obtain⟨aH,aI,aJ,aN,aL,aO,rfl,dQ,eR⟩:=ha.parts;obtain⟨bB,bC,bE,bH,bI,bJ,rfl,aZ,aR⟩:=hb.parts;have aP:=hid aZ;clear ha hb dQ eR aZ aR;have dK:(sgn b==0)=false:=qam (by unfold sgn;split<;>omega);have sW:=hid (qld b h0);have sP:=hid (q9f b h0);generalize decide (a.num<0)=na at *;generalize decide (b.num<0)=nb at *;have aM:=hid (qlc w na (.slice aH aI aJ) (.slice aN aL aO) nb (.slice bB bC bE) (.slice bH bI bJ));have iW:Hid (∀W,qbz w na (.slice aH aI aJ) (.slice aN aL aO) nb (.slice bB bC bE) (.slice bH bI bJ) W→Calls Tryz.prog 98 #[.agg #[.bool nb,.slice bB bC bE,.slice bH bI bJ]] W fun e w'=>(e = .returned (.int .i64 (sgn b)))∧qbz w na (.slice aH aI aJ) (.slice aN aL aO) nb (.slice bB bC bE) (.slice bH bI bJ) w'∧Below W.heap.size W w'):=hid fun W hW=>qcd hW (qdu _ b W (HB.out.later hW.1));have fV:Hid (∀W,qbz w na (.slice aH aI aJ) (.slice aN aL aO) nb (.slice bB bC bE) (.slice bH bI bJ) W→Calls Tryz.prog 109 #[.agg #[.bool nb,.slice bB bC bE,.slice bH bI bJ]] W fun e w'=>(∃v',e = .returned v'∧qa5 w' v' b.den)∧qbz w na (.slice aH aI aJ) (.slice aN aL aO) nb (.slice bB bC bE) (.slice bH bI bJ) w'∧Below W.heap.size W w'):=hid fun W hW=>qcd hW (qb8 _ b W (HB.out.later hW.1))
 have fT:Hid (∀W v,qbz w na (.slice aH aI aJ) (.slice aN aL aO) nb (.slice bB bC bE) (.slice bH bI bJ) W→qa5 W v b.den→Calls Tryz.prog 94 #[.bool nb,v,.slice bB bC bE] W fun e w'=>(∃v',e = .returned v'∧qau w' v' b⁻¹)∧qbz w na (.slice aH aI aJ) (.slice aN aL aO) nb (.slice bB bC bE) (.slice bH bI bJ) w'∧Below W.heap.size W w'):=by
  refine hid fun W v hW h=>qcd hW ((qe5 nb _ v _ _ _ _ W h (aP.out.later hW.1) sW.out.2.2 rfl).mono ?_);rintro e w' ⟨⟨vb',he,n1,n2⟩,hb⟩;exact⟨⟨_,he,_,_,rfl,by rw[sW.out.1];exact n1,by rw[sW.out.2.1];exact n2⟩,hb⟩
 have gH:Hid (∀W v,qbz w na (.slice aH aI aJ) (.slice aN aL aO) nb (.slice bB bC bE) (.slice bH bI bJ) W→qau W v b⁻¹ → Calls Tryz.prog 55 #[.agg #[.bool na,.slice aH aI aJ,.slice aN aL aO],v] W fun e w'=>(∃v',e = .returned v'∧qau w' v' (a/b))∧qbz w na (.slice aH aI aJ) (.slice aN aL aO) nb (.slice bB bC bE) (.slice bH bI bJ) w'∧Below W.heap.size W w'):=
  hid fun W v hW hv=>qcd hW (by rw[Rat.div_def];exact qd8 _ v a b⁻¹ W (HA.out.later hW.1) hv (by rw[sP.out];exact aQ))
 clear aQ h0;generalize sgn b=s at *;go_enter Tryz.func57,Tryz.ntmps57;go_wp2_with fail;generalize ((w.alloc (.cells #[.bool na,.slice aH aI aJ,.slice aN aL aO] 87)).alloc (.cells #[.bool nb,.slice bB bC bE,.slice bH bI bJ] 87)).alloc (.cells #[.bool false,.slice none 0 0,.slice none 0 0] 87)=w0 at *;refine(iW.out _ aM.out).mono ?_;rintro e w1 ⟨rfl,ht,hb⟩;have cV:=hid ht.drew;clear ht hb;go_wp2_with fail
 go_region_held3 (fun W=>W.cell? ⟨w.heap.size,0,none⟩=some (.bool na)∧W.cell? ⟨w.heap.size,1,none⟩=some (.slice aH aI aJ)∧W.cell? ⟨w.heap.size,2,none⟩=some (.slice aN aL aO)∧W.cell? ⟨w.heap.size+1,0,none⟩=some (.bool nb)∧W.cell? ⟨w.heap.size+1,1,none⟩=some (.slice bB bC bE)∧W.cell? ⟨w.heap.size+1,2,none⟩=some (.slice bH bI bJ)) (first|exact qa3 fG.out|exact qa3 fX.out|exact qa3 oU.out|exact qa3 cV.out|exact qhx (qhx (qhx (qa3 fG.out) (by omega) (by omega) _) (by omega) (by omega) _) (by omega) (by omega) _)
  (first
   | (go_at_call 109;((with_reducible refine(fV.out _ cV.out).mono ?_);rintro e wD ⟨⟨vD,rfl,hn⟩,ht,hb⟩;have Il:=hid hn;have oU:=hid ht;clear hn ht hb))
   | (go_at_call 94;((refine(fT.out _ _ oU.out Il.out).mono ?_);rintro e wN ⟨⟨vN,rfl,hn⟩,ht,hb⟩;have oR:=hid hn;have fX:=hid ht;clear hn ht hb))
   | (go_at_call 55;((refine(gH.out _ _ fX.out oR.out).mono ?_);rintro e wP ⟨⟨vP,rfl,hn⟩,ht,hb⟩;have oS:=hid hn;have fG:=hid ht;obtain⟨pt,kt,ct,pf,kf,cf,rfl,dW,dP⟩:=hn.parts;clear hn ht hb dW dP;generalize decide ((a/b).num<0)=sg at *;obtain⟨⟨r0,g0⟩,⟨r1,g1⟩,⟨r2,g2⟩⟩:=qu2 fG.out)))
 have aF:=hid (qb5 oS.out r0 r1 r2);have aG:=hid (qaw fG.out.1 (show w.heap.size≤w.heap.size+1+1 by omega) (.bool sg) (.slice pt kt ct) (.slice pf kf cf));go_wp2_with fail;refine bodyPost_ret (v := .agg #[.bool sg,.slice pt kt ct,.slice pf kf cf]) ?_ rfl ?_
 ·simp[results,Tryz.results57,go_sem,r0,r1,r2]
 ·exact⟨⟨_,rfl,aF.out⟩,aG.out⟩
theorem qoq(a:Rat)(h:¬a.num<0):a.floor.natAbs=a.num.natAbs/a.den∧¬a.floor<0:=by
 have e:a.num=(a.num.natAbs:Int):=by omega
 rw[Rat.floor_def];generalize a.num.natAbs=m at *;rw[e,←Int.natCast_ediv];exact⟨Int.natAbs_natCast _,Int.not_lt.2 (Int.natCast_nonneg _)⟩
theorem qor(a:Rat)(h:a.num<0):a.floor.natAbs=a.num.natAbs/a.den+(if a.num.natAbs % a.den=0 then 0 else 1)∧a.floor<0:=by
 have e:a.num = -(a.num.natAbs:Int):=by omega
 have hm:0<a.num.natAbs:=by omega
 rw[Rat.floor_def];have hn:=a.den_pos;generalize a.num.natAbs=m at *;generalize a.den=n at *;have hd:=Nat.div_add_mod m n;have hl:=Nat.mod_lt m hn;have Lp:(n:Int)*((m/n:Nat):Int)+((m % n:Nat):Int)=(m:Int):=by exact_mod_cast hd
 have rM:m/n=0→m % n≠0:=by
  intro h1 h2;rw[h1,h2] at hd;omega
 rw[e];generalize m/n=q at *;generalize m % n=r at *;by_cases hr:r=0
 ·rw[if_pos hr]
  subst hr;have:=((Int.ediv_emod_unique (a := -(m:Int)) (b:=n) (r:=0) (q := -(q:Int)) (by omega)).2 ⟨by grind,by omega,by omega⟩).1;rw[this];omega
 ·rw[if_neg hr]
  have:=((Int.ediv_emod_unique (a := -(m:Int)) (b:=n) (r:=(n:Int)-r) (q := -(q:Int)-1) (by omega)).2 ⟨by grind,by omega,by omega⟩).1;rw[this];omega
theorem qjn{w W:World}{na:Bool}{ta ba:Value}{f:FuncId}{args:Array Value}{P:Ending→World→Prop}(hW:qgz w na ta ba W)
  (h:Calls Tryz.prog f args W fun e w'=>P e w'∧Below W.heap.size W w'):Calls Tryz.prog f args W fun e w'=>P e w'∧qgz w na ta ba w'∧Below W.heap.size W w':=
 h.mono fun _ _ ⟨h1,h2⟩=>⟨h1,hW.later h2,h2⟩
theorem qd9{w W:World}{na:Bool}{ta ba:Value}(h:qgz w na ta ba W):W.cell? ⟨w.heap.size,0,none⟩=some (.bool na)∧W.cell? ⟨w.heap.size,1,none⟩=some ta∧W.cell? ⟨w.heap.size,2,none⟩=some ba:=
 ⟨(h.2.1.2 0 (by omega)).1,(h.2.1.2 1 (by omega)).1,(h.2.1.2 2 (by omega)).1⟩
theorem qrj{w W:World}{na:Bool}{ta ba:Value}(h:qgz w na ta ba W):
  (W.cell? ⟨w.heap.size+1,0,none⟩=some (.bool false)∧W.frozen? ⟨w.heap.size+1,0,none⟩=false)∧
  (W.cell? ⟨w.heap.size+1,1,none⟩=some (.slice none 0 0)∧W.frozen? ⟨w.heap.size+1,1,none⟩=false)∧
  (W.cell? ⟨w.heap.size+1,2,none⟩=some (.slice none 0 0)∧W.frozen? ⟨w.heap.size+1,2,none⟩=false):=
 ⟨h.2.2.2 0 (by omega),h.2.2.2 1 (by omega),h.2.2.2 2 (by omega)⟩
theorem q03(va:Value)(a:Rat)(w:World)(ha:qau w va a)(aQ:rs a≤Cap):
  Calls Tryz.prog 100 #[va] w fun e w'=>(∃v',e = .returned v'∧qau w' v' (a.floor:Rat))∧Below w.heap.size w w':=by
 have HA:=hid ha;obtain⟨aH,aI,aJ,aN,aL,aO,rfl,dQ,eR⟩:=ha.parts;have eP:=hid dQ;clear ha dQ eR
 have dV:Hid (decide (a.floor<0)=(decide (a.num<0)&&decide (0<a.floor.natAbs))):=by
  refine hid ?_;by_cases h:a.num<0
  ·have:=(qor a h).2
   rw[qag h,qag this,qag (by omega)];rfl
  ·have:=(qoq a h).2
   rw[qaf h,qaf this];rfl
 have Lq:Hid (a.floor.natAbs=a.num.natAbs/a.den+(if decide (a.num<0)=true∧a.num.natAbs % a.den≠0 then 1 else 0)):=by
  refine hid ?_;by_cases h:a.num<0
  ·rw[(qor a h).1,qag h]
   by_cases h2:a.num.natAbs % a.den=0
   ·rw[if_pos h2,if_neg (by rintro⟨_,h3⟩;exact h3 h2)]
   ·rw[if_neg h2,if_pos ⟨rfl,h2⟩]
  ·rw[(qoq a h).1,qaf h,if_neg (by rintro⟨h3,_⟩;cases h3)];rfl
 generalize decide (a.num<0)=na at *;have dU:Hid (wl a.num.natAbs+wl a.den≤Cap):=hid aQ;have aM:=hid (qop w na (.slice aH aI aJ) (.slice aN aL aO));have gF:Hid (∀W,qgz w na (.slice aH aI aJ) (.slice aN aL aO) W→Calls Tryz.prog 109 #[.agg #[.bool na,.slice aH aI aJ,.slice aN aL aO]] W fun e w'=>(∃v',e = .returned v'∧qa5 w' v' a.den)∧qgz w na (.slice aH aI aJ) (.slice aN aL aO) w'∧Below W.heap.size W w'):=hid fun W hW=>qjn hW (qb8 _ a W (HA.out.later hW.1))
 have cW:Hid (∀W v,qgz w na (.slice aH aI aJ) (.slice aN aL aO) W→qa5 W v a.den→Calls Tryz.prog 112 #[.slice aH aI aJ,v] W fun e w'=>(∃vq vr,e = .returned (.tuple #[vq,vr])∧qa5 w' vq (a.num.natAbs/a.den)∧qa5 w' vr (a.num.natAbs % a.den))∧qgz w na (.slice aH aI aJ) (.slice aN aL aO) w'∧Below W.heap.size W w'):=
  hid fun W v hW h=>qjn hW (qmi _ v _ _ W (eP.out.later hW.1) h a.den_pos (by have:=dU.out;omega))
 have zS:Hid (∀W v1 v2,qgz w na (.slice aH aI aJ) (.slice aN aL aO) W→qa5 W v1 (a.num.natAbs/a.den)→qa5 W v2 1→Calls Tryz.prog 149 #[v1,v2] W fun e w'=>(∃v',e = .returned v'∧qa5 w' v' (a.num.natAbs/a.den+1))∧qgz w na (.slice aH aI aJ) (.slice aN aL aO) w'∧Below W.heap.size W w'):=
  hid fun W v1 v2 hW h1 h2=>qjn hW (q0q v1 v2 _ _ W h1 h2 (Nat.le_trans (qdp (Nat.div_le_self _ _)) (by have:=dU.out;omega)) (by have:=dU.out;have:=qdp (show 1≤a.den from a.den_pos);omega))
 have fT:Hid (∀W v,qgz w na (.slice aH aI aJ) (.slice aN aL aO) W→qa5 W v a.floor.natAbs→Calls Tryz.prog 94 #[.bool na,v,.slice none 0 0] W fun e w'=>(∃v',e = .returned v'∧qau w' v' (a.floor:Rat))∧qgz w na (.slice aH aI aJ) (.slice aN aL aO) w'∧Below W.heap.size W w'):=by
  refine hid fun W v hW h=>qjn hW ((qe5 na _ v _ _ 0 0 W h (qa5.nil W) dV.out rfl).mono ?_);rintro e w' ⟨⟨vb',he,n1,n2⟩,hb⟩;exact⟨⟨_,he,_,_,rfl,n1,n2⟩,hb⟩
 have Bn:Hid (∀W:World,qa5 (W.alloc (.cells #[.int .u64 ((1:Nat):Int)] 160)) (.slice (some ⟨W.heap.size,0,none⟩) 1 1) 1):=hid fun W=>qkj W 1 (by rw[qai];omega) (by omega);clear aQ dV;go_enter Tryz.func100,Tryz.ntmps100;go_wp2_with fail;generalize (w.alloc (.cells #[.bool na,.slice aH aI aJ,.slice aN aL aO] 87)).alloc (.cells #[.bool false,.slice none 0 0,.slice none 0 0] 87)=w0 at *;have bX:=hid (aM.out.later ((qaa _ _).drew))
 go_region_held3 (fun W=>W.cell? ⟨w.heap.size,0,none⟩=some (.bool na)∧W.cell? ⟨w.heap.size,1,none⟩=some (.slice aH aI aJ)∧W.cell? ⟨w.heap.size,2,none⟩=some (.slice aN aL aO)) (first|exact qd9 oU.out|exact qd9 Fi.out|exact qd9 bX.out)
  (first
   | (go_at_call 109;((with_reducible refine(gF.out _ bX.out).mono ?_);rintro e wA ⟨⟨vA,rfl,hn⟩,ht,hb⟩;have mF:=hid hn;have Fi:=hid ht;clear hn ht hb))
   | (go_at_call 112;((refine(cW.out _ _ Fi.out mF.out).mono ?_);rintro e wD ⟨⟨vQ,vR,rfl,hn,hr⟩,ht,hb⟩;have Lr:=hid hn;have Nf:=hid hr;have oU:=hid ht;clear hn hr ht hb)))
 obtain⟨pR,kR,cR,rfl,Pj⟩:=qa7 Nf.out;clear bX aM mF Fi;cases na
 ·have HE:Hid (qa5 wD vQ a.floor.natAbs):=hid (by rw[Lq.out,if_neg (by rintro⟨h3,_⟩;cases h3)];exact Lr.out)
  clear Pj;obtain⟨d0,d1,d2⟩:=qd9 oU.out;go_wp2_with fail;clear d0 d1 d2;refine(fT.out _ _ oU.out HE.out).mono ?_;rintro e wP ⟨⟨vP,rfl,hn⟩,ht,hb⟩;have oS:=hid hn;have fG:=hid ht;obtain⟨pt,kt,ct,pf,kf,cf,rfl,dW,dP⟩:=hn.parts;clear hn ht hb dW dP;generalize decide ((a.floor:Rat).num<0)=sg at *;obtain⟨⟨r0,g0⟩,⟨r1,g1⟩,⟨r2,g2⟩⟩:=qrj fG.out;have aF:=hid (qb5 oS.out r0 r1 r2);have aG:=hid (qaw fG.out.1 (show w.heap.size≤w.heap.size+1 by omega) (.bool sg) (.slice pt kt ct) (.slice pf kf cf));go_wp2_with fail;refine bodyPost_ret (v := .agg #[.bool sg,.slice pt kt ct,.slice pf kf cf]) ?_ rfl ?_
  ·simp[results,Tryz.results100,go_sem,r0,r1,r2]
  ·exact⟨⟨_,rfl,aF.out⟩,aG.out⟩
 ·by_cases hr:a.num.natAbs % a.den=0
  ·have HE:Hid (qa5 wD vQ a.floor.natAbs):=hid (by rw[Lq.out,if_neg (by rintro⟨_,h3⟩;exact h3 hr)];exact Lr.out)
   rw[hr,qcw] at Pj;subst Pj;clear hr;obtain⟨d0,d1,d2⟩:=qd9 oU.out;go_wp2_with fail;clear d0 d1 d2;refine(fT.out _ _ oU.out HE.out).mono ?_;rintro e wP ⟨⟨vP,rfl,hn⟩,ht,hb⟩;have oS:=hid hn;have fG:=hid ht;obtain⟨pt,kt,ct,pf,kf,cf,rfl,dW,dP⟩:=hn.parts;clear hn ht hb dW dP;generalize decide ((a.floor:Rat).num<0)=sg at *;obtain⟨⟨r0,g0⟩,⟨r1,g1⟩,⟨r2,g2⟩⟩:=qrj fG.out;have aF:=hid (qb5 oS.out r0 r1 r2);have aG:=hid (qaw fG.out.1 (show w.heap.size≤w.heap.size+1 by omega) (.bool sg) (.slice pt kt ct) (.slice pf kf cf));go_wp2_with fail;refine bodyPost_ret (v := .agg #[.bool sg,.slice pt kt ct,.slice pf kf cf]) ?_ rfl ?_
   ·simp[results,Tryz.results100,go_sem,r0,r1,r2]
   ·exact⟨⟨_,rfl,aF.out⟩,aG.out⟩
  ·have kV:0<kR:=by rw[Pj];exact qqj (by omega)
   have nP:(0:Int)<(kR:Int):=by omega
   have HFL1:Hid (a.floor.natAbs=a.num.natAbs/a.den+1):=hid (by rw[Lq.out,if_pos ⟨rfl,hr⟩]);clear hr Pj;obtain⟨d0,d1,d2⟩:=qd9 oU.out;go_wp2_with fail;clear d0 d1 d2;have aD:=(qaa wD.heap.size wD).alloc (qac _) (.cells #[.int .u64 ((1:Nat):Int)] 160);refine(zS.out _ _ _ (oU.out.later aD) (Lr.out.later aD) (Bn.out wD)).mono ?_;rintro e wB ⟨⟨vB,rfl,hn⟩,ht,hb⟩;have HE:Hid (qa5 wB vB a.floor.natAbs):=hid (by rw[HFL1.out];exact hn);have uI:=hid ht;clear hn ht hb aD;obtain⟨d0,d1,d2⟩:=qd9 uI.out;go_wp2_with fail;clear d0 d1 d2;refine(fT.out _ _ uI.out HE.out).mono ?_;rintro e wP ⟨⟨vP,rfl,hn⟩,ht,hb⟩;have oS:=hid hn;have fG:=hid ht;obtain⟨pt,kt,ct,pf,kf,cf,rfl,dW,dP⟩:=hn.parts;clear hn ht hb dW dP;generalize decide ((a.floor:Rat).num<0)=sg at *;obtain⟨⟨r0,g0⟩,⟨r1,g1⟩,⟨r2,g2⟩⟩:=qrj fG.out;have aF:=hid (qb5 oS.out r0 r1 r2);have aG:=hid (qaw fG.out.1 (show w.heap.size≤w.heap.size+1 by omega) (.bool sg) (.slice pt kt ct) (.slice pf kf cf));go_wp2_with fail;refine bodyPost_ret (v := .agg #[.bool sg,.slice pt kt ct,.slice pf kf cf]) ?_ rfl ?_
   ·simp[results,Tryz.results100,go_sem,r0,r1,r2]
   ·exact⟨⟨_,rfl,aF.out⟩,aG.out⟩
def qcg(w:World)(na:Bool)(ta ba:Value)(nb:Bool)(tb bb:Value)(W:World):Prop:=
 Below w.heap.size w W∧Own W w.heap.size 3 (qcs na ta ba)∧Own W (w.heap.size+1) 3 (qcs nb tb bb)
theorem qcg.later{w:World}{na nb:Bool}{ta ba tb bb:Value}{W W':World}(h:qcg w na ta ba nb tb bb W)(hb:Below W.heap.size W W'):qcg w na ta ba nb tb bb W':=by
 obtain⟨h1,h2,h3⟩:=h;have:=h3.1;exact⟨h1.trans (hb.mono h1.size),h2.later (hb.mono (by omega)),h3.later (hb.mono (by omega))⟩
theorem qcg.drew{w:World}{na nb:Bool}{ta ba tb bb:Value}{W:World}(h:qcg w na ta ba nb tb bb W):qcg w na ta ba nb tb bb W.drew:=h.later ((qaa _ _).drew)
theorem qg9{w W:World}{na nb:Bool}{ta ba tb bb:Value}{f:FuncId}{args:Array Value}{P:Ending→World→Prop}(hW:qcg w na ta ba nb tb bb W)
  (h:Calls Tryz.prog f args W fun e w'=>P e w'∧Below W.heap.size W w'):Calls Tryz.prog f args W fun e w'=>P e w'∧qcg w na ta ba nb tb bb w'∧Below W.heap.size W w':=
 h.mono fun _ _ ⟨h1,h2⟩=>⟨h1,hW.later h2,h2⟩
theorem qmj(w:World)(na:Bool)(ta ba:Value)(nb:Bool)(tb bb:Value):
  qcg w na ta ba nb tb bb ((w.alloc (.cells #[.bool na,ta,ba] 87)).alloc (.cells #[.bool nb,tb,bb] 87)):=by
 have h1:=qqk w na ta ba;have h2:=qqk (w.alloc (.cells #[.bool na,ta,ba] 87)) nb tb bb;simp only[qab] at h2;have al:∀(V:World) (o:Obj),Below V.heap.size V (V.alloc o):=fun V o=>qad _ _;exact⟨(al w _).trans ((al _ _).mono (by rw[qab];omega)),h1.later ((al _ _).mono (by rw[qab];omega)),h2⟩
theorem qb1{w:World}{na nb:Bool}{ta ba tb bb:Value}{W:World}(h:qcg w na ta ba nb tb bb W):
  W.cell? ⟨w.heap.size,0,none⟩=some (.bool na)∧W.cell? ⟨w.heap.size,1,none⟩=some ta∧W.cell? ⟨w.heap.size,2,none⟩=some ba∧
  W.cell? ⟨w.heap.size+1,0,none⟩=some (.bool nb)∧W.cell? ⟨w.heap.size+1,1,none⟩=some tb∧W.cell? ⟨w.heap.size+1,2,none⟩=some bb:=
 ⟨(h.2.1.2 0 (by omega)).1,(h.2.1.2 1 (by omega)).1,(h.2.1.2 2 (by omega)).1,(h.2.2.2 0 (by omega)).1,(h.2.2.2 1 (by omega)).1,(h.2.2.2 2 (by omega)).1⟩
def qfe(a b:Rat):Int:=qso (a.num*b.den) (b.num*a.den)
theorem qey(a:Rat):(sgn a = -1∧a.num<0)∨(sgn a=0∧a.num=0)∨(sgn a=1∧0<a.num):=by
 unfold sgn;split
 ·exact .inl ⟨rfl,by assumption⟩
 ·split
  ·exact .inr (.inl ⟨rfl,by assumption⟩)
  ·exact .inr (.inr ⟨rfl,by omega⟩)
theorem qql(a b:Rat)(h:sgn a≠sgn b∨sgn a=0):qso (sgn a) (sgn b)=qfe a b:=by
 have hp:∀(x:Int) (q:Rat),0<x→0<x*(q.den:Int):=fun x q h=>Int.mul_pos h (by have:=q.den_pos;omega);have hn:∀(x:Int) (q:Rat),x<0→x*(q.den:Int)<0:=fun x q h=>Int.mul_neg_of_neg_of_pos h (by have:=q.den_pos;omega);unfold qfe;rcases qey a with⟨e1,h1⟩|⟨e1,h1⟩|⟨e1,h1⟩<;>rcases qey b with⟨e2,h2⟩|⟨e2,h2⟩|⟨e2,h2⟩<;>rw[e1,e2] at h ⊢
 ·omega
 ·have:=hn _ b h1
  rw[h2,Int.zero_mul,qdf this];rfl
 ·have:=hn _ b h1
  have:=hp _ a h2;rw[qdf (by omega:a.num*(b.den:Int)<b.num*a.den)];rfl
 ·have:=hn _ a h2
  rw[h1,Int.zero_mul,qcr this];rfl
 ·rw[h1,h2,Int.zero_mul,Int.zero_mul]
 ·have:=hp _ a h2
  rw[h1,Int.zero_mul,qdf this];rfl
 ·have:=hp _ b h1
  have:=hn _ a h2;rw[qcr (by omega:b.num*(a.den:Int)<a.num*b.den)];rfl
 ·have:=hp _ b h1
  rw[h2,Int.zero_mul,qcr this];rfl
 ·omega
theorem q4w(a b:Rat)(h1:0<a.num)(h2:0<b.num):qex (a.num.natAbs*b.den) (b.num.natAbs*a.den)=qfe a b:=by
 unfold qex qfe;rw[Int.natCast_mul,Int.natCast_mul,Int.natAbs_of_nonneg (by omega),Int.natAbs_of_nonneg (by omega)]
theorem q4x(a b:Rat)(h1:a.num<0)(h2:b.num<0) : -qex (a.num.natAbs*b.den) (b.num.natAbs*a.den)=qfe a b:=by
 have e1:(a.num.natAbs:Int) = -a.num:=by omega
 have e2:(b.num.natAbs:Int) = -b.num:=by omega
 unfold qex qfe;rw[Int.natCast_mul,Int.natCast_mul,e1,e2,Int.neg_mul,Int.neg_mul];unfold qso;generalize a.num*(b.den:Int)=x;generalize b.num*(a.den:Int)=y;split<;>split<;>(try split)<;>(try split)<;>omega
theorem qyv(va vb:Value)(a b:Rat)(w:World)(ha:qau w va a)(hb:qau w vb b)(h0a:sgn a=0)(h0b:sgn b=0):
  Calls Tryz.prog 51 #[va,vb] w fun e w'=>e = .returned (.int .i64 (qfe a b))∧Below w.heap.size w w':=by
 have HA:=hid ha;have HB:=hid hb;obtain⟨aH,aI,aJ,aN,aL,aO,rfl,dQ,eR⟩:=ha.parts;obtain⟨bB,bC,bE,bH,bI,bJ,rfl,aZ,aR⟩:=hb.parts;clear ha hb dQ eR aZ aR;generalize decide (a.num<0)=na at *;generalize decide (b.num<0)=nb at *;have aM:=hid (qmj w na (.slice aH aI aJ) (.slice aN aL aO) nb (.slice bB bC bE) (.slice bH bI bJ));have oL:Hid (∀W,qcg w na (.slice aH aI aJ) (.slice aN aL aO) nb (.slice bB bC bE) (.slice bH bI bJ) W→Calls Tryz.prog 98 #[.agg #[.bool na,.slice aH aI aJ,.slice aN aL aO]] W fun e w'=>(e = .returned (.int .i64 0))∧qcg w na (.slice aH aI aJ) (.slice aN aL aO) nb (.slice bB bC bE) (.slice bH bI bJ) w'∧Below W.heap.size W w'):=hid fun W hW=>by rw[←h0a];exact qg9 hW (qdu _ a W (HA.out.later hW.1))
 have cP:Hid (∀W,qcg w na (.slice aH aI aJ) (.slice aN aL aO) nb (.slice bB bC bE) (.slice bH bI bJ) W→Calls Tryz.prog 98 #[.agg #[.bool nb,.slice bB bC bE,.slice bH bI bJ]] W fun e w'=>(e = .returned (.int .i64 0))∧qcg w na (.slice aH aI aJ) (.slice aN aL aO) nb (.slice bB bC bE) (.slice bH bI bJ) w'∧Below W.heap.size W w'):=hid fun W hW=>by rw[←h0b];exact qg9 hW (qdu _ b W (HB.out.later hW.1))
 have oV:Hid (∀W,Calls Tryz.prog 60 #[.int .i64 0,.int .i64 0] W fun e w'=>e = .returned (.int .i64 (qfe a b))∧w'=W):=hid fun W=>by rw[←qql a b (.inr h0a),h0a,h0b];exact qjl _ _ W
 generalize qfe a b=res at *;clear h0a h0b;go_enter Tryz.func51,Tryz.ntmps51;go_wp2_with fail;generalize (w.alloc (.cells #[.bool na,.slice aH aI aJ,.slice aN aL aO] 87)).alloc (.cells #[.bool nb,.slice bB bC bE,.slice bH bI bJ] 87)=w0 at *;have dG:=hid aM.out.drew;obtain⟨d0,d1,d2,d3,d4,d5⟩:=qb1 dG.out
 go_region_with (first
  | (go_at_call 98;first
    | ((with_reducible refine(oL.out _ dG.out).mono ?_);rintro e wC ⟨rfl,ht,hb⟩;clear dG d0 d1 d2 d3 d4 d5;have dG:=hid ht;obtain⟨d0,d1,d2,d3,d4,d5⟩:=qb1 ht;clear ht hb)
    | ((with_reducible refine(cP.out _ dG.out).mono ?_);rintro e wC ⟨rfl,ht,hb⟩;clear dG d0 d1 d2 d3 d4 d5;have dG:=hid ht;obtain⟨d0,d1,d2,d3,d4,d5⟩:=qb1 ht;clear ht hb)))
 all_goals
  clear d0 d1 d2 d3 d4 d5;have oP:=hid dG.out.drew;clear dG aM;have dG:=oP;clear oP;go_wp2_with fail
  go_region_held3 (fun W=>W.cell? ⟨w.heap.size,0,none⟩=some (.bool na)∧W.cell? ⟨w.heap.size,1,none⟩=some (.slice aH aI aJ)∧W.cell? ⟨w.heap.size,2,none⟩=some (.slice aN aL aO)∧W.cell? ⟨w.heap.size+1,0,none⟩=some (.bool nb)∧W.cell? ⟨w.heap.size+1,1,none⟩=some (.slice bB bC bE)∧W.cell? ⟨w.heap.size+1,2,none⟩=some (.slice bH bI bJ)) (exact qb1 dG.out)
   (first
   | (go_at_call 98;first
     | ((with_reducible refine(oL.out _ dG.out).mono ?_);rintro e wE ⟨rfl,ht,hb⟩;clear dG;have dG:=hid ht;clear ht hb)
     | ((with_reducible refine(cP.out _ dG.out).mono ?_);rintro e wE ⟨rfl,ht,hb⟩;clear dG;have dG:=hid ht;clear ht hb))
   | (go_at_call 60;((refine(oV.out _).mono ?_);rintro e wG ⟨rfl,rfl⟩)))
  have nD:=hid dG.out.1;go_wp2_with fail;go_ret;exact⟨rfl,nD.out⟩
theorem qyw(p q:Nat):qex p q = -1∨qex p q=0∨qex p q=1:=by
 unfold qex qso;split
 ·exact .inl rfl
 ·split
  ·exact .inr (.inr rfl)
  ·exact .inr (.inl rfl)
theorem qos(s:Int)(va vb:Value)(a b:Rat)(w:World)(ha:qau w va a)(hb:qau w vb b)(hs:s = -1∨s=1)(h0a:sgn a=s)(h0b:sgn b=s)(aQ:rs a+rs b≤Cap):
  Calls Tryz.prog 51 #[va,vb] w fun e w'=>e = .returned (.int .i64 (qfe a b))∧Below w.heap.size w w':=by
 have HA:=hid ha;have HB:=hid hb;obtain⟨aH,aI,aJ,aN,aL,aO,rfl,dQ,eR⟩:=ha.parts;obtain⟨bB,bC,bE,bH,bI,bJ,rfl,aZ,aR⟩:=hb.parts;have eP:=hid dQ;have aP:=hid aZ;have dU:Hid (wl a.num.natAbs+wl a.den+(wl b.num.natAbs+wl b.den)≤Cap):=hid aQ
 have aV:Hid (IntKind.i64.wrap (qex (a.num.natAbs*b.den) (b.num.natAbs*a.den)*s)=qfe a b):=by
  refine hid ?_;have hn:=qyw (a.num.natAbs*b.den) (b.num.natAbs*a.den);have hca:=qey a;have Cf:=qey b
  have hw:∀z:Int,z = -1∨z=0∨z=1→IntKind.i64.wrap z=z:=by
   rintro z (rfl|rfl|rfl)<;>rfl
  rcases hs with rfl|rfl
  ·rw[hw _ (by omega),←q4x a b (by omega) (by omega)]
   omega
  ·rw[hw _ (by omega),←q4w a b (by omega) (by omega)]
   omega
 clear ha hb dQ eR aZ aR aQ;generalize decide (a.num<0)=na at *;generalize decide (b.num<0)=nb at *;have aM:=hid (qmj w na (.slice aH aI aJ) (.slice aN aL aO) nb (.slice bB bC bE) (.slice bH bI bJ));have oL:Hid (∀W,qcg w na (.slice aH aI aJ) (.slice aN aL aO) nb (.slice bB bC bE) (.slice bH bI bJ) W→Calls Tryz.prog 98 #[.agg #[.bool na,.slice aH aI aJ,.slice aN aL aO]] W fun e w'=>(e = .returned (.int .i64 s))∧qcg w na (.slice aH aI aJ) (.slice aN aL aO) nb (.slice bB bC bE) (.slice bH bI bJ) w'∧Below W.heap.size W w'):=hid fun W hW=>by rw[←h0a];exact qg9 hW (qdu _ a W (HA.out.later hW.1))
 have cP:Hid (∀W,qcg w na (.slice aH aI aJ) (.slice aN aL aO) nb (.slice bB bC bE) (.slice bH bI bJ) W→Calls Tryz.prog 98 #[.agg #[.bool nb,.slice bB bC bE,.slice bH bI bJ]] W fun e w'=>(e = .returned (.int .i64 s))∧qcg w na (.slice aH aI aJ) (.slice aN aL aO) nb (.slice bB bC bE) (.slice bH bI bJ) w'∧Below W.heap.size W w'):=hid fun W hW=>by rw[←h0b];exact qg9 hW (qdu _ b W (HB.out.later hW.1))
 have gF:Hid (∀W,qcg w na (.slice aH aI aJ) (.slice aN aL aO) nb (.slice bB bC bE) (.slice bH bI bJ) W→Calls Tryz.prog 109 #[.agg #[.bool na,.slice aH aI aJ,.slice aN aL aO]] W fun e w'=>(∃v',e = .returned v'∧qa5 w' v' a.den)∧qcg w na (.slice aH aI aJ) (.slice aN aL aO) nb (.slice bB bC bE) (.slice bH bI bJ) w'∧Below W.heap.size W w'):=hid fun W hW=>(qb8 _ a W (HA.out.later hW.1)).mono fun _ _ ⟨⟨v,h1,h2⟩,h3⟩=>⟨⟨v,h1,h2⟩,hW.later h3,h3⟩;have fV:Hid (∀W,qcg w na (.slice aH aI aJ) (.slice aN aL aO) nb (.slice bB bC bE) (.slice bH bI bJ) W→Calls Tryz.prog 109 #[.agg #[.bool nb,.slice bB bC bE,.slice bH bI bJ]] W fun e w'=>(∃v',e = .returned v'∧qa5 w' v' b.den)∧qcg w na (.slice aH aI aJ) (.slice aN aL aO) nb (.slice bB bC bE) (.slice bH bI bJ) w'∧Below W.heap.size W w'):=hid fun W hW=>(qb8 _ b W (HB.out.later hW.1)).mono fun _ _ ⟨⟨v,h1,h2⟩,h3⟩=>⟨⟨v,h1,h2⟩,hW.later h3,h3⟩;have Cx:Hid (∀W v,qcg w na (.slice aH aI aJ) (.slice aN aL aO) nb (.slice bB bC bE) (.slice bH bI bJ) W→qa5 W v b.den→Calls Tryz.prog 108 #[.slice aH aI aJ,v] W fun e w'=>(∃v',e = .returned v'∧qa5 w' v' (a.num.natAbs*b.den))∧qcg w na (.slice aH aI aJ) (.slice aN aL aO) nb (.slice bB bC bE) (.slice bH bI bJ) w'∧Below W.heap.size W w'):=hid fun W v hW hv=>(qgo _ v _ _ W (eP.out.later hW.1) hv (by have:=dU.out;omega) (by have:=dU.out;omega)).mono fun _ _ ⟨⟨v,h1,h2⟩,h3⟩=>⟨⟨v,h1,h2⟩,hW.later h3,h3⟩
 have rA:Hid (∀W v,qcg w na (.slice aH aI aJ) (.slice aN aL aO) nb (.slice bB bC bE) (.slice bH bI bJ) W→qa5 W v a.den→Calls Tryz.prog 108 #[.slice bB bC bE,v] W fun e w'=>(∃v',e = .returned v'∧qa5 w' v' (b.num.natAbs*a.den))∧qcg w na (.slice aH aI aJ) (.slice aN aL aO) nb (.slice bB bC bE) (.slice bH bI bJ) w'∧Below W.heap.size W w'):=hid fun W v hW hv=>(qgo _ v _ _ W (aP.out.later hW.1) hv (by have:=dU.out;omega) (by have:=dU.out;omega)).mono fun _ _ ⟨⟨v,h1,h2⟩,h3⟩=>⟨⟨v,h1,h2⟩,hW.later h3,h3⟩
 have HCN:Hid (∀W v v',qcg w na (.slice aH aI aJ) (.slice aN aL aO) nb (.slice bB bC bE) (.slice bH bI bJ) W→qa5 W v (a.num.natAbs*b.den)→qa5 W v' (b.num.natAbs*a.den)→Calls Tryz.prog 107 #[v,v'] W fun e w'=>e = .returned (.int .i64 (qex (a.num.natAbs*b.den) (b.num.natAbs*a.den)))∧qcg w na (.slice aH aI aJ) (.slice aN aL aO) nb (.slice bB bC bE) (.slice bH bI bJ) w'∧Below W.heap.size W w'):=hid fun W v v' hW h1 h2=>(qei v v' _ _ W h1 h2).mono fun _ _ ⟨h1,k,h2⟩=>by
  subst h2;have hb:Below W.heap.size W (W.drewN k):=below_drewN (qaa _ _) k;exact⟨h1,hW.later hb,hb⟩
 generalize qfe a b=res at *;generalize qex (a.num.natAbs*b.den) (b.num.natAbs*a.den)=cn at *;generalize a.num.natAbs*b.den=xa at *;generalize b.num.natAbs*a.den=xb at *;generalize a.den=da at *;generalize b.den=db at *;clear h0a h0b dU eP aP;have gV:Hid (s = -1→wrap64 (-cn)=res):=hid (by rintro rfl;have:=aV.out;rw[Int.mul_neg_one,IntKind.wrap_i64] at this;unfold wrap64;exact this);have kH:Hid (s=1→wrap64 cn=res):=hid (by rintro rfl;have:=aV.out;rw[Int.mul_one,IntKind.wrap_i64] at this;unfold wrap64;exact this);clear aV;rcases hs with rfl|rfl
 all_goals
  first
  | have HF:=hid (gV.out rfl)
  | have HF:=hid (kH.out rfl)
  clear gV kH;go_enter Tryz.func51,Tryz.ntmps51;go_wp2_with fail;generalize (w.alloc (.cells #[.bool na,.slice aH aI aJ,.slice aN aL aO] 87)).alloc (.cells #[.bool nb,.slice bB bC bE,.slice bH bI bJ] 87)=w0 at *;have dG:=hid aM.out.drew;obtain⟨d0,d1,d2,d3,d4,d5⟩:=qb1 dG.out
  go_region_with (first
  | (go_at_call 98;first
    | ((with_reducible refine(oL.out _ dG.out).mono ?_);rintro e wC ⟨rfl,ht,hb⟩;clear dG d0 d1 d2 d3 d4 d5;have dG:=hid ht;obtain⟨d0,d1,d2,d3,d4,d5⟩:=qb1 ht;clear ht hb)
    | ((with_reducible refine(cP.out _ dG.out).mono ?_);rintro e wC ⟨rfl,ht,hb⟩;clear dG d0 d1 d2 d3 d4 d5;have dG:=hid ht;obtain⟨d0,d1,d2,d3,d4,d5⟩:=qb1 ht;clear ht hb)))
  all_goals
  clear d0 d1 d2 d3 d4 d5;have oP:=hid dG.out.drew;clear dG aM;have dG:=oP;clear oP;go_wp2_with fail
  go_region_held3 (fun W=>W.cell? ⟨w.heap.size,0,none⟩=some (.bool na)∧W.cell? ⟨w.heap.size,1,none⟩=some (.slice aH aI aJ)∧W.cell? ⟨w.heap.size,2,none⟩=some (.slice aN aL aO)∧W.cell? ⟨w.heap.size+1,0,none⟩=some (.bool nb)∧W.cell? ⟨w.heap.size+1,1,none⟩=some (.slice bB bC bE)∧W.cell? ⟨w.heap.size+1,2,none⟩=some (.slice bH bI bJ)) (exact qb1 dG.out)
   (first
   | (go_at_call 109;first
     | ((with_reducible refine(gF.out _ dG.out).mono ?_);rintro e wE ⟨⟨vA,rfl,hn⟩,ht,hb⟩;clear dG;have dG:=hid ht;have mF:=hid hn;(try replace qW:=hid (qW.out.later hb));(try replace gG:=hid (gG.out.later hb));(try replace oQ:=hid (oQ.out.later hb));clear ht hb hn)
     | ((with_reducible refine(fV.out _ dG.out).mono ?_);rintro e wE ⟨⟨vB,rfl,hn⟩,ht,hb⟩;clear dG;have dG:=hid ht;have qW:=hid hn;(try replace mF:=hid (mF.out.later hb));(try replace gG:=hid (gG.out.later hb));(try replace oQ:=hid (oQ.out.later hb));clear ht hb hn))
   | (go_at_call 108;first
     | ((with_reducible refine(Cx.out _ _ dG.out qW.out).mono ?_);rintro e wE ⟨⟨vX,rfl,hn⟩,ht,hb⟩;clear dG;have dG:=hid ht;have gG:=hid hn;(try replace mF:=hid (mF.out.later hb));(try replace oQ:=hid (oQ.out.later hb));clear ht hb hn)
     | ((with_reducible refine(rA.out _ _ dG.out mF.out).mono ?_);rintro e wE ⟨⟨vY,rfl,hn⟩,ht,hb⟩;clear dG;have dG:=hid ht;have oQ:=hid hn;(try replace qW:=hid (qW.out.later hb));(try replace gG:=hid (gG.out.later hb));clear ht hb hn))
   | (go_at_call 107;((refine(HCN.out _ _ _ dG.out gG.out oQ.out).mono ?_);rintro e wG ⟨rfl,ht,hb⟩;clear dG;have dG:=hid ht;clear ht hb)))
  all_goals
   obtain⟨d0,d1,d2,d3,d4,d5⟩:=qb1 dG.out;go_wp2_with fail;clear d0 d1 d2 d3 d4 d5;refine(oL.out _ ?_).mono ?_
   ·first|exact dG.out|exact dG.out.drew
   rintro e wH ⟨rfl,ht,hb⟩;have nD:=hid ht.1;clear ht hb dG;go_wp2_with fail;go_ret;exact⟨qa1 HF.out,nD.out⟩
theorem qyx(va vb:Value)(a b:Rat)(w:World)(ha:qau w va a)(hb:qau w vb b)(hne:sgn a=sgn b)(aQ:rs a+rs b≤Cap):
  Calls Tryz.prog 51 #[va,vb] w fun e w'=>e = .returned (.int .i64 (qfe a b))∧Below w.heap.size w w':=by
 rcases qey a with⟨h,_⟩|⟨h,_⟩|⟨h,_⟩
 ·exact qos (-1) va vb a b w ha hb (.inl rfl) h (hne▸h) aQ
 ·exact qyv va vb a b w ha hb h (hne▸h)
 ·exact qos 1 va vb a b w ha hb (.inr rfl) h (hne▸h) aQ
end Go.Proofs.YtlkdlffhmakbgaaGreatDoor
