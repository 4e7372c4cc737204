/- Over. -/
import Derived.Test.YtmcfcpgglfimjaaGreatDoorMTimes
set_option linter.all false
namespace Go.Proofs.YtmcfcpgglfimjaaGreatDoor
open Go.RowKit
set_option maxRecDepth 100000
set_option maxHeartbeats 10000000
theorem qle(b:Rat)(h:b.num≠0):(b⁻¹).num.natAbs=b.den∧(b⁻¹).den=b.num.natAbs∧(decide ((b⁻¹).num<0)=(decide (b.num<0)&&decide (0<b.den))):=by
 have hd:=b.den_pos;have e:b⁻¹ = Rat.inv b:=rfl;rw[e];unfold Rat.inv;split
 ·rename_i h1
  refine⟨by simp,rfl, ?_⟩;rw[qag h1,qag hd,qag (by show -(b.den:Int)<0;omega)];rfl
 ·split
  ·rename_i h1 h2
   refine⟨by simp,rfl, ?_⟩;rw[qae h1,qae (by show ¬(b.den:Int)<0;omega)];rfl
  ·omega
theorem q9r(b:Rat)(h:b.num≠0):rs b⁻¹ = rs b:=by
 unfold rs;rw[(qle b h).1,(qle b h).2.1];omega
theorem qfk(va vb:Value)(a b:Rat)(w:World)(ha:qaw w va a)(hb:qaw w vb b)(h0:b.num≠0)(aQ:rs a+rs b≤Cap):
  Calls Tryz.prog 55 #[va,vb] w fun e w'=>(∃v',e = .returned v'∧qaw w' v' (a/b))∧Below w.heap.size w w':=by
 have HA:=hid ha;have HB:=hid hb;obtain⟨aH,aI,aJ,aM,aL,aN,rfl,dM,eO⟩:=ha.parts;obtain⟨aZ,bA,bB,bF,bG,bH,rfl,aY,aR⟩:=hb.parts;have aP:=hid aY;clear ha hb dM eO aY aR;have dG:(sgn b==0)=false:=qan (by unfold sgn;split<;>omega);have sH:=hid (qle b h0);have rZ:=hid (q9r b h0);generalize decide (a.num<0)=na at *;generalize decide (b.num<0)=nb at *;have aO:=hid (qld w na (.slice aH aI aJ) (.slice aM aL aN) nb (.slice aZ bA bB) (.slice bF bG bH));have jD:Hid (∀W,qby w na (.slice aH aI aJ) (.slice aM aL aN) nb (.slice aZ bA bB) (.slice bF bG bH) W→Calls Tryz.prog 89 #[.agg #[.bool nb,.slice aZ bA bB,.slice bF bG bH]] W fun e w'=>(e = .returned (.int .i64 (sgn b)))∧qby w na (.slice aH aI aJ) (.slice aM aL aN) nb (.slice aZ bA bB) (.slice bF bG bH) w'∧Below W.heap.size W w'):=hid fun W hW=>qce hW (qdv _ b W (HB.out.later hW.1));have fQ:Hid (∀W,qby w na (.slice aH aI aJ) (.slice aM aL aN) nb (.slice aZ bA bB) (.slice bF bG bH) W→Calls Tryz.prog 100 #[.agg #[.bool nb,.slice aZ bA bB,.slice bF bG bH]] W fun e w'=>(∃v',e = .returned v'∧qa2 w' v' b.den)∧qby w na (.slice aH aI aJ) (.slice aM aL aN) nb (.slice aZ bA bB) (.slice bF bG bH) w'∧Below W.heap.size W w'):=hid fun W hW=>qce hW (qb9 _ b W (HB.out.later hW.1))
 have gW:Hid (∀W v,qby w na (.slice aH aI aJ) (.slice aM aL aN) nb (.slice aZ bA bB) (.slice bF bG bH) W→qa2 W v b.den→Calls Tryz.prog 85 #[.bool nb,v,.slice aZ bA bB] W fun e w'=>(∃v',e = .returned v'∧qaw w' v' b⁻¹)∧qby w na (.slice aH aI aJ) (.slice aM aL aN) nb (.slice aZ bA bB) (.slice bF bG bH) w'∧Below W.heap.size W w'):=by
  refine hid fun W v hW h=>qce hW ((qe3 nb _ v _ _ _ _ W h (aP.out.later hW.1) sH.out.2.2 rfl).mono ?_);rintro e w' ⟨⟨vb',he,n1,n2⟩,hb⟩;exact⟨⟨_,he,_,_,rfl,by rw[sH.out.1];exact n1,by rw[sH.out.2.1];exact n2⟩,hb⟩
 have iL:Hid (∀W v,qby w na (.slice aH aI aJ) (.slice aM aL aN) nb (.slice aZ bA bB) (.slice bF bG bH) W→qaw W v b⁻¹ → Calls Tryz.prog 53 #[.agg #[.bool na,.slice aH aI aJ,.slice aM aL aN],v] W fun e w'=>(∃v',e = .returned v'∧qaw w' v' (a/b))∧qby w na (.slice aH aI aJ) (.slice aM aL aN) nb (.slice aZ bA bB) (.slice bF bG bH) w'∧Below W.heap.size W w'):=
  hid fun W v hW hv=>qce hW (by rw[Rat.div_def];exact qd5 _ v a b⁻¹ W (HA.out.later hW.1) hv (by rw[rZ.out];exact aQ))
 clear aQ h0;generalize sgn b=s at *;go_enter Tryz.func55,Tryz.ntmps55;go_wp2_with fail;generalize ((w.alloc (.cells #[.bool na,.slice aH aI aJ,.slice aM aL aN] 85)).alloc (.cells #[.bool nb,.slice aZ bA bB,.slice bF bG bH] 85)).alloc (.cells #[.bool false,.slice none 0 0,.slice none 0 0] 85)=w0 at *;refine(jD.out _ aO.out).mono ?_;rintro e w1 ⟨rfl,ht,hb⟩;have cW:=hid ht.drew;clear ht hb;go_wp2_with fail
 go_region_held3 (fun W=>W.cell? ⟨w.heap.size,0,none⟩=some (.bool na)∧W.cell? ⟨w.heap.size,1,none⟩=some (.slice aH aI aJ)∧W.cell? ⟨w.heap.size,2,none⟩=some (.slice aM aL aN)∧W.cell? ⟨w.heap.size+1,0,none⟩=some (.bool nb)∧W.cell? ⟨w.heap.size+1,1,none⟩=some (.slice aZ bA bB)∧W.cell? ⟨w.heap.size+1,2,none⟩=some (.slice bF bG bH)) (first|exact qa1 eW.out|exact qa1 iB.out|exact qa1 nZ.out|exact qa1 cW.out|exact qhz (qhz (qhz (qa1 eW.out) (by omega) (by omega) _) (by omega) (by omega) _) (by omega) (by omega) _)
  (first
   | (go_at_call 100;((with_reducible refine(fQ.out _ cW.out).mono ?_);rintro e wD ⟨⟨vD,rfl,hn⟩,ht,hb⟩;have Hk:=hid hn;have nZ:=hid ht;clear hn ht hb))
   | (go_at_call 85;((refine(gW.out _ _ nZ.out Hk.out).mono ?_);rintro e wN ⟨⟨vN,rfl,hn⟩,ht,hb⟩;have rE:=hid hn;have iB:=hid ht;clear hn ht hb))
   | (go_at_call 53;((refine(iL.out _ _ iB.out rE.out).mono ?_);rintro e wP ⟨⟨vP,rfl,hn⟩,ht,hb⟩;have nX:=hid hn;have eW:=hid ht;obtain⟨pt,kt,ct,pf,kf,cf,rfl,eL,dO⟩:=hn.parts;clear hn ht hb eL dO;generalize decide ((a/b).num<0)=sg at *;obtain⟨⟨r0,g0⟩,⟨r1,g1⟩,⟨r2,g2⟩⟩:=qu6 eW.out)))
 have aF:=hid (qb6 nX.out r0 r1 r2);have aG:=hid (qax eW.out.1 (show w.heap.size≤w.heap.size+1+1 by omega) (.bool sg) (.slice pt kt ct) (.slice pf kf cf));go_wp2_with fail;refine bodyPost_ret (v := .agg #[.bool sg,.slice pt kt ct,.slice pf kf cf]) ?_ rfl ?_
 ·simp[results,Tryz.results55,go_sem,r0,r1,r2]
 ·exact⟨⟨_,rfl,aF.out⟩,aG.out⟩
theorem qol(a:Rat)(h:¬a.num<0):a.floor.natAbs=a.num.natAbs/a.den∧¬a.floor<0:=by
 have e:a.num=(a.num.natAbs:Int):=by omega
 rw[Rat.floor_def];generalize a.num.natAbs=m at *;rw[e,←Int.natCast_ediv];exact⟨Int.natAbs_natCast _,Int.not_lt.2 (Int.natCast_nonneg _)⟩
theorem qom(a:Rat)(h:a.num<0):a.floor.natAbs=a.num.natAbs/a.den+(if a.num.natAbs % a.den=0 then 0 else 1)∧a.floor<0:=by
 have e:a.num = -(a.num.natAbs:Int):=by omega
 have hm:0<a.num.natAbs:=by omega
 rw[Rat.floor_def];have hn:=a.den_pos;generalize a.num.natAbs=m at *;generalize a.den=n at *;have hd:=Nat.div_add_mod m n;have hl:=Nat.mod_lt m hn;have Eh:(n:Int)*((m/n:Nat):Int)+((m % n:Nat):Int)=(m:Int):=by exact_mod_cast hd
 have qQ:m/n=0→m % n≠0:=by
  intro h1 h2;rw[h1,h2] at hd;omega
 rw[e];generalize m/n=q at *;generalize m % n=r at *;by_cases hr:r=0
 ·rw[if_pos hr]
  subst hr;have:=((Int.ediv_emod_unique (a := -(m:Int)) (b:=n) (r:=0) (q := -(q:Int)) (by omega)).2 ⟨by grind,by omega,by omega⟩).1;rw[this];omega
 ·rw[if_neg hr]
  have:=((Int.ediv_emod_unique (a := -(m:Int)) (b:=n) (r:=(n:Int)-r) (q := -(q:Int)-1) (by omega)).2 ⟨by grind,by omega,by omega⟩).1;rw[this];omega
theorem qjs{w W:World}{na:Bool}{ta ba:Value}{f:FuncId}{args:Array Value}{P:Ending→World→Prop}(hW:qg5 w na ta ba W)
  (h:Calls Tryz.prog f args W fun e w'=>P e w'∧Below W.heap.size W w'):Calls Tryz.prog f args W fun e w'=>P e w'∧qg5 w na ta ba w'∧Below W.heap.size W w':=
 h.mono fun _ _ ⟨h1,h2⟩=>⟨h1,hW.later h2,h2⟩
theorem qd6{w W:World}{na:Bool}{ta ba:Value}(h:qg5 w na ta ba W):W.cell? ⟨w.heap.size,0,none⟩=some (.bool na)∧W.cell? ⟨w.heap.size,1,none⟩=some ta∧W.cell? ⟨w.heap.size,2,none⟩=some ba:=
 ⟨(h.2.1.2 0 (by omega)).1,(h.2.1.2 1 (by omega)).1,(h.2.1.2 2 (by omega)).1⟩
theorem qrf{w W:World}{na:Bool}{ta ba:Value}(h:qg5 w na ta ba W):
  (W.cell? ⟨w.heap.size+1,0,none⟩=some (.bool false)∧W.frozen? ⟨w.heap.size+1,0,none⟩=false)∧
  (W.cell? ⟨w.heap.size+1,1,none⟩=some (.slice none 0 0)∧W.frozen? ⟨w.heap.size+1,1,none⟩=false)∧
  (W.cell? ⟨w.heap.size+1,2,none⟩=some (.slice none 0 0)∧W.frozen? ⟨w.heap.size+1,2,none⟩=false):=
 ⟨h.2.2.2 0 (by omega),h.2.2.2 1 (by omega),h.2.2.2 2 (by omega)⟩
theorem q1d(va:Value)(a:Rat)(w:World)(ha:qaw w va a)(aQ:rs a≤Cap):
  Calls Tryz.prog 91 #[va] w fun e w'=>(∃v',e = .returned v'∧qaw w' v' (a.floor:Rat))∧Below w.heap.size w w':=by
 have HA:=hid ha;obtain⟨aH,aI,aJ,aM,aL,aN,rfl,dM,eO⟩:=ha.parts;have eM:=hid dM;clear ha dM eO
 have eK:Hid (decide (a.floor<0)=(decide (a.num<0)&&decide (0<a.floor.natAbs))):=by
  refine hid ?_;by_cases h:a.num<0
  ·have:=(qom a h).2
   rw[qag h,qag this,qag (by omega)];rfl
  ·have:=(qol a h).2
   rw[qae h,qae this];rfl
 have Ko:Hid (a.floor.natAbs=a.num.natAbs/a.den+(if decide (a.num<0)=true∧a.num.natAbs % a.den≠0 then 1 else 0)):=by
  refine hid ?_;by_cases h:a.num<0
  ·rw[(qom a h).1,qag h]
   by_cases h2:a.num.natAbs % a.den=0
   ·rw[if_pos h2,if_neg (by rintro⟨_,h3⟩;exact h3 h2)]
   ·rw[if_neg h2,if_pos ⟨rfl,h2⟩]
  ·rw[(qol a h).1,qae h,if_neg (by rintro⟨h3,_⟩;cases h3)];rfl
 generalize decide (a.num<0)=na at *;have dQ:Hid (wl a.num.natAbs+wl a.den≤Cap):=hid aQ;have aO:=hid (qok w na (.slice aH aI aJ) (.slice aM aL aN));have gD:Hid (∀W,qg5 w na (.slice aH aI aJ) (.slice aM aL aN) W→Calls Tryz.prog 100 #[.agg #[.bool na,.slice aH aI aJ,.slice aM aL aN]] W fun e w'=>(∃v',e = .returned v'∧qa2 w' v' a.den)∧qg5 w na (.slice aH aI aJ) (.slice aM aL aN) w'∧Below W.heap.size W w'):=hid fun W hW=>qjs hW (qb9 _ a W (HA.out.later hW.1))
 have cT:Hid (∀W v,qg5 w na (.slice aH aI aJ) (.slice aM aL aN) W→qa2 W v a.den→Calls Tryz.prog 103 #[.slice aH aI aJ,v] W fun e w'=>(∃vq vr,e = .returned (.tuple #[vq,vr])∧qa2 w' vq (a.num.natAbs/a.den)∧qa2 w' vr (a.num.natAbs % a.den))∧qg5 w na (.slice aH aI aJ) (.slice aM aL aN) w'∧Below W.heap.size W w'):=
  hid fun W v hW h=>qjs hW (qme _ v _ _ W (eM.out.later hW.1) h a.den_pos (by have:=dQ.out;omega))
 have yV:Hid (∀W v1 v2,qg5 w na (.slice aH aI aJ) (.slice aM aL aN) W→qa2 W v1 (a.num.natAbs/a.den)→qa2 W v2 1→Calls Tryz.prog 141 #[v1,v2] W fun e w'=>(∃v',e = .returned v'∧qa2 w' v' (a.num.natAbs/a.den+1))∧qg5 w na (.slice aH aI aJ) (.slice aM aL aN) w'∧Below W.heap.size W w'):=
  hid fun W v1 v2 hW h1 h2=>qjs hW (q0t v1 v2 _ _ W h1 h2 (Nat.le_trans (qdo (Nat.div_le_self _ _)) (by have:=dQ.out;omega)) (by have:=dQ.out;have:=qdo (show 1≤a.den from a.den_pos);omega))
 have gW:Hid (∀W v,qg5 w na (.slice aH aI aJ) (.slice aM aL aN) W→qa2 W v a.floor.natAbs→Calls Tryz.prog 85 #[.bool na,v,.slice none 0 0] W fun e w'=>(∃v',e = .returned v'∧qaw w' v' (a.floor:Rat))∧qg5 w na (.slice aH aI aJ) (.slice aM aL aN) w'∧Below W.heap.size W w'):=by
  refine hid fun W v hW h=>qjs hW ((qe3 na _ v _ _ 0 0 W h (qa2.nil W) eK.out rfl).mono ?_);rintro e w' ⟨⟨vb',he,n1,n2⟩,hb⟩;exact⟨⟨_,he,_,_,rfl,n1,n2⟩,hb⟩
 have Ah:Hid (∀W:World,qa2 (W.alloc (.cells #[.int .u64 ((1:Nat):Int)] 155)) (.slice (some ⟨W.heap.size,0,none⟩) 1 1) 1):=hid fun W=>qkj W 1 (by rw[qaj];omega) (by omega);clear aQ eK;go_enter Tryz.func91,Tryz.ntmps91;go_wp2_with fail;generalize (w.alloc (.cells #[.bool na,.slice aH aI aJ,.slice aM aL aN] 85)).alloc (.cells #[.bool false,.slice none 0 0,.slice none 0 0] 85)=w0 at *;have cF:=hid (aO.out.later ((qaa _ _).drew))
 go_region_held3 (fun W=>W.cell? ⟨w.heap.size,0,none⟩=some (.bool na)∧W.cell? ⟨w.heap.size,1,none⟩=some (.slice aH aI aJ)∧W.cell? ⟨w.heap.size,2,none⟩=some (.slice aM aL aN)) (first|exact qd6 nZ.out|exact qd6 Ee.out|exact qd6 cF.out)
  (first
   | (go_at_call 100;((with_reducible refine(gD.out _ cF.out).mono ?_);rintro e wA ⟨⟨vA,rfl,hn⟩,ht,hb⟩;have lJ:=hid hn;have Ee:=hid ht;clear hn ht hb))
   | (go_at_call 103;((refine(cT.out _ _ Ee.out lJ.out).mono ?_);rintro e wD ⟨⟨vQ,vR,rfl,hn,hr⟩,ht,hb⟩;have Kp:=hid hn;have Mk:=hid hr;have nZ:=hid ht;clear hn hr ht hb)))
 obtain⟨pR,kR,cR,rfl,Ol⟩:=qa4 Mk.out;clear cF aO lJ Ee;cases na
 ·have HE:Hid (qa2 wD vQ a.floor.natAbs):=hid (by rw[Ko.out,if_neg (by rintro⟨h3,_⟩;cases h3)];exact Kp.out)
  clear Ol;obtain⟨d0,d1,d2⟩:=qd6 nZ.out;go_wp2_with fail;clear d0 d1 d2;refine(gW.out _ _ nZ.out HE.out).mono ?_;rintro e wP ⟨⟨vP,rfl,hn⟩,ht,hb⟩;have nX:=hid hn;have eW:=hid ht;obtain⟨pt,kt,ct,pf,kf,cf,rfl,eL,dO⟩:=hn.parts;clear hn ht hb eL dO;generalize decide ((a.floor:Rat).num<0)=sg at *;obtain⟨⟨r0,g0⟩,⟨r1,g1⟩,⟨r2,g2⟩⟩:=qrf eW.out;have aF:=hid (qb6 nX.out r0 r1 r2);have aG:=hid (qax eW.out.1 (show w.heap.size≤w.heap.size+1 by omega) (.bool sg) (.slice pt kt ct) (.slice pf kf cf));go_wp2_with fail;refine bodyPost_ret (v := .agg #[.bool sg,.slice pt kt ct,.slice pf kf cf]) ?_ rfl ?_
  ·simp[results,Tryz.results91,go_sem,r0,r1,r2]
  ·exact⟨⟨_,rfl,aF.out⟩,aG.out⟩
 ·by_cases hr:a.num.natAbs % a.den=0
  ·have HE:Hid (qa2 wD vQ a.floor.natAbs):=hid (by rw[Ko.out,if_neg (by rintro⟨_,h3⟩;exact h3 hr)];exact Kp.out)
   rw[hr,qcx] at Ol;subst Ol;clear hr;obtain⟨d0,d1,d2⟩:=qd6 nZ.out;go_wp2_with fail;clear d0 d1 d2;refine(gW.out _ _ nZ.out HE.out).mono ?_;rintro e wP ⟨⟨vP,rfl,hn⟩,ht,hb⟩;have nX:=hid hn;have eW:=hid ht;obtain⟨pt,kt,ct,pf,kf,cf,rfl,eL,dO⟩:=hn.parts;clear hn ht hb eL dO;generalize decide ((a.floor:Rat).num<0)=sg at *;obtain⟨⟨r0,g0⟩,⟨r1,g1⟩,⟨r2,g2⟩⟩:=qrf eW.out;have aF:=hid (qb6 nX.out r0 r1 r2);have aG:=hid (qax eW.out.1 (show w.heap.size≤w.heap.size+1 by omega) (.bool sg) (.slice pt kt ct) (.slice pf kf cf));go_wp2_with fail;refine bodyPost_ret (v := .agg #[.bool sg,.slice pt kt ct,.slice pf kf cf]) ?_ rfl ?_
   ·simp[results,Tryz.results91,go_sem,r0,r1,r2]
   ·exact⟨⟨_,rfl,aF.out⟩,aG.out⟩
  ·have kF:0<kR:=by rw[Ol];exact qql (by omega)
   have oQ:(0:Int)<(kR:Int):=by omega
   have HFL1:Hid (a.floor.natAbs=a.num.natAbs/a.den+1):=hid (by rw[Ko.out,if_pos ⟨rfl,hr⟩]);clear hr Ol;obtain⟨d0,d1,d2⟩:=qd6 nZ.out;go_wp2_with fail;clear d0 d1 d2;have aD:=(qaa wD.heap.size wD).alloc (qac _) (.cells #[.int .u64 ((1:Nat):Int)] 155);refine(yV.out _ _ _ (nZ.out.later aD) (Kp.out.later aD) (Ah.out wD)).mono ?_;rintro e wB ⟨⟨vB,rfl,hn⟩,ht,hb⟩;have HE:Hid (qa2 wB vB a.floor.natAbs):=hid (by rw[HFL1.out];exact hn);have tR:=hid ht;clear hn ht hb aD;obtain⟨d0,d1,d2⟩:=qd6 tR.out;go_wp2_with fail;clear d0 d1 d2;refine(gW.out _ _ tR.out HE.out).mono ?_;rintro e wP ⟨⟨vP,rfl,hn⟩,ht,hb⟩;have nX:=hid hn;have eW:=hid ht;obtain⟨pt,kt,ct,pf,kf,cf,rfl,eL,dO⟩:=hn.parts;clear hn ht hb eL dO;generalize decide ((a.floor:Rat).num<0)=sg at *;obtain⟨⟨r0,g0⟩,⟨r1,g1⟩,⟨r2,g2⟩⟩:=qrf eW.out;have aF:=hid (qb6 nX.out r0 r1 r2);have aG:=hid (qax eW.out.1 (show w.heap.size≤w.heap.size+1 by omega) (.bool sg) (.slice pt kt ct) (.slice pf kf cf));go_wp2_with fail;refine bodyPost_ret (v := .agg #[.bool sg,.slice pt kt ct,.slice pf kf cf]) ?_ rfl ?_
   ·simp[results,Tryz.results91,go_sem,r0,r1,r2]
   ·exact⟨⟨_,rfl,aF.out⟩,aG.out⟩
def qch(w:World)(na:Bool)(ta ba:Value)(nb:Bool)(tb bb:Value)(W:World):Prop:=
 Below w.heap.size w W∧Own W w.heap.size 3 (qcr na ta ba)∧Own W (w.heap.size+1) 3 (qcr nb tb bb)
theorem qch.later{w:World}{na nb:Bool}{ta ba tb bb:Value}{W W':World}(h:qch w na ta ba nb tb bb W)(hb:Below W.heap.size W W'):qch w na ta ba nb tb bb W':=by
 obtain⟨h1,h2,h3⟩:=h;have:=h3.1;exact⟨h1.trans (hb.mono h1.size),h2.later (hb.mono (by omega)),h3.later (hb.mono (by omega))⟩
theorem qch.drew{w:World}{na nb:Bool}{ta ba tb bb:Value}{W:World}(h:qch w na ta ba nb tb bb W):qch w na ta ba nb tb bb W.drew:=h.later ((qaa _ _).drew)
theorem qhd{w W:World}{na nb:Bool}{ta ba tb bb:Value}{f:FuncId}{args:Array Value}{P:Ending→World→Prop}(hW:qch w na ta ba nb tb bb W)
  (h:Calls Tryz.prog f args W fun e w'=>P e w'∧Below W.heap.size W w'):Calls Tryz.prog f args W fun e w'=>P e w'∧qch w na ta ba nb tb bb w'∧Below W.heap.size W w':=
 h.mono fun _ _ ⟨h1,h2⟩=>⟨h1,hW.later h2,h2⟩
theorem qmf(w:World)(na:Bool)(ta ba:Value)(nb:Bool)(tb bb:Value):
  qch w na ta ba nb tb bb ((w.alloc (.cells #[.bool na,ta,ba] 85)).alloc (.cells #[.bool nb,tb,bb] 85)):=by
 have h1:=qqm w na ta ba;have h2:=qqm (w.alloc (.cells #[.bool na,ta,ba] 85)) nb tb bb;simp only[qab] at h2;have al:∀(V:World) (o:Obj),Below V.heap.size V (V.alloc o):=fun V o=>qad _ _;exact⟨(al w _).trans ((al _ _).mono (by rw[qab];omega)),h1.later ((al _ _).mono (by rw[qab];omega)),h2⟩
theorem qb1{w:World}{na nb:Bool}{ta ba tb bb:Value}{W:World}(h:qch w na ta ba nb tb bb W):
  W.cell? ⟨w.heap.size,0,none⟩=some (.bool na)∧W.cell? ⟨w.heap.size,1,none⟩=some ta∧W.cell? ⟨w.heap.size,2,none⟩=some ba∧
  W.cell? ⟨w.heap.size+1,0,none⟩=some (.bool nb)∧W.cell? ⟨w.heap.size+1,1,none⟩=some tb∧W.cell? ⟨w.heap.size+1,2,none⟩=some bb:=
 ⟨(h.2.1.2 0 (by omega)).1,(h.2.1.2 1 (by omega)).1,(h.2.1.2 2 (by omega)).1,(h.2.2.2 0 (by omega)).1,(h.2.2.2 1 (by omega)).1,(h.2.2.2 2 (by omega)).1⟩
def qfd(a b:Rat):Int:=qsn (a.num*b.den) (b.num*a.den)
theorem qes(a:Rat):(sgn a = -1∧a.num<0)∨(sgn a=0∧a.num=0)∨(sgn a=1∧0<a.num):=by
 unfold sgn;split
 ·exact .inl ⟨rfl,by assumption⟩
 ·split
  ·exact .inr (.inl ⟨rfl,by assumption⟩)
  ·exact .inr (.inr ⟨rfl,by omega⟩)
theorem qqn(a b:Rat)(h:sgn a≠sgn b∨sgn a=0):qsn (sgn a) (sgn b)=qfd a b:=by
 have hp:∀(x:Int) (q:Rat),0<x→0<x*(q.den:Int):=fun x q h=>Int.mul_pos h (by have:=q.den_pos;omega);have hn:∀(x:Int) (q:Rat),x<0→x*(q.den:Int)<0:=fun x q h=>Int.mul_neg_of_neg_of_pos h (by have:=q.den_pos;omega);unfold qfd;rcases qes a with⟨e1,h1⟩|⟨e1,h1⟩|⟨e1,h1⟩<;>rcases qes b with⟨e2,h2⟩|⟨e2,h2⟩|⟨e2,h2⟩<;>rw[e1,e2] at h ⊢
 ·omega
 ·have:=hn _ b h1
  rw[h2,Int.zero_mul,qde this];rfl
 ·have:=hn _ b h1
  have:=hp _ a h2;rw[qde (by omega:a.num*(b.den:Int)<b.num*a.den)];rfl
 ·have:=hn _ a h2
  rw[h1,Int.zero_mul,qcq this];rfl
 ·rw[h1,h2,Int.zero_mul,Int.zero_mul]
 ·have:=hp _ a h2
  rw[h1,Int.zero_mul,qde this];rfl
 ·have:=hp _ b h1
  have:=hn _ a h2;rw[qcq (by omega:b.num*(a.den:Int)<a.num*b.den)];rfl
 ·have:=hp _ b h1
  rw[h2,Int.zero_mul,qcq this];rfl
 ·omega
theorem q49(a b:Rat)(h1:0<a.num)(h2:0<b.num):qer (a.num.natAbs*b.den) (b.num.natAbs*a.den)=qfd a b:=by
 unfold qer qfd;rw[Int.natCast_mul,Int.natCast_mul,Int.natAbs_of_nonneg (by omega),Int.natAbs_of_nonneg (by omega)]
theorem q5a(a b:Rat)(h1:a.num<0)(h2:b.num<0) : -qer (a.num.natAbs*b.den) (b.num.natAbs*a.den)=qfd a b:=by
 have e1:(a.num.natAbs:Int) = -a.num:=by omega
 have e2:(b.num.natAbs:Int) = -b.num:=by omega
 unfold qer qfd;rw[Int.natCast_mul,Int.natCast_mul,e1,e2,Int.neg_mul,Int.neg_mul];unfold qsn;generalize a.num*(b.den:Int)=x;generalize b.num*(a.den:Int)=y;split<;>split<;>(try split)<;>(try split)<;>omega
theorem qy1(va vb:Value)(a b:Rat)(w:World)(ha:qaw w va a)(hb:qaw w vb b)(h0a:sgn a=0)(h0b:sgn b=0):
  Calls Tryz.prog 49 #[va,vb] w fun e w'=>e = .returned (.int .i64 (qfd a b))∧Below w.heap.size w w':=by
 have HA:=hid ha;have HB:=hid hb;obtain⟨aH,aI,aJ,aM,aL,aN,rfl,dM,eO⟩:=ha.parts;obtain⟨aZ,bA,bB,bF,bG,bH,rfl,aY,aR⟩:=hb.parts;clear ha hb dM eO aY aR;generalize decide (a.num<0)=na at *;generalize decide (b.num<0)=nb at *;have aO:=hid (qmf w na (.slice aH aI aJ) (.slice aM aL aN) nb (.slice aZ bA bB) (.slice bF bG bH));have nT:Hid (∀W,qch w na (.slice aH aI aJ) (.slice aM aL aN) nb (.slice aZ bA bB) (.slice bF bG bH) W→Calls Tryz.prog 89 #[.agg #[.bool na,.slice aH aI aJ,.slice aM aL aN]] W fun e w'=>(e = .returned (.int .i64 0))∧qch w na (.slice aH aI aJ) (.slice aM aL aN) nb (.slice aZ bA bB) (.slice bF bG bH) w'∧Below W.heap.size W w'):=hid fun W hW=>by rw[←h0a];exact qhd hW (qdv _ a W (HA.out.later hW.1))
 have cL:Hid (∀W,qch w na (.slice aH aI aJ) (.slice aM aL aN) nb (.slice aZ bA bB) (.slice bF bG bH) W→Calls Tryz.prog 89 #[.agg #[.bool nb,.slice aZ bA bB,.slice bF bG bH]] W fun e w'=>(e = .returned (.int .i64 0))∧qch w na (.slice aH aI aJ) (.slice aM aL aN) nb (.slice aZ bA bB) (.slice bF bG bH) w'∧Below W.heap.size W w'):=hid fun W hW=>by rw[←h0b];exact qhd hW (qdv _ b W (HB.out.later hW.1))
 have tV:Hid (∀W,Calls Tryz.prog 58 #[.int .i64 0,.int .i64 0] W fun e w'=>e = .returned (.int .i64 (qfd a b))∧w'=W):=hid fun W=>by rw[←qqn a b (.inr h0a),h0a,h0b];exact qjp _ _ W
 generalize qfd a b=res at *;clear h0a h0b;go_enter Tryz.func49,Tryz.ntmps49;go_wp2_with fail;generalize (w.alloc (.cells #[.bool na,.slice aH aI aJ,.slice aM aL aN] 85)).alloc (.cells #[.bool nb,.slice aZ bA bB,.slice bF bG bH] 85)=w0 at *;have cY:=hid aO.out.drew;obtain⟨d0,d1,d2,d3,d4,d5⟩:=qb1 cY.out
 go_region_with (first
  | (go_at_call 89;first
    | ((with_reducible refine(nT.out _ cY.out).mono ?_);rintro e wC ⟨rfl,ht,hb⟩;clear cY d0 d1 d2 d3 d4 d5;have cY:=hid ht;obtain⟨d0,d1,d2,d3,d4,d5⟩:=qb1 ht;clear ht hb)
    | ((with_reducible refine(cL.out _ cY.out).mono ?_);rintro e wC ⟨rfl,ht,hb⟩;clear cY d0 d1 d2 d3 d4 d5;have cY:=hid ht;obtain⟨d0,d1,d2,d3,d4,d5⟩:=qb1 ht;clear ht hb)))
 all_goals
  clear d0 d1 d2 d3 d4 d5;have nV:=hid cY.out.drew;clear cY aO;have cY:=nV;clear nV;go_wp2_with fail
  go_region_held3 (fun W=>W.cell? ⟨w.heap.size,0,none⟩=some (.bool na)∧W.cell? ⟨w.heap.size,1,none⟩=some (.slice aH aI aJ)∧W.cell? ⟨w.heap.size,2,none⟩=some (.slice aM aL aN)∧W.cell? ⟨w.heap.size+1,0,none⟩=some (.bool nb)∧W.cell? ⟨w.heap.size+1,1,none⟩=some (.slice aZ bA bB)∧W.cell? ⟨w.heap.size+1,2,none⟩=some (.slice bF bG bH)) (exact qb1 cY.out)
   (first
   | (go_at_call 89;first
     | ((with_reducible refine(nT.out _ cY.out).mono ?_);rintro e wE ⟨rfl,ht,hb⟩;clear cY;have cY:=hid ht;clear ht hb)
     | ((with_reducible refine(cL.out _ cY.out).mono ?_);rintro e wE ⟨rfl,ht,hb⟩;clear cY;have cY:=hid ht;clear ht hb))
   | (go_at_call 58;((refine(tV.out _).mono ?_);rintro e wG ⟨rfl,rfl⟩)))
  have nL:=hid cY.out.1;go_wp2_with fail;go_ret;exact⟨rfl,nL.out⟩
theorem qy2(p q:Nat):qer p q = -1∨qer p q=0∨qer p q=1:=by
 unfold qer qsn;split
 ·exact .inl rfl
 ·split
  ·exact .inr (.inr rfl)
  ·exact .inr (.inl rfl)
theorem qon(s:Int)(va vb:Value)(a b:Rat)(w:World)(ha:qaw w va a)(hb:qaw w vb b)(hs:s = -1∨s=1)(h0a:sgn a=s)(h0b:sgn b=s)(aQ:rs a+rs b≤Cap):
  Calls Tryz.prog 49 #[va,vb] w fun e w'=>e = .returned (.int .i64 (qfd a b))∧Below w.heap.size w w':=by
 have HA:=hid ha;have HB:=hid hb;obtain⟨aH,aI,aJ,aM,aL,aN,rfl,dM,eO⟩:=ha.parts;obtain⟨aZ,bA,bB,bF,bG,bH,rfl,aY,aR⟩:=hb.parts;have eM:=hid dM;have aP:=hid aY;have dQ:Hid (wl a.num.natAbs+wl a.den+(wl b.num.natAbs+wl b.den)≤Cap):=hid aQ
 have aX:Hid (IntKind.i64.wrap (qer (a.num.natAbs*b.den) (b.num.natAbs*a.den)*s)=qfd a b):=by
  refine hid ?_;have hn:=qy2 (a.num.natAbs*b.den) (b.num.natAbs*a.den);have hca:=qes a;have At:=qes b
  have hw:∀z:Int,z = -1∨z=0∨z=1→IntKind.i64.wrap z=z:=by
   rintro z (rfl|rfl|rfl)<;>rfl
  rcases hs with rfl|rfl
  ·rw[hw _ (by omega),←q5a a b (by omega) (by omega)]
   omega
  ·rw[hw _ (by omega),←q49 a b (by omega) (by omega)]
   omega
 clear ha hb dM eO aY aR aQ;generalize decide (a.num<0)=na at *;generalize decide (b.num<0)=nb at *;have aO:=hid (qmf w na (.slice aH aI aJ) (.slice aM aL aN) nb (.slice aZ bA bB) (.slice bF bG bH));have nT:Hid (∀W,qch w na (.slice aH aI aJ) (.slice aM aL aN) nb (.slice aZ bA bB) (.slice bF bG bH) W→Calls Tryz.prog 89 #[.agg #[.bool na,.slice aH aI aJ,.slice aM aL aN]] W fun e w'=>(e = .returned (.int .i64 s))∧qch w na (.slice aH aI aJ) (.slice aM aL aN) nb (.slice aZ bA bB) (.slice bF bG bH) w'∧Below W.heap.size W w'):=hid fun W hW=>by rw[←h0a];exact qhd hW (qdv _ a W (HA.out.later hW.1))
 have cL:Hid (∀W,qch w na (.slice aH aI aJ) (.slice aM aL aN) nb (.slice aZ bA bB) (.slice bF bG bH) W→Calls Tryz.prog 89 #[.agg #[.bool nb,.slice aZ bA bB,.slice bF bG bH]] W fun e w'=>(e = .returned (.int .i64 s))∧qch w na (.slice aH aI aJ) (.slice aM aL aN) nb (.slice aZ bA bB) (.slice bF bG bH) w'∧Below W.heap.size W w'):=hid fun W hW=>by rw[←h0b];exact qhd hW (qdv _ b W (HB.out.later hW.1))
 have gD:Hid (∀W,qch w na (.slice aH aI aJ) (.slice aM aL aN) nb (.slice aZ bA bB) (.slice bF bG bH) W→Calls Tryz.prog 100 #[.agg #[.bool na,.slice aH aI aJ,.slice aM aL aN]] W fun e w'=>(∃v',e = .returned v'∧qa2 w' v' a.den)∧qch w na (.slice aH aI aJ) (.slice aM aL aN) nb (.slice aZ bA bB) (.slice bF bG bH) w'∧Below W.heap.size W w'):=hid fun W hW=>(qb9 _ a W (HA.out.later hW.1)).mono fun _ _ ⟨⟨v,h1,h2⟩,h3⟩=>⟨⟨v,h1,h2⟩,hW.later h3,h3⟩;have fQ:Hid (∀W,qch w na (.slice aH aI aJ) (.slice aM aL aN) nb (.slice aZ bA bB) (.slice bF bG bH) W→Calls Tryz.prog 100 #[.agg #[.bool nb,.slice aZ bA bB,.slice bF bG bH]] W fun e w'=>(∃v',e = .returned v'∧qa2 w' v' b.den)∧qch w na (.slice aH aI aJ) (.slice aM aL aN) nb (.slice aZ bA bB) (.slice bF bG bH) w'∧Below W.heap.size W w'):=hid fun W hW=>(qb9 _ b W (HB.out.later hW.1)).mono fun _ _ ⟨⟨v,h1,h2⟩,h3⟩=>⟨⟨v,h1,h2⟩,hW.later h3,h3⟩;have Bq:Hid (∀W v,qch w na (.slice aH aI aJ) (.slice aM aL aN) nb (.slice aZ bA bB) (.slice bF bG bH) W→qa2 W v b.den→Calls Tryz.prog 99 #[.slice aH aI aJ,v] W fun e w'=>(∃v',e = .returned v'∧qa2 w' v' (a.num.natAbs*b.den))∧qch w na (.slice aH aI aJ) (.slice aM aL aN) nb (.slice aZ bA bB) (.slice bF bG bH) w'∧Below W.heap.size W w'):=hid fun W v hW hv=>(qgs _ v _ _ W (eM.out.later hW.1) hv (by have:=dQ.out;omega) (by have:=dQ.out;omega)).mono fun _ _ ⟨⟨v,h1,h2⟩,h3⟩=>⟨⟨v,h1,h2⟩,hW.later h3,h3⟩
 have qG:Hid (∀W v,qch w na (.slice aH aI aJ) (.slice aM aL aN) nb (.slice aZ bA bB) (.slice bF bG bH) W→qa2 W v a.den→Calls Tryz.prog 99 #[.slice aZ bA bB,v] W fun e w'=>(∃v',e = .returned v'∧qa2 w' v' (b.num.natAbs*a.den))∧qch w na (.slice aH aI aJ) (.slice aM aL aN) nb (.slice aZ bA bB) (.slice bF bG bH) w'∧Below W.heap.size W w'):=hid fun W v hW hv=>(qgs _ v _ _ W (aP.out.later hW.1) hv (by have:=dQ.out;omega) (by have:=dQ.out;omega)).mono fun _ _ ⟨⟨v,h1,h2⟩,h3⟩=>⟨⟨v,h1,h2⟩,hW.later h3,h3⟩
 have HCN:Hid (∀W v v',qch w na (.slice aH aI aJ) (.slice aM aL aN) nb (.slice aZ bA bB) (.slice bF bG bH) W→qa2 W v (a.num.natAbs*b.den)→qa2 W v' (b.num.natAbs*a.den)→Calls Tryz.prog 98 #[v,v'] W fun e w'=>e = .returned (.int .i64 (qer (a.num.natAbs*b.den) (b.num.natAbs*a.den)))∧qch w na (.slice aH aI aJ) (.slice aM aL aN) nb (.slice aZ bA bB) (.slice bF bG bH) w'∧Below W.heap.size W w'):=hid fun W v v' hW h1 h2=>(qee v v' _ _ W h1 h2).mono fun _ _ ⟨h1,k,h2⟩=>by
  subst h2;have hb:Below W.heap.size W (W.drewN k):=below_drewN (qaa _ _) k;exact⟨h1,hW.later hb,hb⟩
 generalize qfd a b=res at *;generalize qer (a.num.natAbs*b.den) (b.num.natAbs*a.den)=cn at *;generalize a.num.natAbs*b.den=xa at *;generalize b.num.natAbs*a.den=xb at *;generalize a.den=da at *;generalize b.den=db at *;clear h0a h0b dQ eM aP;have gI:Hid (s = -1→wrap64 (-cn)=res):=hid (by rintro rfl;have:=aX.out;rw[Int.mul_neg_one,IntKind.wrap_i64] at this;unfold wrap64;exact this);have jT:Hid (s=1→wrap64 cn=res):=hid (by rintro rfl;have:=aX.out;rw[Int.mul_one,IntKind.wrap_i64] at this;unfold wrap64;exact this);clear aX;rcases hs with rfl|rfl
 all_goals
  first
  | have HF:=hid (gI.out rfl)
  | have HF:=hid (jT.out rfl)
  clear gI jT;go_enter Tryz.func49,Tryz.ntmps49;go_wp2_with fail;generalize (w.alloc (.cells #[.bool na,.slice aH aI aJ,.slice aM aL aN] 85)).alloc (.cells #[.bool nb,.slice aZ bA bB,.slice bF bG bH] 85)=w0 at *;have cY:=hid aO.out.drew;obtain⟨d0,d1,d2,d3,d4,d5⟩:=qb1 cY.out
  go_region_with (first
  | (go_at_call 89;first
    | ((with_reducible refine(nT.out _ cY.out).mono ?_);rintro e wC ⟨rfl,ht,hb⟩;clear cY d0 d1 d2 d3 d4 d5;have cY:=hid ht;obtain⟨d0,d1,d2,d3,d4,d5⟩:=qb1 ht;clear ht hb)
    | ((with_reducible refine(cL.out _ cY.out).mono ?_);rintro e wC ⟨rfl,ht,hb⟩;clear cY d0 d1 d2 d3 d4 d5;have cY:=hid ht;obtain⟨d0,d1,d2,d3,d4,d5⟩:=qb1 ht;clear ht hb)))
  all_goals
  clear d0 d1 d2 d3 d4 d5;have nV:=hid cY.out.drew;clear cY aO;have cY:=nV;clear nV;go_wp2_with fail
  go_region_held3 (fun W=>W.cell? ⟨w.heap.size,0,none⟩=some (.bool na)∧W.cell? ⟨w.heap.size,1,none⟩=some (.slice aH aI aJ)∧W.cell? ⟨w.heap.size,2,none⟩=some (.slice aM aL aN)∧W.cell? ⟨w.heap.size+1,0,none⟩=some (.bool nb)∧W.cell? ⟨w.heap.size+1,1,none⟩=some (.slice aZ bA bB)∧W.cell? ⟨w.heap.size+1,2,none⟩=some (.slice bF bG bH)) (exact qb1 cY.out)
   (first
   | (go_at_call 100;first
     | ((with_reducible refine(gD.out _ cY.out).mono ?_);rintro e wE ⟨⟨vA,rfl,hn⟩,ht,hb⟩;clear cY;have cY:=hid ht;have lJ:=hid hn;(try replace qD:=hid (qD.out.later hb));(try replace fW:=hid (fW.out.later hb));(try replace nW:=hid (nW.out.later hb));clear ht hb hn)
     | ((with_reducible refine(fQ.out _ cY.out).mono ?_);rintro e wE ⟨⟨vB,rfl,hn⟩,ht,hb⟩;clear cY;have cY:=hid ht;have qD:=hid hn;(try replace lJ:=hid (lJ.out.later hb));(try replace fW:=hid (fW.out.later hb));(try replace nW:=hid (nW.out.later hb));clear ht hb hn))
   | (go_at_call 99;first
     | ((with_reducible refine(Bq.out _ _ cY.out qD.out).mono ?_);rintro e wE ⟨⟨vX,rfl,hn⟩,ht,hb⟩;clear cY;have cY:=hid ht;have fW:=hid hn;(try replace lJ:=hid (lJ.out.later hb));(try replace nW:=hid (nW.out.later hb));clear ht hb hn)
     | ((with_reducible refine(qG.out _ _ cY.out lJ.out).mono ?_);rintro e wE ⟨⟨vY,rfl,hn⟩,ht,hb⟩;clear cY;have cY:=hid ht;have nW:=hid hn;(try replace qD:=hid (qD.out.later hb));(try replace fW:=hid (fW.out.later hb));clear ht hb hn))
   | (go_at_call 98;((refine(HCN.out _ _ _ cY.out fW.out nW.out).mono ?_);rintro e wG ⟨rfl,ht,hb⟩;clear cY;have cY:=hid ht;clear ht hb)))
  all_goals
   obtain⟨d0,d1,d2,d3,d4,d5⟩:=qb1 cY.out;go_wp2_with fail;clear d0 d1 d2 d3 d4 d5;refine(nT.out _ ?_).mono ?_
   ·first|exact cY.out|exact cY.out.drew
   rintro e wH ⟨rfl,ht,hb⟩;have nL:=hid ht.1;clear ht hb cY;go_wp2_with fail;go_ret;exact⟨qa6 HF.out,nL.out⟩
theorem qy3(va vb:Value)(a b:Rat)(w:World)(ha:qaw w va a)(hb:qaw w vb b)(hne:sgn a=sgn b)(aQ:rs a+rs b≤Cap):
  Calls Tryz.prog 49 #[va,vb] w fun e w'=>e = .returned (.int .i64 (qfd a b))∧Below w.heap.size w w':=by
 rcases qes a with⟨h,_⟩|⟨h,_⟩|⟨h,_⟩
 ·exact qon (-1) va vb a b w ha hb (.inl rfl) h (hne▸h) aQ
 ·exact qy1 va vb a b w ha hb h (hne▸h)
 ·exact qon 1 va vb a b w ha hb (.inr rfl) h (hne▸h) aQ
end Go.Proofs.YtmcfcpgglfimjaaGreatDoor
