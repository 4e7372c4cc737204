/- Over. -/
import Derived.Test.YtclimablgihlhaaGreatDoorMTimes
set_option linter.all false
namespace Go.Proofs.YtclimablgihlhaaGreatDoor
open Go.RowKit
set_option maxRecDepth 100000
set_option maxHeartbeats 10000000
theorem qk4(b:Rat)(h:b.num≠0):(b⁻¹).num.natAbs=b.den∧(b⁻¹).den=b.num.natAbs∧(decide ((b⁻¹).num<0)=(decide (b.num<0)&&decide (0<b.den))):=by
 have hd:=b.den_pos;have e:b⁻¹ = Rat.inv b:=rfl;rw[e];unfold Rat.inv;split
 ·rename_i h1
  refine⟨by simp,rfl, ?_⟩;rw[zas h1,zas hd,zas (by show -(b.den:Int)<0;omega)];rfl
 ·split
  ·rename_i h1 h2
   refine⟨by simp,rfl, ?_⟩;rw[zar h1,zar (by show ¬(b.den:Int)<0;omega)];rfl
  ·omega
theorem q8x(b:Rat)(h:b.num≠0):rs b⁻¹ = rs b:=by
 unfold rs;rw[(qk4 b h).1,(qk4 b h).2.1];omega
theorem qff(va vb:Value)(a b:Rat)(w:World)(ha:qaj w va a)(hb:qaj w vb b)(h0:b.num≠0)(aP:rs a+rs b≤Cap):
  Calls Tryz.prog 38 #[va,vb] w fun e w'=>(∃v',e = .returned v'∧qaj w' v' (a/b))∧Below w.heap.size w w':=by
 have HA:=hid ha;have HB:=hid hb;obtain⟨aI,aJ,aK,aM,aL,aN,rfl,dK,dX⟩:=ha.parts;obtain⟨aY,aZ,bA,bC,bE,bF,rfl,bB,aT⟩:=hb.parts;have aQ:=hid bB;clear ha hb dK dX bB aT;have dM:(sgn b==0)=false:=zat (by unfold sgn;split<;>omega);have lW:=hid (qk4 b h0);have tQ:=hid (q8x b h0);generalize decide (a.num<0)=na at *;generalize decide (b.num<0)=nb at *;have aO:=hid (qg9 w na (.slice aI aJ aK) (.slice aM aL aN) nb (.slice aY aZ bA) (.slice bC bE bF));have lA:Hid (∀W,qbh w na (.slice aI aJ aK) (.slice aM aL aN) nb (.slice aY aZ bA) (.slice bC bE bF) W→Calls Tryz.prog 70 #[.agg #[.bool nb,.slice aY aZ bA,.slice bC bE bF]] W fun e w'=>(e = .returned (.int .i64 (sgn b)))∧qbh w na (.slice aI aJ aK) (.slice aM aL aN) nb (.slice aY aZ bA) (.slice bC bE bF) w'∧Below W.heap.size W w'):=hid fun W hW=>qbv hW (qdl _ b W (HB.out.later hW.1));have gH:Hid (∀W,qbh w na (.slice aI aJ aK) (.slice aM aL aN) nb (.slice aY aZ bA) (.slice bC bE bF) W→Calls Tryz.prog 73 #[.agg #[.bool nb,.slice aY aZ bA,.slice bC bE bF]] W fun e w'=>(∃v',e = .returned v'∧qap w' v' b.den)∧qbh w na (.slice aI aJ aK) (.slice aM aL aN) nb (.slice aY aZ bA) (.slice bC bE bF) w'∧Below W.heap.size W w'):=hid fun W hW=>qbv hW (qbx _ b W (HB.out.later hW.1))
 have gD:Hid (∀W v,qbh w na (.slice aI aJ aK) (.slice aM aL aN) nb (.slice aY aZ bA) (.slice bC bE bF) W→qap W v b.den→Calls Tryz.prog 74 #[.bool nb,v,.slice aY aZ bA] W fun e w'=>(∃v',e = .returned v'∧qaj w' v' b⁻¹)∧qbh w na (.slice aI aJ aK) (.slice aM aL aN) nb (.slice aY aZ bA) (.slice bC bE bF) w'∧Below W.heap.size W w'):=by
  refine hid fun W v hW h=>qbv hW ((qez nb _ v _ _ _ _ W h (aQ.out.later hW.1) lW.out.2.2 rfl).mono ?_);rintro e w' ⟨⟨vb',he,n1,n2⟩,hb⟩;exact⟨⟨_,he,_,_,rfl,by rw[lW.out.1];exact n1,by rw[lW.out.2.1];exact n2⟩,hb⟩
 have gT:Hid (∀W v,qbh w na (.slice aI aJ aK) (.slice aM aL aN) nb (.slice aY aZ bA) (.slice bC bE bF) W→qaj W v b⁻¹ → Calls Tryz.prog 37 #[.agg #[.bool na,.slice aI aJ aK,.slice aM aL aN],v] W fun e w'=>(∃v',e = .returned v'∧qaj w' v' (a/b))∧qbh w na (.slice aI aJ aK) (.slice aM aL aN) nb (.slice aY aZ bA) (.slice bC bE bF) w'∧Below W.heap.size W w'):=
  hid fun W v hW hv=>qbv hW (by rw[Rat.div_def];exact qdx _ v a b⁻¹ W (HA.out.later hW.1) hv (by rw[tQ.out];exact aP))
 clear aP h0;generalize sgn b=s at *;go_enter Tryz.func38,Tryz.ntmps38;go_wp2_with fail;generalize ((w.alloc (.cells #[.bool na,.slice aI aJ aK,.slice aM aL aN] 74)).alloc (.cells #[.bool nb,.slice aY aZ bA,.slice bC bE bF] 74)).alloc (.cells #[.bool false,.slice none 0 0,.slice none 0 0] 74)=w0 at *;refine(lA.out _ aO.out).mono ?_;rintro e w1 ⟨rfl,ht,hb⟩;have cE:=hid ht.drew;clear ht hb;go_wp2_with fail
 go_region_held3 (fun W=>W.cell? ⟨w.heap.size,0,none⟩=some (.bool na)∧W.cell? ⟨w.heap.size,1,none⟩=some (.slice aI aJ aK)∧W.cell? ⟨w.heap.size,2,none⟩=some (.slice aM aL aN)∧W.cell? ⟨w.heap.size+1,0,none⟩=some (.bool nb)∧W.cell? ⟨w.heap.size+1,1,none⟩=some (.slice aY aZ bA)∧W.cell? ⟨w.heap.size+1,2,none⟩=some (.slice bC bE bF)) (first|exact qam fL.out|exact qam gJ.out|exact qam pF.out|exact qam cE.out|exact qhu (qhu (qhu (qam fL.out) (by omega) (by omega) _) (by omega) (by omega) _) (by omega) (by omega) _)
  (first
   | (go_at_call 73;((with_reducible refine(gH.out _ cE.out).mono ?_);rintro e wD ⟨⟨vD,rfl,hn⟩,ht,hb⟩;have Kh:=hid hn;have pF:=hid ht;clear hn ht hb))
   | (go_at_call 74;((refine(gD.out _ _ pF.out Kh.out).mono ?_);rintro e wN ⟨⟨vN,rfl,hn⟩,ht,hb⟩;have oZ:=hid hn;have gJ:=hid ht;clear hn ht hb))
   | (go_at_call 37;((refine(gT.out _ _ gJ.out oZ.out).mono ?_);rintro e wP ⟨⟨vP,rfl,hn⟩,ht,hb⟩;have pE:=hid hn;have fL:=hid ht;obtain⟨pt,kt,ct,pf,kf,cf,rfl,eR,dZ⟩:=hn.parts;clear hn ht hb eR dZ;generalize decide ((a/b).num<0)=sg at *;obtain⟨⟨r0,g0⟩,⟨r1,g1⟩,⟨r2,g2⟩⟩:=qj8 fL.out)))
 have aG:=hid (qbc pE.out r0 r1 r2);have aH:=hid (qai fL.out.1 (show w.heap.size≤w.heap.size+1+1 by omega) (.bool sg) (.slice pt kt ct) (.slice pf kf cf));go_wp2_with fail;refine bodyPost_ret (v := .agg #[.bool sg,.slice pt kt ct,.slice pf kf cf]) ?_ rfl ?_
 ·simp[results,Tryz.results38,go_sem,r0,r1,r2]
 ·exact⟨⟨_,rfl,aG.out⟩,aH.out⟩
theorem qoe(a:Rat)(h:¬a.num<0):a.floor.natAbs=a.num.natAbs/a.den∧¬a.floor<0:=by
 have e:a.num=(a.num.natAbs:Int):=by omega
 rw[Rat.floor_def];generalize a.num.natAbs=m at *;rw[e,←Int.natCast_ediv];exact⟨Int.natAbs_natCast _,Int.not_lt.2 (Int.natCast_nonneg _)⟩
theorem qof(a:Rat)(h:a.num<0):a.floor.natAbs=a.num.natAbs/a.den+(if a.num.natAbs % a.den=0 then 0 else 1)∧a.floor<0:=by
 have e:a.num = -(a.num.natAbs:Int):=by omega
 have hm:0<a.num.natAbs:=by omega
 rw[Rat.floor_def];have hn:=a.den_pos;generalize a.num.natAbs=m at *;generalize a.den=n at *;have hd:=Nat.div_add_mod m n;have hl:=Nat.mod_lt m hn;have Nv:(n:Int)*((m/n:Nat):Int)+((m % n:Nat):Int)=(m:Int):=by exact_mod_cast hd
 have sC:m/n=0→m % n≠0:=by
  intro h1 h2;rw[h1,h2] at hd;omega
 rw[e];generalize m/n=q at *;generalize m % n=r at *;by_cases hr:r=0
 ·rw[if_pos hr]
  subst hr;have:=((Int.ediv_emod_unique (a := -(m:Int)) (b:=n) (r:=0) (q := -(q:Int)) (by omega)).2 ⟨by grind,by omega,by omega⟩).1;rw[this];omega
 ·rw[if_neg hr]
  have:=((Int.ediv_emod_unique (a := -(m:Int)) (b:=n) (r:=(n:Int)-r) (q := -(q:Int)-1) (by omega)).2 ⟨by grind,by omega,by omega⟩).1;rw[this];omega
theorem qjc{w W:World}{na:Bool}{ta ba:Value}{f:FuncId}{args:Array Value}{P:Ending→World→Prop}(hW:qgz w na ta ba W)
  (h:Calls Tryz.prog f args W fun e w'=>P e w'∧Below W.heap.size W w'):Calls Tryz.prog f args W fun e w'=>P e w'∧qgz w na ta ba w'∧Below W.heap.size W w':=
 h.mono fun _ _ ⟨h1,h2⟩=>⟨h1,hW.later h2,h2⟩
theorem qdy{w W:World}{na:Bool}{ta ba:Value}(h:qgz w na ta ba W):W.cell? ⟨w.heap.size,0,none⟩=some (.bool na)∧W.cell? ⟨w.heap.size,1,none⟩=some ta∧W.cell? ⟨w.heap.size,2,none⟩=some ba:=
 ⟨(h.2.1.2 0 (by omega)).1,(h.2.1.2 1 (by omega)).1,(h.2.1.2 2 (by omega)).1⟩
theorem qq5{w W:World}{na:Bool}{ta ba:Value}(h:qgz w na ta ba W):
  (W.cell? ⟨w.heap.size+1,0,none⟩=some (.bool false)∧W.frozen? ⟨w.heap.size+1,0,none⟩=false)∧
  (W.cell? ⟨w.heap.size+1,1,none⟩=some (.slice none 0 0)∧W.frozen? ⟨w.heap.size+1,1,none⟩=false)∧
  (W.cell? ⟨w.heap.size+1,2,none⟩=some (.slice none 0 0)∧W.frozen? ⟨w.heap.size+1,2,none⟩=false):=
 ⟨h.2.2.2 0 (by omega),h.2.2.2 1 (by omega),h.2.2.2 2 (by omega)⟩
theorem q0a(va:Value)(a:Rat)(w:World)(ha:qaj w va a)(aP:rs a≤Cap):
  Calls Tryz.prog 96 #[va] w fun e w'=>(∃v',e = .returned v'∧qaj w' v' (a.floor:Rat))∧Below w.heap.size w w':=by
 have HA:=hid ha;obtain⟨aI,aJ,aK,aM,aL,aN,rfl,dK,dX⟩:=ha.parts;have eF:=hid dK;clear ha dK dX
 have fS:Hid (decide (a.floor<0)=(decide (a.num<0)&&decide (0<a.floor.natAbs))):=by
  refine hid ?_;by_cases h:a.num<0
  ·have:=(qof a h).2
   rw[zas h,zas this,zas (by omega)];rfl
  ·have:=(qoe a h).2
   rw[zar h,zar this];rfl
 have Nw:Hid (a.floor.natAbs=a.num.natAbs/a.den+(if decide (a.num<0)=true∧a.num.natAbs % a.den≠0 then 1 else 0)):=by
  refine hid ?_;by_cases h:a.num<0
  ·rw[(qof a h).1,zas h]
   by_cases h2:a.num.natAbs % a.den=0
   ·rw[if_pos h2,if_neg (by rintro⟨_,h3⟩;exact h3 h2)]
   ·rw[if_neg h2,if_pos ⟨rfl,h2⟩]
  ·rw[(qoe a h).1,zar h,if_neg (by rintro⟨h3,_⟩;cases h3)];rfl
 generalize decide (a.num<0)=na at *;have cU:Hid (wl a.num.natAbs+wl a.den≤Cap):=hid aP;have aO:=hid (qod w na (.slice aI aJ aK) (.slice aM aL aN));have gR:Hid (∀W,qgz w na (.slice aI aJ aK) (.slice aM aL aN) W→Calls Tryz.prog 73 #[.agg #[.bool na,.slice aI aJ aK,.slice aM aL aN]] W fun e w'=>(∃v',e = .returned v'∧qap w' v' a.den)∧qgz w na (.slice aI aJ aK) (.slice aM aL aN) w'∧Below W.heap.size W w'):=hid fun W hW=>qjc hW (qbx _ a W (HA.out.later hW.1))
 have dH:Hid (∀W v,qgz w na (.slice aI aJ aK) (.slice aM aL aN) W→qap W v a.den→Calls Tryz.prog 78 #[.slice aI aJ aK,v] W fun e w'=>(∃vq vr,e = .returned (.tuple #[vq,vr])∧qap w' vq (a.num.natAbs/a.den)∧qap w' vr (a.num.natAbs % a.den))∧qgz w na (.slice aI aJ aK) (.slice aM aL aN) w'∧Below W.heap.size W w'):=
  hid fun W v hW h=>qjc hW (ql2 _ v _ _ W (eF.out.later hW.1) h a.den_pos (by have:=cU.out;omega))
 have Bd:Hid (∀W v1 v2,qgz w na (.slice aI aJ aK) (.slice aM aL aN) W→qap W v1 (a.num.natAbs/a.den)→qap W v2 1→Calls Tryz.prog 154 #[v1,v2] W fun e w'=>(∃v',e = .returned v'∧qap w' v' (a.num.natAbs/a.den+1))∧qgz w na (.slice aI aJ aK) (.slice aM aL aN) w'∧Below W.heap.size W w'):=
  hid fun W v1 v2 hW h1 h2=>qjc hW (qzx v1 v2 _ _ W h1 h2 (Nat.le_trans (qde (Nat.div_le_self _ _)) (by have:=cU.out;omega)) (by have:=cU.out;have:=qde (show 1≤a.den from a.den_pos);omega))
 have gD:Hid (∀W v,qgz w na (.slice aI aJ aK) (.slice aM aL aN) W→qap W v a.floor.natAbs→Calls Tryz.prog 74 #[.bool na,v,.slice none 0 0] W fun e w'=>(∃v',e = .returned v'∧qaj w' v' (a.floor:Rat))∧qgz w na (.slice aI aJ aK) (.slice aM aL aN) w'∧Below W.heap.size W w'):=by
  refine hid fun W v hW h=>qjc hW ((qez na _ v _ _ 0 0 W h (qap.nil W) fS.out rfl).mono ?_);rintro e w' ⟨⟨vb',he,n1,n2⟩,hb⟩;exact⟨⟨_,he,_,_,rfl,n1,n2⟩,hb⟩
 have Dc:Hid (∀W:World,qap (W.alloc (.cells #[.int .u64 ((1:Nat):Int)] 130)) (.slice (some ⟨W.heap.size,0,none⟩) 1 1) 1):=hid fun W=>qj6 W 1 (by rw[qab];omega) (by omega);clear aP fS;go_enter Tryz.func96,Tryz.ntmps96;go_wp2_with fail;generalize (w.alloc (.cells #[.bool na,.slice aI aJ aK,.slice aM aL aN] 74)).alloc (.cells #[.bool false,.slice none 0 0,.slice none 0 0] 74)=w0 at *;have cG:=hid (aO.out.later ((zan _ _).drew))
 go_region_held3 (fun W=>W.cell? ⟨w.heap.size,0,none⟩=some (.bool na)∧W.cell? ⟨w.heap.size,1,none⟩=some (.slice aI aJ aK)∧W.cell? ⟨w.heap.size,2,none⟩=some (.slice aM aL aN)) (first|exact qdy pF.out|exact qdy zO.out|exact qdy cG.out)
  (first
   | (go_at_call 73;((with_reducible refine(gR.out _ cG.out).mono ?_);rintro e wA ⟨⟨vA,rfl,hn⟩,ht,hb⟩;have mN:=hid hn;have zO:=hid ht;clear hn ht hb))
   | (go_at_call 78;((refine(dH.out _ _ zO.out mN.out).mono ?_);rintro e wD ⟨⟨vQ,vR,rfl,hn,hr⟩,ht,hb⟩;have Nx:=hid hn;have Pn:=hid hr;have pF:=hid ht;clear hn hr ht hb)))
 obtain⟨pR,kR,cR,rfl,Ro⟩:=qar Pn.out;clear cG aO mN zO;cases na
 ·have HE:Hid (qap wD vQ a.floor.natAbs):=hid (by rw[Nw.out,if_neg (by rintro⟨h3,_⟩;cases h3)];exact Nx.out)
  clear Ro;obtain⟨d0,d1,d2⟩:=qdy pF.out;go_wp2_with fail;clear d0 d1 d2;refine(gD.out _ _ pF.out HE.out).mono ?_;rintro e wP ⟨⟨vP,rfl,hn⟩,ht,hb⟩;have pE:=hid hn;have fL:=hid ht;obtain⟨pt,kt,ct,pf,kf,cf,rfl,eR,dZ⟩:=hn.parts;clear hn ht hb eR dZ;generalize decide ((a.floor:Rat).num<0)=sg at *;obtain⟨⟨r0,g0⟩,⟨r1,g1⟩,⟨r2,g2⟩⟩:=qq5 fL.out;have aG:=hid (qbc pE.out r0 r1 r2);have aH:=hid (qai fL.out.1 (show w.heap.size≤w.heap.size+1 by omega) (.bool sg) (.slice pt kt ct) (.slice pf kf cf));go_wp2_with fail;refine bodyPost_ret (v := .agg #[.bool sg,.slice pt kt ct,.slice pf kf cf]) ?_ rfl ?_
  ·simp[results,Tryz.results96,go_sem,r0,r1,r2]
  ·exact⟨⟨_,rfl,aG.out⟩,aH.out⟩
 ·by_cases hr:a.num.natAbs % a.den=0
  ·have HE:Hid (qap wD vQ a.floor.natAbs):=hid (by rw[Nw.out,if_neg (by rintro⟨_,h3⟩;exact h3 hr)];exact Nx.out)
   rw[hr,qck] at Ro;subst Ro;clear hr;obtain⟨d0,d1,d2⟩:=qdy pF.out;go_wp2_with fail;clear d0 d1 d2;refine(gD.out _ _ pF.out HE.out).mono ?_;rintro e wP ⟨⟨vP,rfl,hn⟩,ht,hb⟩;have pE:=hid hn;have fL:=hid ht;obtain⟨pt,kt,ct,pf,kf,cf,rfl,eR,dZ⟩:=hn.parts;clear hn ht hb eR dZ;generalize decide ((a.floor:Rat).num<0)=sg at *;obtain⟨⟨r0,g0⟩,⟨r1,g1⟩,⟨r2,g2⟩⟩:=qq5 fL.out;have aG:=hid (qbc pE.out r0 r1 r2);have aH:=hid (qai fL.out.1 (show w.heap.size≤w.heap.size+1 by omega) (.bool sg) (.slice pt kt ct) (.slice pf kf cf));go_wp2_with fail;refine bodyPost_ret (v := .agg #[.bool sg,.slice pt kt ct,.slice pf kf cf]) ?_ rfl ?_
   ·simp[results,Tryz.results96,go_sem,r0,r1,r2]
   ·exact⟨⟨_,rfl,aG.out⟩,aH.out⟩
  ·have oG:0<kR:=by rw[Ro];exact qp6 (by omega)
   have oA:(0:Int)<(kR:Int):=by omega
   have HFL1:Hid (a.floor.natAbs=a.num.natAbs/a.den+1):=hid (by rw[Nw.out,if_pos ⟨rfl,hr⟩]);clear hr Ro;obtain⟨d0,d1,d2⟩:=qdy pF.out;go_wp2_with fail;clear d0 d1 d2;have aD:=(zan wD.heap.size wD).alloc (zap _) (.cells #[.int .u64 ((1:Nat):Int)] 130);refine(Bd.out _ _ _ (pF.out.later aD) (Nx.out.later aD) (Dc.out wD)).mono ?_;rintro e wB ⟨⟨vB,rfl,hn⟩,ht,hb⟩;have HE:Hid (qap wB vB a.floor.natAbs):=hid (by rw[HFL1.out];exact hn);have pT:=hid ht;clear hn ht hb aD;obtain⟨d0,d1,d2⟩:=qdy pT.out;go_wp2_with fail;clear d0 d1 d2;refine(gD.out _ _ pT.out HE.out).mono ?_;rintro e wP ⟨⟨vP,rfl,hn⟩,ht,hb⟩;have pE:=hid hn;have fL:=hid ht;obtain⟨pt,kt,ct,pf,kf,cf,rfl,eR,dZ⟩:=hn.parts;clear hn ht hb eR dZ;generalize decide ((a.floor:Rat).num<0)=sg at *;obtain⟨⟨r0,g0⟩,⟨r1,g1⟩,⟨r2,g2⟩⟩:=qq5 fL.out;have aG:=hid (qbc pE.out r0 r1 r2);have aH:=hid (qai fL.out.1 (show w.heap.size≤w.heap.size+1 by omega) (.bool sg) (.slice pt kt ct) (.slice pf kf cf));go_wp2_with fail;refine bodyPost_ret (v := .agg #[.bool sg,.slice pt kt ct,.slice pf kf cf]) ?_ rfl ?_
   ·simp[results,Tryz.results96,go_sem,r0,r1,r2]
   ·exact⟨⟨_,rfl,aG.out⟩,aH.out⟩
def qb4(w:World)(na:Bool)(ta ba:Value)(nb:Bool)(tb bb:Value)(W:World):Prop:=
 Below w.heap.size w W∧Own W w.heap.size 3 (qci na ta ba)∧Own W (w.heap.size+1) 3 (qci nb tb bb)
theorem qb4.later{w:World}{na nb:Bool}{ta ba tb bb:Value}{W W':World}(h:qb4 w na ta ba nb tb bb W)(hb:Below W.heap.size W W'):qb4 w na ta ba nb tb bb W':=by
 obtain⟨h1,h2,h3⟩:=h;have:=h3.1;exact⟨h1.trans (hb.mono h1.size),h2.later (hb.mono (by omega)),h3.later (hb.mono (by omega))⟩
theorem qb4.drew{w:World}{na nb:Bool}{ta ba tb bb:Value}{W:World}(h:qb4 w na ta ba nb tb bb W):qb4 w na ta ba nb tb bb W.drew:=h.later ((zan _ _).drew)
theorem qha{w W:World}{na nb:Bool}{ta ba tb bb:Value}{f:FuncId}{args:Array Value}{P:Ending→World→Prop}(hW:qb4 w na ta ba nb tb bb W)
  (h:Calls Tryz.prog f args W fun e w'=>P e w'∧Below W.heap.size W w'):Calls Tryz.prog f args W fun e w'=>P e w'∧qb4 w na ta ba nb tb bb w'∧Below W.heap.size W w':=
 h.mono fun _ _ ⟨h1,h2⟩=>⟨h1,hW.later h2,h2⟩
theorem ql3(w:World)(na:Bool)(ta ba:Value)(nb:Bool)(tb bb:Value):
  qb4 w na ta ba nb tb bb ((w.alloc (.cells #[.bool na,ta,ba] 74)).alloc (.cells #[.bool nb,tb,bb] 74)):=by
 have h1:=qp7 w na ta ba;have h2:=qp7 (w.alloc (.cells #[.bool na,ta,ba] 74)) nb tb bb;simp only[zao] at h2;have al:∀(V:World) (o:Obj),Below V.heap.size V (V.alloc o):=fun V o=>zam _ _;exact⟨(al w _).trans ((al _ _).mono (by rw[zao];omega)),h1.later ((al _ _).mono (by rw[zao];omega)),h2⟩
theorem qbn{w:World}{na nb:Bool}{ta ba tb bb:Value}{W:World}(h:qb4 w na ta ba nb tb bb W):
  W.cell? ⟨w.heap.size,0,none⟩=some (.bool na)∧W.cell? ⟨w.heap.size,1,none⟩=some ta∧W.cell? ⟨w.heap.size,2,none⟩=some ba∧
  W.cell? ⟨w.heap.size+1,0,none⟩=some (.bool nb)∧W.cell? ⟨w.heap.size+1,1,none⟩=some tb∧W.cell? ⟨w.heap.size+1,2,none⟩=some bb:=
 ⟨(h.2.1.2 0 (by omega)).1,(h.2.1.2 1 (by omega)).1,(h.2.1.2 2 (by omega)).1,(h.2.2.2 0 (by omega)).1,(h.2.2.2 1 (by omega)).1,(h.2.2.2 2 (by omega)).1⟩
def qcq(a b:Rat):Int:=qr9 (a.num*b.den) (b.num*a.den)
theorem qeo(a:Rat):(sgn a = -1∧a.num<0)∨(sgn a=0∧a.num=0)∨(sgn a=1∧0<a.num):=by
 unfold sgn;split
 ·exact .inl ⟨rfl,by assumption⟩
 ·split
  ·exact .inr (.inl ⟨rfl,by assumption⟩)
  ·exact .inr (.inr ⟨rfl,by omega⟩)
theorem qp8(a b:Rat)(h:sgn a≠sgn b∨sgn a=0):qr9 (sgn a) (sgn b)=qcq a b:=by
 have hp:∀(x:Int) (q:Rat),0<x→0<x*(q.den:Int):=fun x q h=>Int.mul_pos h (by have:=q.den_pos;omega);have hn:∀(x:Int) (q:Rat),x<0→x*(q.den:Int)<0:=fun x q h=>Int.mul_neg_of_neg_of_pos h (by have:=q.den_pos;omega);unfold qcq;rcases qeo a with⟨e1,h1⟩|⟨e1,h1⟩|⟨e1,h1⟩<;>rcases qeo b with⟨e2,h2⟩|⟨e2,h2⟩|⟨e2,h2⟩<;>rw[e1,e2] at h ⊢
 ·omega
 ·have:=hn _ b h1
  rw[h2,Int.zero_mul,qcy this];rfl
 ·have:=hn _ b h1
  have:=hp _ a h2;rw[qcy (by omega:a.num*(b.den:Int)<b.num*a.den)];rfl
 ·have:=hn _ a h2
  rw[h1,Int.zero_mul,qch this];rfl
 ·rw[h1,h2,Int.zero_mul,Int.zero_mul]
 ·have:=hp _ a h2
  rw[h1,Int.zero_mul,qcy this];rfl
 ·have:=hp _ b h1
  have:=hn _ a h2;rw[qch (by omega:b.num*(a.den:Int)<a.num*b.den)];rfl
 ·have:=hp _ b h1
  rw[h2,Int.zero_mul,qch this];rfl
 ·omega
theorem q35(a b:Rat)(h1:0<a.num)(h2:0<b.num):qen (a.num.natAbs*b.den) (b.num.natAbs*a.den)=qcq a b:=by
 unfold qen qcq;rw[Int.natCast_mul,Int.natCast_mul,Int.natAbs_of_nonneg (by omega),Int.natAbs_of_nonneg (by omega)]
theorem q36(a b:Rat)(h1:a.num<0)(h2:b.num<0) : -qen (a.num.natAbs*b.den) (b.num.natAbs*a.den)=qcq a b:=by
 have e1:(a.num.natAbs:Int) = -a.num:=by omega
 have e2:(b.num.natAbs:Int) = -b.num:=by omega
 unfold qen qcq;rw[Int.natCast_mul,Int.natCast_mul,e1,e2,Int.neg_mul,Int.neg_mul];unfold qr9;generalize a.num*(b.den:Int)=x;generalize b.num*(a.den:Int)=y;split<;>split<;>(try split)<;>(try split)<;>omega
theorem qx0(va vb:Value)(a b:Rat)(w:World)(ha:qaj w va a)(hb:qaj w vb b)(h0a:sgn a=0)(h0b:sgn b=0):
  Calls Tryz.prog 33 #[va,vb] w fun e w'=>e = .returned (.int .i64 (qcq a b))∧Below w.heap.size w w':=by
 have HA:=hid ha;have HB:=hid hb;obtain⟨aI,aJ,aK,aM,aL,aN,rfl,dK,dX⟩:=ha.parts;obtain⟨aY,aZ,bA,bC,bE,bF,rfl,bB,aT⟩:=hb.parts;clear ha hb dK dX bB aT;generalize decide (a.num<0)=na at *;generalize decide (b.num<0)=nb at *;have aO:=hid (ql3 w na (.slice aI aJ aK) (.slice aM aL aN) nb (.slice aY aZ bA) (.slice bC bE bF));have oU:Hid (∀W,qb4 w na (.slice aI aJ aK) (.slice aM aL aN) nb (.slice aY aZ bA) (.slice bC bE bF) W→Calls Tryz.prog 70 #[.agg #[.bool na,.slice aI aJ aK,.slice aM aL aN]] W fun e w'=>(e = .returned (.int .i64 0))∧qb4 w na (.slice aI aJ aK) (.slice aM aL aN) nb (.slice aY aZ bA) (.slice bC bE bF) w'∧Below W.heap.size W w'):=hid fun W hW=>by rw[←h0a];exact qha hW (qdl _ a W (HA.out.later hW.1))
 have cQ:Hid (∀W,qb4 w na (.slice aI aJ aK) (.slice aM aL aN) nb (.slice aY aZ bA) (.slice bC bE bF) W→Calls Tryz.prog 70 #[.agg #[.bool nb,.slice aY aZ bA,.slice bC bE bF]] W fun e w'=>(e = .returned (.int .i64 0))∧qb4 w na (.slice aI aJ aK) (.slice aM aL aN) nb (.slice aY aZ bA) (.slice bC bE bF) w'∧Below W.heap.size W w'):=hid fun W hW=>by rw[←h0b];exact qha hW (qdl _ b W (HB.out.later hW.1))
 have iA:Hid (∀W,Calls Tryz.prog 58 #[.int .i64 0,.int .i64 0] W fun e w'=>e = .returned (.int .i64 (qcq a b))∧w'=W):=hid fun W=>by rw[←qp8 a b (.inr h0a),h0a,h0b];exact qja _ _ W
 generalize qcq a b=res at *;clear h0a h0b;go_enter Tryz.func33,Tryz.ntmps33;go_wp2_with fail;generalize (w.alloc (.cells #[.bool na,.slice aI aJ aK,.slice aM aL aN] 74)).alloc (.cells #[.bool nb,.slice aY aZ bA,.slice bC bE bF] 74)=w0 at *;have dN:=hid aO.out.drew;obtain⟨d0,d1,d2,d3,d4,d5⟩:=qbn dN.out
 go_region_with (first
  | (go_at_call 70;first
    | ((with_reducible refine(oU.out _ dN.out).mono ?_);rintro e wC ⟨rfl,ht,hb⟩;clear dN d0 d1 d2 d3 d4 d5;have dN:=hid ht;obtain⟨d0,d1,d2,d3,d4,d5⟩:=qbn ht;clear ht hb)
    | ((with_reducible refine(cQ.out _ dN.out).mono ?_);rintro e wC ⟨rfl,ht,hb⟩;clear dN d0 d1 d2 d3 d4 d5;have dN:=hid ht;obtain⟨d0,d1,d2,d3,d4,d5⟩:=qbn ht;clear ht hb)))
 all_goals
  clear d0 d1 d2 d3 d4 d5;have oX:=hid dN.out.drew;clear dN aO;have dN:=oX;clear oX;go_wp2_with fail
  go_region_held3 (fun W=>W.cell? ⟨w.heap.size,0,none⟩=some (.bool na)∧W.cell? ⟨w.heap.size,1,none⟩=some (.slice aI aJ aK)∧W.cell? ⟨w.heap.size,2,none⟩=some (.slice aM aL aN)∧W.cell? ⟨w.heap.size+1,0,none⟩=some (.bool nb)∧W.cell? ⟨w.heap.size+1,1,none⟩=some (.slice aY aZ bA)∧W.cell? ⟨w.heap.size+1,2,none⟩=some (.slice bC bE bF)) (exact qbn dN.out)
   (first
   | (go_at_call 70;first
     | ((with_reducible refine(oU.out _ dN.out).mono ?_);rintro e wE ⟨rfl,ht,hb⟩;clear dN;have dN:=hid ht;clear ht hb)
     | ((with_reducible refine(cQ.out _ dN.out).mono ?_);rintro e wE ⟨rfl,ht,hb⟩;clear dN;have dN:=hid ht;clear ht hb))
   | (go_at_call 58;((refine(iA.out _).mono ?_);rintro e wG ⟨rfl,rfl⟩)))
  have pG:=hid dN.out.1;go_wp2_with fail;go_ret;exact⟨rfl,pG.out⟩
theorem qx1(p q:Nat):qen p q = -1∨qen p q=0∨qen p q=1:=by
 unfold qen qr9;split
 ·exact .inl rfl
 ·split
  ·exact .inr (.inr rfl)
  ·exact .inr (.inl rfl)
theorem qog(s:Int)(va vb:Value)(a b:Rat)(w:World)(ha:qaj w va a)(hb:qaj w vb b)(hs:s = -1∨s=1)(h0a:sgn a=s)(h0b:sgn b=s)(aP:rs a+rs b≤Cap):
  Calls Tryz.prog 33 #[va,vb] w fun e w'=>e = .returned (.int .i64 (qcq a b))∧Below w.heap.size w w':=by
 have HA:=hid ha;have HB:=hid hb;obtain⟨aI,aJ,aK,aM,aL,aN,rfl,dK,dX⟩:=ha.parts;obtain⟨aY,aZ,bA,bC,bE,bF,rfl,bB,aT⟩:=hb.parts;have eF:=hid dK;have aQ:=hid bB;have cU:Hid (wl a.num.natAbs+wl a.den+(wl b.num.natAbs+wl b.den)≤Cap):=hid aP
 have aS:Hid (IntKind.i64.wrap (qen (a.num.natAbs*b.den) (b.num.natAbs*a.den)*s)=qcq a b):=by
  refine hid ?_;have hn:=qx1 (a.num.natAbs*b.den) (b.num.natAbs*a.den);have hca:=qeo a;have Du:=qeo b
  have hw:∀z:Int,z = -1∨z=0∨z=1→IntKind.i64.wrap z=z:=by
   rintro z (rfl|rfl|rfl)<;>rfl
  rcases hs with rfl|rfl
  ·rw[hw _ (by omega),←q36 a b (by omega) (by omega)]
   omega
  ·rw[hw _ (by omega),←q35 a b (by omega) (by omega)]
   omega
 clear ha hb dK dX bB aT aP;generalize decide (a.num<0)=na at *;generalize decide (b.num<0)=nb at *;have aO:=hid (ql3 w na (.slice aI aJ aK) (.slice aM aL aN) nb (.slice aY aZ bA) (.slice bC bE bF));have oU:Hid (∀W,qb4 w na (.slice aI aJ aK) (.slice aM aL aN) nb (.slice aY aZ bA) (.slice bC bE bF) W→Calls Tryz.prog 70 #[.agg #[.bool na,.slice aI aJ aK,.slice aM aL aN]] W fun e w'=>(e = .returned (.int .i64 s))∧qb4 w na (.slice aI aJ aK) (.slice aM aL aN) nb (.slice aY aZ bA) (.slice bC bE bF) w'∧Below W.heap.size W w'):=hid fun W hW=>by rw[←h0a];exact qha hW (qdl _ a W (HA.out.later hW.1))
 have cQ:Hid (∀W,qb4 w na (.slice aI aJ aK) (.slice aM aL aN) nb (.slice aY aZ bA) (.slice bC bE bF) W→Calls Tryz.prog 70 #[.agg #[.bool nb,.slice aY aZ bA,.slice bC bE bF]] W fun e w'=>(e = .returned (.int .i64 s))∧qb4 w na (.slice aI aJ aK) (.slice aM aL aN) nb (.slice aY aZ bA) (.slice bC bE bF) w'∧Below W.heap.size W w'):=hid fun W hW=>by rw[←h0b];exact qha hW (qdl _ b W (HB.out.later hW.1))
 have gR:Hid (∀W,qb4 w na (.slice aI aJ aK) (.slice aM aL aN) nb (.slice aY aZ bA) (.slice bC bE bF) W→Calls Tryz.prog 73 #[.agg #[.bool na,.slice aI aJ aK,.slice aM aL aN]] W fun e w'=>(∃v',e = .returned v'∧qap w' v' a.den)∧qb4 w na (.slice aI aJ aK) (.slice aM aL aN) nb (.slice aY aZ bA) (.slice bC bE bF) w'∧Below W.heap.size W w'):=hid fun W hW=>(qbx _ a W (HA.out.later hW.1)).mono fun _ _ ⟨⟨v,h1,h2⟩,h3⟩=>⟨⟨v,h1,h2⟩,hW.later h3,h3⟩;have gH:Hid (∀W,qb4 w na (.slice aI aJ aK) (.slice aM aL aN) nb (.slice aY aZ bA) (.slice bC bE bF) W→Calls Tryz.prog 73 #[.agg #[.bool nb,.slice aY aZ bA,.slice bC bE bF]] W fun e w'=>(∃v',e = .returned v'∧qap w' v' b.den)∧qb4 w na (.slice aI aJ aK) (.slice aM aL aN) nb (.slice aY aZ bA) (.slice bC bE bF) w'∧Below W.heap.size W w'):=hid fun W hW=>(qbx _ b W (HB.out.later hW.1)).mono fun _ _ ⟨⟨v,h1,h2⟩,h3⟩=>⟨⟨v,h1,h2⟩,hW.later h3,h3⟩;have Ej:Hid (∀W v,qb4 w na (.slice aI aJ aK) (.slice aM aL aN) nb (.slice aY aZ bA) (.slice bC bE bF) W→qap W v b.den→Calls Tryz.prog 72 #[.slice aI aJ aK,v] W fun e w'=>(∃v',e = .returned v'∧qap w' v' (a.num.natAbs*b.den))∧qb4 w na (.slice aI aJ aK) (.slice aM aL aN) nb (.slice aY aZ bA) (.slice bC bE bF) w'∧Below W.heap.size W w'):=hid fun W v hW hv=>(qgo _ v _ _ W (eF.out.later hW.1) hv (by have:=cU.out;omega) (by have:=cU.out;omega)).mono fun _ _ ⟨⟨v,h1,h2⟩,h3⟩=>⟨⟨v,h1,h2⟩,hW.later h3,h3⟩
 have rP:Hid (∀W v,qb4 w na (.slice aI aJ aK) (.slice aM aL aN) nb (.slice aY aZ bA) (.slice bC bE bF) W→qap W v a.den→Calls Tryz.prog 72 #[.slice aY aZ bA,v] W fun e w'=>(∃v',e = .returned v'∧qap w' v' (b.num.natAbs*a.den))∧qb4 w na (.slice aI aJ aK) (.slice aM aL aN) nb (.slice aY aZ bA) (.slice bC bE bF) w'∧Below W.heap.size W w'):=hid fun W v hW hv=>(qgo _ v _ _ W (aQ.out.later hW.1) hv (by have:=cU.out;omega) (by have:=cU.out;omega)).mono fun _ _ ⟨⟨v,h1,h2⟩,h3⟩=>⟨⟨v,h1,h2⟩,hW.later h3,h3⟩
 have HCN:Hid (∀W v v',qb4 w na (.slice aI aJ aK) (.slice aM aL aN) nb (.slice aY aZ bA) (.slice bC bE bF) W→qap W v (a.num.natAbs*b.den)→qap W v' (b.num.natAbs*a.den)→Calls Tryz.prog 71 #[v,v'] W fun e w'=>e = .returned (.int .i64 (qen (a.num.natAbs*b.den) (b.num.natAbs*a.den)))∧qb4 w na (.slice aI aJ aK) (.slice aM aL aN) nb (.slice aY aZ bA) (.slice bC bE bF) w'∧Below W.heap.size W w'):=hid fun W v v' hW h1 h2=>(qd7 v v' _ _ W h1 h2).mono fun _ _ ⟨h1,k,h2⟩=>by
  subst h2;have hb:Below W.heap.size W (W.drewN k):=below_drewN (zan _ _) k;exact⟨h1,hW.later hb,hb⟩
 generalize qcq a b=res at *;generalize qen (a.num.natAbs*b.den) (b.num.natAbs*a.den)=cn at *;generalize a.num.natAbs*b.den=xa at *;generalize b.num.natAbs*a.den=xb at *;generalize a.den=da at *;generalize b.den=db at *;clear h0a h0b cU eF aQ;have rH:Hid (s = -1→wrap64 (-cn)=res):=hid (by rintro rfl;have:=aS.out;rw[Int.mul_neg_one,IntKind.wrap_i64] at this;unfold wrap64;exact this);have mH:Hid (s=1→wrap64 cn=res):=hid (by rintro rfl;have:=aS.out;rw[Int.mul_one,IntKind.wrap_i64] at this;unfold wrap64;exact this);clear aS;rcases hs with rfl|rfl
 all_goals
  first
  | have HF:=hid (rH.out rfl)
  | have HF:=hid (mH.out rfl)
  clear rH mH;go_enter Tryz.func33,Tryz.ntmps33;go_wp2_with fail;generalize (w.alloc (.cells #[.bool na,.slice aI aJ aK,.slice aM aL aN] 74)).alloc (.cells #[.bool nb,.slice aY aZ bA,.slice bC bE bF] 74)=w0 at *;have dN:=hid aO.out.drew;obtain⟨d0,d1,d2,d3,d4,d5⟩:=qbn dN.out
  go_region_with (first
  | (go_at_call 70;first
    | ((with_reducible refine(oU.out _ dN.out).mono ?_);rintro e wC ⟨rfl,ht,hb⟩;clear dN d0 d1 d2 d3 d4 d5;have dN:=hid ht;obtain⟨d0,d1,d2,d3,d4,d5⟩:=qbn ht;clear ht hb)
    | ((with_reducible refine(cQ.out _ dN.out).mono ?_);rintro e wC ⟨rfl,ht,hb⟩;clear dN d0 d1 d2 d3 d4 d5;have dN:=hid ht;obtain⟨d0,d1,d2,d3,d4,d5⟩:=qbn ht;clear ht hb)))
  all_goals
  clear d0 d1 d2 d3 d4 d5;have oX:=hid dN.out.drew;clear dN aO;have dN:=oX;clear oX;go_wp2_with fail
  go_region_held3 (fun W=>W.cell? ⟨w.heap.size,0,none⟩=some (.bool na)∧W.cell? ⟨w.heap.size,1,none⟩=some (.slice aI aJ aK)∧W.cell? ⟨w.heap.size,2,none⟩=some (.slice aM aL aN)∧W.cell? ⟨w.heap.size+1,0,none⟩=some (.bool nb)∧W.cell? ⟨w.heap.size+1,1,none⟩=some (.slice aY aZ bA)∧W.cell? ⟨w.heap.size+1,2,none⟩=some (.slice bC bE bF)) (exact qbn dN.out)
   (first
   | (go_at_call 73;first
     | ((with_reducible refine(gR.out _ dN.out).mono ?_);rintro e wE ⟨⟨vA,rfl,hn⟩,ht,hb⟩;clear dN;have dN:=hid ht;have mN:=hid hn;(try replace rL:=hid (rL.out.later hb));(try replace gS:=hid (gS.out.later hb));(try replace oY:=hid (oY.out.later hb));clear ht hb hn)
     | ((with_reducible refine(gH.out _ dN.out).mono ?_);rintro e wE ⟨⟨vB,rfl,hn⟩,ht,hb⟩;clear dN;have dN:=hid ht;have rL:=hid hn;(try replace mN:=hid (mN.out.later hb));(try replace gS:=hid (gS.out.later hb));(try replace oY:=hid (oY.out.later hb));clear ht hb hn))
   | (go_at_call 72;first
     | ((with_reducible refine(Ej.out _ _ dN.out rL.out).mono ?_);rintro e wE ⟨⟨vX,rfl,hn⟩,ht,hb⟩;clear dN;have dN:=hid ht;have gS:=hid hn;(try replace mN:=hid (mN.out.later hb));(try replace oY:=hid (oY.out.later hb));clear ht hb hn)
     | ((with_reducible refine(rP.out _ _ dN.out mN.out).mono ?_);rintro e wE ⟨⟨vY,rfl,hn⟩,ht,hb⟩;clear dN;have dN:=hid ht;have oY:=hid hn;(try replace rL:=hid (rL.out.later hb));(try replace gS:=hid (gS.out.later hb));clear ht hb hn))
   | (go_at_call 71;((refine(HCN.out _ _ _ dN.out gS.out oY.out).mono ?_);rintro e wG ⟨rfl,ht,hb⟩;clear dN;have dN:=hid ht;clear ht hb)))
  all_goals
   obtain⟨d0,d1,d2,d3,d4,d5⟩:=qbn dN.out;go_wp2_with fail;clear d0 d1 d2 d3 d4 d5;refine(oU.out _ ?_).mono ?_
   ·first|exact dN.out|exact dN.out.drew
   rintro e wH ⟨rfl,ht,hb⟩;have pG:=hid ht.1;clear ht hb dN;go_wp2_with fail;go_ret;exact⟨qa0 HF.out,pG.out⟩
theorem qx2(va vb:Value)(a b:Rat)(w:World)(ha:qaj w va a)(hb:qaj w vb b)(hne:sgn a=sgn b)(aP:rs a+rs b≤Cap):
  Calls Tryz.prog 33 #[va,vb] w fun e w'=>e = .returned (.int .i64 (qcq a b))∧Below w.heap.size w w':=by
 rcases qeo a with⟨h,_⟩|⟨h,_⟩|⟨h,_⟩
 ·exact qog (-1) va vb a b w ha hb (.inl rfl) h (hne▸h) aP
 ·exact qx0 va vb a b w ha hb h (hne▸h)
 ·exact qog 1 va vb a b w ha hb (.inr rfl) h (hne▸h) aP
end Go.Proofs.YtclimablgihlhaaGreatDoor
