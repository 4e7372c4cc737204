/- rounded: a number that is rounded by a rule. -/
import Derived.Test.YtclimablgihlhaaGreatDoorMReadRuleB
import Derived.Test.YtclimablgihlhaaGreatDoorMNumWalk
import Derived.Deep.AppendLies
set_option linter.all false
namespace Go.Proofs.YtclimablgihlhaaGreatDoor
open Go.RowKit
set_option maxRecDepth 100000
set_option maxHeartbeats 40000000
def qon(f:Nat)(q:Rat):Rat:=
 if qla f (qcq (q-(q.floor:Rat)) (1/2)) (!decide (((q.floor:Rat)/2).den=1)) then(q.floor:Rat)+1 else(q.floor:Rat)
def qiy(f:Nat)(a s:Rat):Rat:=if(a/s).den=1 then a else qon f (a/s)*s
theorem quz{k:BA}{f:Nat}(h:qdg k=some f):f=150∨f=151∨f=152∨f=153:=by
 unfold qdg at h;split at h
 ·cases h;exact .inl rfl
 split at h
 ·cases h;exact .inr (.inl rfl)
 split at h
 ·cases h;exact .inr (.inr (.inl rfl))
 split at h
 ·cases h;exact .inr (.inr (.inr rfl))
 ·cases h
def qcv(w:World)(rf:Value)(rb:Bool)(rt rbo:Value)(na:Bool)(ta ba:Value)(W:World):Prop:=
 Below w.heap.size w W∧Own W w.heap.size 4 (q3q rf (.bool rb) rt rbo)∧Own W (w.heap.size+1) 3 (qci na ta ba)∧Own W (w.heap.size+1+1) 3 (qci false (.slice none 0 0) (.slice none 0 0))
section
variable {w W W':World} {rf:Value} {rb:Bool} {rt rbo:Value} {na:Bool} {ta ba:Value}
theorem qcv.later(h:qcv w rf rb rt rbo na ta ba W)(hb:Below W.heap.size W W'):qcv w rf rb rt rbo na ta ba W':=by
 obtain⟨h1,h2,h3,h4⟩:=h;exact⟨h1.trans (hb.mono h1.size),h2.later (hb.mono h2.1),h3.later (hb.mono h3.1),h4.later (hb.mono h4.1)⟩
theorem qcv.set(h:qcv w rf rb rt rbo na ta ba W){g:Nat}(hg:w.heap.size+1+1<g)(o:Nat)(x:Value):qcv w rf rb rt rbo na ta ba (W.setCell ⟨g,o,none⟩ x):=by
 obtain⟨h1,h2,h3,h4⟩:=h;have hb:Below (w.heap.size+1+1+1) W (W.setCell ⟨g,o,none⟩ x):=(zan _ _).setCell hg x;exact⟨h1.setCell (by show w.heap.size≤g;omega) x,h2.later (hb.mono (by omega)),h3.later (hb.mono (by omega)),h4.later hb⟩
theorem qsz(w:World)(rf:Value)(rb:Bool)(rt rbo:Value)(na:Bool)(ta ba:Value):
  qcv w rf rb rt rbo na ta ba (((w.alloc (.cells #[rf,.bool rb,rt,rbo] 102)).alloc (.cells #[.bool na,ta,ba] 74)).alloc (.cells #[.bool false,.slice none 0 0,.slice none 0 0] 74)):=by
 have h1:=qhy w 102 rf (.bool rb) rt rbo;have h2:=qp7 (w.alloc (.cells #[rf,.bool rb,rt,rbo] 102)) na ta ba;have h3:=qp7 ((w.alloc (.cells #[rf,.bool rb,rt,rbo] 102)).alloc (.cells #[.bool na,ta,ba] 74)) false (.slice none 0 0) (.slice none 0 0);simp only[zao] at h2 h3;have al:∀(V:World) (o:Obj),Below V.heap.size V (V.alloc o):=fun V o=>zam _ _;refine⟨((al w _).trans ((al _ _).mono (by rw[zao];omega))).trans ((al _ _).mono (by rw[zao,zao];omega)), ?_, ?_,h3⟩
 ·exact(h1.later ((al _ _).mono (by rw[zao];omega))).later ((al _ _).mono (by rw[zao,zao];omega))
 ·exact h2.later ((al _ _).mono (by rw[zao,zao];omega))
theorem qce(h:qcv w rf rb rt rbo na ta ba W):W.cell? ⟨w.heap.size,0,none⟩=some rf∧W.cell? ⟨w.heap.size,1,none⟩=some (.bool rb)∧W.cell? ⟨w.heap.size,2,none⟩=some rt∧W.cell? ⟨w.heap.size,3,none⟩=some rbo∧
  W.cell? ⟨w.heap.size+1,0,none⟩=some (.bool na)∧W.cell? ⟨w.heap.size+1,1,none⟩=some ta∧W.cell? ⟨w.heap.size+1,2,none⟩=some ba:=
 ⟨(h.2.1.2 0 (by omega)).1,(h.2.1.2 1 (by omega)).1,(h.2.1.2 2 (by omega)).1,(h.2.1.2 3 (by omega)).1,(h.2.2.1.2 0 (by omega)).1,(h.2.2.1.2 1 (by omega)).1,(h.2.2.1.2 2 (by omega)).1⟩
theorem qu0(h:qcv w rf rb rt rbo na ta ba W):
  (W.cell? ⟨w.heap.size+1+1,0,none⟩=some (.bool false)∧W.frozen? ⟨w.heap.size+1+1,0,none⟩=false)∧
  (W.cell? ⟨w.heap.size+1+1,1,none⟩=some (.slice none 0 0)∧W.frozen? ⟨w.heap.size+1+1,1,none⟩=false)∧
  (W.cell? ⟨w.heap.size+1+1,2,none⟩=some (.slice none 0 0)∧W.frozen? ⟨w.heap.size+1+1,2,none⟩=false):=
 ⟨h.2.2.2.2 0 (by omega),h.2.2.2.2 1 (by omega),h.2.2.2.2 2 (by omega)⟩
theorem qdp{f:FuncId}{args:Array Value}{P:Ending→World→Prop}(hW:qcv w rf rb rt rbo na ta ba W)
  (h:Calls Tryz.prog f args W fun e w'=>P e w'∧Below W.heap.size W w'):Calls Tryz.prog f args W fun e w'=>P e w'∧qcv w rf rb rt rbo na ta ba w'∧Below W.heap.size W w':=
 h.mono fun _ _ ⟨h1,h2⟩=>⟨h1,hW.later h2,h2⟩
end
theorem qoo(W:World)(sg:Bool)(t b:Value):Below W.heap.size W (W.alloc (.cells #[.bool sg,t,b] 74))∧Own (W.alloc (.cells #[.bool sg,t,b] 74)) W.heap.size 3 (qci sg t b):=
 ⟨zam _ _,qp7 _ _ _ _⟩
theorem qrb(f:Nat)(rb:Bool)(rt rbo:Value)(va:Value)(a s:Rat)(w:World)(hs:qaj w (.agg #[.bool rb,rt,rbo]) s)(ha:qaj w va a)(gF:s.num≠0)(m:Nat)(lM:bd a m)(xG:bd s m)(gI:1≤m)(hc:m≤1048576)(hw:(a/s).den=1):
  Calls Tryz.prog 53 #[.agg #[.func (.func f) #[] #[],.bool rb,rt,rbo],va] w fun e w'=>(∃v',e = .returned v'∧qaj w' v' a)∧Below w.heap.size w w':=by
 have HA:=hid ha;obtain⟨aI,aJ,aK,aM,aL,aN,rfl,dK,dX⟩:=ha.parts;obtain⟨ps1,ks1,cs1,ps2,ks2,cs2,he,eW,jF⟩:=hs.parts;simp only[Value.agg.injEq,Array.mk.injEq,List.cons.injEq,and_true,Value.bool.injEq] at he;obtain⟨Hh,hrt,Ks⟩:=he;have HS:=hid hs;have aO:=hid (qsz w (.func (.func f) #[] #[]) rb rt rbo (decide (a.num<0)) (.slice aI aJ aK) (.slice aM aL aN));have hq:=qmy lM xG;have yR:Hid (∀W,qcv w (.func (.func f) #[] #[]) rb rt rbo (decide (a.num<0)) (.slice aI aJ aK) (.slice aM aL aN) W→Calls Tryz.prog 38 #[.agg #[.bool (decide (a.num<0)),.slice aI aJ aK,.slice aM aL aN],.agg #[.bool rb,rt,rbo]] W fun e w'=>(∃v',e = .returned v'∧qaj w' v' (a/s))∧qcv w (.func (.func f) #[] #[]) rb rt rbo (decide (a.num<0)) (.slice aI aJ aK) (.slice aM aL aN) w'∧Below W.heap.size W w'):=hid fun W hW=>qdp hW (qff _ _ a s W (HA.out.later hW.1) (HS.out.later hW.1) gF (by have:=lM.rs;have:=xG.rs;unfold Cap;omega));have Kt:Hid (∀W v,qcv w (.func (.func f) #[] #[]) rb rt rbo (decide (a.num<0)) (.slice aI aJ aK) (.slice aM aL aN) W→qaj W v (a/s)→Calls Tryz.prog 95 #[v] W fun e w'=>e = .returned (.bool (decide ((a/s).den=1)))∧qcv w (.func (.func f) #[] #[]) rb rt rbo (decide (a.num<0)) (.slice aI aJ aK) (.slice aM aL aN) w'∧Below W.heap.size W w'):=hid fun W v hW hv=>qdp hW (qj7 v _ W hv);rw[zas hw] at Kt;subst Hh hrt Ks;clear ha dK dX hs eW jF lM xG gI hc gF hq;generalize decide (a.num<0)=na at *;generalize decide (s.num<0)=rb at *;go_enter Tryz.func53,Tryz.ntmps53;go_wp2_with fail;generalize ((w.alloc (.cells #[.func (.func f) #[] #[],.bool rb,.slice ps1 ks1 cs1,.slice ps2 ks2 cs2] 102)).alloc (.cells #[.bool na,.slice aI aJ aK,.slice aM aL aN] 74)).alloc (.cells #[.bool false,.slice none 0 0,.slice none 0 0] 74)=w0 at *;obtain⟨c0,c1,c2,c3,c4,c5,c6⟩:=qce aO.out;go_wp2_with fail
 refine(yR.out _ aO.out).mono ?_;clear c0 c1 c2 c3 c4 c5 c6;rintro e w1 ⟨⟨v1,rfl,hv⟩,hr,hb⟩;obtain⟨p1,k1,l1,p2,k2,l2,rfl,eR,dZ⟩:=hv.parts;clear eR dZ;obtain⟨aD,iB⟩:=qoo w1 (decide ((a/s).num<0)) (.slice p1 k1 l1) (.slice p2 k2 l2);have HR:=hid (hr.later aD);have HV:=hid (hv.later aD);have HX:=hid iB;have hlt1:w.heap.size+1+1<w1.heap.size:=hr.2.2.2.1;clear hr hv hb aD iB yR aO;generalize decide ((a/s).num<0)=s1 at *;go_wp2_with fail;refine(Kt.out _ _ HR.out HV.out).mono ?_;rintro e w2 ⟨rfl,hr,hb⟩;have cY:=hid hr;have cO:=hid (HV.out.later hb);have kH:=hid (HX.out.later (hb.mono HX.out.1));clear hr hb HR HV HX Kt;generalize w1.heap.size=B5 at *;obtain⟨c0,c1,c2,c3,c4,c5,c6⟩:=qce cY.out;obtain⟨⟨r0,g0⟩,⟨r1,g1⟩,⟨r2,g2⟩⟩:=qu0 cY.out;have aG:=hid (qbc (HA.out.later cY.out.1) r0 r1 r2);have aH:=hid (qai cY.out.1 (show w.heap.size≤w.heap.size+1+1 by omega) (.bool na) (.slice aI aJ aK) (.slice aM aL aN));clear cY cO kH;go_wp2_with fail;refine bodyPost_ret (v := .agg #[.bool na,.slice aI aJ aK,.slice aM aL aN]) ?_ rfl ?_
 ·simp[results,Tryz.results53,go_sem,r0,r1,r2]
 ·exact⟨⟨_,rfl,aG.out⟩,aH.out⟩
theorem qs0(f:Nat)(rb:Bool)(rt rbo:Value)(va:Value)(a s:Rat)(w:World)(hs:qaj w (.agg #[.bool rb,rt,rbo]) s)(ha:qaj w va a)(gF:s.num≠0)(m:Nat)(lM:bd a m)(xG:bd s m)(gI:1≤m)(hc:m≤1048576)(kk:BA)(Sj:qdg kk=some f)(hw:¬(a/s).den=1):
  Calls Tryz.prog 53 #[.agg #[.func (.func f) #[] #[],.bool rb,rt,rbo],va] w fun e w'=>(∃v',e = .returned v'∧qaj w' v' (qon f (a/s)*s))∧Below w.heap.size w w':=by
 have HA:=hid ha;obtain⟨aI,aJ,aK,aM,aL,aN,rfl,dK,dX⟩:=ha.parts;obtain⟨ps1,ks1,cs1,ps2,ks2,cs2,he,eW,jF⟩:=hs.parts;simp only[Value.agg.injEq,Array.mk.injEq,List.cons.injEq,and_true,Value.bool.injEq] at he;obtain⟨Hh,hrt,Ks⟩:=he;have HS:=hid hs;have aO:=hid (qsz w (.func (.func f) #[] #[]) rb rt rbo (decide (a.num<0)) (.slice aI aJ aK) (.slice aM aL aN));have hq:=qmy lM xG;have yR:Hid (∀W,qcv w (.func (.func f) #[] #[]) rb rt rbo (decide (a.num<0)) (.slice aI aJ aK) (.slice aM aL aN) W→Calls Tryz.prog 38 #[.agg #[.bool (decide (a.num<0)),.slice aI aJ aK,.slice aM aL aN],.agg #[.bool rb,rt,rbo]] W fun e w'=>(∃v',e = .returned v'∧qaj w' v' (a/s))∧qcv w (.func (.func f) #[] #[]) rb rt rbo (decide (a.num<0)) (.slice aI aJ aK) (.slice aM aL aN) w'∧Below W.heap.size W w'):=hid fun W hW=>qdp hW (qff _ _ a s W (HA.out.later hW.1) (HS.out.later hW.1) gF (by have:=lM.rs;have:=xG.rs;unfold Cap;omega));have Kt:Hid (∀W v,qcv w (.func (.func f) #[] #[]) rb rt rbo (decide (a.num<0)) (.slice aI aJ aK) (.slice aM aL aN) W→qaj W v (a/s)→Calls Tryz.prog 95 #[v] W fun e w'=>e = .returned (.bool (decide ((a/s).den=1)))∧qcv w (.func (.func f) #[] #[]) rb rt rbo (decide (a.num<0)) (.slice aI aJ aK) (.slice aM aL aN) w'∧Below W.heap.size W w'):=hid fun W v hW hv=>qdp hW (qj7 v _ W hv);have Dh:=qwr hq (by omega);have Nw:Hid (∀W v,qcv w (.func (.func f) #[] #[]) rb rt rbo (decide (a.num<0)) (.slice aI aJ aK) (.slice aM aL aN) W→qaj W v (a/s)→Calls Tryz.prog 96 #[v] W fun e w'=>(∃v',e = .returned v'∧qaj w' v' ((a/s).floor:Rat))∧qcv w (.func (.func f) #[] #[]) rb rt rbo (decide (a.num<0)) (.slice aI aJ aK) (.slice aM aL aN) w'∧Below W.heap.size W w'):=hid fun W v hW hv=>qdp hW (q0a v _ W hv (by have:=hq.rs;unfold Cap;omega))
 have Sk:Hid (∀W v v',qcv w (.func (.func f) #[] #[]) rb rt rbo (decide (a.num<0)) (.slice aI aJ aK) (.slice aM aL aN) W→qaj W v (a/s)→qaj W v' ((a/s).floor:Rat)→Calls Tryz.prog 97 #[v,v'] W fun e w'=>(∃v',e = .returned v'∧qaj w' v' (a/s-((a/s).floor:Rat)))∧qcv w (.func (.func f) #[] #[]) rb rt rbo (decide (a.num<0)) (.slice aI aJ aK) (.slice aM aL aN) w'∧Below W.heap.size W w'):=hid fun W v v' hW hv hv'=>qdp hW (qsm v v' _ _ W hv hv' (by have:=hq.rs;have:=Dh.rs;unfold Cap;omega));have sF:Hid (∀W,qcv w (.func (.func f) #[] #[]) rb rt rbo (decide (a.num<0)) (.slice aI aJ aK) (.slice aM aL aN) W→Calls Tryz.prog 35 #[.int .i64 1] W fun e w'=>(∃v',e = .returned v'∧qaj w' v' 1)∧qcv w (.func (.func f) #[] #[]) rb rt rbo (decide (a.num<0)) (.slice aI aJ aK) (.slice aM aL aN) w'∧Below W.heap.size W w'):=hid fun W hW=>qdp hW (qeq 1 W (by omega) (by omega));have Rl:Hid (∀W v,qcv w (.func (.func f) #[] #[]) rb rt rbo (decide (a.num<0)) (.slice aI aJ aK) (.slice aM aL aN) W→qaj W v 1→Calls Tryz.prog 98 #[v] W fun e w'=>(∃v',e = .returned v'∧qaj w' v' (1/2))∧qcv w (.func (.func f) #[] #[]) rb rt rbo (decide (a.num<0)) (.slice aI aJ aK) (.slice aM aL aN) w'∧Below W.heap.size W w'):=hid fun W v hW hv=>qdp hW (qws v 1 W hv 1 (qes 1 (by omega) (by omega)) (by omega))
 have iA:Hid (∀W v v',qcv w (.func (.func f) #[] #[]) rb rt rbo (decide (a.num<0)) (.slice aI aJ aK) (.slice aM aL aN) W→qaj W v (a/s-((a/s).floor:Rat))→qaj W v' (1/2)→Calls Tryz.prog 33 #[v,v'] W fun e w'=>e = .returned (.int .i64 (qcq (a/s-((a/s).floor:Rat)) (1/2)))∧qcv w (.func (.func f) #[] #[]) rb rt rbo (decide (a.num<0)) (.slice aI aJ aK) (.slice aM aL aN) w'∧Below W.heap.size W w'):=hid fun W v v' hW hv hv'=>qdp hW (qb5 v v' _ _ W hv hv' (by have:=(q0o hq Dh).rs;have:=(qmy (qes 1 (by omega) (by omega)) (qes 2 (by omega) (by omega))).rs;have h3:rs (1/2:Rat)≤6:=this;unfold Cap;omega));have En:Hid (∀W v,qcv w (.func (.func f) #[] #[]) rb rt rbo (decide (a.num<0)) (.slice aI aJ aK) (.slice aM aL aN) W→qaj W v ((a/s).floor:Rat)→Calls Tryz.prog 98 #[v] W fun e w'=>(∃v',e = .returned v'∧qaj w' v' (((a/s).floor:Rat)/2))∧qcv w (.func (.func f) #[] #[]) rb rt rbo (decide (a.num<0)) (.slice aI aJ aK) (.slice aM aL aN) w'∧Below W.heap.size W w'):=hid fun W v hW hv=>qdp hW (qws v _ W hv _ Dh (by omega));have kI:Hid (∀W v,qcv w (.func (.func f) #[] #[]) rb rt rbo (decide (a.num<0)) (.slice aI aJ aK) (.slice aM aL aN) W→qaj W v (((a/s).floor:Rat)/2)→Calls Tryz.prog 95 #[v] W fun e w'=>e = .returned (.bool (decide ((((a/s).floor:Rat)/2).den=1)))∧qcv w (.func (.func f) #[] #[]) rb rt rbo (decide (a.num<0)) (.slice aI aJ aK) (.slice aM aL aN) w'∧Below W.heap.size W w'):=hid fun W v hW hv=>qdp hW (qj7 v _ W hv);have Sl:Hid (∀W side o,qcv w (.func (.func f) #[] #[]) rb rt rbo (decide (a.num<0)) (.slice aI aJ aK) (.slice aM aL aN) W→Calls Tryz.prog f #[.int .i64 side,.bool o] W fun e w'=>e = .returned (.bool (qla f side o))∧w'=W):=hid fun W side o _=>qyb kk f Sj side o W
 have zP:Hid (∀W v v',qcv w (.func (.func f) #[] #[]) rb rt rbo (decide (a.num<0)) (.slice aI aJ aK) (.slice aM aL aN) W→qaj W v ((a/s).floor:Rat)→qaj W v' 1→Calls Tryz.prog 76 #[v,v'] W fun e w'=>(∃v',e = .returned v'∧qaj w' v' (((a/s).floor:Rat)+1))∧qcv w (.func (.func f) #[] #[]) rb rt rbo (decide (a.num<0)) (.slice aI aJ aK) (.slice aM aL aN) w'∧Below W.heap.size W w'):=hid fun W v v' hW hv hv'=>qdp hW (qht v v' _ _ W hv hv' (by have:=Dh.rs;have h3:rs (1:Rat)≤2:=(qes 1 (by omega) (by omega)).rs;unfold Cap;omega))
 have mC:∀l,l=((a/s).floor:Rat)∨l=((a/s).floor:Rat)+1→bd l (m+m+1+1+1+1):=by
  rintro l (rfl|rfl)
  ·exact Dh.mono (by omega)
  ·exact(qmx Dh (qes 1 (by omega) (by omega))).mono (by omega)
 have gT:Hid (∀W v l,l=((a/s).floor:Rat)∨l=((a/s).floor:Rat)+1→qcv w (.func (.func f) #[] #[]) rb rt rbo (decide (a.num<0)) (.slice aI aJ aK) (.slice aM aL aN) W→qaj W v l→Calls Tryz.prog 37 #[v,.agg #[.bool rb,rt,rbo]] W fun e w'=>(∃v',e = .returned v'∧qaj w' v' (l*s))∧qcv w (.func (.func f) #[] #[]) rb rt rbo (decide (a.num<0)) (.slice aI aJ aK) (.slice aM aL aN) w'∧Below W.heap.size W w'):=hid fun W v l hl hW hv=>qdp hW (qdx v _ _ _ W hv (HS.out.later hW.1) (by have:=(mC l hl).rs;have:=xG.rs;unfold Cap;omega));rw[zar hw] at Kt;have Ew:Hid (qon f (a/s)=if qla f (qcq (a/s-((a/s).floor:Rat)) (1/2)) (!decide ((((a/s).floor:Rat)/2).den=1)) then((a/s).floor:Rat)+1 else((a/s).floor:Rat)):=hid rfl;clear mC Dh;generalize ((a/s).floor:Rat)=fl at *;generalize a/s-fl=dq at *;generalize qcq dq (1/2)=side at *;generalize decide ((fl/2).den=1)=ev at *;subst Hh hrt Ks;clear ha dK dX hs eW jF lM xG gI hc gF hq;generalize decide (a.num<0)=na at *;generalize decide (s.num<0)=rb at *;have hf4:=quz Sj;clear Sj;generalize qon f (a/s)=RN at *;generalize qla f=GU at *
 all_goals
  go_enter Tryz.func53,Tryz.ntmps53;go_wp2_with fail;generalize ((w.alloc (.cells #[.func (.func f) #[] #[],.bool rb,.slice ps1 ks1 cs1,.slice ps2 ks2 cs2] 102)).alloc (.cells #[.bool na,.slice aI aJ aK,.slice aM aL aN] 74)).alloc (.cells #[.bool false,.slice none 0 0,.slice none 0 0] 74)=w0 at *;obtain⟨c0,c1,c2,c3,c4,c5,c6⟩:=qce aO.out;go_wp2_with fail;refine(yR.out _ aO.out).mono ?_;clear c0 c1 c2 c3 c4 c5 c6;rintro e w1 ⟨⟨v1,rfl,hv⟩,hr,hb⟩;obtain⟨p1,k1,l1,p2,k2,l2,rfl,eR,dZ⟩:=hv.parts;clear eR dZ;obtain⟨aD,iB⟩:=qoo w1 (decide ((a/s).num<0)) (.slice p1 k1 l1) (.slice p2 k2 l2);have HR:=hid (hr.later aD);have HV:=hid (hv.later aD);have HX:=hid iB;have hlt1:w.heap.size+1+1<w1.heap.size:=hr.2.2.2.1;clear hr hv hb aD iB yR aO;generalize decide ((a/s).num<0)=s1 at *;go_wp2_with fail;refine(Kt.out _ _ HR.out HV.out).mono ?_;rintro e w2 ⟨rfl,hr,hb⟩;have cY:=hid hr;have cO:=hid (HV.out.later hb);have kH:=hid (HX.out.later (hb.mono HX.out.1));clear hr hb HR HV HX Kt;generalize w1.heap.size=B5 at *;obtain⟨x0,x1,x2⟩:=qbe kH.out;go_wp2_with fail;refine(Nw.out _ _ cY.out cO.out).mono ?_;clear x0 x1 x2;rintro e w3 ⟨⟨v3,rfl,hv⟩,hr,hb⟩;obtain⟨p3,k3,l3,p4,k4,l4,rfl,eR,dZ⟩:=hv.parts;clear eR dZ;obtain⟨aD,iB⟩:=qoo w3 (decide (fl.num<0)) (.slice p3 k3 l3) (.slice p4 k4 l4);have iI:=hid (hr.later aD);have uC:=hid (hv.later aD);have kC:=hid ((cO.out.later hb).later aD);have kT:=hid ((kH.out.later (hb.mono kH.out.1)).later (aD.mono (by have:=kH.out.1;have:=hb.size;omega)));have HY3:=hid iB;have Ku:w.heap.size+1+1<w3.heap.size:=hr.2.2.2.1;clear hr hv hb aD iB cY cO kH Nw;generalize decide (fl.num<0)=s3 at *;obtain⟨x0,x1,x2⟩:=qbe kT.out;go_wp2_with fail;refine(Sk.out _ _ _ iI.out kC.out uC.out).mono ?_;clear x0 x1 x2;rintro e w4 ⟨⟨v4,rfl,hv⟩,hr,hb⟩;have HD4:=hid hv;have tP:=hid hr
  have HF4:=hid (uC.out.later hb);have HY4:=hid (HY3.out.later (hb.mono HY3.out.1));clear hv hr hb iI kC uC kT HY3 Sk;go_wp2_with fail;refine(sF.out _ tP.out).mono ?_;rintro e w5 ⟨⟨v5,rfl,hv⟩,hr,hb⟩;have Bk:=hid hv;have uO:=hid hr;have HD5:=hid (HD4.out.later hb);have HF5:=hid (HF4.out.later hb);have HY5:=hid (HY4.out.later (hb.mono HY4.out.1));clear hv hr hb tP HD4 HF4 HY4;go_wp2_with fail;refine(Rl.out _ _ uO.out Bk.out).mono ?_;rintro e w6 ⟨⟨v6,rfl,hv⟩,hr,hb⟩;have HH6:=hid hv;have Hf:=hid hr;have HD6:=hid (HD5.out.later hb);have HF6:=hid (HF5.out.later hb);have HY6:=hid (HY5.out.later (hb.mono HY5.out.1));clear hv hr hb uO HD5 HF5 HY5 Bk Rl;go_wp2_with fail;refine(iA.out _ _ _ Hf.out HD6.out HH6.out).mono ?_;rintro e w7 ⟨rfl,hr,hb⟩;have zS:=hid (hr.later ((zan _ _).drew));have Ez:=hid ((HF6.out.later hb).later ((zan _ _).drew));have Di:=hid ((HY6.out.later (hb.mono HY6.out.1)).later ((zan _ _).drew));clear hr hb Hf HD6 HF6 HY6 HH6 iA;generalize w3.heap.size=B6 at *;go_wp2_with fail;rcases hf4 with rfl|rfl|rfl|rfl
  all_goals
   have cA:=qce zS.out;have xA:=qbe Di.out
   first
   | (go_region_held3 (fun W=>(W.cell? ⟨w.heap.size,0,none⟩=some (.func (.func 150) #[] #[]))∧(W.cell? ⟨B6,0,none⟩=some (.bool s3)∧W.cell? ⟨B6,1,none⟩=some (.slice p3 k3 l3)∧W.cell? ⟨B6,2,none⟩=some (.slice p4 k4 l4))) (first|with_reducible exact⟨cA.1,xA⟩|with_reducible exact⟨cB.1,xB⟩|with_reducible exact⟨cC.1,xC⟩)
    (first
     | (go_at_call 98;((with_reducible refine(En.out _ _ zS.out Ez.out).mono ?_);rintro e wX ⟨⟨vX,rfl,hn⟩,ht,hb⟩;have gS:=hid hn;have sL:=hid ht;have Hi:=hid (Ez.out.later hb);have fK:=hid (Di.out.later (hb.mono Di.out.1));have cB:=qce ht;have xB:=qbe fK.out;clear hn ht hb))
     | (go_at_call 95;((with_reducible refine(kI.out _ _ sL.out gS.out).mono ?_);rintro e wY ⟨rfl,ht,hb⟩;have zT:=hid ht;have Hj:=hid (Hi.out.later hb);have Bl:=hid (fK.out.later (hb.mono fK.out.1));have cC:=qce ht;have xC:=qbe Bl.out;clear ht hb))
     | (go_at_call 150;((refine(Sl.out _ _ _ zT.out).mono ?_);rintro e wZ ⟨rfl,zU⟩;rw[zU];clear zU))))
   | (go_region_held3 (fun W=>(W.cell? ⟨w.heap.size,0,none⟩=some (.func (.func 151) #[] #[]))∧(W.cell? ⟨B6,0,none⟩=some (.bool s3)∧W.cell? ⟨B6,1,none⟩=some (.slice p3 k3 l3)∧W.cell? ⟨B6,2,none⟩=some (.slice p4 k4 l4))) (first|with_reducible exact⟨cA.1,xA⟩|with_reducible exact⟨cB.1,xB⟩|with_reducible exact⟨cC.1,xC⟩)
    (first
     | (go_at_call 98;((with_reducible refine(En.out _ _ zS.out Ez.out).mono ?_);rintro e wX ⟨⟨vX,rfl,hn⟩,ht,hb⟩;have gS:=hid hn;have sL:=hid ht;have Hi:=hid (Ez.out.later hb);have fK:=hid (Di.out.later (hb.mono Di.out.1));have cB:=qce ht;have xB:=qbe fK.out;clear hn ht hb))
     | (go_at_call 95;((with_reducible refine(kI.out _ _ sL.out gS.out).mono ?_);rintro e wY ⟨rfl,ht,hb⟩;have zT:=hid ht;have Hj:=hid (Hi.out.later hb);have Bl:=hid (fK.out.later (hb.mono fK.out.1));have cC:=qce ht;have xC:=qbe Bl.out;clear ht hb))
     | (go_at_call 151;((refine(Sl.out _ _ _ zT.out).mono ?_);rintro e wZ ⟨rfl,zU⟩;rw[zU];clear zU))))
   | (go_region_held3 (fun W=>(W.cell? ⟨w.heap.size,0,none⟩=some (.func (.func 152) #[] #[]))∧(W.cell? ⟨B6,0,none⟩=some (.bool s3)∧W.cell? ⟨B6,1,none⟩=some (.slice p3 k3 l3)∧W.cell? ⟨B6,2,none⟩=some (.slice p4 k4 l4))) (first|with_reducible exact⟨cA.1,xA⟩|with_reducible exact⟨cB.1,xB⟩|with_reducible exact⟨cC.1,xC⟩)
    (first
     | (go_at_call 98;((with_reducible refine(En.out _ _ zS.out Ez.out).mono ?_);rintro e wX ⟨⟨vX,rfl,hn⟩,ht,hb⟩;have gS:=hid hn;have sL:=hid ht;have Hi:=hid (Ez.out.later hb);have fK:=hid (Di.out.later (hb.mono Di.out.1));have cB:=qce ht;have xB:=qbe fK.out;clear hn ht hb))
     | (go_at_call 95;((with_reducible refine(kI.out _ _ sL.out gS.out).mono ?_);rintro e wY ⟨rfl,ht,hb⟩;have zT:=hid ht;have Hj:=hid (Hi.out.later hb);have Bl:=hid (fK.out.later (hb.mono fK.out.1));have cC:=qce ht;have xC:=qbe Bl.out;clear ht hb))
     | (go_at_call 152;((refine(Sl.out _ _ _ zT.out).mono ?_);rintro e wZ ⟨rfl,zU⟩;rw[zU];clear zU))))
   | (go_region_held3 (fun W=>(W.cell? ⟨w.heap.size,0,none⟩=some (.func (.func 153) #[] #[]))∧(W.cell? ⟨B6,0,none⟩=some (.bool s3)∧W.cell? ⟨B6,1,none⟩=some (.slice p3 k3 l3)∧W.cell? ⟨B6,2,none⟩=some (.slice p4 k4 l4))) (first|with_reducible exact⟨cA.1,xA⟩|with_reducible exact⟨cB.1,xB⟩|with_reducible exact⟨cC.1,xC⟩)
    (first
     | (go_at_call 98;((with_reducible refine(En.out _ _ zS.out Ez.out).mono ?_);rintro e wX ⟨⟨vX,rfl,hn⟩,ht,hb⟩;have gS:=hid hn;have sL:=hid ht;have Hi:=hid (Ez.out.later hb);have fK:=hid (Di.out.later (hb.mono Di.out.1));have cB:=qce ht;have xB:=qbe fK.out;clear hn ht hb))
     | (go_at_call 95;((with_reducible refine(kI.out _ _ sL.out gS.out).mono ?_);rintro e wY ⟨rfl,ht,hb⟩;have zT:=hid ht;have Hj:=hid (Hi.out.later hb);have Bl:=hid (fK.out.later (hb.mono fK.out.1));have cC:=qce ht;have xC:=qbe Bl.out;clear ht hb))
     | (go_at_call 153;((refine(Sl.out _ _ _ zT.out).mono ?_);rintro e wZ ⟨rfl,zU⟩;rw[zU];clear zU))))
   have HFZ:=hid Hj.out;clear cA xA cB xB cC xC zS Ez Di sL Hi fK gS En kI Sl;generalize GU side (!ev)=gu at *;cases gu
   ·have HE:Hid (RN=fl):=hid Ew.out
    obtain⟨c0,c1,c2,c3,c4,c5,c6⟩:=qce zT.out;obtain⟨x0,x1,x2⟩:=qbe Bl.out;go_wp2_with fail;refine(gT.out _ _ fl (.inl rfl) zT.out Hj.out).mono ?_;clear c0 c1 c2 c3 c4 c5 c6 x0 x1 x2;rintro e wT ⟨⟨vT,rfl,hv⟩,hr,hb⟩;obtain⟨pt,kt,ct,pf,kf,cf,rfl,eR,dZ⟩:=hv.parts;generalize decide ((fl*s).num<0)=sg at *;obtain⟨⟨r0,g0⟩,⟨r1,g1⟩,⟨r2,g2⟩⟩:=qu0 hr;have aG:=hid (qbc hv r0 r1 r2);have aH:=hid (qai hr.1 (show w.heap.size≤w.heap.size+1+1 by omega) (.bool sg) (.slice pt kt ct) (.slice pf kf cf));clear eR dZ hv hr hb zT Hj Bl HFZ;go_wp2_with fail;refine bodyPost_ret (v := .agg #[.bool sg,.slice pt kt ct,.slice pf kf cf]) ?_ rfl ?_
    ·simp[results,Tryz.results53,go_sem,r0,r1,r2]
    ·exact⟨⟨_,rfl,by rw[HE.out];exact aG.out⟩,aH.out⟩
   ·have HE:Hid (RN=fl+1):=hid Ew.out
    go_wp2_with fail;have cM:=hid (zT.out.later ((zan _ _).drew));have HFD:=hid (Hj.out.later ((zan _ _).drew));have HYD:Hid (Own wY.drew B6 3 (qci s3 (.slice p3 k3 l3) (.slice p4 k4 l4))):=hid (Bl.out.later ((zan _ _).drew));obtain⟨x0,x1,x2⟩:=qbe HYD.out
    go_region_with (first
     | (go_at_call 35;((with_reducible refine(sF.out _ cM.out).mono ?_);rintro e wU ⟨⟨vU,rfl,hn⟩,ht,hb⟩;have HVU:=hid hn;have HRU:=hid ht;have HFU:=hid (HFD.out.later hb);have HYU:=hid (HYD.out.later (hb.mono HYD.out.1));clear x0 x1 x2;obtain⟨x0,x1,x2⟩:=qbe HYU.out;clear hn ht hb))
     | (go_at_call 76;((with_reducible refine(zP.out _ _ _ HRU.out HFU.out HVU.out).mono ?_);rintro e wV ⟨⟨vV,rfl,hn⟩,ht,hb⟩;have tL:=hid hn;have Iy:=hid ht;have Fa:=hid (HYU.out.later (hb.mono HYU.out.1));obtain⟨pt,kt,ct,pf,kf,cf,rfl,eR,dZ⟩:=hn.parts;generalize decide ((fl+1).num<0)=sv at *;clear x0 x1 x2;obtain⟨x0,x1,x2⟩:=qbe Fa.out;have y0:=(Fa.out.2 0 (by omega)).2;have y1:=(Fa.out.2 1 (by omega)).2;have y2:=(Fa.out.2 2 (by omega)).2;clear hn ht hb eR dZ)))
    all_goals
    have Ns:=((Iy.out.set Ku 0 (.bool sv)).set Ku 1 (.slice pt kt ct)).set Ku 2 (.slice pf kf cf);have h1:=qa7 tL.out Fa.out 0 (by omega) (by intro k z h;cases h) (.bool sv);have h2:=qa7 h1 (Fa.out.set 0 (by omega) (.bool sv)) 1 (by omega) (by intro k z h;cases h) (.slice pt kt ct);have h3:=qa7 h2 ((Fa.out.set 0 (by omega) (.bool sv)).set 1 (by omega) (.slice pt kt ct)) 2 (by omega) (by intro k z h;cases h) (.slice pf kf cf)
    have ho:=(((Fa.out.set 0 (by omega) (.bool sv)).set 1 (by omega) (.slice pt kt ct)).set 2 (by omega) (.slice pf kf cf)).congr (f':=qci sv (.slice pt kt ct) (.slice pf kf cf)) (fun i hi=>by
     match i,hi with
     | 0,_=>rfl
     | 1,_=>rfl
     | 2,_=>rfl)
    clear h1 h2 x0 x1 x2 y0 y1 y2 Fa Iy tL HRU HFU HYU HVU cM HFD HYD zT Hj Bl HFZ sF zP;generalize ((wV.setCell ⟨B6,0,none⟩ (.bool sv)).setCell ⟨B6,1,none⟩ (.slice pt kt ct)).setCell ⟨B6,2,none⟩ (.slice pf kf cf)=wW at *;have qA:=hid Ns;have HFW:=hid h3;obtain⟨c0,c1,c2,c3,c4,c5,c6⟩:=qce Ns;obtain⟨x0,x1,x2⟩:=qbe ho;clear Ns h3 ho;go_wp2_with fail;refine(gT.out _ _ (fl+1) (.inr rfl) qA.out HFW.out).mono ?_;clear c0 c1 c2 c3 c4 c5 c6 x0 x1 x2;rintro e wT ⟨⟨vT,rfl,hv⟩,hr,hb⟩;obtain⟨pu,ku,cu,pg,kg,cg,rfl,eR,dZ⟩:=hv.parts;generalize decide (((fl+1)*s).num<0)=sg at *;obtain⟨⟨r0,g0⟩,⟨r1,g1⟩,⟨r2,g2⟩⟩:=qu0 hr;have aG:=hid (qbc hv r0 r1 r2);have aH:=hid (qai hr.1 (show w.heap.size≤w.heap.size+1+1 by omega) (.bool sg) (.slice pu ku cu) (.slice pg kg cg));clear eR dZ hv hr hb qA HFW;go_wp2_with fail;refine bodyPost_ret (v := .agg #[.bool sg,.slice pu ku cu,.slice pg kg cg]) ?_ rfl ?_
    ·simp[results,Tryz.results53,go_sem,r0,r1,r2]
    ·exact⟨⟨_,rfl,by rw[HE.out];exact aG.out⟩,aH.out⟩
theorem qu1(f:Nat)(rb:Bool)(rt rbo:Value)(va:Value)(a s:Rat)(w:World)(hs:qaj w (.agg #[.bool rb,rt,rbo]) s)(ha:qaj w va a)(gF:s.num≠0)(m:Nat)(lM:bd a m)(xG:bd s m)(gI:1≤m)(hc:m≤1048576)(kk:BA)(Sj:qdg kk=some f):
  Calls Tryz.prog 53 #[.agg #[.func (.func f) #[] #[],.bool rb,rt,rbo],va] w fun e w'=>(∃v',e = .returned v'∧qaj w' v' (qiy f a s))∧Below w.heap.size w w':=by
 by_cases hw:(a/s).den=1
 ·have e1:qiy f a s=a:=if_pos hw
  rw[e1];exact qrb f rb rt rbo va a s w hs ha gF m lM xG gI hc hw
 ·have e1:qiy f a s=qon f (a/s)*s:=if_neg hw
  rw[e1];exact qs0 f rb rt rbo va a s w hs ha gF m lM xG gI hc kk Sj hw
def qjl(l:List UInt8)(k:BA)(step:List UInt8):Rat:=qiy ((qdg k).getD 0) (qav l) (qav step)
def qhz(l:List UInt8)(k:BA)(step:List UInt8)(w:World)(e:Ending)(w':World):Prop:=
 if qaa l≠0 then e = .returned (.tuple #[.string ⟨#[]⟩,.int .i64 (qaa l)])∧Below w.heap.size w w'
 else if qau k step≠0 then e = .returned (.tuple #[.string ⟨#[]⟩,.int .i64 (qau k step)])∧Below w.heap.size w w'
 else qmb (qjl l k step) w e w'
theorem qyc{q:Rat}{w0 w w':World}{e:Ending}(hb:Below w0.heap.size w0 w)(h:qmb q w e w'):qmb q w0 e w':=⟨h.1,hb.trans (h.2.mono hb.size)⟩
theorem qyd{q:Rat}{w w':World}{e:Ending}(h:qmb q w e w'):∃(tx:BA) (ec:Int),e = .returned (.tuple #[.string tx,.int .i64 ec])∧qmb q w (.returned (.tuple #[.string tx,.int .i64 ec])) w':=by
 have h1:=h.1;exact⟨_,_,h1,by rw[←h1];exact h⟩
theorem qps{k:BA}{step:List UInt8}(h:qau k step=0):qaa step=0∧0<(qav step).num∧∃f,qdg k=some f:=by
 unfold qau at h;split at h
 ·cases h
 ·rename_i h1
  split at h
  ·rename_i h2;exact absurd h h2
  ·rename_i h2
   split at h
   ·cases h
   ·rename_i h3
    refine⟨by omega,by omega, ?_⟩;cases hk:qdg k
    ·exact absurd hk h1
    ·exact⟨_,rfl⟩
theorem q0s(f:Nat){q:Rat}{m:Nat}(h:bd q m)(hm:1≤m):bd (qon f q) (m+1+1+1):=by
 unfold qon;have hf:=qwr h hm;split
 ·exact(qmx hf (qes 1 (by omega) (by omega))).mono (by omega)
 ·exact hf.mono (by omega)
theorem q4j(f:Nat){a s:Rat}{m:Nat}(ha:bd a m)(hs:bd s m)(hm:1≤m):bd (qiy f a s) (3*m+4):=by
 unfold qiy;split
 ·exact ha.mono (by omega)
 ·exact(qex (q0s f (qmy ha hs) (by omega)) hs).mono (by omega)
def qop(w:World)(k s:BA)(W:World):Prop:=Below w.heap.size w W∧Own W w.heap.size 2 (qko (.string k) (.string s))
theorem qop.later{w W W':World}{k s:BA}(h:qop w k s W)(hb:Below W.heap.size W W'):qop w k s W':=
 ⟨h.1.trans (hb.mono h.1.size),h.2.later (hb.mono h.2.1)⟩
theorem q4k(w:World)(k s:BA):qop w k s (w.alloc (.cells #[.string k,.string s] 51)):=
 ⟨zam _ _,qbg _ _ _ _⟩
theorem qoq(s:BA)(w:World)(hg:GW w)(hs:s.size≤1073741824)(h0:qaa s.data.toList≠0):
  Calls Tryz.prog 51 #[.string s] w fun e w'=>e = .returned (.tuple #[.agg #[.bool false,.slice none 0 0,.slice none 0 0],.int .i64 (qaa s.data.toList:Nat)])∧Below w.heap.size w w':=
 (qe1 s w hg hs).mono fun e w' h=>by
  unfold qkc at h;rw[if_neg h0] at h;exact h
theorem qmd(s:BA)(w:World)(hg:GW w)(hs:s.size≤1073741824)(h0:qaa s.data.toList=0):
  Calls Tryz.prog 51 #[.string s] w fun e w'=>(∃v',e = .returned (.tuple #[v',.int .i64 0])∧qaj w' v' (qav s.data.toList))∧Below w.heap.size w w':=
 (qe1 s w hg hs).mono fun e w' h=>by
  unfold qkc at h;rw[if_pos h0] at h;exact h
theorem qs1(k s:BA)(w:World)(hg:GW w)(hs:s.size≤1073741824)(h0:qau k s.data.toList≠0):
  Calls Tryz.prog 52 #[.agg #[.string k,.string s]] w fun e w'=>e = .returned (.tuple #[.agg #[.nilFunc,.bool false,.slice none 0 0,.slice none 0 0],.int .i64 (qau k s.data.toList:Nat)])∧Below w.heap.size w w':=
 (qmz k s w hg hs).mono fun e w' h=>by
  unfold qix at h;rw[if_neg h0] at h;exact h
theorem qrc(k s:BA)(f:Nat)(hf:qdg k=some f)(w:World)(hg:GW w)(hs:s.size≤1073741824)(h0:qau k s.data.toList=0):
  Calls Tryz.prog 52 #[.agg #[.string k,.string s]] w fun e w'=>(∃b t bo,e = .returned (.tuple #[.agg #[.func (.func f) #[] #[],.bool b,t,bo],.int .i64 0])∧qaj w' (.agg #[.bool b,t,bo]) (qav s.data.toList))∧Below w.heap.size w w':=
 (qmz k s w hg hs).mono fun e w' h=>by
  unfold qix at h;rw[if_pos h0] at h;obtain⟨⟨f',v,b,t,bo,he,hf',rfl,hv⟩,hb⟩:=h;rw[hf] at hf';cases hf'
  exact⟨⟨b,t,bo,he,hv⟩,hb⟩
theorem qs2(x k s:BA)(w:World)(hg:GW w)(hx:x.size≤1073741824)(hs:s.size≤1073741824):
  Calls Tryz.prog 20 #[.string x,.agg #[.string k,.string s]] w (qhz x.data.toList k s.data.toList w):=by
 have aO:=hid (q4k w k s);by_cases h0:qaa x.data.toList=0
 ·have cM:Hid (∀W,qop w k s W→Calls Tryz.prog 51 #[.string x] W fun e w'=>(∃v',e = .returned (.tuple #[v',.int .i64 0])∧qaj w' v' (qav x.data.toList))∧qop w k s w'):=hid fun W hW=>(qmd x W (hg.later hW.1) hx h0).mono fun e w' ⟨h1,h2⟩=>⟨h1,hW.later h2⟩
  by_cases h1:qau k s.data.toList=0
  ·obtain⟨tD,jM,f,hf⟩:=qps h1
   have aG:Hid (∀e w',qmb (qiy f (qav x.data.toList) (qav s.data.toList)) w e w'→qhz x.data.toList k s.data.toList w e w'):=hid fun e w' h=>by
    unfold qhz;rw[if_neg (by omega),if_neg (by omega)];unfold qjl;rw[hf];exact h
   have Sm:Hid (∀W,qop w k s W→Calls Tryz.prog 52 #[.agg #[.string k,.string s]] W fun e w'=>(∃b t bo,e = .returned (.tuple #[.agg #[.func (.func f) #[] #[],.bool b,t,bo],.int .i64 0])∧qaj w' (.agg #[.bool b,t,bo]) (qav s.data.toList))∧qop w k s w'∧Below W.heap.size W w'):=hid fun W hW=>(qrc k s f hf W (hg.later hW.1) hs h1).mono fun e w' ⟨h1,h2⟩=>⟨h1,hW.later h2,h2⟩;have iB:=qib h0;have kJ:=qib tD;have Ew:Hid (∀W v b t bo,qop w k s W→qaj W v (qav x.data.toList)→qaj W (.agg #[.bool b,t,bo]) (qav s.data.toList)→Calls Tryz.prog 53 #[.agg #[.func (.func f) #[] #[],.bool b,t,bo],v] W fun e w'=>(∃v',e = .returned v'∧qaj w' v' (qiy f (qav x.data.toList) (qav s.data.toList)))∧qop w k s w'):=hid fun W v b t bo hW hv hv'=>(qu1 f b t bo v _ _ W hv' hv (by omega) 600 iB kJ (by omega) (by omega) k hf).mono fun e w' ⟨h1,h2⟩=>⟨h1,hW.later h2⟩;have Dj:Hid (∀W v,qop w k s W→qaj W v (qiy f (qav x.data.toList) (qav s.data.toList))→Calls Tryz.prog 50 #[v] W (qmb (qiy f (qav x.data.toList) (qav s.data.toList)) w)):=hid fun W v hW hv=>(qiv v _ W hv (by have:=(q4j f iB kJ (by omega)).rs;unfold Cap;omega)).mono fun e w' h=>qyc hW.1 h;clear hg hx hs h0 h1 tD jM hf iB kJ;generalize qav x.data.toList=qx at *;generalize qav s.data.toList=qs at *;generalize qiy f qx qs=qr at *;go_enter Tryz.func20,Tryz.ntmps20;go_wp2_with fail;refine(cM.out _ aO.out).mono ?_;rintro e w1 ⟨⟨v1,rfl,hv⟩,hr⟩;obtain⟨p1,k1,l1,p2,k2,l2,rfl,eR,dZ⟩:=hv.parts;clear eR dZ;obtain⟨aD,iB⟩:=qoo w1 (decide (qx.num<0)) (.slice p1 k1 l1) (.slice p2 k2 l2);have nB:=hid (hr.later aD);have eQ:=hid (hv.later aD);have lU:=hid iB;clear hr hv aD iB cM aO;generalize decide (qx.num<0)=s1 at *;obtain⟨c0,c1⟩:=qag nB.out.2;go_wp2_with fail;refine(Sm.out _ nB.out).mono ?_;clear c0 c1;rintro e w2 ⟨⟨rb,rt,rbo,rfl,hv⟩,hr,hb⟩
   obtain⟨pt,kt,ct,pf,kf,cf,he,eR,dZ⟩:=hv.parts;simp only[Value.agg.injEq,Array.mk.injEq,List.cons.injEq,and_true] at he;obtain⟨he0,rfl,rfl⟩:=he;clear he0 eR dZ;have aD:Below w2.heap.size w2 (w2.alloc (.cells #[.func (.func f) #[] #[],.bool rb,.slice pt kt ct,.slice pf kf cf] 102)):=zam _ _;have cY:=hid (hr.later aD);have dE:=hid (hv.later aD);have cO:=hid ((eQ.out.later hb).later aD);have rE:=(lU.out.later (hb.mono lU.out.1)).later (aD.mono (by have:=lU.out.1;have:=hb.size;omega));obtain⟨x0,x1,x2⟩:=qbe rE;clear hr hv hb aD rE nB eQ lU Sm;go_wp2_with fail;refine(Ew.out _ _ _ _ _ cY.out cO.out dE.out).mono ?_;clear x0 x1 x2;rintro e w3 ⟨⟨v3,rfl,hv⟩,hr⟩;have iI:=hid hr;have kC:=hid hv;clear hr hv cY cO dE Ew;go_wp2_with fail;refine(Dj.out _ _ iI.out kC.out).mono ?_;rintro e w4 h;obtain⟨tx,ec,rfl,h2⟩:=qyd h;have HF4:=hid (aG.out _ _ h2);clear h h2 iI kC Dj aG;go_wp2_with fail;go_ret2;exact HF4.out
  ·have Sm:Hid (∀W,qop w k s W→Calls Tryz.prog 52 #[.agg #[.string k,.string s]] W fun e w'=>e = .returned (.tuple #[.agg #[.nilFunc,.bool false,.slice none 0 0,.slice none 0 0],.int .i64 (qau k s.data.toList:Nat)])∧qop w k s w'∧Below W.heap.size W w'):=hid fun W hW=>(qs1 k s W (hg.later hW.1) hs h1).mono fun e w' ⟨h1,h2⟩=>⟨h1,hW.later h2,h2⟩
   have aG:Hid (∀w',Below w.heap.size w w'→qhz x.data.toList k s.data.toList w (.returned (.tuple #[.string ⟨#[]⟩,.int .i64 (qau k s.data.toList:Nat)])) w'):=hid fun w' h=>by
    unfold qhz;rw[if_neg (by omega),if_pos h1];exact⟨rfl,h⟩
   have dL:((qau k s.data.toList:Int)==0)=false:=zat (by omega);clear hg hx hs h0 h1;generalize qau k s.data.toList=c at *;generalize qav x.data.toList=qx at *;go_enter Tryz.func20,Tryz.ntmps20;go_wp2_with fail;refine(cM.out _ aO.out).mono ?_;rintro e w1 ⟨⟨v1,rfl,hv⟩,hr⟩;obtain⟨p1,k1,l1,p2,k2,l2,rfl,eR,dZ⟩:=hv.parts;clear eR dZ hv;obtain⟨aD,iB⟩:=qoo w1 (decide (qx.num<0)) (.slice p1 k1 l1) (.slice p2 k2 l2);have nB:=hid (hr.later aD);clear hr aD iB cM aO;generalize decide (qx.num<0)=s1 at *;obtain⟨c0,c1⟩:=qag nB.out.2;go_wp2_with fail;refine(Sm.out _ nB.out).mono ?_;clear c0 c1;rintro e w2 ⟨rfl,hr,hb⟩;have aR:Hid (Below w.heap.size w (w2.alloc (.cells #[.nilFunc,.bool false,.slice none 0 0,.slice none 0 0] 102))):=hid (hr.1.alloc hr.1.size _);clear hr hb nB Sm;go_wp2_with fail;go_ret2;exact aG.out _ aR.out
 ·have cM:Hid (∀W,qop w k s W→Calls Tryz.prog 51 #[.string x] W fun e w'=>e = .returned (.tuple #[.agg #[.bool false,.slice none 0 0,.slice none 0 0],.int .i64 (qaa x.data.toList:Nat)])∧qop w k s w'):=hid fun W hW=>(qoq x W (hg.later hW.1) hx h0).mono fun e w' ⟨h1,h2⟩=>⟨h1,hW.later h2⟩
  have aG:Hid (∀w',Below w.heap.size w w'→qhz x.data.toList k s.data.toList w (.returned (.tuple #[.string ⟨#[]⟩,.int .i64 (qaa x.data.toList:Nat)])) w'):=hid fun w' h=>by
   unfold qhz;rw[if_pos h0];exact⟨rfl,h⟩
  have dL:((qaa x.data.toList:Int)==0)=false:=zat (by omega);clear hg hx hs h0;generalize qaa x.data.toList=c at *;go_enter Tryz.func20,Tryz.ntmps20;go_wp2_with fail;refine(cM.out _ aO.out).mono ?_;rintro e w1 ⟨rfl,hr⟩;have aR:Hid (Below w.heap.size w (w1.alloc (.cells #[.bool false,.slice none 0 0,.slice none 0 0] 74))):=hid (hr.1.alloc hr.1.size _);clear hr cM aO;go_wp2_with fail;go_ret2;exact aG.out _ aR.out
section
variable {P:Program} (w:World)
theorem qbi{ops:Array Oper}{rest:List Oper}{o:Oper}{a:Act}{Q:Exit→Act→World→Prop}(Aa:o.guard=none)(s x:Operand)(t:TypeId)
  (ho:o.op = .call { callee := .builtin .append,args:=#[s,x],argTypes:=#[t,t] })
  (e:TypeId) (i:TypeInfo) (size:Nat) (ht:P.underlying t=some (.slice e)) (hi:P.info? e=some i) (Sn:i.size=size)
  (g n cap:Nat) (cur:Array Value) (hs:a.eval s = .slice (some ⟨g,0,none⟩) n cap) (hg:w.heap[g]? = some (.cells cur e (0,0)))
  (ad:Addr) (m c:Nat) (news:List Value) (hx:a.eval x = .slice (some ad) m c) (hl:news.length=m*size) (So:∀j u,news[j]? = some u→w.cell? (ad.add j)=some u) (h1:∀u ∈ news,u.oneCell'=true)
  (Sp:n+m≤cap) (bZ:n*size+news.length≤cur.size)
  (h:wpList P ops Q rest (a.put o.dst (.slice (some ⟨g,0,none⟩) (n+m) cap)) (w.setRow g (cur.toList.take (n*size)++news++cur.toList.drop (n*size+news.length)).toArray)):wpList P ops Q (o::rest) a w:=by
 refine wpList_plain Aa fun _ hK => ?_;subst Sn;have hr:=run_append_room (P:=P) w t o.type e i ht hi g n cap cur hg ad m c news hl So h1 Sp bZ;unfold Oper.wp execOp;simp only[ho,resolve,invoke,builtin,Sem.run_bind,Sem.run_pure,Result.andThen_ok,List.map_toArray,List.map_cons,List.map_nil,hs,hx,hr];exact hK _ _ h
end
theorem qap.setRow{W:World}{v:Value}{n g:Nat}{cur:Array Value}{ty:TypeId}{fr:Nat × Nat}(h:qap W v n)(hg:W.heap[g]? = some (.cells cur ty fr))(hc:∀c ∈ cur.toList,∀k z,c ≠ .int k z)(cs:Array Value):qap (W.setRow g cs) v n:=by
 obtain⟨h1,q,c,h2,h3,h4,h5⟩:=h;refine⟨h1,q,c,h2,h3,h4, ?_⟩;rcases h5 with h5|⟨b,o,h6,h7⟩
 ·exact .inl h5
 ·refine .inr ⟨b,o,h6,fun i hi => ?_⟩
  have aC:=h7 i hi;by_cases e:b=g
  ·subst e
   rw[cell_of_row W b (o+i) cur ty fr hg] at aC
   have hm:wd (qaf B64 n) i ∈ cur.toList:=by
    rw[←Array.getElem?_toList] at aC;exact zax aC
   exact absurd rfl (hc _ hm _ _)
  ·rw[cell_setRow_other W g cs ⟨b,o+i,none⟩ e]
   exact aC
theorem qaj.setRow{W:World}{v:Value}{q:Rat}{g:Nat}{cur:Array Value}{ty:TypeId}{fr:Nat × Nat}(h:qaj W v q)(hg:W.heap[g]? = some (.cells cur ty fr))(hc:∀c ∈ cur.toList,∀k z,c ≠ .int k z)(cs:Array Value):qaj (W.setRow g cs) v q:=by
 obtain⟨t,b,e,h1,h2⟩:=h;exact⟨t,b,e,h1.setRow hg hc cs,h2.setRow hg hc cs⟩
def qjm(W:World)(g cap:Nat)(qs:List Rat):Prop:=
 qs.length≤cap∧∃cur:Array Value,W.heap[g]? = some (.cells cur 74 (0,0))∧cur.size=cap*3∧(∀c ∈ cur.toList,∀k z,c ≠ .int k z)∧
  ∀(j:Nat) (q:Rat),qs[j]? = some q→∃b p1 k1 c1 p2 k2 c2,cur.toList[j*3]? = some (.bool b)∧cur.toList[j*3+1]? = some (.slice p1 k1 c1)∧cur.toList[j*3+2]? = some (.slice p2 k2 c2)∧qaj W (.agg #[.bool b,.slice p1 k1 c1,.slice p2 k2 c2]) q
theorem qme(w:World)(cap:Nat):qjm (w.alloc (.cells (madeCells #[.bool false,.slice none 0 0,.slice none 0 0] (cap*3)) 74)) w.heap.size cap []:=by
 refine⟨Nat.zero_le _,_,heap_alloc_new w _,size_madeCells _ _,fun c hc k z => ?_,fun j q h=>by simp at h⟩;unfold madeCells at hc;simp only[Array.toList_map,Array.toList_range,List.mem_map] at hc;obtain⟨i,_,rfl⟩:=hc;have h3:i % 3=0∨i % 3=1∨i % 3=2:=by omega
 intro h;simp only[List.size_toArray,List.length_cons,List.length_nil] at h;rcases h3 with h3|h3|h3<;>rw[h3] at h<;>cases h
theorem qjm.lt{W:World}{g cap:Nat}{qs:List Rat}(h:qjm W g cap qs):g<W.heap.size:=by
 obtain⟨_,cur,hg,_⟩:=h;rcases Nat.lt_or_ge g W.heap.size with h1|h1
 ·exact h1
 ·rw[Array.getElem?_eq_none h1] at hg;cases hg
theorem qjm.later{W W':World}{g cap:Nat}{qs:List Rat}(h:qjm W g cap qs)(hb:Below W.heap.size W W'):qjm W' g cap qs:=by
 have bI:=h.lt;obtain⟨h1,cur,hg,h2,h3,h4⟩:=h;refine⟨h1,cur,(hb.block g bI).trans hg,h2,h3,fun j q hq => ?_⟩;obtain⟨b,p1,k1,c1,p2,k2,c2,e1,e2,e3,hv⟩:=h4 j q hq;exact⟨b,p1,k1,c1,p2,k2,c2,e1,e2,e3,hv.later hb⟩
theorem qu2(W:World)(sg:Bool)(t b:Value):Below W.heap.size W (W.alloc (.cells #[.bool sg,t,b] 74))∧Own (W.alloc (.cells #[.bool sg,t,b] 74)) W.heap.size 3 (qci sg t b):=
 ⟨zam _ _,qp7 _ _ _ _⟩
theorem qjm.push{W:World}{g cap:Nat}{qs:List Rat}{b:Bool}{p1 p2:Option Addr}{k1 c1 k2 c2:Nat}{q:Rat}(h:qjm W g cap qs)(hk:qs.length<cap)(hv:qaj W (.agg #[.bool b,.slice p1 k1 c1,.slice p2 k2 c2]) q):
  ∃cur:Array Value,W.heap[g]? = some (.cells cur 74 (0,0))∧qs.length*3+3≤cur.size∧
   qjm (W.setRow g (cur.toList.take (qs.length*3)++[Value.bool b,.slice p1 k1 c1,.slice p2 k2 c2]++cur.toList.drop (qs.length*3+3)).toArray) g cap (qs++[q])∧
   ∀B,B≤g→Below B W (W.setRow g (cur.toList.take (qs.length*3)++[Value.bool b,.slice p1 k1 c1,.slice p2 k2 c2]++cur.toList.drop (qs.length*3+3)).toArray):=by
 obtain⟨h1,cur,hg,h2,h3,h4⟩:=h;have bZ:qs.length*3+3≤cur.size:=by omega
 have hfit':qs.length*3+3≤cur.toList.length:=by rw[Array.length_toList];exact bZ
 have aF:(cur.toList.take (qs.length*3)).length=qs.length*3:=by rw[List.length_take];omega
 refine⟨cur,hg,bZ,⟨by rw[List.length_append];simp;omega,_,setRow_heap W g cur _ _ _ hg, ?_, ?_, ?_⟩,fun B hB=>⟨rfl,rfl,rfl,by simp[World.setRow],fun k hk=>setRow_other W g k _ (by omega)⟩⟩
 ·simp only[List.size_toArray,List.length_append,aF,List.length_cons,List.length_nil,List.length_drop,Array.length_toList]
  omega
 ·intro c hc k z
  rw[List.mem_append,List.mem_append] at hc;rcases hc with(hc|hc)|hc
  ·exact h3 c (List.mem_of_mem_take hc) k z
  ·simp only[List.mem_cons,List.not_mem_nil,or_false] at hc
   rcases hc with rfl|rfl|rfl<;>(intro h;cases h)
  ·exact h3 c (List.mem_of_mem_drop hc) k z
 ·intro j q' hq'
  rcases Nat.lt_or_ge j qs.length with hj|hj
  ·rw[List.getElem?_append_left hj] at hq'
   obtain⟨b',a1,a2,a3,a4,a5,a6,e1,e2,e3,hv'⟩:=h4 j q' hq'
   have key:∀i,i<qs.length*3→(cur.toList.take (qs.length*3)++[Value.bool b,.slice p1 k1 c1,.slice p2 k2 c2]++cur.toList.drop (qs.length*3+3)).toArray.toList[i]? = cur.toList[i]? := by
    intro i hi;rw[List.append_assoc,List.getElem?_append_left (by rw[aF];exact hi),List.getElem?_take_of_lt hi]
   refine⟨b',a1,a2,a3,a4,a5,a6, ?_, ?_, ?_,hv'.setRow hg h3 _⟩
   ·rw[key _ (by omega)];exact e1
   ·rw[key _ (by omega)];exact e2
   ·rw[key _ (by omega)];exact e3
  ·have hj':j=qs.length:=by
    have:=(List.getElem?_eq_some_iff.1 hq').1;rw[List.length_append] at this;simp at this;omega
   subst hj'
   have oO:q'=q:=by
    rw[List.getElem?_append_right (zap _),Nat.sub_self] at hq'
    simpa using hq'.symm
   subst oO
   have key:∀i,i<3→(cur.toList.take (qs.length*3)++[Value.bool b,.slice p1 k1 c1,.slice p2 k2 c2]++cur.toList.drop (qs.length*3+3)).toArray.toList[qs.length*3+i]? = [Value.bool b,.slice p1 k1 c1,.slice p2 k2 c2][i]? := by
    intro i hi;rw[List.append_assoc,List.getElem?_append_right (by rw[aF];omega),aF,Nat.add_sub_cancel_left,List.getElem?_append_left (by simpa using hi)]
   exact⟨b,p1,k1,c1,p2,k2,c2,key 0 (by omega),key 1 (by omega),key 2 (by omega),hv.setRow hg h3 _⟩
theorem qjm.get{W:World}{g cap:Nat}{qs:List Rat}(h:qjm W g cap qs)(j:Nat)(q:Rat)(hq:qs[j]? = some q):
  ∃b p1 k1 c1 p2 k2 c2,W.cell? ⟨g,j*3,none⟩=some (.bool b)∧W.cell? ⟨g,j*3+1,none⟩=some (.slice p1 k1 c1)∧W.cell? ⟨g,j*3+2,none⟩=some (.slice p2 k2 c2)∧qaj W (.agg #[.bool b,.slice p1 k1 c1,.slice p2 k2 c2]) q:=by
 obtain⟨_,cur,hg,_,_,h4⟩:=h;obtain⟨b,p1,k1,c1,p2,k2,c2,e1,e2,e3,hv⟩:=h4 j q hq;refine⟨b,p1,k1,c1,p2,k2,c2, ?_, ?_, ?_,hv⟩
 ·rw[cell_of_row W g _ cur _ (0,0) hg,←Array.getElem?_toList];exact e1
 ·rw[cell_of_row W g _ cur _ (0,0) hg,←Array.getElem?_toList];exact e2
 ·rw[cell_of_row W g _ cur _ (0,0) hg,←Array.getElem?_toList];exact e3
def qac:List Nat→Nat
 | []=>0
 | e::l=>if e=0 then qac l else e
theorem qfy(l m:List Nat)(h:qac l=0):qac (l++m)=qac m:=by
 induction l with
 | nil=>rfl
 | cons e l ih=>
  unfold qac at h;by_cases he:e=0
  ·rw[if_pos he] at h
   show(if e=0 then qac (l++m) else e)=_;rw[if_pos he,ih h]
  ·rw[if_neg he] at h
   exact absurd h he
def qjx(errs:List Nat)(qs:List Rat)(w:World)(e:Ending)(w':World):Prop:=
 (if qac errs=0 then ∃g,w.heap.size≤g∧e = .returned (.tuple #[.slice (some ⟨g,0,none⟩) qs.length qs.length,.int .i64 0])∧qjm w' g qs.length qs
  else e = .returned (.tuple #[.slice none 0 0,.int .i64 (qac errs)]))∧Below w.heap.size w w'
theorem qor(n:Nat)(hn:n≤1048576)(w:World):
  (Instr.makeSlice 112 (.int .i64 0) (.int .i64 (n:Int))).run Tryz.prog w = .ok (.slice (some ⟨w.heap.size,0,none⟩) 0 n) (w.alloc (.cells (madeCells #[.bool false,.slice none 0 0,.slice none 0 0] (n*3)) 74)):=by
 obtain⟨i0,hi,cT,dT,dU⟩:=info_parts (show(Tryz.prog.info? 74).map (fun i=>(i.zero,i.size,i.bytes))=some (some (.agg #[.bool false,.slice none 0 0,.slice none 0 0]),3,56) by kernel_rfl);have h:=run_make (P:=Tryz.prog) w 112 74 i0 _ Tryz.underlying112 hi cT .i64 .i64 0 (n:Int) (Int.le_refl _) (by omega) (by rw[dU];omega) (by omega);rw[dT] at h
 simpa [Value.cells] using h
theorem qcm{α:Type}{l:List α}{k:Nat}{s:α}(h:l[k]? = some s):l.take (k+1)=l.take k++[s]:=by
 rw[List.take_add_one,h];rfl
theorem qiz{α:Type}{l:List α}{k:Nat}{s:α}(f:α→Nat)(h:l[k]? = some s)(h0:qac ((l.take k).map f)=0)(hs:f s≠0):qac (l.map f)=f s:=by
 have e:l=l.take k++s::l.drop (k+1):=by
  have hk:=(List.getElem?_eq_some_iff.1 h).1;have hv:=(List.getElem?_eq_some_iff.1 h).2;rw[←hv,List.getElem_cons_drop,List.take_append_drop]
 have e2:l.map f=(l.take k).map f++f s::(l.drop (k+1)).map f:=by
  conv=>lhs;rw[e]
  rw[List.map_append,List.map_cons]
 rw[e2,qfy _ _ h0];show(if f s=0 then _ else f s)=_;rw[if_neg hs]
theorem qhh{α:Type}{l:List α}{k:Nat}{s:α}(f:α→Nat)(h:l[k]? = some s)(h0:qac ((l.take k).map f)=0)(hs:f s=0):qac ((l.take (k+1)).map f)=0:=by
 rw[qcm h,List.map_append,qfy _ _ h0];show(if f s=0 then qac [] else f s)=0;rw[if_pos hs];rfl
theorem qye{errs:List Nat}{qs:List Rat}{w w':World}{k:Nat}{e:Ending}(h:qac errs=k)(hk:k≠0)(he:e = .returned (.tuple #[.slice none 0 0,.int .i64 (k:Int)]))(hb:Below w.heap.size w w'):qjx errs qs w e w':=by
 unfold qjx;rw[if_neg (by omega),h];exact⟨he,hb⟩
theorem qu3{errs:List Nat}{qs:List Rat}{w w':World}{g n:Nat}{e:Ending}(h:qac errs=0)(hn:qs.length=n)(hg:w.heap.size≤g)(he:e = .returned (.tuple #[.slice (some ⟨g,0,none⟩) n n,.int .i64 0]))(hv:qjm w' g n qs)(hb:Below w.heap.size w w'):qjx errs qs w e w':=by
 unfold qjx;rw[if_pos h,hn];exact⟨⟨g,hg,he,hv⟩,hb⟩
theorem q0t{s:BA}{w:World}(h:Calls Tryz.prog 51 #[.string s] w (qkc s.data.toList w))(hc:qaa s.data.toList=0):
  Calls Tryz.prog 51 #[.string s] w fun e w'=>(∃v',e = .returned (.tuple #[v',.int .i64 0])∧qaj w' v' (qav s.data.toList))∧Below w.heap.size w w':=by
 refine h.mono fun e w' h => ?_;unfold qkc at h;rw[if_pos hc] at h;exact h
theorem q4l{s:BA}{w:World}(h:Calls Tryz.prog 51 #[.string s] w (qkc s.data.toList w))(hc:qaa s.data.toList≠0):
  Calls Tryz.prog 51 #[.string s] w fun e w'=>e = .returned (.tuple #[.agg #[.bool false,.slice none 0 0,.slice none 0 0],.int .i64 (qaa s.data.toList:Nat)])∧Below w.heap.size w w':=by
 refine h.mono fun e w' h => ?_;unfold qkc at h;rw[if_neg hc] at h;exact h
theorem q0u(l:List BA)(b o c:Nat)(w:World)(hg:GW w)(aB:∀i s,l[i]? = some s→w.cell? ⟨b,o+i,none⟩=some (.string s))(hl:l.length≤1048576)(hs:∀s ∈ l,s.size≤1073741824):
  Calls Tryz.prog 63 #[.slice (some ⟨b,o,none⟩) l.length c,.func (.func 51) #[] #[]] w
   (qjx (l.map fun s=>qaa s.data.toList) (l.map fun s=>qav s.data.toList) w):=by
 have HG:=hid hg;have bN:=hid aB;have HS:=hid hs;have lS:=qor l.length hl;obtain⟨i0,hi,cT,dT,dU⟩:=info_parts (show(Tryz.prog.info? 74).map (fun i=>(i.zero,i.size,i.bytes))=some (some (.agg #[.bool false,.slice none 0 0,.slice none 0 0]),3,56) by kernel_rfl);have HI:=hid hi;clear hg aB hs hi cT dU;go_enter Tryz.func63,Tryz.ntmps63;go_wp2_with fail;clear lS;have gE:=hid (qme w l.length);have eY:Hid (Below w.heap.size w (w.alloc (.cells (madeCells #[.bool false,.slice none 0 0,.slice none 0 0] (l.length*3)) 74))):=hid (zam _ _);generalize w.alloc (.cells (madeCells #[.bool false,.slice none 0 0,.slice none 0 0] (l.length*3)) 74)=w0 at *
 go_loopw [6,16] (fun r i wr=>∃k:Nat,k≤l.length∧i = .int .i64 k∧r = .slice (some ⟨w.heap.size,0,none⟩) k l.length∧Hid (qjm wr w.heap.size l.length ((l.take k).map fun s=>qav s.data.toList))∧Hid (qac ((l.take k).map fun s=>qaa s.data.toList)=0)∧Hid (Below w.heap.size w wr)) (fun _ i _=>l.length-(intOf i).toNat)
 case atStart=>exact⟨0,Nat.zero_le _,rfl,rfl,gE,hid rfl,eY⟩
 case round=>
  obtain⟨k,hk,rfl,rfl,HN,HE,HB⟩:=hrel;clear gE eY;by_cases cV:k<l.length
  ·obtain⟨s,eL⟩:∃s,l[k]? = some s:=⟨l[k],zau cV⟩
   have jU:=bN.out k s eL
   have aC:wr.cell? ⟨b,o+k,none⟩=some (.string s):=by
    rw[HB.out.cell (zaq w _ jU)];exact jU
   have cM:=hid (qe1 s wr (HG.out.later HB.out) (HS.out s (zax eL)));have pI:=hid eL;clear jU eL;by_cases hc:qaa s.data.toList=0
   ·have fG:=hid (q0t cM.out hc)
    have jR:=hid (qhh (fun s:BA=>qaa s.data.toList) pI.out HE.out hc);clear cM HE hc;go_wp2_with fail;refine fG.out.mono ?_;rintro e w1 ⟨⟨v',rfl,hv⟩,hb⟩;obtain⟨p1,k1,c1,p2,k2,c2,rfl,eR,dZ⟩:=hv.parts
    have jQ:((l.take k).map fun s=>qav s.data.toList)++[qav s.data.toList]=(l.take (k+1)).map fun s=>qav s.data.toList:=by
     rw[qcm pI.out,List.map_append];rfl
    have yT:=hid jQ;have jB:((l.take k).map fun s=>qav s.data.toList).length=k:=by rw[List.length_map,List.length_take];omega
    have cX:=hid (HN.out.later hb);have eQ:=hid hv;have aQ:=hid (HB.out.trans (hb.mono HB.out.size));clear eR dZ jQ hv hb HN HB fG aC;generalize decide ((qav s.data.toList).num<0)=sg at *;generalize qav s.data.toList=q at *;generalize ((l.take k).map fun s=>qav s.data.toList)=qs at *;obtain⟨aD,iB⟩:=qu2 w1 sg (.slice p1 k1 c1) (.slice p2 k2 c2);have fM:=hid (cX.out.later aD);have cO:=hid (eQ.out.later aD);have kJ:w.heap.size≤w1.heap.size:=aQ.out.size;have aR:=hid (aQ.out.trans (aD.mono kJ));obtain⟨x0,x1,x2⟩:=qbe iB;have bT:Below (w1.alloc (.cells #[.bool sg,.slice p1 k1 c1,.slice p2 k2 c2] 74)).heap.size (w1.alloc (.cells #[.bool sg,.slice p1 k1 c1,.slice p2 k2 c2] 74)) ((w1.alloc (.cells #[.bool sg,.slice p1 k1 c1,.slice p2 k2 c2] 74)).alloc (.cells #[.bool sg,.slice p1 k1 c1,.slice p2 k2 c2] 74)):=zam _ _;obtain⟨cur,eJ,bZ,cK,bM⟩:=(fM.out.later bT).push (by rw[jB];exact cV) (cO.out.later bT);have jI:=heap_alloc_new (w1.alloc (.cells #[.bool sg,.slice p1 k1 c1,.slice p2 k2 c2] 74)) (.cells #[.bool sg,.slice p1 k1 c1,.slice p2 k2 c2] 74);rw[zao] at jI;rw[jB] at bZ cK bM;simp only[List.append_assoc,List.cons_append,List.nil_append] at cK bM;have cH:=hid cK;have aH:=hid (aR.out.trans ((bT.mono (by rw[zao];omega)).trans (bM w.heap.size (zap _))));have lB:=hid eJ;have kU:=hid jI;have dQ:=hid bZ;clear aD iB bT kJ eJ bZ cK bM jI cX eQ aQ fM cO aR jB;go_wp2_with (at_builtin;refine qbi _ rfl _ _ 112 rfl 74 i0 3 Tryz.underlying112 HI.out dT w.heap.size k l.length cur rfl lB.out ⟨w1.heap.size+1,0,none⟩ 1 1 [.bool sg,.slice p1 k1 c1,.slice p2 k2 c2] rfl rfl (World.news_of_block kU.out) ?mT (by omega) dQ.out ?_)
    case mT=>
     intro u hu;simp only[List.mem_cons,List.not_mem_nil,or_false] at hu;rcases hu with rfl|rfl|rfl<;>rfl
    clear x0 x1 x2;go_wp2_with fail;go_roundw
    case rel=>exact⟨k+1,cV,by go_num,rfl,hid (by rw[←yT.out];exact cH.out),jR,aH⟩
    case measure=>simp[intOf];omega
   ·have fG:=hid (q4l cM.out hc)
    have HF:=hid (qiz (fun s:BA=>qaa s.data.toList) pI.out HE.out hc);clear cM HE;generalize qaa s.data.toList=ck at *;have oF:((ck:Int)==0)=false:=zat (by omega);have gN:=hid hc;clear hc;go_wp2_with fail;refine fG.out.mono ?_;rintro e w1 ⟨rfl,hb⟩;have aQ:=hid (HB.out.trans ((hb.mono HB.out.size).trans ((zan w.heap.size w1).alloc (Nat.le_trans HB.out.size hb.size) (.cells #[.bool false,.slice none 0 0,.slice none 0 0] 74))));clear hb HB fG aC;go_wp2_with fail;go_ret2;exact qye HF.out gN.out rfl aQ.out
  ·obtain rfl:k=l.length:=by omega
   have jB:(l.map fun s=>qav s.data.toList).length=l.length:=by rw[List.length_map]
   have kS:=hid jB;have hE:=HE.out;have hN:=HN.out;rw[List.take_length] at hE hN;have HE':=hid hE;have HN':=hid hN;clear hE hN jB HE HN;go_wp2_with fail;go_ret2;exact qu3 HE'.out kS.out (zap _) rfl HN'.out HB.out
theorem qjn{a b:Nat}(h:qac [a,b]=0):a=0∧b=0:=by
 have h1:(if a=0 then qac [b] else a)=0:=h;by_cases ha:a=0
 ·rw[if_pos ha] at h1
  have h2:(if b=0 then qac [] else b)=0:=h1;by_cases hb:b=0
  ·exact⟨ha,hb⟩
  ·rw[if_neg hb] at h2;exact absurd h2 hb
 ·rw[if_neg ha] at h1;exact absurd h1 ha
theorem q4m(w:World)(x y:BA)(ty:TypeId):∀i s,[x,y][i]? = some s→(w.alloc (.cells #[.string x,.string y] ty)).cell? ⟨w.heap.size,0+i,none⟩=some (.string s):=by
 intro i s h;rw[Nat.zero_add,World.cell?_alloc_at _ _ _ _ rfl]
 match i,h with
 | 0,h=>cases h;rfl
 | 1,h=>cases h;rfl
theorem qwt(x y:BA)(w:World)(hg:GW w)(hx:x.size≤1073741824)(hy:y.size≤1073741824)(ty:TypeId):
  Calls Tryz.prog 63 #[.slice (some ⟨w.heap.size,0,none⟩) 2 2,.func (.func 51) #[] #[]] (w.alloc (.cells #[.string x,.string y] ty))
   (fun e w'=>qjx [qaa x.data.toList,qaa y.data.toList] [qav x.data.toList,qav y.data.toList] (w.alloc (.cells #[.string x,.string y] ty)) e w'∧Below w.heap.size w w'):=by
 have aD:Below w.heap.size w (w.alloc (.cells #[.string x,.string y] ty)):=zam _ _
 refine(q0u [x,y] w.heap.size 0 2 (w.alloc (.cells #[.string x,.string y] ty)) (hg.later aD) (q4m w x y ty) (by simp) (by
  intro s hs;simp only[List.mem_cons,List.not_mem_nil,or_false] at hs
  rcases hs with rfl|rfl<;>assumption)).mono ?_
 intro e w' h;exact⟨h,aD.trans (h.2.mono (by rw[zao];omega))⟩
theorem q7h{x y:BA}{w:World}{ty:TypeId}(h:Calls Tryz.prog 63 #[.slice (some ⟨w.heap.size,0,none⟩) 2 2,.func (.func 51) #[] #[]] (w.alloc (.cells #[.string x,.string y] ty))
   (fun e w'=>qjx [qaa x.data.toList,qaa y.data.toList] [qav x.data.toList,qav y.data.toList] (w.alloc (.cells #[.string x,.string y] ty)) e w'∧Below w.heap.size w w')) (h0:qac [qaa x.data.toList,qaa y.data.toList]≠0):
  Calls Tryz.prog 63 #[.slice (some ⟨w.heap.size,0,none⟩) 2 2,.func (.func 51) #[] #[]] (w.alloc (.cells #[.string x,.string y] ty))
   (fun e w'=>e = .returned (.tuple #[.slice none 0 0,.int .i64 (qac [qaa x.data.toList,qaa y.data.toList]:Nat)])∧Below w.heap.size w w'):=by
 refine h.mono ?_;rintro e w' ⟨h1,h2⟩;unfold qjx at h1;rw[if_neg h0] at h1;exact⟨h1.1,h2⟩
theorem q4n{x y:BA}{w:World}{ty:TypeId}(h:Calls Tryz.prog 63 #[.slice (some ⟨w.heap.size,0,none⟩) 2 2,.func (.func 51) #[] #[]] (w.alloc (.cells #[.string x,.string y] ty))
   (fun e w'=>qjx [qaa x.data.toList,qaa y.data.toList] [qav x.data.toList,qav y.data.toList] (w.alloc (.cells #[.string x,.string y] ty)) e w'∧Below w.heap.size w w')) (h0:qac [qaa x.data.toList,qaa y.data.toList]=0):
  Calls Tryz.prog 63 #[.slice (some ⟨w.heap.size,0,none⟩) 2 2,.func (.func 51) #[] #[]] (w.alloc (.cells #[.string x,.string y] ty))
   (fun e w'=>(∃g,e = .returned (.tuple #[.slice (some ⟨g,0,none⟩) 2 2,.int .i64 0])∧qjm w' g 2 [qav x.data.toList,qav y.data.toList])∧Below w.heap.size w w'):=by
 refine h.mono ?_;rintro e w' ⟨h1,h2⟩;unfold qjx at h1;rw[if_pos h0] at h1;obtain⟨⟨g,_,he,hn⟩,_⟩:=h1;exact⟨⟨g,he,hn⟩,h2⟩
abbrev q98(g:Nat)(b:Bool)(p1:Option Addr)(k1 c1:Nat)(p2:Option Addr)(k2 c2:Nat)(b':Bool)(p1':Option Addr)(k1' c1':Nat)(p2':Option Addr)(k2' c2':Nat)(W:World):Prop:=
 W.cell? ⟨g,0,none⟩=some (.bool b)∧W.cell? ⟨g,1,none⟩=some (.slice p1 k1 c1)∧W.cell? ⟨g,2,none⟩=some (.slice p2 k2 c2)∧
 W.cell? ⟨g,3,none⟩=some (.bool b')∧W.cell? ⟨g,4,none⟩=some (.slice p1' k1' c1')∧W.cell? ⟨g,5,none⟩=some (.slice p2' k2' c2')
theorem qwu{W:World}{g:Nat}{a c:Rat}(h:qjm W g 2 [a,c]):∃b p1 k1 c1 p2 k2 c2 b' p1' k1' c1' p2' k2' c2',(∀W',Below W.heap.size W W'→q98 g b p1 k1 c1 p2 k2 c2 b' p1' k1' c1' p2' k2' c2' W')∧
  qaj W (.agg #[.bool b,.slice p1 k1 c1,.slice p2 k2 c2]) a∧qaj W (.agg #[.bool b',.slice p1' k1' c1',.slice p2' k2' c2']) c:=by
 obtain⟨b,p1,k1,c1,p2,k2,c2,e1,e2,e3,hv⟩:=h.get 0 a rfl;obtain⟨b',p1',k1',c1',p2',k2',c2',f1,f2,f3,hv'⟩:=h.get 1 c rfl;refine⟨b,p1,k1,c1,p2,k2,c2,b',p1',k1',c1',p2',k2',c2',fun W' hb => ?_,hv,hv'⟩;have key:∀(o:Nat),W'.cell? ⟨g,o,none⟩=W.cell? ⟨g,o,none⟩:=fun o=>hb.cell h.lt;show _∧_;rw[key,key,key,key,key,key];exact⟨e1,e2,e3,f1,f2,f3⟩
end Go.Proofs.YtclimablgihlhaaGreatDoor
