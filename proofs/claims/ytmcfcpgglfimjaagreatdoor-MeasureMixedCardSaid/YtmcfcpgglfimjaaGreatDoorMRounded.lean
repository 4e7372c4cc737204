/- rounded: a number that is rounded by a rule. -/
import Derived.Test.YtmcfcpgglfimjaaGreatDoorMReadRuleB
import Derived.Test.YtmcfcpgglfimjaaGreatDoorMNumWalk
import Derived.Deep.AppendLies
set_option linter.all false
namespace Go.Proofs.YtmcfcpgglfimjaaGreatDoor
open Go.RowKit
set_option maxRecDepth 100000
set_option maxHeartbeats 40000000
def qo2(f:Nat)(q:Rat):Rat:=
 if qll f (qfd (q-(q.floor:Rat)) (1/2)) (!decide (((q.floor:Rat)/2).den=1)) then(q.floor:Rat)+1 else(q.floor:Rat)
def qjf(f:Nat)(a s:Rat):Rat:=if(a/s).den=1 then a else qo2 f (a/s)*s
theorem qvu{k:BA}{f:Nat}(h:qdq k=some f):f=137∨f=138∨f=139∨f=140:=by
 unfold qdq at h;split at h
 ·cases h;exact .inl rfl
 split at h
 ·cases h;exact .inr (.inl rfl)
 split at h
 ·cases h;exact .inr (.inr (.inl rfl))
 split at h
 ·cases h;exact .inr (.inr (.inr rfl))
 ·cases h
def qdb(w:World)(rf:Value)(rb:Bool)(rt rbo:Value)(na:Bool)(ta ba:Value)(W:World):Prop:=
 Below w.heap.size w W∧Own W w.heap.size 4 (q4q rf (.bool rb) rt rbo)∧Own W (w.heap.size+1) 3 (qcr na ta ba)∧Own W (w.heap.size+1+1) 3 (qcr false (.slice none 0 0) (.slice none 0 0))
section
variable {w W W':World} {rf:Value} {rb:Bool} {rt rbo:Value} {na:Bool} {ta ba:Value}
theorem qdb.later(h:qdb w rf rb rt rbo na ta ba W)(hb:Below W.heap.size W W'):qdb w rf rb rt rbo na ta ba W':=by
 obtain⟨h1,h2,h3,h4⟩:=h;exact⟨h1.trans (hb.mono h1.size),h2.later (hb.mono h2.1),h3.later (hb.mono h3.1),h4.later (hb.mono h4.1)⟩
theorem qdb.set(h:qdb w rf rb rt rbo na ta ba W){g:Nat}(hg:w.heap.size+1+1<g)(o:Nat)(x:Value):qdb w rf rb rt rbo na ta ba (W.setCell ⟨g,o,none⟩ x):=by
 obtain⟨h1,h2,h3,h4⟩:=h;have hb:Below (w.heap.size+1+1+1) W (W.setCell ⟨g,o,none⟩ x):=(qaa _ _).setCell hg x;exact⟨h1.setCell (by show w.heap.size≤g;omega) x,h2.later (hb.mono (by omega)),h3.later (hb.mono (by omega)),h4.later hb⟩
theorem qtr(w:World)(rf:Value)(rb:Bool)(rt rbo:Value)(na:Bool)(ta ba:Value):
  qdb w rf rb rt rbo na ta ba (((w.alloc (.cells #[rf,.bool rb,rt,rbo] 93)).alloc (.cells #[.bool na,ta,ba] 85)).alloc (.cells #[.bool false,.slice none 0 0,.slice none 0 0] 85)):=by
 have h1:=qh8 w 93 rf (.bool rb) rt rbo;have h2:=qqm (w.alloc (.cells #[rf,.bool rb,rt,rbo] 93)) na ta ba;have h3:=qqm ((w.alloc (.cells #[rf,.bool rb,rt,rbo] 93)).alloc (.cells #[.bool na,ta,ba] 85)) false (.slice none 0 0) (.slice none 0 0);simp only[qab] at h2 h3;have al:∀(V:World) (o:Obj),Below V.heap.size V (V.alloc o):=fun V o=>qad _ _;refine⟨((al w _).trans ((al _ _).mono (by rw[qab];omega))).trans ((al _ _).mono (by rw[qab,qab];omega)), ?_, ?_,h3⟩
 ·exact(h1.later ((al _ _).mono (by rw[qab];omega))).later ((al _ _).mono (by rw[qab,qab];omega))
 ·exact h2.later ((al _ _).mono (by rw[qab,qab];omega))
theorem qcp(h:qdb w rf rb rt rbo na ta ba W):W.cell? ⟨w.heap.size,0,none⟩=some rf∧W.cell? ⟨w.heap.size,1,none⟩=some (.bool rb)∧W.cell? ⟨w.heap.size,2,none⟩=some rt∧W.cell? ⟨w.heap.size,3,none⟩=some rbo∧
  W.cell? ⟨w.heap.size+1,0,none⟩=some (.bool na)∧W.cell? ⟨w.heap.size+1,1,none⟩=some ta∧W.cell? ⟨w.heap.size+1,2,none⟩=some ba:=
 ⟨(h.2.1.2 0 (by omega)).1,(h.2.1.2 1 (by omega)).1,(h.2.1.2 2 (by omega)).1,(h.2.1.2 3 (by omega)).1,(h.2.2.1.2 0 (by omega)).1,(h.2.2.1.2 1 (by omega)).1,(h.2.2.1.2 2 (by omega)).1⟩
theorem qvv(h:qdb w rf rb rt rbo na ta ba W):
  (W.cell? ⟨w.heap.size+1+1,0,none⟩=some (.bool false)∧W.frozen? ⟨w.heap.size+1+1,0,none⟩=false)∧
  (W.cell? ⟨w.heap.size+1+1,1,none⟩=some (.slice none 0 0)∧W.frozen? ⟨w.heap.size+1+1,1,none⟩=false)∧
  (W.cell? ⟨w.heap.size+1+1,2,none⟩=some (.slice none 0 0)∧W.frozen? ⟨w.heap.size+1+1,2,none⟩=false):=
 ⟨h.2.2.2.2 0 (by omega),h.2.2.2.2 1 (by omega),h.2.2.2.2 2 (by omega)⟩
theorem qdx{f:FuncId}{args:Array Value}{P:Ending→World→Prop}(hW:qdb w rf rb rt rbo na ta ba W)
  (h:Calls Tryz.prog f args W fun e w'=>P e w'∧Below W.heap.size W w'):Calls Tryz.prog f args W fun e w'=>P e w'∧qdb w rf rb rt rbo na ta ba w'∧Below W.heap.size W w':=
 h.mono fun _ _ ⟨h1,h2⟩=>⟨h1,hW.later h2,h2⟩
end
theorem qo3(W:World)(sg:Bool)(t b:Value):Below W.heap.size W (W.alloc (.cells #[.bool sg,t,b] 85))∧Own (W.alloc (.cells #[.bool sg,t,b] 85)) W.heap.size 3 (qcr sg t b):=
 ⟨qad _ _,qqm _ _ _ _⟩
theorem qrx(f:Nat)(rb:Bool)(rt rbo:Value)(va:Value)(a s:Rat)(w:World)(hs:qaw w (.agg #[.bool rb,rt,rbo]) s)(ha:qaw w va a)(hG:s.num≠0)(m:Nat)(kU:bd a m)(lH:bd s m)(fD:1≤m)(hc:m≤1048576)(hw:(a/s).den=1):
  Calls Tryz.prog 45 #[.agg #[.func (.func f) #[] #[],.bool rb,rt,rbo],va] w fun e w'=>(∃v',e = .returned v'∧qaw w' v' a)∧Below w.heap.size w w':=by
 have HA:=hid ha;obtain⟨aH,aI,aJ,aM,aL,aN,rfl,dM,eO⟩:=ha.parts;obtain⟨ps1,ks1,cs1,ps2,ks2,cs2,he,dL,fN⟩:=hs.parts;simp only[Value.agg.injEq,Array.mk.injEq,List.cons.injEq,and_true,Value.bool.injEq] at he;obtain⟨Eo,hrt,Iw⟩:=he;have HS:=hid hs;have aO:=hid (qtr w (.func (.func f) #[] #[]) rb rt rbo (decide (a.num<0)) (.slice aH aI aJ) (.slice aM aL aN));have hq:=qnf kU lH;have uX:Hid (∀W,qdb w (.func (.func f) #[] #[]) rb rt rbo (decide (a.num<0)) (.slice aH aI aJ) (.slice aM aL aN) W→Calls Tryz.prog 55 #[.agg #[.bool (decide (a.num<0)),.slice aH aI aJ,.slice aM aL aN],.agg #[.bool rb,rt,rbo]] W fun e w'=>(∃v',e = .returned v'∧qaw w' v' (a/s))∧qdb w (.func (.func f) #[] #[]) rb rt rbo (decide (a.num<0)) (.slice aH aI aJ) (.slice aM aL aN) w'∧Below W.heap.size W w'):=hid fun W hW=>qdx hW (qfk _ _ a s W (HA.out.later hW.1) (HS.out.later hW.1) hG (by have:=kU.rs;have:=lH.rs;unfold Cap;omega));have Ix:Hid (∀W v,qdb w (.func (.func f) #[] #[]) rb rt rbo (decide (a.num<0)) (.slice aH aI aJ) (.slice aM aL aN) W→qaw W v (a/s)→Calls Tryz.prog 90 #[v] W fun e w'=>e = .returned (.bool (decide ((a/s).den=1)))∧qdb w (.func (.func f) #[] #[]) rb rt rbo (decide (a.num<0)) (.slice aH aI aJ) (.slice aM aL aN) w'∧Below W.heap.size W w'):=hid fun W v hW hv=>qdx hW (qkk v _ W hv);rw[qag hw] at Ix;subst Eo hrt Iw;clear ha dM eO hs dL fN kU lH fD hc hG hq;generalize decide (a.num<0)=na at *;generalize decide (s.num<0)=rb at *;go_enter Tryz.func45,Tryz.ntmps45;go_wp2_with fail;generalize ((w.alloc (.cells #[.func (.func f) #[] #[],.bool rb,.slice ps1 ks1 cs1,.slice ps2 ks2 cs2] 93)).alloc (.cells #[.bool na,.slice aH aI aJ,.slice aM aL aN] 85)).alloc (.cells #[.bool false,.slice none 0 0,.slice none 0 0] 85)=w0 at *;obtain⟨c0,c1,c2,c3,c4,c5,c6⟩:=qcp aO.out;go_wp2_with fail
 refine(uX.out _ aO.out).mono ?_;clear c0 c1 c2 c3 c4 c5 c6;rintro e w1 ⟨⟨v1,rfl,hv⟩,hr,hb⟩;obtain⟨p1,k1,l1,p2,k2,l2,rfl,eL,dO⟩:=hv.parts;clear eL dO;obtain⟨aD,gG⟩:=qo3 w1 (decide ((a/s).num<0)) (.slice p1 k1 l1) (.slice p2 k2 l2);have HR:=hid (hr.later aD);have HV:=hid (hv.later aD);have HX:=hid gG;have hlt1:w.heap.size+1+1<w1.heap.size:=hr.2.2.2.1;clear hr hv hb aD gG uX aO;generalize decide ((a/s).num<0)=s1 at *;go_wp2_with fail;refine(Ix.out _ _ HR.out HV.out).mono ?_;rintro e w2 ⟨rfl,hr,hb⟩;have cN:=hid hr;have cK:=hid (HV.out.later hb);have kO:=hid (HX.out.later (hb.mono HX.out.1));clear hr hb HR HV HX Ix;generalize w1.heap.size=B5 at *;obtain⟨c0,c1,c2,c3,c4,c5,c6⟩:=qcp cN.out;obtain⟨⟨r0,g0⟩,⟨r1,g1⟩,⟨r2,g2⟩⟩:=qvv cN.out;have aF:=hid (qb6 (HA.out.later cN.out.1) r0 r1 r2);have aG:=hid (qax cN.out.1 (show w.heap.size≤w.heap.size+1+1 by omega) (.bool na) (.slice aH aI aJ) (.slice aM aL aN));clear cN cK kO;go_wp2_with fail;refine bodyPost_ret (v := .agg #[.bool na,.slice aH aI aJ,.slice aM aL aN]) ?_ rfl ?_
 ·simp[results,Tryz.results45,go_sem,r0,r1,r2]
 ·exact⟨⟨_,rfl,aF.out⟩,aG.out⟩
theorem qts(f:Nat)(rb:Bool)(rt rbo:Value)(va:Value)(a s:Rat)(w:World)(hs:qaw w (.agg #[.bool rb,rt,rbo]) s)(ha:qaw w va a)(hG:s.num≠0)(m:Nat)(kU:bd a m)(lH:bd s m)(fD:1≤m)(hc:m≤1048576)(kk:BA)(Qk:qdq kk=some f)(hw:¬(a/s).den=1):
  Calls Tryz.prog 45 #[.agg #[.func (.func f) #[] #[],.bool rb,rt,rbo],va] w fun e w'=>(∃v',e = .returned v'∧qaw w' v' (qo2 f (a/s)*s))∧Below w.heap.size w w':=by
 have HA:=hid ha;obtain⟨aH,aI,aJ,aM,aL,aN,rfl,dM,eO⟩:=ha.parts;obtain⟨ps1,ks1,cs1,ps2,ks2,cs2,he,dL,fN⟩:=hs.parts;simp only[Value.agg.injEq,Array.mk.injEq,List.cons.injEq,and_true,Value.bool.injEq] at he;obtain⟨Eo,hrt,Iw⟩:=he;have HS:=hid hs;have aO:=hid (qtr w (.func (.func f) #[] #[]) rb rt rbo (decide (a.num<0)) (.slice aH aI aJ) (.slice aM aL aN));have hq:=qnf kU lH;have uX:Hid (∀W,qdb w (.func (.func f) #[] #[]) rb rt rbo (decide (a.num<0)) (.slice aH aI aJ) (.slice aM aL aN) W→Calls Tryz.prog 55 #[.agg #[.bool (decide (a.num<0)),.slice aH aI aJ,.slice aM aL aN],.agg #[.bool rb,rt,rbo]] W fun e w'=>(∃v',e = .returned v'∧qaw w' v' (a/s))∧qdb w (.func (.func f) #[] #[]) rb rt rbo (decide (a.num<0)) (.slice aH aI aJ) (.slice aM aL aN) w'∧Below W.heap.size W w'):=hid fun W hW=>qdx hW (qfk _ _ a s W (HA.out.later hW.1) (HS.out.later hW.1) hG (by have:=kU.rs;have:=lH.rs;unfold Cap;omega));have Ix:Hid (∀W v,qdb w (.func (.func f) #[] #[]) rb rt rbo (decide (a.num<0)) (.slice aH aI aJ) (.slice aM aL aN) W→qaw W v (a/s)→Calls Tryz.prog 90 #[v] W fun e w'=>e = .returned (.bool (decide ((a/s).den=1)))∧qdb w (.func (.func f) #[] #[]) rb rt rbo (decide (a.num<0)) (.slice aH aI aJ) (.slice aM aL aN) w'∧Below W.heap.size W w'):=hid fun W v hW hv=>qdx hW (qkk v _ W hv);have Ao:=qxi hq (by omega);have Ko:Hid (∀W v,qdb w (.func (.func f) #[] #[]) rb rt rbo (decide (a.num<0)) (.slice aH aI aJ) (.slice aM aL aN) W→qaw W v (a/s)→Calls Tryz.prog 91 #[v] W fun e w'=>(∃v',e = .returned v'∧qaw w' v' ((a/s).floor:Rat))∧qdb w (.func (.func f) #[] #[]) rb rt rbo (decide (a.num<0)) (.slice aH aI aJ) (.slice aM aL aN) w'∧Below W.heap.size W w'):=hid fun W v hW hv=>qdx hW (q1d v _ W hv (by have:=hq.rs;unfold Cap;omega))
 have Ql:Hid (∀W v v',qdb w (.func (.func f) #[] #[]) rb rt rbo (decide (a.num<0)) (.slice aH aI aJ) (.slice aM aL aN) W→qaw W v (a/s)→qaw W v' ((a/s).floor:Rat)→Calls Tryz.prog 92 #[v,v'] W fun e w'=>(∃v',e = .returned v'∧qaw w' v' (a/s-((a/s).floor:Rat)))∧qdb w (.func (.func f) #[] #[]) rb rt rbo (decide (a.num<0)) (.slice aH aI aJ) (.slice aM aL aN) w'∧Below W.heap.size W w'):=hid fun W v v' hW hv hv'=>qdx hW (qs6 v v' _ _ W hv hv' (by have:=hq.rs;have:=Ao.rs;unfold Cap;omega));have Bh:Hid (∀W,qdb w (.func (.func f) #[] #[]) rb rt rbo (decide (a.num<0)) (.slice aH aI aJ) (.slice aM aL aN) W→Calls Tryz.prog 51 #[.int .i64 1] W fun e w'=>(∃v',e = .returned v'∧qaw w' v' 1)∧qdb w (.func (.func f) #[] #[]) rb rt rbo (decide (a.num<0)) (.slice aH aI aJ) (.slice aM aL aN) w'∧Below W.heap.size W w'):=hid fun W hW=>qdx hW (qet 1 W (by omega) (by omega));have Oi:Hid (∀W v,qdb w (.func (.func f) #[] #[]) rb rt rbo (decide (a.num<0)) (.slice aH aI aJ) (.slice aM aL aN) W→qaw W v 1→Calls Tryz.prog 93 #[v] W fun e w'=>(∃v',e = .returned v'∧qaw w' v' (1/2))∧qdb w (.func (.func f) #[] #[]) rb rt rbo (decide (a.num<0)) (.slice aH aI aJ) (.slice aM aL aN) w'∧Below W.heap.size W w'):=hid fun W v hW hv=>qdx hW (qxj v 1 W hv 1 (qew 1 (by omega) (by omega)) (by omega))
 have tV:Hid (∀W v v',qdb w (.func (.func f) #[] #[]) rb rt rbo (decide (a.num<0)) (.slice aH aI aJ) (.slice aM aL aN) W→qaw W v (a/s-((a/s).floor:Rat))→qaw W v' (1/2)→Calls Tryz.prog 49 #[v,v'] W fun e w'=>e = .returned (.int .i64 (qfd (a/s-((a/s).floor:Rat)) (1/2)))∧qdb w (.func (.func f) #[] #[]) rb rt rbo (decide (a.num<0)) (.slice aH aI aJ) (.slice aM aL aN) w'∧Below W.heap.size W w'):=hid fun W v v' hW hv hv'=>qdx hW (qdp v v' _ _ W hv hv' (by have:=(q2g hq Ao).rs;have:=(qnf (qew 1 (by omega) (by omega)) (qew 2 (by omega) (by omega))).rs;have h3:rs (1/2:Rat)≤6:=this;unfold Cap;omega));have Bu:Hid (∀W v,qdb w (.func (.func f) #[] #[]) rb rt rbo (decide (a.num<0)) (.slice aH aI aJ) (.slice aM aL aN) W→qaw W v ((a/s).floor:Rat)→Calls Tryz.prog 93 #[v] W fun e w'=>(∃v',e = .returned v'∧qaw w' v' (((a/s).floor:Rat)/2))∧qdb w (.func (.func f) #[] #[]) rb rt rbo (decide (a.num<0)) (.slice aH aI aJ) (.slice aM aL aN) w'∧Below W.heap.size W w'):=hid fun W v hW hv=>qdx hW (qxj v _ W hv _ Ao (by omega));have jE:Hid (∀W v,qdb w (.func (.func f) #[] #[]) rb rt rbo (decide (a.num<0)) (.slice aH aI aJ) (.slice aM aL aN) W→qaw W v (((a/s).floor:Rat)/2)→Calls Tryz.prog 90 #[v] W fun e w'=>e = .returned (.bool (decide ((((a/s).floor:Rat)/2).den=1)))∧qdb w (.func (.func f) #[] #[]) rb rt rbo (decide (a.num<0)) (.slice aH aI aJ) (.slice aM aL aN) w'∧Below W.heap.size W w'):=hid fun W v hW hv=>qdx hW (qkk v _ W hv);have Qm:Hid (∀W side o,qdb w (.func (.func f) #[] #[]) rb rt rbo (decide (a.num<0)) (.slice aH aI aJ) (.slice aM aL aN) W→Calls Tryz.prog f #[.int .i64 side,.bool o] W fun e w'=>e = .returned (.bool (qll f side o))∧w'=W):=hid fun W side o _=>qzi kk f Qk side o W
 have wS:Hid (∀W v v',qdb w (.func (.func f) #[] #[]) rb rt rbo (decide (a.num<0)) (.slice aH aI aJ) (.slice aM aL aN) W→qaw W v ((a/s).floor:Rat)→qaw W v' 1→Calls Tryz.prog 72 #[v,v'] W fun e w'=>(∃v',e = .returned v'∧qaw w' v' (((a/s).floor:Rat)+1))∧qdb w (.func (.func f) #[] #[]) rb rt rbo (decide (a.num<0)) (.slice aH aI aJ) (.slice aM aL aN) w'∧Below W.heap.size W w'):=hid fun W v v' hW hv hv'=>qdx hW (qhy v v' _ _ W hv hv' (by have:=Ao.rs;have h3:rs (1:Rat)≤2:=(qew 1 (by omega) (by omega)).rs;unfold Cap;omega))
 have oK:∀l,l=((a/s).floor:Rat)∨l=((a/s).floor:Rat)+1→bd l (m+m+1+1+1+1):=by
  rintro l (rfl|rfl)
  ·exact Ao.mono (by omega)
  ·exact(qne Ao (qew 1 (by omega) (by omega))).mono (by omega)
 have iL:Hid (∀W v l,l=((a/s).floor:Rat)∨l=((a/s).floor:Rat)+1→qdb w (.func (.func f) #[] #[]) rb rt rbo (decide (a.num<0)) (.slice aH aI aJ) (.slice aM aL aN) W→qaw W v l→Calls Tryz.prog 53 #[v,.agg #[.bool rb,rt,rbo]] W fun e w'=>(∃v',e = .returned v'∧qaw w' v' (l*s))∧qdb w (.func (.func f) #[] #[]) rb rt rbo (decide (a.num<0)) (.slice aH aI aJ) (.slice aM aL aN) w'∧Below W.heap.size W w'):=hid fun W v l hl hW hv=>qdx hW (qd5 v _ _ _ W hv (HS.out.later hW.1) (by have:=(oK l hl).rs;have:=lH.rs;unfold Cap;omega));rw[qae hw] at Ix;have Hn:Hid (qo2 f (a/s)=if qll f (qfd (a/s-((a/s).floor:Rat)) (1/2)) (!decide ((((a/s).floor:Rat)/2).den=1)) then((a/s).floor:Rat)+1 else((a/s).floor:Rat)):=hid rfl;clear oK Ao;generalize ((a/s).floor:Rat)=fl at *;generalize a/s-fl=dq at *;generalize qfd dq (1/2)=side at *;generalize decide ((fl/2).den=1)=ev at *;subst Eo hrt Iw;clear ha dM eO hs dL fN kU lH fD hc hG hq;generalize decide (a.num<0)=na at *;generalize decide (s.num<0)=rb at *;have hf4:=qvu Qk;clear Qk;generalize qo2 f (a/s)=RN at *;generalize qll f=GU at *
 all_goals
  go_enter Tryz.func45,Tryz.ntmps45;go_wp2_with fail;generalize ((w.alloc (.cells #[.func (.func f) #[] #[],.bool rb,.slice ps1 ks1 cs1,.slice ps2 ks2 cs2] 93)).alloc (.cells #[.bool na,.slice aH aI aJ,.slice aM aL aN] 85)).alloc (.cells #[.bool false,.slice none 0 0,.slice none 0 0] 85)=w0 at *;obtain⟨c0,c1,c2,c3,c4,c5,c6⟩:=qcp aO.out;go_wp2_with fail;refine(uX.out _ aO.out).mono ?_;clear c0 c1 c2 c3 c4 c5 c6;rintro e w1 ⟨⟨v1,rfl,hv⟩,hr,hb⟩;obtain⟨p1,k1,l1,p2,k2,l2,rfl,eL,dO⟩:=hv.parts;clear eL dO;obtain⟨aD,gG⟩:=qo3 w1 (decide ((a/s).num<0)) (.slice p1 k1 l1) (.slice p2 k2 l2);have HR:=hid (hr.later aD);have HV:=hid (hv.later aD);have HX:=hid gG;have hlt1:w.heap.size+1+1<w1.heap.size:=hr.2.2.2.1;clear hr hv hb aD gG uX aO;generalize decide ((a/s).num<0)=s1 at *;go_wp2_with fail;refine(Ix.out _ _ HR.out HV.out).mono ?_;rintro e w2 ⟨rfl,hr,hb⟩;have cN:=hid hr;have cK:=hid (HV.out.later hb);have kO:=hid (HX.out.later (hb.mono HX.out.1));clear hr hb HR HV HX Ix;generalize w1.heap.size=B5 at *;obtain⟨x0,x1,x2⟩:=qbs kO.out;go_wp2_with fail;refine(Ko.out _ _ cN.out cK.out).mono ?_;clear x0 x1 x2;rintro e w3 ⟨⟨v3,rfl,hv⟩,hr,hb⟩;obtain⟨p3,k3,l3,p4,k4,l4,rfl,eL,dO⟩:=hv.parts;clear eL dO;obtain⟨aD,gG⟩:=qo3 w3 (decide (fl.num<0)) (.slice p3 k3 l3) (.slice p4 k4 l4);have fJ:=hid (hr.later aD);have uQ:=hid (hv.later aD);have iU:=hid ((cK.out.later hb).later aD);have jK:=hid ((kO.out.later (hb.mono kO.out.1)).later (aD.mono (by have:=kO.out.1;have:=hb.size;omega)));have HY3:=hid gG;have Iy:w.heap.size+1+1<w3.heap.size:=hr.2.2.2.1;clear hr hv hb aD gG cN cK kO Ko;generalize decide (fl.num<0)=s3 at *;obtain⟨x0,x1,x2⟩:=qbs jK.out;go_wp2_with fail;refine(Ql.out _ _ _ fJ.out iU.out uQ.out).mono ?_;clear x0 x1 x2;rintro e w4 ⟨⟨v4,rfl,hv⟩,hr,hb⟩;have HD4:=hid hv;have nY:=hid hr
  have HF4:=hid (uQ.out.later hb);have HY4:=hid (HY3.out.later (hb.mono HY3.out.1));clear hv hr hb fJ iU uQ jK HY3 Ql;go_wp2_with fail;refine(Bh.out _ nY.out).mono ?_;rintro e w5 ⟨⟨v5,rfl,hv⟩,hr,hb⟩;have zD:=hid hv;have pP:=hid hr;have HD5:=hid (HD4.out.later hb);have HF5:=hid (HF4.out.later hb);have HY5:=hid (HY4.out.later (hb.mono HY4.out.1));clear hv hr hb nY HD4 HF4 HY4;go_wp2_with fail;refine(Oi.out _ _ pP.out zD.out).mono ?_;rintro e w6 ⟨⟨v6,rfl,hv⟩,hr,hb⟩;have HH6:=hid hv;have El:=hid hr;have HD6:=hid (HD5.out.later hb);have HF6:=hid (HF5.out.later hb);have HY6:=hid (HY5.out.later (hb.mono HY5.out.1));clear hv hr hb pP HD5 HF5 HY5 zD Oi;go_wp2_with fail;refine(tV.out _ _ _ El.out HD6.out HH6.out).mono ?_;rintro e w7 ⟨rfl,hr,hb⟩;have xG:=hid (hr.later ((qaa _ _).drew));have Cg:=hid ((HF6.out.later hb).later ((qaa _ _).drew));have Ap:=hid ((HY6.out.later (hb.mono HY6.out.1)).later ((qaa _ _).drew));clear hr hb El HD6 HF6 HY6 HH6 tV;generalize w3.heap.size=B6 at *;go_wp2_with fail;rcases hf4 with rfl|rfl|rfl|rfl
  all_goals
   have cA:=qcp xG.out;have xA:=qbs Ap.out
   first
   | (go_region_held3 (fun W=>(W.cell? ⟨w.heap.size,0,none⟩=some (.func (.func 137) #[] #[]))∧(W.cell? ⟨B6,0,none⟩=some (.bool s3)∧W.cell? ⟨B6,1,none⟩=some (.slice p3 k3 l3)∧W.cell? ⟨B6,2,none⟩=some (.slice p4 k4 l4))) (first|with_reducible exact⟨cA.1,xA⟩|with_reducible exact⟨cB.1,xB⟩|with_reducible exact⟨cC.1,xC⟩)
    (first
     | (go_at_call 93;((with_reducible refine(Bu.out _ _ xG.out Cg.out).mono ?_);rintro e wX ⟨⟨vX,rfl,hn⟩,ht,hb⟩;have fW:=hid hn;have yM:=hid ht;have Fc:=hid (Cg.out.later hb);have eV:=hid (Ap.out.later (hb.mono Ap.out.1));have cB:=qcp ht;have xB:=qbs eV.out;clear hn ht hb))
     | (go_at_call 90;((with_reducible refine(jE.out _ _ yM.out fW.out).mono ?_);rintro e wY ⟨rfl,ht,hb⟩;have xL:=hid ht;have Fd:=hid (Fc.out.later hb);have zG:=hid (eV.out.later (hb.mono eV.out.1));have cC:=qcp ht;have xC:=qbs zG.out;clear ht hb))
     | (go_at_call 137;((refine(Qm.out _ _ _ xL.out).mono ?_);rintro e wZ ⟨rfl,zH⟩;rw[zH];clear zH))))
   | (go_region_held3 (fun W=>(W.cell? ⟨w.heap.size,0,none⟩=some (.func (.func 138) #[] #[]))∧(W.cell? ⟨B6,0,none⟩=some (.bool s3)∧W.cell? ⟨B6,1,none⟩=some (.slice p3 k3 l3)∧W.cell? ⟨B6,2,none⟩=some (.slice p4 k4 l4))) (first|with_reducible exact⟨cA.1,xA⟩|with_reducible exact⟨cB.1,xB⟩|with_reducible exact⟨cC.1,xC⟩)
    (first
     | (go_at_call 93;((with_reducible refine(Bu.out _ _ xG.out Cg.out).mono ?_);rintro e wX ⟨⟨vX,rfl,hn⟩,ht,hb⟩;have fW:=hid hn;have yM:=hid ht;have Fc:=hid (Cg.out.later hb);have eV:=hid (Ap.out.later (hb.mono Ap.out.1));have cB:=qcp ht;have xB:=qbs eV.out;clear hn ht hb))
     | (go_at_call 90;((with_reducible refine(jE.out _ _ yM.out fW.out).mono ?_);rintro e wY ⟨rfl,ht,hb⟩;have xL:=hid ht;have Fd:=hid (Fc.out.later hb);have zG:=hid (eV.out.later (hb.mono eV.out.1));have cC:=qcp ht;have xC:=qbs zG.out;clear ht hb))
     | (go_at_call 138;((refine(Qm.out _ _ _ xL.out).mono ?_);rintro e wZ ⟨rfl,zH⟩;rw[zH];clear zH))))
   | (go_region_held3 (fun W=>(W.cell? ⟨w.heap.size,0,none⟩=some (.func (.func 139) #[] #[]))∧(W.cell? ⟨B6,0,none⟩=some (.bool s3)∧W.cell? ⟨B6,1,none⟩=some (.slice p3 k3 l3)∧W.cell? ⟨B6,2,none⟩=some (.slice p4 k4 l4))) (first|with_reducible exact⟨cA.1,xA⟩|with_reducible exact⟨cB.1,xB⟩|with_reducible exact⟨cC.1,xC⟩)
    (first
     | (go_at_call 93;((with_reducible refine(Bu.out _ _ xG.out Cg.out).mono ?_);rintro e wX ⟨⟨vX,rfl,hn⟩,ht,hb⟩;have fW:=hid hn;have yM:=hid ht;have Fc:=hid (Cg.out.later hb);have eV:=hid (Ap.out.later (hb.mono Ap.out.1));have cB:=qcp ht;have xB:=qbs eV.out;clear hn ht hb))
     | (go_at_call 90;((with_reducible refine(jE.out _ _ yM.out fW.out).mono ?_);rintro e wY ⟨rfl,ht,hb⟩;have xL:=hid ht;have Fd:=hid (Fc.out.later hb);have zG:=hid (eV.out.later (hb.mono eV.out.1));have cC:=qcp ht;have xC:=qbs zG.out;clear ht hb))
     | (go_at_call 139;((refine(Qm.out _ _ _ xL.out).mono ?_);rintro e wZ ⟨rfl,zH⟩;rw[zH];clear zH))))
   | (go_region_held3 (fun W=>(W.cell? ⟨w.heap.size,0,none⟩=some (.func (.func 140) #[] #[]))∧(W.cell? ⟨B6,0,none⟩=some (.bool s3)∧W.cell? ⟨B6,1,none⟩=some (.slice p3 k3 l3)∧W.cell? ⟨B6,2,none⟩=some (.slice p4 k4 l4))) (first|with_reducible exact⟨cA.1,xA⟩|with_reducible exact⟨cB.1,xB⟩|with_reducible exact⟨cC.1,xC⟩)
    (first
     | (go_at_call 93;((with_reducible refine(Bu.out _ _ xG.out Cg.out).mono ?_);rintro e wX ⟨⟨vX,rfl,hn⟩,ht,hb⟩;have fW:=hid hn;have yM:=hid ht;have Fc:=hid (Cg.out.later hb);have eV:=hid (Ap.out.later (hb.mono Ap.out.1));have cB:=qcp ht;have xB:=qbs eV.out;clear hn ht hb))
     | (go_at_call 90;((with_reducible refine(jE.out _ _ yM.out fW.out).mono ?_);rintro e wY ⟨rfl,ht,hb⟩;have xL:=hid ht;have Fd:=hid (Fc.out.later hb);have zG:=hid (eV.out.later (hb.mono eV.out.1));have cC:=qcp ht;have xC:=qbs zG.out;clear ht hb))
     | (go_at_call 140;((refine(Qm.out _ _ _ xL.out).mono ?_);rintro e wZ ⟨rfl,zH⟩;rw[zH];clear zH))))
   have HFZ:=hid Fd.out;clear cA xA cB xB cC xC xG Cg Ap yM Fc eV fW Bu jE Qm;generalize GU side (!ev)=gu at *;cases gu
   ·have HE:Hid (RN=fl):=hid Hn.out
    obtain⟨c0,c1,c2,c3,c4,c5,c6⟩:=qcp xL.out;obtain⟨x0,x1,x2⟩:=qbs zG.out;go_wp2_with fail;refine(iL.out _ _ fl (.inl rfl) xL.out Fd.out).mono ?_;clear c0 c1 c2 c3 c4 c5 c6 x0 x1 x2;rintro e wT ⟨⟨vT,rfl,hv⟩,hr,hb⟩;obtain⟨pt,kt,ct,pf,kf,cf,rfl,eL,dO⟩:=hv.parts;generalize decide ((fl*s).num<0)=sg at *;obtain⟨⟨r0,g0⟩,⟨r1,g1⟩,⟨r2,g2⟩⟩:=qvv hr;have aF:=hid (qb6 hv r0 r1 r2);have aG:=hid (qax hr.1 (show w.heap.size≤w.heap.size+1+1 by omega) (.bool sg) (.slice pt kt ct) (.slice pf kf cf));clear eL dO hv hr hb xL Fd zG HFZ;go_wp2_with fail;refine bodyPost_ret (v := .agg #[.bool sg,.slice pt kt ct,.slice pf kf cf]) ?_ rfl ?_
    ·simp[results,Tryz.results45,go_sem,r0,r1,r2]
    ·exact⟨⟨_,rfl,by rw[HE.out];exact aF.out⟩,aG.out⟩
   ·have HE:Hid (RN=fl+1):=hid Hn.out
    go_wp2_with fail;have cH:=hid (xL.out.later ((qaa _ _).drew));have HFD:=hid (Fd.out.later ((qaa _ _).drew));have HYD:Hid (Own wY.drew B6 3 (qcr s3 (.slice p3 k3 l3) (.slice p4 k4 l4))):=hid (zG.out.later ((qaa _ _).drew));obtain⟨x0,x1,x2⟩:=qbs HYD.out
    go_region_with (first
     | (go_at_call 51;((with_reducible refine(Bh.out _ cH.out).mono ?_);rintro e wU ⟨⟨vU,rfl,hn⟩,ht,hb⟩;have HVU:=hid hn;have HRU:=hid ht;have HFU:=hid (HFD.out.later hb);have HYU:=hid (HYD.out.later (hb.mono HYD.out.1));clear x0 x1 x2;obtain⟨x0,x1,x2⟩:=qbs HYU.out;clear hn ht hb))
     | (go_at_call 72;((with_reducible refine(wS.out _ _ _ HRU.out HFU.out HVU.out).mono ?_);rintro e wV ⟨⟨vV,rfl,hn⟩,ht,hb⟩;have rU:=hid hn;have Fv:=hid ht;have Ch:=hid (HYU.out.later (hb.mono HYU.out.1));obtain⟨pt,kt,ct,pf,kf,cf,rfl,eL,dO⟩:=hn.parts;generalize decide ((fl+1).num<0)=sv at *;clear x0 x1 x2;obtain⟨x0,x1,x2⟩:=qbs Ch.out;have y0:=(Ch.out.2 0 (by omega)).2;have y1:=(Ch.out.2 1 (by omega)).2;have y2:=(Ch.out.2 2 (by omega)).2;clear hn ht hb eL dO)))
    all_goals
    have Kl:=((Fv.out.set Iy 0 (.bool sv)).set Iy 1 (.slice pt kt ct)).set Iy 2 (.slice pf kf cf);have h1:=qbl rU.out Ch.out 0 (by omega) (by intro k z h;cases h) (.bool sv);have h2:=qbl h1 (Ch.out.set 0 (by omega) (.bool sv)) 1 (by omega) (by intro k z h;cases h) (.slice pt kt ct);have h3:=qbl h2 ((Ch.out.set 0 (by omega) (.bool sv)).set 1 (by omega) (.slice pt kt ct)) 2 (by omega) (by intro k z h;cases h) (.slice pf kf cf)
    have ho:=(((Ch.out.set 0 (by omega) (.bool sv)).set 1 (by omega) (.slice pt kt ct)).set 2 (by omega) (.slice pf kf cf)).congr (f':=qcr sv (.slice pt kt ct) (.slice pf kf cf)) (fun i hi=>by
     match i,hi with
     | 0,_=>rfl
     | 1,_=>rfl
     | 2,_=>rfl)
    clear h1 h2 x0 x1 x2 y0 y1 y2 Ch Fv rU HRU HFU HYU HVU cH HFD HYD xL Fd zG HFZ Bh wS;generalize ((wV.setCell ⟨B6,0,none⟩ (.bool sv)).setCell ⟨B6,1,none⟩ (.slice pt kt ct)).setCell ⟨B6,2,none⟩ (.slice pf kf cf)=wW at *;have oP:=hid Kl;have HFW:=hid h3;obtain⟨c0,c1,c2,c3,c4,c5,c6⟩:=qcp Kl;obtain⟨x0,x1,x2⟩:=qbs ho;clear Kl h3 ho;go_wp2_with fail;refine(iL.out _ _ (fl+1) (.inr rfl) oP.out HFW.out).mono ?_;clear c0 c1 c2 c3 c4 c5 c6 x0 x1 x2;rintro e wT ⟨⟨vT,rfl,hv⟩,hr,hb⟩;obtain⟨pu,ku,cu,pg,kg,cg,rfl,eL,dO⟩:=hv.parts;generalize decide (((fl+1)*s).num<0)=sg at *;obtain⟨⟨r0,g0⟩,⟨r1,g1⟩,⟨r2,g2⟩⟩:=qvv hr;have aF:=hid (qb6 hv r0 r1 r2);have aG:=hid (qax hr.1 (show w.heap.size≤w.heap.size+1+1 by omega) (.bool sg) (.slice pu ku cu) (.slice pg kg cg));clear eL dO hv hr hb oP HFW;go_wp2_with fail;refine bodyPost_ret (v := .agg #[.bool sg,.slice pu ku cu,.slice pg kg cg]) ?_ rfl ?_
    ·simp[results,Tryz.results45,go_sem,r0,r1,r2]
    ·exact⟨⟨_,rfl,by rw[HE.out];exact aF.out⟩,aG.out⟩
theorem qvw(f:Nat)(rb:Bool)(rt rbo:Value)(va:Value)(a s:Rat)(w:World)(hs:qaw w (.agg #[.bool rb,rt,rbo]) s)(ha:qaw w va a)(hG:s.num≠0)(m:Nat)(kU:bd a m)(lH:bd s m)(fD:1≤m)(hc:m≤1048576)(kk:BA)(Qk:qdq kk=some f):
  Calls Tryz.prog 45 #[.agg #[.func (.func f) #[] #[],.bool rb,rt,rbo],va] w fun e w'=>(∃v',e = .returned v'∧qaw w' v' (qjf f a s))∧Below w.heap.size w w':=by
 by_cases hw:(a/s).den=1
 ·have e1:qjf f a s=a:=if_pos hw
  rw[e1];exact qrx f rb rt rbo va a s w hs ha hG m kU lH fD hc hw
 ·have e1:qjf f a s=qo2 f (a/s)*s:=if_neg hw
  rw[e1];exact qts f rb rt rbo va a s w hs ha hG m kU lH fD hc kk Qk hw
def qjz(l:List UInt8)(k:BA)(step:List UInt8):Rat:=qjf ((qdq k).getD 0) (qa9 l) (qa9 step)
def qh9(l:List UInt8)(k:BA)(step:List UInt8)(w:World)(e:Ending)(w':World):Prop:=
 if qah l≠0 then e = .returned (.tuple #[.string ⟨#[]⟩,.int .i64 (qah l)])∧Below w.heap.size w w'
 else if qa5 k step≠0 then e = .returned (.tuple #[.string ⟨#[]⟩,.int .i64 (qa5 k step)])∧Below w.heap.size w w'
 else qmo (qjz l k step) w e w'
theorem qzj{q:Rat}{w0 w w':World}{e:Ending}(hb:Below w0.heap.size w0 w)(h:qmo q w e w'):qmo q w0 e w':=⟨h.1,hb.trans (h.2.mono hb.size)⟩
theorem qzk{q:Rat}{w w':World}{e:Ending}(h:qmo q w e w'):∃(tx:BA) (ec:Int),e = .returned (.tuple #[.string tx,.int .i64 ec])∧qmo q w (.returned (.tuple #[.string tx,.int .i64 ec])) w':=by
 have h1:=h.1;exact⟨_,_,h1,by rw[←h1];exact h⟩
theorem qp8{k:BA}{step:List UInt8}(h:qa5 k step=0):qah step=0∧0<(qa9 step).num∧∃f,qdq k=some f:=by
 unfold qa5 at h;split at h
 ·cases h
 ·rename_i h1
  split at h
  ·rename_i h2;exact absurd h h2
  ·rename_i h2
   split at h
   ·cases h
   ·rename_i h3
    refine⟨by omega,by omega, ?_⟩;cases hk:qdq k
    ·exact absurd hk h1
    ·exact⟨_,rfl⟩
theorem q2k(f:Nat){q:Rat}{m:Nat}(h:bd q m)(hm:1≤m):bd (qo2 f q) (m+1+1+1):=by
 unfold qo2;have hf:=qxi h hm;split
 ·exact(qne hf (qew 1 (by omega) (by omega))).mono (by omega)
 ·exact hf.mono (by omega)
theorem q5t(f:Nat){a s:Rat}{m:Nat}(ha:bd a m)(hs:bd s m)(hm:1≤m):bd (qjf f a s) (3*m+4):=by
 unfold qjf;split
 ·exact ha.mono (by omega)
 ·exact(qe0 (q2k f (qnf ha hs) (by omega)) hs).mono (by omega)
def qvx(w:World)(k s:BA)(W:World):Prop:=Below w.heap.size w W∧Own W w.heap.size 2 (qvs (.string k) (.string s))
theorem qvx.later{w W W':World}{k s:BA}(h:qvx w k s W)(hb:Below W.heap.size W W'):qvx w k s W':=
 ⟨h.1.trans (hb.mono h.1.size),h.2.later (hb.mono h.2.1)⟩
theorem q5u(w:World)(k s:BA):qvx w k s (w.alloc (.cells #[.string k,.string s] 45)):=
 ⟨qad _ _,qd2 _ _ _ _⟩
theorem qo4(s:BA)(w:World)(hg:GW w)(hs:s.size≤1073741824)(h0:qah s.data.toList≠0):
  Calls Tryz.prog 43 #[.string s] w fun e w'=>e = .returned (.tuple #[.agg #[.bool false,.slice none 0 0,.slice none 0 0],.int .i64 (qah s.data.toList:Nat)])∧Below w.heap.size w w':=
 (qe7 s w hg hs).mono fun e w' h=>by
  unfold qkl at h;rw[if_neg h0] at h;exact h
theorem qmq(s:BA)(w:World)(hg:GW w)(hs:s.size≤1073741824)(h0:qah s.data.toList=0):
  Calls Tryz.prog 43 #[.string s] w fun e w'=>(∃v',e = .returned (.tuple #[v',.int .i64 0])∧qaw w' v' (qa9 s.data.toList))∧Below w.heap.size w w':=
 (qe7 s w hg hs).mono fun e w' h=>by
  unfold qkl at h;rw[if_pos h0] at h;exact h
theorem qtt(k s:BA)(w:World)(hg:GW w)(hs:s.size≤1073741824)(h0:qa5 k s.data.toList≠0):
  Calls Tryz.prog 44 #[.agg #[.string k,.string s]] w fun e w'=>e = .returned (.tuple #[.agg #[.nilFunc,.bool false,.slice none 0 0,.slice none 0 0],.int .i64 (qa5 k s.data.toList:Nat)])∧Below w.heap.size w w':=
 (qng k s w hg hs).mono fun e w' h=>by
  unfold qje at h;rw[if_neg h0] at h;exact h
theorem qry(k s:BA)(f:Nat)(hf:qdq k=some f)(w:World)(hg:GW w)(hs:s.size≤1073741824)(h0:qa5 k s.data.toList=0):
  Calls Tryz.prog 44 #[.agg #[.string k,.string s]] w fun e w'=>(∃b t bo,e = .returned (.tuple #[.agg #[.func (.func f) #[] #[],.bool b,t,bo],.int .i64 0])∧qaw w' (.agg #[.bool b,t,bo]) (qa9 s.data.toList))∧Below w.heap.size w w':=
 (qng k s w hg hs).mono fun e w' h=>by
  unfold qje at h;rw[if_pos h0] at h;obtain⟨⟨f',v,b,t,bo,he,hf',rfl,hv⟩,hb⟩:=h;rw[hf] at hf';cases hf'
  exact⟨⟨b,t,bo,he,hv⟩,hb⟩
theorem qtu(x k s:BA)(w:World)(hg:GW w)(hx:x.size≤1073741824)(hs:s.size≤1073741824):
  Calls Tryz.prog 14 #[.string x,.agg #[.string k,.string s]] w (qh9 x.data.toList k s.data.toList w):=by
 have aO:=hid (q5u w k s);by_cases h0:qah x.data.toList=0
 ·have cH:Hid (∀W,qvx w k s W→Calls Tryz.prog 43 #[.string x] W fun e w'=>(∃v',e = .returned (.tuple #[v',.int .i64 0])∧qaw w' v' (qa9 x.data.toList))∧qvx w k s w'):=hid fun W hW=>(qmq x W (hg.later hW.1) hx h0).mono fun e w' ⟨h1,h2⟩=>⟨h1,hW.later h2⟩
  by_cases h1:qa5 k s.data.toList=0
  ·obtain⟨tL,jN,f,hf⟩:=qp8 h1
   have aF:Hid (∀e w',qmo (qjf f (qa9 x.data.toList) (qa9 s.data.toList)) w e w'→qh9 x.data.toList k s.data.toList w e w'):=hid fun e w' h=>by
    unfold qh9;rw[if_neg (by omega),if_neg (by omega)];unfold qjz;rw[hf];exact h
   have Qn:Hid (∀W,qvx w k s W→Calls Tryz.prog 44 #[.agg #[.string k,.string s]] W fun e w'=>(∃b t bo,e = .returned (.tuple #[.agg #[.func (.func f) #[] #[],.bool b,t,bo],.int .i64 0])∧qaw w' (.agg #[.bool b,t,bo]) (qa9 s.data.toList))∧qvx w k s w'∧Below W.heap.size W w'):=hid fun W hW=>(qry k s f hf W (hg.later hW.1) hs h1).mono fun e w' ⟨h1,h2⟩=>⟨h1,hW.later h2,h2⟩;have gG:=qin h0;have kB:=qin tL;have Hn:Hid (∀W v b t bo,qvx w k s W→qaw W v (qa9 x.data.toList)→qaw W (.agg #[.bool b,t,bo]) (qa9 s.data.toList)→Calls Tryz.prog 45 #[.agg #[.func (.func f) #[] #[],.bool b,t,bo],v] W fun e w'=>(∃v',e = .returned v'∧qaw w' v' (qjf f (qa9 x.data.toList) (qa9 s.data.toList)))∧qvx w k s w'):=hid fun W v b t bo hW hv hv'=>(qvw f b t bo v _ _ W hv' hv (by omega) 600 gG kB (by omega) (by omega) k hf).mono fun e w' ⟨h1,h2⟩=>⟨h1,hW.later h2⟩;have Aq:Hid (∀W v,qvx w k s W→qaw W v (qjf f (qa9 x.data.toList) (qa9 s.data.toList))→Calls Tryz.prog 42 #[v] W (qmo (qjf f (qa9 x.data.toList) (qa9 s.data.toList)) w)):=hid fun W v hW hv=>(qjc v _ W hv (by have:=(q5t f gG kB (by omega)).rs;unfold Cap;omega)).mono fun e w' h=>qzj hW.1 h;clear hg hx hs h0 h1 tL jN hf gG kB;generalize qa9 x.data.toList=qx at *;generalize qa9 s.data.toList=qs at *;generalize qjf f qx qs=qr at *;go_enter Tryz.func14,Tryz.ntmps14;go_wp2_with fail;refine(cH.out _ aO.out).mono ?_;rintro e w1 ⟨⟨v1,rfl,hv⟩,hr⟩;obtain⟨p1,k1,l1,p2,k2,l2,rfl,eL,dO⟩:=hv.parts;clear eL dO;obtain⟨aD,gG⟩:=qo3 w1 (decide (qx.num<0)) (.slice p1 k1 l1) (.slice p2 k2 l2);have nQ:=hid (hr.later aD);have gE:=hid (hv.later aD);have mX:=hid gG;clear hr hv aD gG cH aO;generalize decide (qx.num<0)=s1 at *;obtain⟨c0,c1⟩:=qap nQ.out.2;go_wp2_with fail;refine(Qn.out _ nQ.out).mono ?_;clear c0 c1;rintro e w2 ⟨⟨rb,rt,rbo,rfl,hv⟩,hr,hb⟩
   obtain⟨pt,kt,ct,pf,kf,cf,he,eL,dO⟩:=hv.parts;simp only[Value.agg.injEq,Array.mk.injEq,List.cons.injEq,and_true] at he;obtain⟨he0,rfl,rfl⟩:=he;clear he0 eL dO;have aD:Below w2.heap.size w2 (w2.alloc (.cells #[.func (.func f) #[] #[],.bool rb,.slice pt kt ct,.slice pf kf cf] 93)):=qad _ _;have cN:=hid (hr.later aD);have cO:=hid (hv.later aD);have cK:=hid ((gE.out.later hb).later aD);have pU:=(mX.out.later (hb.mono mX.out.1)).later (aD.mono (by have:=mX.out.1;have:=hb.size;omega));obtain⟨x0,x1,x2⟩:=qbs pU;clear hr hv hb aD pU nQ gE mX Qn;go_wp2_with fail;refine(Hn.out _ _ _ _ _ cN.out cK.out cO.out).mono ?_;clear x0 x1 x2;rintro e w3 ⟨⟨v3,rfl,hv⟩,hr⟩;have fJ:=hid hr;have iU:=hid hv;clear hr hv cN cK cO Hn;go_wp2_with fail;refine(Aq.out _ _ fJ.out iU.out).mono ?_;rintro e w4 h;obtain⟨tx,ec,rfl,h2⟩:=qzk h;have HF4:=hid (aF.out _ _ h2);clear h h2 fJ iU Aq aF;go_wp2_with fail;go_ret2;exact HF4.out
  ·have Qn:Hid (∀W,qvx w k s W→Calls Tryz.prog 44 #[.agg #[.string k,.string s]] W fun e w'=>e = .returned (.tuple #[.agg #[.nilFunc,.bool false,.slice none 0 0,.slice none 0 0],.int .i64 (qa5 k s.data.toList:Nat)])∧qvx w k s w'∧Below W.heap.size W w'):=hid fun W hW=>(qtt k s W (hg.later hW.1) hs h1).mono fun e w' ⟨h1,h2⟩=>⟨h1,hW.later h2,h2⟩
   have aF:Hid (∀w',Below w.heap.size w w'→qh9 x.data.toList k s.data.toList w (.returned (.tuple #[.string ⟨#[]⟩,.int .i64 (qa5 k s.data.toList:Nat)])) w'):=hid fun w' h=>by
    unfold qh9;rw[if_neg (by omega),if_pos h1];exact⟨rfl,h⟩
   have eE:((qa5 k s.data.toList:Int)==0)=false:=qan (by omega);clear hg hx hs h0 h1;generalize qa5 k s.data.toList=c at *;generalize qa9 x.data.toList=qx at *;go_enter Tryz.func14,Tryz.ntmps14;go_wp2_with fail;refine(cH.out _ aO.out).mono ?_;rintro e w1 ⟨⟨v1,rfl,hv⟩,hr⟩;obtain⟨p1,k1,l1,p2,k2,l2,rfl,eL,dO⟩:=hv.parts;clear eL dO hv;obtain⟨aD,gG⟩:=qo3 w1 (decide (qx.num<0)) (.slice p1 k1 l1) (.slice p2 k2 l2);have nQ:=hid (hr.later aD);clear hr aD gG cH aO;generalize decide (qx.num<0)=s1 at *;obtain⟨c0,c1⟩:=qap nQ.out.2;go_wp2_with fail;refine(Qn.out _ nQ.out).mono ?_;clear c0 c1;rintro e w2 ⟨rfl,hr,hb⟩;have aK:Hid (Below w.heap.size w (w2.alloc (.cells #[.nilFunc,.bool false,.slice none 0 0,.slice none 0 0] 93))):=hid (hr.1.alloc hr.1.size _);clear hr hb nQ Qn;go_wp2_with fail;go_ret2;exact aF.out _ aK.out
 ·have cH:Hid (∀W,qvx w k s W→Calls Tryz.prog 43 #[.string x] W fun e w'=>e = .returned (.tuple #[.agg #[.bool false,.slice none 0 0,.slice none 0 0],.int .i64 (qah x.data.toList:Nat)])∧qvx w k s w'):=hid fun W hW=>(qo4 x W (hg.later hW.1) hx h0).mono fun e w' ⟨h1,h2⟩=>⟨h1,hW.later h2⟩
  have aF:Hid (∀w',Below w.heap.size w w'→qh9 x.data.toList k s.data.toList w (.returned (.tuple #[.string ⟨#[]⟩,.int .i64 (qah x.data.toList:Nat)])) w'):=hid fun w' h=>by
   unfold qh9;rw[if_pos h0];exact⟨rfl,h⟩
  have eE:((qah x.data.toList:Int)==0)=false:=qan (by omega);clear hg hx hs h0;generalize qah x.data.toList=c at *;go_enter Tryz.func14,Tryz.ntmps14;go_wp2_with fail;refine(cH.out _ aO.out).mono ?_;rintro e w1 ⟨rfl,hr⟩;have aK:Hid (Below w.heap.size w (w1.alloc (.cells #[.bool false,.slice none 0 0,.slice none 0 0] 85))):=hid (hr.1.alloc hr.1.size _);clear hr cH aO;go_wp2_with fail;go_ret2;exact aF.out _ aK.out
section
variable {P:Program} (w:World)
theorem qbu{ops:Array Oper}{rest:List Oper}{o:Oper}{a:Act}{Q:Exit→Act→World→Prop}(xP:o.guard=none)(s x:Operand)(t:TypeId)
  (ho:o.op = .call { callee := .builtin .append,args:=#[s,x],argTypes:=#[t,t] })
  (e:TypeId) (i:TypeInfo) (size:Nat) (ht:P.underlying t=some (.slice e)) (hi:P.info? e=some i) (Qo:i.size=size)
  (g n cap:Nat) (cur:Array Value) (hs:a.eval s = .slice (some ⟨g,0,none⟩) n cap) (hg:w.heap[g]? = some (.cells cur e (0,0)))
  (ad:Addr) (m c:Nat) (news:List Value) (hx:a.eval x = .slice (some ad) m c) (hl:news.length=m*size) (Qp:∀j u,news[j]? = some u→w.cell? (ad.add j)=some u) (h1:∀u ∈ news,u.oneCell'=true)
  (Qq:n+m≤cap) (bM:n*size+news.length≤cur.size)
  (h:wpList P ops Q rest (a.put o.dst (.slice (some ⟨g,0,none⟩) (n+m) cap)) (w.setRow g (cur.toList.take (n*size)++news++cur.toList.drop (n*size+news.length)).toArray)):wpList P ops Q (o::rest) a w:=by
 refine wpList_plain xP fun _ hK => ?_;subst Qo;have hr:=run_append_room (P:=P) w t o.type e i ht hi g n cap cur hg ad m c news hl Qp h1 Qq bM;unfold Oper.wp execOp;simp only[ho,resolve,invoke,builtin,Sem.run_bind,Sem.run_pure,Result.andThen_ok,List.map_toArray,List.map_cons,List.map_nil,hs,hx,hr];exact hK _ _ h
end
theorem qa2.setRow{W:World}{v:Value}{n g:Nat}{cur:Array Value}{ty:TypeId}{fr:Nat × Nat}(h:qa2 W v n)(hg:W.heap[g]? = some (.cells cur ty fr))(hc:∀c ∈ cur.toList,∀k z,c ≠ .int k z)(cs:Array Value):qa2 (W.setRow g cs) v n:=by
 obtain⟨h1,q,c,h2,h3,h4,h5⟩:=h;refine⟨h1,q,c,h2,h3,h4, ?_⟩;rcases h5 with h5|⟨b,o,h6,h7⟩
 ·exact .inl h5
 ·refine .inr ⟨b,o,h6,fun i hi => ?_⟩
  have aC:=h7 i hi;by_cases e:b=g
  ·subst e
   rw[cell_of_row W b (o+i) cur ty fr hg] at aC
   have hm:wd (qao B64 n) i ∈ cur.toList:=by
    rw[←Array.getElem?_toList] at aC;exact qbj aC
   exact absurd rfl (hc _ hm _ _)
  ·rw[cell_setRow_other W g cs ⟨b,o+i,none⟩ e]
   exact aC
theorem qaw.setRow{W:World}{v:Value}{q:Rat}{g:Nat}{cur:Array Value}{ty:TypeId}{fr:Nat × Nat}(h:qaw W v q)(hg:W.heap[g]? = some (.cells cur ty fr))(hc:∀c ∈ cur.toList,∀k z,c ≠ .int k z)(cs:Array Value):qaw (W.setRow g cs) v q:=by
 obtain⟨t,b,e,h1,h2⟩:=h;exact⟨t,b,e,h1.setRow hg hc cs,h2.setRow hg hc cs⟩
def qj0(W:World)(g cap:Nat)(qs:List Rat):Prop:=
 qs.length≤cap∧∃cur:Array Value,W.heap[g]? = some (.cells cur 85 (0,0))∧cur.size=cap*3∧(∀c ∈ cur.toList,∀k z,c ≠ .int k z)∧
  ∀(j:Nat) (q:Rat),qs[j]? = some q→∃b p1 k1 c1 p2 k2 c2,cur.toList[j*3]? = some (.bool b)∧cur.toList[j*3+1]? = some (.slice p1 k1 c1)∧cur.toList[j*3+2]? = some (.slice p2 k2 c2)∧qaw W (.agg #[.bool b,.slice p1 k1 c1,.slice p2 k2 c2]) q
theorem qmr(w:World)(cap:Nat):qj0 (w.alloc (.cells (madeCells #[.bool false,.slice none 0 0,.slice none 0 0] (cap*3)) 85)) w.heap.size cap []:=by
 refine⟨Nat.zero_le _,_,heap_alloc_new w _,size_madeCells _ _,fun c hc k z => ?_,fun j q h=>by simp at h⟩;unfold madeCells at hc;simp only[Array.toList_map,Array.toList_range,List.mem_map] at hc;obtain⟨i,_,rfl⟩:=hc;have h3:i % 3=0∨i % 3=1∨i % 3=2:=by omega
 intro h;simp only[List.size_toArray,List.length_cons,List.length_nil] at h;rcases h3 with h3|h3|h3<;>rw[h3] at h<;>cases h
theorem qj0.lt{W:World}{g cap:Nat}{qs:List Rat}(h:qj0 W g cap qs):g<W.heap.size:=by
 obtain⟨_,cur,hg,_⟩:=h;rcases Nat.lt_or_ge g W.heap.size with h1|h1
 ·exact h1
 ·rw[Array.getElem?_eq_none h1] at hg;cases hg
theorem qj0.later{W W':World}{g cap:Nat}{qs:List Rat}(h:qj0 W g cap qs)(hb:Below W.heap.size W W'):qj0 W' g cap qs:=by
 have bC:=h.lt;obtain⟨h1,cur,hg,h2,h3,h4⟩:=h;refine⟨h1,cur,(hb.block g bC).trans hg,h2,h3,fun j q hq => ?_⟩;obtain⟨b,p1,k1,c1,p2,k2,c2,e1,e2,e3,hv⟩:=h4 j q hq;exact⟨b,p1,k1,c1,p2,k2,c2,e1,e2,e3,hv.later hb⟩
theorem qvy(W:World)(sg:Bool)(t b:Value):Below W.heap.size W (W.alloc (.cells #[.bool sg,t,b] 85))∧Own (W.alloc (.cells #[.bool sg,t,b] 85)) W.heap.size 3 (qcr sg t b):=
 ⟨qad _ _,qqm _ _ _ _⟩
theorem qj0.push{W:World}{g cap:Nat}{qs:List Rat}{b:Bool}{p1 p2:Option Addr}{k1 c1 k2 c2:Nat}{q:Rat}(h:qj0 W g cap qs)(hk:qs.length<cap)(hv:qaw W (.agg #[.bool b,.slice p1 k1 c1,.slice p2 k2 c2]) q):
  ∃cur:Array Value,W.heap[g]? = some (.cells cur 85 (0,0))∧qs.length*3+3≤cur.size∧
   qj0 (W.setRow g (cur.toList.take (qs.length*3)++[Value.bool b,.slice p1 k1 c1,.slice p2 k2 c2]++cur.toList.drop (qs.length*3+3)).toArray) g cap (qs++[q])∧
   ∀B,B≤g→Below B W (W.setRow g (cur.toList.take (qs.length*3)++[Value.bool b,.slice p1 k1 c1,.slice p2 k2 c2]++cur.toList.drop (qs.length*3+3)).toArray):=by
 obtain⟨h1,cur,hg,h2,h3,h4⟩:=h;have bM:qs.length*3+3≤cur.size:=by omega
 have hfit':qs.length*3+3≤cur.toList.length:=by rw[Array.length_toList];exact bM
 have aE:(cur.toList.take (qs.length*3)).length=qs.length*3:=by rw[List.length_take];omega
 refine⟨cur,hg,bM,⟨by rw[List.length_append];simp;omega,_,setRow_heap W g cur _ _ _ hg, ?_, ?_, ?_⟩,fun B hB=>⟨rfl,rfl,rfl,by simp[World.setRow],fun k hk=>setRow_other W g k _ (by omega)⟩⟩
 ·simp only[List.size_toArray,List.length_append,aE,List.length_cons,List.length_nil,List.length_drop,Array.length_toList]
  omega
 ·intro c hc k z
  rw[List.mem_append,List.mem_append] at hc;rcases hc with(hc|hc)|hc
  ·exact h3 c (List.mem_of_mem_take hc) k z
  ·simp only[List.mem_cons,List.not_mem_nil,or_false] at hc
   rcases hc with rfl|rfl|rfl<;>(intro h;cases h)
  ·exact h3 c (List.mem_of_mem_drop hc) k z
 ·intro j q' hq'
  rcases Nat.lt_or_ge j qs.length with hj|hj
  ·rw[List.getElem?_append_left hj] at hq'
   obtain⟨b',a1,a2,a3,a4,a5,a6,e1,e2,e3,hv'⟩:=h4 j q' hq'
   have key:∀i,i<qs.length*3→(cur.toList.take (qs.length*3)++[Value.bool b,.slice p1 k1 c1,.slice p2 k2 c2]++cur.toList.drop (qs.length*3+3)).toArray.toList[i]? = cur.toList[i]? := by
    intro i hi;rw[List.append_assoc,List.getElem?_append_left (by rw[aE];exact hi),List.getElem?_take_of_lt hi]
   refine⟨b',a1,a2,a3,a4,a5,a6, ?_, ?_, ?_,hv'.setRow hg h3 _⟩
   ·rw[key _ (by omega)];exact e1
   ·rw[key _ (by omega)];exact e2
   ·rw[key _ (by omega)];exact e3
  ·have hj':j=qs.length:=by
    have:=(List.getElem?_eq_some_iff.1 hq').1;rw[List.length_append] at this;simp at this;omega
   subst hj'
   have Ba:q'=q:=by
    rw[List.getElem?_append_right (qac _),Nat.sub_self] at hq'
    simpa using hq'.symm
   subst Ba
   have key:∀i,i<3→(cur.toList.take (qs.length*3)++[Value.bool b,.slice p1 k1 c1,.slice p2 k2 c2]++cur.toList.drop (qs.length*3+3)).toArray.toList[qs.length*3+i]? = [Value.bool b,.slice p1 k1 c1,.slice p2 k2 c2][i]? := by
    intro i hi;rw[List.append_assoc,List.getElem?_append_right (by rw[aE];omega),aE,Nat.add_sub_cancel_left,List.getElem?_append_left (by simpa using hi)]
   exact⟨b,p1,k1,c1,p2,k2,c2,key 0 (by omega),key 1 (by omega),key 2 (by omega),hv.setRow hg h3 _⟩
theorem qj0.get{W:World}{g cap:Nat}{qs:List Rat}(h:qj0 W g cap qs)(j:Nat)(q:Rat)(hq:qs[j]? = some q):
  ∃b p1 k1 c1 p2 k2 c2,W.cell? ⟨g,j*3,none⟩=some (.bool b)∧W.cell? ⟨g,j*3+1,none⟩=some (.slice p1 k1 c1)∧W.cell? ⟨g,j*3+2,none⟩=some (.slice p2 k2 c2)∧qaw W (.agg #[.bool b,.slice p1 k1 c1,.slice p2 k2 c2]) q:=by
 obtain⟨_,cur,hg,_,_,h4⟩:=h;obtain⟨b,p1,k1,c1,p2,k2,c2,e1,e2,e3,hv⟩:=h4 j q hq;refine⟨b,p1,k1,c1,p2,k2,c2, ?_, ?_, ?_,hv⟩
 ·rw[cell_of_row W g _ cur _ (0,0) hg,←Array.getElem?_toList];exact e1
 ·rw[cell_of_row W g _ cur _ (0,0) hg,←Array.getElem?_toList];exact e2
 ·rw[cell_of_row W g _ cur _ (0,0) hg,←Array.getElem?_toList];exact e3
def qai:List Nat→Nat
 | []=>0
 | e::l=>if e=0 then qai l else e
theorem qf6(l m:List Nat)(h:qai l=0):qai (l++m)=qai m:=by
 induction l with
 | nil=>rfl
 | cons e l ih=>
  unfold qai at h;by_cases he:e=0
  ·rw[if_pos he] at h
   show(if e=0 then qai (l++m) else e)=_;rw[if_pos he,ih h]
  ·rw[if_neg he] at h
   exact absurd h he
def qj9(errs:List Nat)(qs:List Rat)(w:World)(e:Ending)(w':World):Prop:=
 (if qai errs=0 then ∃g,w.heap.size≤g∧e = .returned (.tuple #[.slice (some ⟨g,0,none⟩) qs.length qs.length,.int .i64 0])∧qj0 w' g qs.length qs
  else e = .returned (.tuple #[.slice none 0 0,.int .i64 (qai errs)]))∧Below w.heap.size w w'
theorem qo5(n:Nat)(hn:n≤1048576)(w:World):
  (Instr.makeSlice 67 (.int .i64 0) (.int .i64 (n:Int))).run Tryz.prog w = .ok (.slice (some ⟨w.heap.size,0,none⟩) 0 n) (w.alloc (.cells (madeCells #[.bool false,.slice none 0 0,.slice none 0 0] (n*3)) 85)):=by
 obtain⟨i0,hi,cP,dV,eF⟩:=info_parts (show(Tryz.prog.info? 85).map (fun i=>(i.zero,i.size,i.bytes))=some (some (.agg #[.bool false,.slice none 0 0,.slice none 0 0]),3,56) by kernel_rfl);have h:=run_make (P:=Tryz.prog) w 67 85 i0 _ Tryz.underlying67 hi cP .i64 .i64 0 (n:Int) (Int.le_refl _) (by omega) (by rw[eF];omega) (by omega);rw[dV] at h
 simpa [Value.cells] using h
theorem qbp{α:Type}{l:List α}{k:Nat}{s:α}(h:l[k]? = some s):l.take (k+1)=l.take k++[s]:=by
 rw[List.take_add_one,h];rfl
theorem qjg{α:Type}{l:List α}{k:Nat}{s:α}(f:α→Nat)(h:l[k]? = some s)(h0:qai ((l.take k).map f)=0)(hs:f s≠0):qai (l.map f)=f s:=by
 have e:l=l.take k++s::l.drop (k+1):=by
  have hk:=(List.getElem?_eq_some_iff.1 h).1;have hv:=(List.getElem?_eq_some_iff.1 h).2;rw[←hv,List.getElem_cons_drop,List.take_append_drop]
 have e2:l.map f=(l.take k).map f++f s::(l.drop (k+1)).map f:=by
  conv=>lhs;rw[e]
  rw[List.map_append,List.map_cons]
 rw[e2,qf6 _ _ h0];show(if f s=0 then _ else f s)=_;rw[if_neg hs]
theorem qhl{α:Type}{l:List α}{k:Nat}{s:α}(f:α→Nat)(h:l[k]? = some s)(h0:qai ((l.take k).map f)=0)(hs:f s=0):qai ((l.take (k+1)).map f)=0:=by
 rw[qbp h,List.map_append,qf6 _ _ h0];show(if f s=0 then qai [] else f s)=0;rw[if_pos hs];rfl
theorem qzl{errs:List Nat}{qs:List Rat}{w w':World}{k:Nat}{e:Ending}(h:qai errs=k)(hk:k≠0)(he:e = .returned (.tuple #[.slice none 0 0,.int .i64 (k:Int)]))(hb:Below w.heap.size w w'):qj9 errs qs w e w':=by
 unfold qj9;rw[if_neg (by omega),h];exact⟨he,hb⟩
theorem qvz{errs:List Nat}{qs:List Rat}{w w':World}{g n:Nat}{e:Ending}(h:qai errs=0)(hn:qs.length=n)(hg:w.heap.size≤g)(he:e = .returned (.tuple #[.slice (some ⟨g,0,none⟩) n n,.int .i64 0]))(hv:qj0 w' g n qs)(hb:Below w.heap.size w w'):qj9 errs qs w e w':=by
 unfold qj9;rw[if_pos h,hn];exact⟨⟨g,hg,he,hv⟩,hb⟩
theorem q2l{s:BA}{w:World}(h:Calls Tryz.prog 43 #[.string s] w (qkl s.data.toList w))(hc:qah s.data.toList=0):
  Calls Tryz.prog 43 #[.string s] w fun e w'=>(∃v',e = .returned (.tuple #[v',.int .i64 0])∧qaw w' v' (qa9 s.data.toList))∧Below w.heap.size w w':=by
 refine h.mono fun e w' h => ?_;unfold qkl at h;rw[if_pos hc] at h;exact h
theorem q5v{s:BA}{w:World}(h:Calls Tryz.prog 43 #[.string s] w (qkl s.data.toList w))(hc:qah s.data.toList≠0):
  Calls Tryz.prog 43 #[.string s] w fun e w'=>e = .returned (.tuple #[.agg #[.bool false,.slice none 0 0,.slice none 0 0],.int .i64 (qah s.data.toList:Nat)])∧Below w.heap.size w w':=by
 refine h.mono fun e w' h => ?_;unfold qkl at h;rw[if_neg hc] at h;exact h
theorem q2m(l:List BA)(b o c:Nat)(w:World)(hg:GW w)(aB:∀i s,l[i]? = some s→w.cell? ⟨b,o+i,none⟩=some (.string s))(hl:l.length≤1048576)(hs:∀s ∈ l,s.size≤1073741824):
  Calls Tryz.prog 59 #[.slice (some ⟨b,o,none⟩) l.length c,.func (.func 43) #[] #[]] w
   (qj9 (l.map fun s=>qah s.data.toList) (l.map fun s=>qa9 s.data.toList) w):=by
 have HG:=hid hg;have bP:=hid aB;have HS:=hid hs;have kX:=qo5 l.length hl;obtain⟨i0,hi,cP,dV,eF⟩:=info_parts (show(Tryz.prog.info? 85).map (fun i=>(i.zero,i.size,i.bytes))=some (some (.agg #[.bool false,.slice none 0 0,.slice none 0 0]),3,56) by kernel_rfl);have HI:=hid hi;clear hg aB hs hi cP eF;go_enter Tryz.func59,Tryz.ntmps59;go_wp2_with fail;clear kX;have gJ:=hid (qmr w l.length);have dU:Hid (Below w.heap.size w (w.alloc (.cells (madeCells #[.bool false,.slice none 0 0,.slice none 0 0] (l.length*3)) 85))):=hid (qad _ _);generalize w.alloc (.cells (madeCells #[.bool false,.slice none 0 0,.slice none 0 0] (l.length*3)) 85)=w0 at *
 go_loopw [6,16] (fun r i wr=>∃k:Nat,k≤l.length∧i = .int .i64 k∧r = .slice (some ⟨w.heap.size,0,none⟩) k l.length∧Hid (qj0 wr w.heap.size l.length ((l.take k).map fun s=>qa9 s.data.toList))∧Hid (qai ((l.take k).map fun s=>qah s.data.toList)=0)∧Hid (Below w.heap.size w wr)) (fun _ i _=>l.length-(intOf i).toNat)
 case atStart=>exact⟨0,Nat.zero_le _,rfl,rfl,gJ,hid rfl,dU⟩
 case round=>
  obtain⟨k,hk,rfl,rfl,HN,HE,HB⟩:=hrel;clear gJ dU;by_cases cQ:k<l.length
  ·obtain⟨s,cI⟩:∃s,l[k]? = some s:=⟨l[k],qat cQ⟩
   have iN:=bP.out k s cI
   have aC:wr.cell? ⟨b,o+k,none⟩=some (.string s):=by
    rw[HB.out.cell (qaf w _ iN)];exact iN
   have cH:=hid (qe7 s wr (HG.out.later HB.out) (HS.out s (qbj cI)));have oE:=hid cI;clear iN cI;by_cases hc:qah s.data.toList=0
   ·have eS:=hid (q2l cH.out hc)
    have gB:=hid (qhl (fun s:BA=>qah s.data.toList) oE.out HE.out hc);clear cH HE hc;go_wp2_with fail;refine eS.out.mono ?_;rintro e w1 ⟨⟨v',rfl,hv⟩,hb⟩;obtain⟨p1,k1,c1,p2,k2,c2,rfl,eL,dO⟩:=hv.parts
    have jU:((l.take k).map fun s=>qa9 s.data.toList)++[qa9 s.data.toList]=(l.take (k+1)).map fun s=>qa9 s.data.toList:=by
     rw[qbp oE.out,List.map_append];rfl
    have vJ:=hid jU;have gT:((l.take k).map fun s=>qa9 s.data.toList).length=k:=by rw[List.length_map,List.length_take];omega
    have dI:=hid (HN.out.later hb);have gE:=hid hv;have aP:=hid (HB.out.trans (hb.mono HB.out.size));clear eL dO jU hv hb HN HB eS aC;generalize decide ((qa9 s.data.toList).num<0)=sg at *;generalize qa9 s.data.toList=q at *;generalize ((l.take k).map fun s=>qa9 s.data.toList)=qs at *;obtain⟨aD,gG⟩:=qvy w1 sg (.slice p1 k1 c1) (.slice p2 k2 c2);have fX:=hid (dI.out.later aD);have cK:=hid (gE.out.later aD);have kB:w.heap.size≤w1.heap.size:=aP.out.size;have aK:=hid (aP.out.trans (aD.mono kB));obtain⟨x0,x1,x2⟩:=qbs gG;have bL:Below (w1.alloc (.cells #[.bool sg,.slice p1 k1 c1,.slice p2 k2 c2] 85)).heap.size (w1.alloc (.cells #[.bool sg,.slice p1 k1 c1,.slice p2 k2 c2] 85)) ((w1.alloc (.cells #[.bool sg,.slice p1 k1 c1,.slice p2 k2 c2] 85)).alloc (.cells #[.bool sg,.slice p1 k1 c1,.slice p2 k2 c2] 85)):=qad _ _;obtain⟨cur,dX,bM,bZ,bI⟩:=(fX.out.later bL).push (by rw[gT];exact cQ) (cK.out.later bL);have iD:=heap_alloc_new (w1.alloc (.cells #[.bool sg,.slice p1 k1 c1,.slice p2 k2 c2] 85)) (.cells #[.bool sg,.slice p1 k1 c1,.slice p2 k2 c2] 85);rw[qab] at iD;rw[gT] at bM bZ bI;simp only[List.append_assoc,List.cons_append,List.nil_append] at bZ bI;have bV:=hid bZ;have aG:=hid (aK.out.trans ((bL.mono (by rw[qab];omega)).trans (bI w.heap.size (qac _))));have kE:=hid dX;have jL:=hid iD;have dF:=hid bM;clear aD gG bL kB dX bM bZ bI iD dI gE aP fX cK aK gT;go_wp2_with (at_builtin;refine qbu _ rfl _ _ 67 rfl 85 i0 3 Tryz.underlying67 HI.out dV w.heap.size k l.length cur rfl kE.out ⟨w1.heap.size+1,0,none⟩ 1 1 [.bool sg,.slice p1 k1 c1,.slice p2 k2 c2] rfl rfl (World.news_of_block jL.out) ?lQ (by omega) dF.out ?_)
    case lQ=>
     intro u hu;simp only[List.mem_cons,List.not_mem_nil,or_false] at hu;rcases hu with rfl|rfl|rfl<;>rfl
    clear x0 x1 x2;go_wp2_with fail;go_roundw
    case rel=>exact⟨k+1,cQ,by go_num,rfl,hid (by rw[←vJ.out];exact bV.out),gB,aG⟩
    case measure=>simp[intOf];omega
   ·have eS:=hid (q5v cH.out hc)
    have HF:=hid (qjg (fun s:BA=>qah s.data.toList) oE.out HE.out hc);clear cH HE;generalize qah s.data.toList=ck at *;have nE:((ck:Int)==0)=false:=qan (by omega);have eY:=hid hc;clear hc;go_wp2_with fail;refine eS.out.mono ?_;rintro e w1 ⟨rfl,hb⟩;have aP:=hid (HB.out.trans ((hb.mono HB.out.size).trans ((qaa w.heap.size w1).alloc (Nat.le_trans HB.out.size hb.size) (.cells #[.bool false,.slice none 0 0,.slice none 0 0] 85))));clear hb HB eS aC;go_wp2_with fail;go_ret2;exact qzl HF.out eY.out rfl aP.out
  ·obtain rfl:k=l.length:=by omega
   have gT:(l.map fun s=>qa9 s.data.toList).length=l.length:=by rw[List.length_map]
   have jI:=hid gT;have hE:=HE.out;have hN:=HN.out;rw[List.take_length] at hE hN;have HE':=hid hE;have HN':=hid hN;clear hE hN gT HE HN;go_wp2_with fail;go_ret2;exact qvz HE'.out jI.out (qac _) rfl HN'.out HB.out
theorem qms{a b:Nat}(h:qai [a,b]=0):a=0∧b=0:=by
 have h1:(if a=0 then qai [b] else a)=0:=h;by_cases ha:a=0
 ·rw[if_pos ha] at h1
  have h2:(if b=0 then qai [] else b)=0:=h1;by_cases hb:b=0
  ·exact⟨ha,hb⟩
  ·rw[if_neg hb] at h2;exact absurd h2 hb
 ·rw[if_neg ha] at h1;exact absurd h1 ha
theorem q5w(w:World)(x y:BA)(ty:TypeId):∀i s,[x,y][i]? = some s→(w.alloc (.cells #[.string x,.string y] ty)).cell? ⟨w.heap.size,0+i,none⟩=some (.string s):=by
 intro i s h;rw[Nat.zero_add,World.cell?_alloc_at _ _ _ _ rfl]
 match i,h with
 | 0,h=>cases h;rfl
 | 1,h=>cases h;rfl
theorem qxk(x y:BA)(w:World)(hg:GW w)(hx:x.size≤1073741824)(hy:y.size≤1073741824)(ty:TypeId):
  Calls Tryz.prog 59 #[.slice (some ⟨w.heap.size,0,none⟩) 2 2,.func (.func 43) #[] #[]] (w.alloc (.cells #[.string x,.string y] ty))
   (fun e w'=>qj9 [qah x.data.toList,qah y.data.toList] [qa9 x.data.toList,qa9 y.data.toList] (w.alloc (.cells #[.string x,.string y] ty)) e w'∧Below w.heap.size w w'):=by
 have aD:Below w.heap.size w (w.alloc (.cells #[.string x,.string y] ty)):=qad _ _
 refine(q2m [x,y] w.heap.size 0 2 (w.alloc (.cells #[.string x,.string y] ty)) (hg.later aD) (q5w w x y ty) (by simp) (by
  intro s hs;simp only[List.mem_cons,List.not_mem_nil,or_false] at hs
  rcases hs with rfl|rfl<;>assumption)).mono ?_
 intro e w' h;exact⟨h,aD.trans (h.2.mono (by rw[qab];omega))⟩
theorem q8g{x y:BA}{w:World}{ty:TypeId}(h:Calls Tryz.prog 59 #[.slice (some ⟨w.heap.size,0,none⟩) 2 2,.func (.func 43) #[] #[]] (w.alloc (.cells #[.string x,.string y] ty))
   (fun e w'=>qj9 [qah x.data.toList,qah y.data.toList] [qa9 x.data.toList,qa9 y.data.toList] (w.alloc (.cells #[.string x,.string y] ty)) e w'∧Below w.heap.size w w')) (h0:qai [qah x.data.toList,qah y.data.toList]≠0):
  Calls Tryz.prog 59 #[.slice (some ⟨w.heap.size,0,none⟩) 2 2,.func (.func 43) #[] #[]] (w.alloc (.cells #[.string x,.string y] ty))
   (fun e w'=>e = .returned (.tuple #[.slice none 0 0,.int .i64 (qai [qah x.data.toList,qah y.data.toList]:Nat)])∧Below w.heap.size w w'):=by
 refine h.mono ?_;rintro e w' ⟨h1,h2⟩;unfold qj9 at h1;rw[if_neg h0] at h1;exact⟨h1.1,h2⟩
theorem q5x{x y:BA}{w:World}{ty:TypeId}(h:Calls Tryz.prog 59 #[.slice (some ⟨w.heap.size,0,none⟩) 2 2,.func (.func 43) #[] #[]] (w.alloc (.cells #[.string x,.string y] ty))
   (fun e w'=>qj9 [qah x.data.toList,qah y.data.toList] [qa9 x.data.toList,qa9 y.data.toList] (w.alloc (.cells #[.string x,.string y] ty)) e w'∧Below w.heap.size w w')) (h0:qai [qah x.data.toList,qah y.data.toList]=0):
  Calls Tryz.prog 59 #[.slice (some ⟨w.heap.size,0,none⟩) 2 2,.func (.func 43) #[] #[]] (w.alloc (.cells #[.string x,.string y] ty))
   (fun e w'=>(∃g,e = .returned (.tuple #[.slice (some ⟨g,0,none⟩) 2 2,.int .i64 0])∧qj0 w' g 2 [qa9 x.data.toList,qa9 y.data.toList])∧Below w.heap.size w w'):=by
 refine h.mono ?_;rintro e w' ⟨h1,h2⟩;unfold qj9 at h1;rw[if_pos h0] at h1;obtain⟨⟨g,_,he,hn⟩,_⟩:=h1;exact⟨⟨g,he,hn⟩,h2⟩
abbrev za0(g:Nat)(b:Bool)(p1:Option Addr)(k1 c1:Nat)(p2:Option Addr)(k2 c2:Nat)(b':Bool)(p1':Option Addr)(k1' c1':Nat)(p2':Option Addr)(k2' c2':Nat)(W:World):Prop:=
 W.cell? ⟨g,0,none⟩=some (.bool b)∧W.cell? ⟨g,1,none⟩=some (.slice p1 k1 c1)∧W.cell? ⟨g,2,none⟩=some (.slice p2 k2 c2)∧
 W.cell? ⟨g,3,none⟩=some (.bool b')∧W.cell? ⟨g,4,none⟩=some (.slice p1' k1' c1')∧W.cell? ⟨g,5,none⟩=some (.slice p2' k2' c2')
theorem qxl{W:World}{g:Nat}{a c:Rat}(h:qj0 W g 2 [a,c]):∃b p1 k1 c1 p2 k2 c2 b' p1' k1' c1' p2' k2' c2',(∀W',Below W.heap.size W W'→za0 g b p1 k1 c1 p2 k2 c2 b' p1' k1' c1' p2' k2' c2' W')∧
  qaw W (.agg #[.bool b,.slice p1 k1 c1,.slice p2 k2 c2]) a∧qaw W (.agg #[.bool b',.slice p1' k1' c1',.slice p2' k2' c2']) c:=by
 obtain⟨b,p1,k1,c1,p2,k2,c2,e1,e2,e3,hv⟩:=h.get 0 a rfl;obtain⟨b',p1',k1',c1',p2',k2',c2',f1,f2,f3,hv'⟩:=h.get 1 c rfl;refine⟨b,p1,k1,c1,p2,k2,c2,b',p1',k1',c1',p2',k2',c2',fun W' hb => ?_,hv,hv'⟩;have key:∀(o:Nat),W'.cell? ⟨g,o,none⟩=W.cell? ⟨g,o,none⟩:=fun o=>hb.cell h.lt;show _∧_;rw[key,key,key,key,key,key];exact⟨e1,e2,e3,f1,f2,f3⟩
end Go.Proofs.YtmcfcpgglfimjaaGreatDoor
