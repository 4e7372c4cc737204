/- rounded: a number that is rounded by a rule. -/
import Derived.Test.YtlkdlffhmakbgaaGreatDoorMReadRuleB
import Derived.Test.YtlkdlffhmakbgaaGreatDoorMNumWalk
import Derived.Deep.AppendLies
set_option linter.all false
namespace Go.Proofs.YtlkdlffhmakbgaaGreatDoor
open Go.RowKit
set_option maxRecDepth 100000
set_option maxHeartbeats 40000000
def qoz(f:Nat)(q:Rat):Rat:=
 if qlj f (qfe (q-(q.floor:Rat)) (1/2)) (!decide (((q.floor:Rat)/2).den=1)) then(q.floor:Rat)+1 else(q.floor:Rat)
def qi9(f:Nat)(a s:Rat):Rat:=if(a/s).den=1 then a else qoz f (a/s)*s
theorem qva{k:BA}{f:Nat}(h:qdr k=some f):f=145∨f=146∨f=147∨f=148:=by
 unfold qdr at h;split at h
 ·cases h;exact .inl rfl
 split at h
 ·cases h;exact .inr (.inl rfl)
 split at h
 ·cases h;exact .inr (.inr (.inl rfl))
 split at h
 ·cases h;exact .inr (.inr (.inr rfl))
 ·cases h
def qde(w:World)(rf:Value)(rb:Bool)(rt rbo:Value)(na:Bool)(ta ba:Value)(W:World):Prop:=
 Below w.heap.size w W∧Own W w.heap.size 4 (q4j rf (.bool rb) rt rbo)∧Own W (w.heap.size+1) 3 (qcs na ta ba)∧Own W (w.heap.size+1+1) 3 (qcs false (.slice none 0 0) (.slice none 0 0))
section
variable {w W W':World} {rf:Value} {rb:Bool} {rt rbo:Value} {na:Bool} {ta ba:Value}
theorem qde.later(h:qde w rf rb rt rbo na ta ba W)(hb:Below W.heap.size W W'):qde w rf rb rt rbo na ta ba W':=by
 obtain⟨h1,h2,h3,h4⟩:=h;exact⟨h1.trans (hb.mono h1.size),h2.later (hb.mono h2.1),h3.later (hb.mono h3.1),h4.later (hb.mono h4.1)⟩
theorem qde.set(h:qde w rf rb rt rbo na ta ba W){g:Nat}(hg:w.heap.size+1+1<g)(o:Nat)(x:Value):qde w rf rb rt rbo na ta ba (W.setCell ⟨g,o,none⟩ x):=by
 obtain⟨h1,h2,h3,h4⟩:=h;have hb:Below (w.heap.size+1+1+1) W (W.setCell ⟨g,o,none⟩ x):=(qaa _ _).setCell hg x;exact⟨h1.setCell (by show w.heap.size≤g;omega) x,h2.later (hb.mono (by omega)),h3.later (hb.mono (by omega)),h4.later hb⟩
theorem qte(w:World)(rf:Value)(rb:Bool)(rt rbo:Value)(na:Bool)(ta ba:Value):
  qde w rf rb rt rbo na ta ba (((w.alloc (.cells #[rf,.bool rb,rt,rbo] 95)).alloc (.cells #[.bool na,ta,ba] 87)).alloc (.cells #[.bool false,.slice none 0 0,.slice none 0 0] 87)):=by
 have h1:=qh2 w 95 rf (.bool rb) rt rbo;have h2:=qqk (w.alloc (.cells #[rf,.bool rb,rt,rbo] 95)) na ta ba;have h3:=qqk ((w.alloc (.cells #[rf,.bool rb,rt,rbo] 95)).alloc (.cells #[.bool na,ta,ba] 87)) false (.slice none 0 0) (.slice none 0 0);simp only[qab] at h2 h3;have al:∀(V:World) (o:Obj),Below V.heap.size V (V.alloc o):=fun V o=>qad _ _;refine⟨((al w _).trans ((al _ _).mono (by rw[qab];omega))).trans ((al _ _).mono (by rw[qab,qab];omega)), ?_, ?_,h3⟩
 ·exact(h1.later ((al _ _).mono (by rw[qab];omega))).later ((al _ _).mono (by rw[qab,qab];omega))
 ·exact h2.later ((al _ _).mono (by rw[qab,qab];omega))
theorem qcq(h:qde w rf rb rt rbo na ta ba W):W.cell? ⟨w.heap.size,0,none⟩=some rf∧W.cell? ⟨w.heap.size,1,none⟩=some (.bool rb)∧W.cell? ⟨w.heap.size,2,none⟩=some rt∧W.cell? ⟨w.heap.size,3,none⟩=some rbo∧
  W.cell? ⟨w.heap.size+1,0,none⟩=some (.bool na)∧W.cell? ⟨w.heap.size+1,1,none⟩=some ta∧W.cell? ⟨w.heap.size+1,2,none⟩=some ba:=
 ⟨(h.2.1.2 0 (by omega)).1,(h.2.1.2 1 (by omega)).1,(h.2.1.2 2 (by omega)).1,(h.2.1.2 3 (by omega)).1,(h.2.2.1.2 0 (by omega)).1,(h.2.2.1.2 1 (by omega)).1,(h.2.2.1.2 2 (by omega)).1⟩
theorem qvb(h:qde w rf rb rt rbo na ta ba W):
  (W.cell? ⟨w.heap.size+1+1,0,none⟩=some (.bool false)∧W.frozen? ⟨w.heap.size+1+1,0,none⟩=false)∧
  (W.cell? ⟨w.heap.size+1+1,1,none⟩=some (.slice none 0 0)∧W.frozen? ⟨w.heap.size+1+1,1,none⟩=false)∧
  (W.cell? ⟨w.heap.size+1+1,2,none⟩=some (.slice none 0 0)∧W.frozen? ⟨w.heap.size+1+1,2,none⟩=false):=
 ⟨h.2.2.2.2 0 (by omega),h.2.2.2.2 1 (by omega),h.2.2.2.2 2 (by omega)⟩
theorem qdy{f:FuncId}{args:Array Value}{P:Ending→World→Prop}(hW:qde w rf rb rt rbo na ta ba W)
  (h:Calls Tryz.prog f args W fun e w'=>P e w'∧Below W.heap.size W w'):Calls Tryz.prog f args W fun e w'=>P e w'∧qde w rf rb rt rbo na ta ba w'∧Below W.heap.size W w':=
 h.mono fun _ _ ⟨h1,h2⟩=>⟨h1,hW.later h2,h2⟩
end
theorem qo0(W:World)(sg:Bool)(t b:Value):Below W.heap.size W (W.alloc (.cells #[.bool sg,t,b] 87))∧Own (W.alloc (.cells #[.bool sg,t,b] 87)) W.heap.size 3 (qcs sg t b):=
 ⟨qad _ _,qqk _ _ _ _⟩
theorem qrp(f:Nat)(rb:Bool)(rt rbo:Value)(va:Value)(a s:Rat)(w:World)(hs:qau w (.agg #[.bool rb,rt,rbo]) s)(ha:qau w va a)(iA:s.num≠0)(m:Nat)(lJ:bd a m)(jM:bd s m)(eU:1≤m)(hc:m≤1048576)(hw:(a/s).den=1):
  Calls Tryz.prog 47 #[.agg #[.func (.func f) #[] #[],.bool rb,rt,rbo],va] w fun e w'=>(∃v',e = .returned v'∧qau w' v' a)∧Below w.heap.size w w':=by
 have HA:=hid ha;obtain⟨aH,aI,aJ,aN,aL,aO,rfl,dQ,eR⟩:=ha.parts;obtain⟨ps1,ks1,cs1,ps2,ks2,cs2,he,dO,fS⟩:=hs.parts;simp only[Value.agg.injEq,Array.mk.injEq,List.cons.injEq,and_true,Value.bool.injEq] at he;obtain⟨Fx,hrt,Ja⟩:=he;have HS:=hid hs;have aM:=hid (qte w (.func (.func f) #[] #[]) rb rt rbo (decide (a.num<0)) (.slice aH aI aJ) (.slice aN aL aO));have hq:=qnc lJ jM;have xL:Hid (∀W,qde w (.func (.func f) #[] #[]) rb rt rbo (decide (a.num<0)) (.slice aH aI aJ) (.slice aN aL aO) W→Calls Tryz.prog 57 #[.agg #[.bool (decide (a.num<0)),.slice aH aI aJ,.slice aN aL aO],.agg #[.bool rb,rt,rbo]] W fun e w'=>(∃v',e = .returned v'∧qau w' v' (a/s))∧qde w (.func (.func f) #[] #[]) rb rt rbo (decide (a.num<0)) (.slice aH aI aJ) (.slice aN aL aO) w'∧Below W.heap.size W w'):=hid fun W hW=>qdy hW (qfl _ _ a s W (HA.out.later hW.1) (HS.out.later hW.1) iA (by have:=lJ.rs;have:=jM.rs;unfold Cap;omega));have Jb:Hid (∀W v,qde w (.func (.func f) #[] #[]) rb rt rbo (decide (a.num<0)) (.slice aH aI aJ) (.slice aN aL aO) W→qau W v (a/s)→Calls Tryz.prog 99 #[v] W fun e w'=>e = .returned (.bool (decide ((a/s).den=1)))∧qde w (.func (.func f) #[] #[]) rb rt rbo (decide (a.num<0)) (.slice aH aI aJ) (.slice aN aL aO) w'∧Below W.heap.size W w'):=hid fun W v hW hv=>qdy hW (qkk v _ W hv);rw[qag hw] at Jb;subst Fx hrt Ja;clear ha dQ eR hs dO fS lJ jM eU hc iA hq;generalize decide (a.num<0)=na at *;generalize decide (s.num<0)=rb at *;go_enter Tryz.func47,Tryz.ntmps47;go_wp2_with fail;generalize ((w.alloc (.cells #[.func (.func f) #[] #[],.bool rb,.slice ps1 ks1 cs1,.slice ps2 ks2 cs2] 95)).alloc (.cells #[.bool na,.slice aH aI aJ,.slice aN aL aO] 87)).alloc (.cells #[.bool false,.slice none 0 0,.slice none 0 0] 87)=w0 at *;obtain⟨c0,c1,c2,c3,c4,c5,c6⟩:=qcq aM.out;go_wp2_with fail
 refine(xL.out _ aM.out).mono ?_;clear c0 c1 c2 c3 c4 c5 c6;rintro e w1 ⟨⟨v1,rfl,hv⟩,hr,hb⟩;obtain⟨p1,k1,l1,p2,k2,l2,rfl,dW,dP⟩:=hv.parts;clear dW dP;obtain⟨aD,gU⟩:=qo0 w1 (decide ((a/s).num<0)) (.slice p1 k1 l1) (.slice p2 k2 l2);have HR:=hid (hr.later aD);have HV:=hid (hv.later aD);have HX:=hid gU;have hlt1:w.heap.size+1+1<w1.heap.size:=hr.2.2.2.1;clear hr hv hb aD gU xL aM;generalize decide ((a/s).num<0)=s1 at *;go_wp2_with fail;refine(Jb.out _ _ HR.out HV.out).mono ?_;rintro e w2 ⟨rfl,hr,hb⟩;have cK:=hid hr;have cO:=hid (HV.out.later hb);have jL:=hid (HX.out.later (hb.mono HX.out.1));clear hr hb HR HV HX Jb;generalize w1.heap.size=B5 at *;obtain⟨c0,c1,c2,c3,c4,c5,c6⟩:=qcq cK.out;obtain⟨⟨r0,g0⟩,⟨r1,g1⟩,⟨r2,g2⟩⟩:=qvb cK.out;have aF:=hid (qb5 (HA.out.later cK.out.1) r0 r1 r2);have aG:=hid (qaw cK.out.1 (show w.heap.size≤w.heap.size+1+1 by omega) (.bool na) (.slice aH aI aJ) (.slice aN aL aO));clear cK cO jL;go_wp2_with fail;refine bodyPost_ret (v := .agg #[.bool na,.slice aH aI aJ,.slice aN aL aO]) ?_ rfl ?_
 ·simp[results,Tryz.results47,go_sem,r0,r1,r2]
 ·exact⟨⟨_,rfl,aF.out⟩,aG.out⟩
theorem qtf(f:Nat)(rb:Bool)(rt rbo:Value)(va:Value)(a s:Rat)(w:World)(hs:qau w (.agg #[.bool rb,rt,rbo]) s)(ha:qau w va a)(iA:s.num≠0)(m:Nat)(lJ:bd a m)(jM:bd s m)(eU:1≤m)(hc:m≤1048576)(kk:BA)(Qc:qdr kk=some f)(hw:¬(a/s).den=1):
  Calls Tryz.prog 47 #[.agg #[.func (.func f) #[] #[],.bool rb,rt,rbo],va] w fun e w'=>(∃v',e = .returned v'∧qau w' v' (qoz f (a/s)*s))∧Below w.heap.size w w':=by
 have HA:=hid ha;obtain⟨aH,aI,aJ,aN,aL,aO,rfl,dQ,eR⟩:=ha.parts;obtain⟨ps1,ks1,cs1,ps2,ks2,cs2,he,dO,fS⟩:=hs.parts;simp only[Value.agg.injEq,Array.mk.injEq,List.cons.injEq,and_true,Value.bool.injEq] at he;obtain⟨Fx,hrt,Ja⟩:=he;have HS:=hid hs;have aM:=hid (qte w (.func (.func f) #[] #[]) rb rt rbo (decide (a.num<0)) (.slice aH aI aJ) (.slice aN aL aO));have hq:=qnc lJ jM;have xL:Hid (∀W,qde w (.func (.func f) #[] #[]) rb rt rbo (decide (a.num<0)) (.slice aH aI aJ) (.slice aN aL aO) W→Calls Tryz.prog 57 #[.agg #[.bool (decide (a.num<0)),.slice aH aI aJ,.slice aN aL aO],.agg #[.bool rb,rt,rbo]] W fun e w'=>(∃v',e = .returned v'∧qau w' v' (a/s))∧qde w (.func (.func f) #[] #[]) rb rt rbo (decide (a.num<0)) (.slice aH aI aJ) (.slice aN aL aO) w'∧Below W.heap.size W w'):=hid fun W hW=>qdy hW (qfl _ _ a s W (HA.out.later hW.1) (HS.out.later hW.1) iA (by have:=lJ.rs;have:=jM.rs;unfold Cap;omega));have Jb:Hid (∀W v,qde w (.func (.func f) #[] #[]) rb rt rbo (decide (a.num<0)) (.slice aH aI aJ) (.slice aN aL aO) W→qau W v (a/s)→Calls Tryz.prog 99 #[v] W fun e w'=>e = .returned (.bool (decide ((a/s).den=1)))∧qde w (.func (.func f) #[] #[]) rb rt rbo (decide (a.num<0)) (.slice aH aI aJ) (.slice aN aL aO) w'∧Below W.heap.size W w'):=hid fun W v hW hv=>qdy hW (qkk v _ W hv);have Br:=qxa hq (by omega);have Lq:Hid (∀W v,qde w (.func (.func f) #[] #[]) rb rt rbo (decide (a.num<0)) (.slice aH aI aJ) (.slice aN aL aO) W→qau W v (a/s)→Calls Tryz.prog 100 #[v] W fun e w'=>(∃v',e = .returned v'∧qau w' v' ((a/s).floor:Rat))∧qde w (.func (.func f) #[] #[]) rb rt rbo (decide (a.num<0)) (.slice aH aI aJ) (.slice aN aL aO) w'∧Below W.heap.size W w'):=hid fun W v hW hv=>qdy hW (q03 v _ W hv (by have:=hq.rs;unfold Cap;omega))
 have Qd:Hid (∀W v v',qde w (.func (.func f) #[] #[]) rb rt rbo (decide (a.num<0)) (.slice aH aI aJ) (.slice aN aL aO) W→qau W v (a/s)→qau W v' ((a/s).floor:Rat)→Calls Tryz.prog 101 #[v,v'] W fun e w'=>(∃v',e = .returned v'∧qau w' v' (a/s-((a/s).floor:Rat)))∧qde w (.func (.func f) #[] #[]) rb rt rbo (decide (a.num<0)) (.slice aH aI aJ) (.slice aN aL aO) w'∧Below W.heap.size W w'):=hid fun W v v' hW hv hv'=>qdy hW (qs2 v v' _ _ W hv hv' (by have:=hq.rs;have:=Br.rs;unfold Cap;omega));have Cp:Hid (∀W,qde w (.func (.func f) #[] #[]) rb rt rbo (decide (a.num<0)) (.slice aH aI aJ) (.slice aN aL aO) W→Calls Tryz.prog 53 #[.int .i64 1] W fun e w'=>(∃v',e = .returned v'∧qau w' v' 1)∧qde w (.func (.func f) #[] #[]) rb rt rbo (decide (a.num<0)) (.slice aH aI aJ) (.slice aN aL aO) w'∧Below W.heap.size W w'):=hid fun W hW=>qdy hW (qe0 1 W (by omega) (by omega));have Pg:Hid (∀W v,qde w (.func (.func f) #[] #[]) rb rt rbo (decide (a.num<0)) (.slice aH aI aJ) (.slice aN aL aO) W→qau W v 1→Calls Tryz.prog 102 #[v] W fun e w'=>(∃v',e = .returned v'∧qau w' v' (1/2))∧qde w (.func (.func f) #[] #[]) rb rt rbo (decide (a.num<0)) (.slice aH aI aJ) (.slice aN aL aO) w'∧Below W.heap.size W w'):=hid fun W v hW hv=>qdy hW (qxb v 1 W hv 1 (qe2 1 (by omega) (by omega)) (by omega))
 have oV:Hid (∀W v v',qde w (.func (.func f) #[] #[]) rb rt rbo (decide (a.num<0)) (.slice aH aI aJ) (.slice aN aL aO) W→qau W v (a/s-((a/s).floor:Rat))→qau W v' (1/2)→Calls Tryz.prog 51 #[v,v'] W fun e w'=>e = .returned (.int .i64 (qfe (a/s-((a/s).floor:Rat)) (1/2)))∧qde w (.func (.func f) #[] #[]) rb rt rbo (decide (a.num<0)) (.slice aH aI aJ) (.slice aN aL aO) w'∧Below W.heap.size W w'):=hid fun W v v' hW hv hv'=>qdy hW (qdq v v' _ _ W hv hv' (by have:=(q1i hq Br).rs;have:=(qnc (qe2 1 (by omega) (by omega)) (qe2 2 (by omega) (by omega))).rs;have h3:rs (1/2:Rat)≤6:=this;unfold Cap;omega));have Db:Hid (∀W v,qde w (.func (.func f) #[] #[]) rb rt rbo (decide (a.num<0)) (.slice aH aI aJ) (.slice aN aL aO) W→qau W v ((a/s).floor:Rat)→Calls Tryz.prog 102 #[v] W fun e w'=>(∃v',e = .returned v'∧qau w' v' (((a/s).floor:Rat)/2))∧qde w (.func (.func f) #[] #[]) rb rt rbo (decide (a.num<0)) (.slice aH aI aJ) (.slice aN aL aO) w'∧Below W.heap.size W w'):=hid fun W v hW hv=>qdy hW (qxb v _ W hv _ Br (by omega));have gR:Hid (∀W v,qde w (.func (.func f) #[] #[]) rb rt rbo (decide (a.num<0)) (.slice aH aI aJ) (.slice aN aL aO) W→qau W v (((a/s).floor:Rat)/2)→Calls Tryz.prog 99 #[v] W fun e w'=>e = .returned (.bool (decide ((((a/s).floor:Rat)/2).den=1)))∧qde w (.func (.func f) #[] #[]) rb rt rbo (decide (a.num<0)) (.slice aH aI aJ) (.slice aN aL aO) w'∧Below W.heap.size W w'):=hid fun W v hW hv=>qdy hW (qkk v _ W hv);have Qe:Hid (∀W side o,qde w (.func (.func f) #[] #[]) rb rt rbo (decide (a.num<0)) (.slice aH aI aJ) (.slice aN aL aO) W→Calls Tryz.prog f #[.int .i64 side,.bool o] W fun e w'=>e = .returned (.bool (qlj f side o))∧w'=W):=hid fun W side o _=>qy7 kk f Qc side o W
 have yB:Hid (∀W v v',qde w (.func (.func f) #[] #[]) rb rt rbo (decide (a.num<0)) (.slice aH aI aJ) (.slice aN aL aO) W→qau W v ((a/s).floor:Rat)→qau W v' 1→Calls Tryz.prog 67 #[v,v'] W fun e w'=>(∃v',e = .returned v'∧qau w' v' (((a/s).floor:Rat)+1))∧qde w (.func (.func f) #[] #[]) rb rt rbo (decide (a.num<0)) (.slice aH aI aJ) (.slice aN aL aO) w'∧Below W.heap.size W w'):=hid fun W v v' hW hv hv'=>qdy hW (qhw v v' _ _ W hv hv' (by have:=Br.rs;have h3:rs (1:Rat)≤2:=(qe2 1 (by omega) (by omega)).rs;unfold Cap;omega))
 have mS:∀l,l=((a/s).floor:Rat)∨l=((a/s).floor:Rat)+1→bd l (m+m+1+1+1+1):=by
  rintro l (rfl|rfl)
  ·exact Br.mono (by omega)
  ·exact(qnb Br (qe2 1 (by omega) (by omega))).mono (by omega)
 have gH:Hid (∀W v l,l=((a/s).floor:Rat)∨l=((a/s).floor:Rat)+1→qde w (.func (.func f) #[] #[]) rb rt rbo (decide (a.num<0)) (.slice aH aI aJ) (.slice aN aL aO) W→qau W v l→Calls Tryz.prog 55 #[v,.agg #[.bool rb,rt,rbo]] W fun e w'=>(∃v',e = .returned v'∧qau w' v' (l*s))∧qde w (.func (.func f) #[] #[]) rb rt rbo (decide (a.num<0)) (.slice aH aI aJ) (.slice aN aL aO) w'∧Below W.heap.size W w'):=hid fun W v l hl hW hv=>qdy hW (qd8 v _ _ _ W hv (HS.out.later hW.1) (by have:=(mS l hl).rs;have:=jM.rs;unfold Cap;omega));rw[qaf hw] at Jb;have Iw:Hid (qoz f (a/s)=if qlj f (qfe (a/s-((a/s).floor:Rat)) (1/2)) (!decide ((((a/s).floor:Rat)/2).den=1)) then((a/s).floor:Rat)+1 else((a/s).floor:Rat)):=hid rfl;clear mS Br;generalize ((a/s).floor:Rat)=fl at *;generalize a/s-fl=dq at *;generalize qfe dq (1/2)=side at *;generalize decide ((fl/2).den=1)=ev at *;subst Fx hrt Ja;clear ha dQ eR hs dO fS lJ jM eU hc iA hq;generalize decide (a.num<0)=na at *;generalize decide (s.num<0)=rb at *;have hf4:=qva Qc;clear Qc;generalize qoz f (a/s)=RN at *;generalize qlj f=GU at *
 all_goals
  go_enter Tryz.func47,Tryz.ntmps47;go_wp2_with fail;generalize ((w.alloc (.cells #[.func (.func f) #[] #[],.bool rb,.slice ps1 ks1 cs1,.slice ps2 ks2 cs2] 95)).alloc (.cells #[.bool na,.slice aH aI aJ,.slice aN aL aO] 87)).alloc (.cells #[.bool false,.slice none 0 0,.slice none 0 0] 87)=w0 at *;obtain⟨c0,c1,c2,c3,c4,c5,c6⟩:=qcq aM.out;go_wp2_with fail;refine(xL.out _ aM.out).mono ?_;clear c0 c1 c2 c3 c4 c5 c6;rintro e w1 ⟨⟨v1,rfl,hv⟩,hr,hb⟩;obtain⟨p1,k1,l1,p2,k2,l2,rfl,dW,dP⟩:=hv.parts;clear dW dP;obtain⟨aD,gU⟩:=qo0 w1 (decide ((a/s).num<0)) (.slice p1 k1 l1) (.slice p2 k2 l2);have HR:=hid (hr.later aD);have HV:=hid (hv.later aD);have HX:=hid gU;have hlt1:w.heap.size+1+1<w1.heap.size:=hr.2.2.2.1;clear hr hv hb aD gU xL aM;generalize decide ((a/s).num<0)=s1 at *;go_wp2_with fail;refine(Jb.out _ _ HR.out HV.out).mono ?_;rintro e w2 ⟨rfl,hr,hb⟩;have cK:=hid hr;have cO:=hid (HV.out.later hb);have jL:=hid (HX.out.later (hb.mono HX.out.1));clear hr hb HR HV HX Jb;generalize w1.heap.size=B5 at *;obtain⟨x0,x1,x2⟩:=qbt jL.out;go_wp2_with fail;refine(Lq.out _ _ cK.out cO.out).mono ?_;clear x0 x1 x2;rintro e w3 ⟨⟨v3,rfl,hv⟩,hr,hb⟩;obtain⟨p3,k3,l3,p4,k4,l4,rfl,dW,dP⟩:=hv.parts;clear dW dP;obtain⟨aD,gU⟩:=qo0 w3 (decide (fl.num<0)) (.slice p3 k3 l3) (.slice p4 k4 l4);have fP:=hid (hr.later aD);have wK:=hid (hv.later aD);have jH:=hid ((cO.out.later hb).later aD);have jW:=hid ((jL.out.later (hb.mono jL.out.1)).later (aD.mono (by have:=jL.out.1;have:=hb.size;omega)));have HY3:=hid gU;have Jc:w.heap.size+1+1<w3.heap.size:=hr.2.2.2.1;clear hr hv hb aD gU cK cO jL Lq;generalize decide (fl.num<0)=s3 at *;obtain⟨x0,x1,x2⟩:=qbt jW.out;go_wp2_with fail;refine(Qd.out _ _ _ fP.out jH.out wK.out).mono ?_;clear x0 x1 x2;rintro e w4 ⟨⟨v4,rfl,hv⟩,hr,hb⟩;have HD4:=hid hv;have oT:=hid hr
  have HF4:=hid (wK.out.later hb);have HY4:=hid (HY3.out.later (hb.mono HY3.out.1));clear hv hr hb fP jH wK jW HY3 Qd;go_wp2_with fail;refine(Cp.out _ oT.out).mono ?_;rintro e w5 ⟨⟨v5,rfl,hv⟩,hr,hb⟩;have zY:=hid hv;have qL:=hid hr;have HD5:=hid (HD4.out.later hb);have HF5:=hid (HF4.out.later hb);have HY5:=hid (HY4.out.later (hb.mono HY4.out.1));clear hv hr hb oT HD4 HF4 HY4;go_wp2_with fail;refine(Pg.out _ _ qL.out zY.out).mono ?_;rintro e w6 ⟨⟨v6,rfl,hv⟩,hr,hb⟩;have HH6:=hid hv;have Fw:=hid hr;have HD6:=hid (HD5.out.later hb);have HF6:=hid (HF5.out.later hb);have HY6:=hid (HY5.out.later (hb.mono HY5.out.1));clear hv hr hb qL HD5 HF5 HY5 zY Pg;go_wp2_with fail;refine(oV.out _ _ _ Fw.out HD6.out HH6.out).mono ?_;rintro e w7 ⟨rfl,hr,hb⟩;have yE:=hid (hr.later ((qaa _ _).drew));have Dk:=hid ((HF6.out.later hb).later ((qaa _ _).drew));have Bs:=hid ((HY6.out.later (hb.mono HY6.out.1)).later ((qaa _ _).drew));clear hr hb Fw HD6 HF6 HY6 HH6 oV;generalize w3.heap.size=B6 at *;go_wp2_with fail;rcases hf4 with rfl|rfl|rfl|rfl
  all_goals
   have cA:=qcq yE.out;have xA:=qbt Bs.out
   first
   | (go_region_held3 (fun W=>(W.cell? ⟨w.heap.size,0,none⟩=some (.func (.func 145) #[] #[]))∧(W.cell? ⟨B6,0,none⟩=some (.bool s3)∧W.cell? ⟨B6,1,none⟩=some (.slice p3 k3 l3)∧W.cell? ⟨B6,2,none⟩=some (.slice p4 k4 l4))) (first|with_reducible exact⟨cA.1,xA⟩|with_reducible exact⟨cB.1,xB⟩|with_reducible exact⟨cC.1,xC⟩)
    (first
     | (go_at_call 102;((with_reducible refine(Db.out _ _ yE.out Dk.out).mono ?_);rintro e wX ⟨⟨vX,rfl,hn⟩,ht,hb⟩;have gG:=hid hn;have zK:=hid ht;have Fy:=hid (Dk.out.later hb);have fF:=hid (Bs.out.later (hb.mono Bs.out.1));have cB:=qcq ht;have xB:=qbt fF.out;clear hn ht hb))
     | (go_at_call 99;((with_reducible refine(gR.out _ _ zK.out gG.out).mono ?_);rintro e wY ⟨rfl,ht,hb⟩;have yF:=hid ht;have Fz:=hid (Fy.out.later hb);have zZ:=hid (fF.out.later (hb.mono fF.out.1));have cC:=qcq ht;have xC:=qbt zZ.out;clear ht hb))
     | (go_at_call 145;((refine(Qe.out _ _ _ yF.out).mono ?_);rintro e wZ ⟨rfl,Aa⟩;rw[Aa];clear Aa))))
   | (go_region_held3 (fun W=>(W.cell? ⟨w.heap.size,0,none⟩=some (.func (.func 146) #[] #[]))∧(W.cell? ⟨B6,0,none⟩=some (.bool s3)∧W.cell? ⟨B6,1,none⟩=some (.slice p3 k3 l3)∧W.cell? ⟨B6,2,none⟩=some (.slice p4 k4 l4))) (first|with_reducible exact⟨cA.1,xA⟩|with_reducible exact⟨cB.1,xB⟩|with_reducible exact⟨cC.1,xC⟩)
    (first
     | (go_at_call 102;((with_reducible refine(Db.out _ _ yE.out Dk.out).mono ?_);rintro e wX ⟨⟨vX,rfl,hn⟩,ht,hb⟩;have gG:=hid hn;have zK:=hid ht;have Fy:=hid (Dk.out.later hb);have fF:=hid (Bs.out.later (hb.mono Bs.out.1));have cB:=qcq ht;have xB:=qbt fF.out;clear hn ht hb))
     | (go_at_call 99;((with_reducible refine(gR.out _ _ zK.out gG.out).mono ?_);rintro e wY ⟨rfl,ht,hb⟩;have yF:=hid ht;have Fz:=hid (Fy.out.later hb);have zZ:=hid (fF.out.later (hb.mono fF.out.1));have cC:=qcq ht;have xC:=qbt zZ.out;clear ht hb))
     | (go_at_call 146;((refine(Qe.out _ _ _ yF.out).mono ?_);rintro e wZ ⟨rfl,Aa⟩;rw[Aa];clear Aa))))
   | (go_region_held3 (fun W=>(W.cell? ⟨w.heap.size,0,none⟩=some (.func (.func 147) #[] #[]))∧(W.cell? ⟨B6,0,none⟩=some (.bool s3)∧W.cell? ⟨B6,1,none⟩=some (.slice p3 k3 l3)∧W.cell? ⟨B6,2,none⟩=some (.slice p4 k4 l4))) (first|with_reducible exact⟨cA.1,xA⟩|with_reducible exact⟨cB.1,xB⟩|with_reducible exact⟨cC.1,xC⟩)
    (first
     | (go_at_call 102;((with_reducible refine(Db.out _ _ yE.out Dk.out).mono ?_);rintro e wX ⟨⟨vX,rfl,hn⟩,ht,hb⟩;have gG:=hid hn;have zK:=hid ht;have Fy:=hid (Dk.out.later hb);have fF:=hid (Bs.out.later (hb.mono Bs.out.1));have cB:=qcq ht;have xB:=qbt fF.out;clear hn ht hb))
     | (go_at_call 99;((with_reducible refine(gR.out _ _ zK.out gG.out).mono ?_);rintro e wY ⟨rfl,ht,hb⟩;have yF:=hid ht;have Fz:=hid (Fy.out.later hb);have zZ:=hid (fF.out.later (hb.mono fF.out.1));have cC:=qcq ht;have xC:=qbt zZ.out;clear ht hb))
     | (go_at_call 147;((refine(Qe.out _ _ _ yF.out).mono ?_);rintro e wZ ⟨rfl,Aa⟩;rw[Aa];clear Aa))))
   | (go_region_held3 (fun W=>(W.cell? ⟨w.heap.size,0,none⟩=some (.func (.func 148) #[] #[]))∧(W.cell? ⟨B6,0,none⟩=some (.bool s3)∧W.cell? ⟨B6,1,none⟩=some (.slice p3 k3 l3)∧W.cell? ⟨B6,2,none⟩=some (.slice p4 k4 l4))) (first|with_reducible exact⟨cA.1,xA⟩|with_reducible exact⟨cB.1,xB⟩|with_reducible exact⟨cC.1,xC⟩)
    (first
     | (go_at_call 102;((with_reducible refine(Db.out _ _ yE.out Dk.out).mono ?_);rintro e wX ⟨⟨vX,rfl,hn⟩,ht,hb⟩;have gG:=hid hn;have zK:=hid ht;have Fy:=hid (Dk.out.later hb);have fF:=hid (Bs.out.later (hb.mono Bs.out.1));have cB:=qcq ht;have xB:=qbt fF.out;clear hn ht hb))
     | (go_at_call 99;((with_reducible refine(gR.out _ _ zK.out gG.out).mono ?_);rintro e wY ⟨rfl,ht,hb⟩;have yF:=hid ht;have Fz:=hid (Fy.out.later hb);have zZ:=hid (fF.out.later (hb.mono fF.out.1));have cC:=qcq ht;have xC:=qbt zZ.out;clear ht hb))
     | (go_at_call 148;((refine(Qe.out _ _ _ yF.out).mono ?_);rintro e wZ ⟨rfl,Aa⟩;rw[Aa];clear Aa))))
   have HFZ:=hid Fz.out;clear cA xA cB xB cC xC yE Dk Bs zK Fy fF gG Db gR Qe;generalize GU side (!ev)=gu at *;cases gu
   ·have HE:Hid (RN=fl):=hid Iw.out
    obtain⟨c0,c1,c2,c3,c4,c5,c6⟩:=qcq yF.out;obtain⟨x0,x1,x2⟩:=qbt zZ.out;go_wp2_with fail;refine(gH.out _ _ fl (.inl rfl) yF.out Fz.out).mono ?_;clear c0 c1 c2 c3 c4 c5 c6 x0 x1 x2;rintro e wT ⟨⟨vT,rfl,hv⟩,hr,hb⟩;obtain⟨pt,kt,ct,pf,kf,cf,rfl,dW,dP⟩:=hv.parts;generalize decide ((fl*s).num<0)=sg at *;obtain⟨⟨r0,g0⟩,⟨r1,g1⟩,⟨r2,g2⟩⟩:=qvb hr;have aF:=hid (qb5 hv r0 r1 r2);have aG:=hid (qaw hr.1 (show w.heap.size≤w.heap.size+1+1 by omega) (.bool sg) (.slice pt kt ct) (.slice pf kf cf));clear dW dP hv hr hb yF Fz zZ HFZ;go_wp2_with fail;refine bodyPost_ret (v := .agg #[.bool sg,.slice pt kt ct,.slice pf kf cf]) ?_ rfl ?_
    ·simp[results,Tryz.results47,go_sem,r0,r1,r2]
    ·exact⟨⟨_,rfl,by rw[HE.out];exact aF.out⟩,aG.out⟩
   ·have HE:Hid (RN=fl+1):=hid Iw.out
    go_wp2_with fail;have cJ:=hid (yF.out.later ((qaa _ _).drew));have HFD:=hid (Fz.out.later ((qaa _ _).drew));have HYD:Hid (Own wY.drew B6 3 (qcs s3 (.slice p3 k3 l3) (.slice p4 k4 l4))):=hid (zZ.out.later ((qaa _ _).drew));obtain⟨x0,x1,x2⟩:=qbt HYD.out
    go_region_with (first
     | (go_at_call 53;((with_reducible refine(Cp.out _ cJ.out).mono ?_);rintro e wU ⟨⟨vU,rfl,hn⟩,ht,hb⟩;have HVU:=hid hn;have HRU:=hid ht;have HFU:=hid (HFD.out.later hb);have HYU:=hid (HYD.out.later (hb.mono HYD.out.1));clear x0 x1 x2;obtain⟨x0,x1,x2⟩:=qbt HYU.out;clear hn ht hb))
     | (go_at_call 67;((with_reducible refine(yB.out _ _ _ HRU.out HFU.out HVU.out).mono ?_);rintro e wV ⟨⟨vV,rfl,hn⟩,ht,hb⟩;have sM:=hid hn;have Gz:=hid ht;have Dm:=hid (HYU.out.later (hb.mono HYU.out.1));obtain⟨pt,kt,ct,pf,kf,cf,rfl,dW,dP⟩:=hn.parts;generalize decide ((fl+1).num<0)=sv at *;clear x0 x1 x2;obtain⟨x0,x1,x2⟩:=qbt Dm.out;have y0:=(Dm.out.2 0 (by omega)).2;have y1:=(Dm.out.2 1 (by omega)).2;have y2:=(Dm.out.2 2 (by omega)).2;clear hn ht hb dW dP)))
    all_goals
    have Ll:=((Gz.out.set Jc 0 (.bool sv)).set Jc 1 (.slice pt kt ct)).set Jc 2 (.slice pf kf cf);have h1:=qbp sM.out Dm.out 0 (by omega) (by intro k z h;cases h) (.bool sv);have h2:=qbp h1 (Dm.out.set 0 (by omega) (.bool sv)) 1 (by omega) (by intro k z h;cases h) (.slice pt kt ct);have h3:=qbp h2 ((Dm.out.set 0 (by omega) (.bool sv)).set 1 (by omega) (.slice pt kt ct)) 2 (by omega) (by intro k z h;cases h) (.slice pf kf cf)
    have ho:=(((Dm.out.set 0 (by omega) (.bool sv)).set 1 (by omega) (.slice pt kt ct)).set 2 (by omega) (.slice pf kf cf)).congr (f':=qcs sv (.slice pt kt ct) (.slice pf kf cf)) (fun i hi=>by
     match i,hi with
     | 0,_=>rfl
     | 1,_=>rfl
     | 2,_=>rfl)
    clear h1 h2 x0 x1 x2 y0 y1 y2 Dm Gz sM HRU HFU HYU HVU cJ HFD HYD yF Fz zZ HFZ Cp yB;generalize ((wV.setCell ⟨B6,0,none⟩ (.bool sv)).setCell ⟨B6,1,none⟩ (.slice pt kt ct)).setCell ⟨B6,2,none⟩ (.slice pf kf cf)=wW at *;have pS:=hid Ll;have HFW:=hid h3;obtain⟨c0,c1,c2,c3,c4,c5,c6⟩:=qcq Ll;obtain⟨x0,x1,x2⟩:=qbt ho;clear Ll h3 ho;go_wp2_with fail;refine(gH.out _ _ (fl+1) (.inr rfl) pS.out HFW.out).mono ?_;clear c0 c1 c2 c3 c4 c5 c6 x0 x1 x2;rintro e wT ⟨⟨vT,rfl,hv⟩,hr,hb⟩;obtain⟨pu,ku,cu,pg,kg,cg,rfl,dW,dP⟩:=hv.parts;generalize decide (((fl+1)*s).num<0)=sg at *;obtain⟨⟨r0,g0⟩,⟨r1,g1⟩,⟨r2,g2⟩⟩:=qvb hr;have aF:=hid (qb5 hv r0 r1 r2);have aG:=hid (qaw hr.1 (show w.heap.size≤w.heap.size+1+1 by omega) (.bool sg) (.slice pu ku cu) (.slice pg kg cg));clear dW dP hv hr hb pS HFW;go_wp2_with fail;refine bodyPost_ret (v := .agg #[.bool sg,.slice pu ku cu,.slice pg kg cg]) ?_ rfl ?_
    ·simp[results,Tryz.results47,go_sem,r0,r1,r2]
    ·exact⟨⟨_,rfl,by rw[HE.out];exact aF.out⟩,aG.out⟩
theorem qvc(f:Nat)(rb:Bool)(rt rbo:Value)(va:Value)(a s:Rat)(w:World)(hs:qau w (.agg #[.bool rb,rt,rbo]) s)(ha:qau w va a)(iA:s.num≠0)(m:Nat)(lJ:bd a m)(jM:bd s m)(eU:1≤m)(hc:m≤1048576)(kk:BA)(Qc:qdr kk=some f):
  Calls Tryz.prog 47 #[.agg #[.func (.func f) #[] #[],.bool rb,rt,rbo],va] w fun e w'=>(∃v',e = .returned v'∧qau w' v' (qi9 f a s))∧Below w.heap.size w w':=by
 by_cases hw:(a/s).den=1
 ·have e1:qi9 f a s=a:=if_pos hw
  rw[e1];exact qrp f rb rt rbo va a s w hs ha iA m lJ jM eU hc hw
 ·have e1:qi9 f a s=qoz f (a/s)*s:=if_neg hw
  rw[e1];exact qtf f rb rt rbo va a s w hs ha iA m lJ jM eU hc kk Qc hw
def qju(l:List UInt8)(k:BA)(step:List UInt8):Rat:=qi9 ((qdr k).getD 0) (qbc l) (qbc step)
def qh3(l:List UInt8)(k:BA)(step:List UInt8)(w:World)(e:Ending)(w':World):Prop:=
 if qah l≠0 then e = .returned (.tuple #[.string ⟨#[]⟩,.int .i64 (qah l)])∧Below w.heap.size w w'
 else if qa8 k step≠0 then e = .returned (.tuple #[.string ⟨#[]⟩,.int .i64 (qa8 k step)])∧Below w.heap.size w w'
 else qmq (qju l k step) w e w'
theorem qy8{q:Rat}{w0 w w':World}{e:Ending}(hb:Below w0.heap.size w0 w)(h:qmq q w e w'):qmq q w0 e w':=⟨h.1,hb.trans (h.2.mono hb.size)⟩
theorem qy9{q:Rat}{w w':World}{e:Ending}(h:qmq q w e w'):∃(tx:BA) (ec:Int),e = .returned (.tuple #[.string tx,.int .i64 ec])∧qmq q w (.returned (.tuple #[.string tx,.int .i64 ec])) w':=by
 have h1:=h.1;exact⟨_,_,h1,by rw[←h1];exact h⟩
theorem qp5{k:BA}{step:List UInt8}(h:qa8 k step=0):qah step=0∧0<(qbc step).num∧∃f,qdr k=some f:=by
 unfold qa8 at h;split at h
 ·cases h
 ·rename_i h1
  split at h
  ·rename_i h2;exact absurd h h2
  ·rename_i h2
   split at h
   ·cases h
   ·rename_i h3
    refine⟨by omega,by omega, ?_⟩;cases hk:qdr k
    ·exact absurd hk h1
    ·exact⟨_,rfl⟩
theorem q1m(f:Nat){q:Rat}{m:Nat}(h:bd q m)(hm:1≤m):bd (qoz f q) (m+1+1+1):=by
 unfold qoz;have hf:=qxa h hm;split
 ·exact(qnb hf (qe2 1 (by omega) (by omega))).mono (by omega)
 ·exact hf.mono (by omega)
theorem q5a(f:Nat){a s:Rat}{m:Nat}(ha:bd a m)(hs:bd s m)(hm:1≤m):bd (qi9 f a s) (3*m+4):=by
 unfold qi9;split
 ·exact ha.mono (by omega)
 ·exact(qe3 (q1m f (qnc ha hs) (by omega)) hs).mono (by omega)
def qvd(w:World)(k s:BA)(W:World):Prop:=Below w.heap.size w W∧Own W w.heap.size 2 (qu8 (.string k) (.string s))
theorem qvd.later{w W W':World}{k s:BA}(h:qvd w k s W)(hb:Below W.heap.size W W'):qvd w k s W':=
 ⟨h.1.trans (hb.mono h.1.size),h.2.later (hb.mono h.2.1)⟩
theorem q5b(w:World)(k s:BA):qvd w k s (w.alloc (.cells #[.string k,.string s] 44)):=
 ⟨qad _ _,qd3 _ _ _ _⟩
theorem qo1(s:BA)(w:World)(hg:GW w)(hs:s.size≤1073741824)(h0:qah s.data.toList≠0):
  Calls Tryz.prog 45 #[.string s] w fun e w'=>e = .returned (.tuple #[.agg #[.bool false,.slice none 0 0,.slice none 0 0],.int .i64 (qah s.data.toList:Nat)])∧Below w.heap.size w w':=
 (qe8 s w hg hs).mono fun e w' h=>by
  unfold qkm at h;rw[if_neg h0] at h;exact h
theorem qms(s:BA)(w:World)(hg:GW w)(hs:s.size≤1073741824)(h0:qah s.data.toList=0):
  Calls Tryz.prog 45 #[.string s] w fun e w'=>(∃v',e = .returned (.tuple #[v',.int .i64 0])∧qau w' v' (qbc s.data.toList))∧Below w.heap.size w w':=
 (qe8 s w hg hs).mono fun e w' h=>by
  unfold qkm at h;rw[if_pos h0] at h;exact h
theorem qtg(k s:BA)(w:World)(hg:GW w)(hs:s.size≤1073741824)(h0:qa8 k s.data.toList≠0):
  Calls Tryz.prog 46 #[.agg #[.string k,.string s]] w fun e w'=>e = .returned (.tuple #[.agg #[.nilFunc,.bool false,.slice none 0 0,.slice none 0 0],.int .i64 (qa8 k s.data.toList:Nat)])∧Below w.heap.size w w':=
 (qnd k s w hg hs).mono fun e w' h=>by
  unfold qi8 at h;rw[if_neg h0] at h;exact h
theorem qrq(k s:BA)(f:Nat)(hf:qdr k=some f)(w:World)(hg:GW w)(hs:s.size≤1073741824)(h0:qa8 k s.data.toList=0):
  Calls Tryz.prog 46 #[.agg #[.string k,.string s]] w fun e w'=>(∃b t bo,e = .returned (.tuple #[.agg #[.func (.func f) #[] #[],.bool b,t,bo],.int .i64 0])∧qau w' (.agg #[.bool b,t,bo]) (qbc s.data.toList))∧Below w.heap.size w w':=
 (qnd k s w hg hs).mono fun e w' h=>by
  unfold qi8 at h;rw[if_pos h0] at h;obtain⟨⟨f',v,b,t,bo,he,hf',rfl,hv⟩,hb⟩:=h;rw[hf] at hf';cases hf'
  exact⟨⟨b,t,bo,he,hv⟩,hb⟩
theorem qth(x k s:BA)(w:World)(hg:GW w)(hx:x.size≤1073741824)(hs:s.size≤1073741824):
  Calls Tryz.prog 15 #[.string x,.agg #[.string k,.string s]] w (qh3 x.data.toList k s.data.toList w):=by
 have aM:=hid (q5b w k s);by_cases h0:qah x.data.toList=0
 ·have cJ:Hid (∀W,qvd w k s W→Calls Tryz.prog 45 #[.string x] W fun e w'=>(∃v',e = .returned (.tuple #[v',.int .i64 0])∧qau w' v' (qbc x.data.toList))∧qvd w k s w'):=hid fun W hW=>(qms x W (hg.later hW.1) hx h0).mono fun e w' ⟨h1,h2⟩=>⟨h1,hW.later h2⟩
  by_cases h1:qa8 k s.data.toList=0
  ·obtain⟨uD,lM,f,hf⟩:=qp5 h1
   have aF:Hid (∀e w',qmq (qi9 f (qbc x.data.toList) (qbc s.data.toList)) w e w'→qh3 x.data.toList k s.data.toList w e w'):=hid fun e w' h=>by
    unfold qh3;rw[if_neg (by omega),if_neg (by omega)];unfold qju;rw[hf];exact h
   have Qf:Hid (∀W,qvd w k s W→Calls Tryz.prog 46 #[.agg #[.string k,.string s]] W fun e w'=>(∃b t bo,e = .returned (.tuple #[.agg #[.func (.func f) #[] #[],.bool b,t,bo],.int .i64 0])∧qau w' (.agg #[.bool b,t,bo]) (qbc s.data.toList))∧qvd w k s w'∧Below W.heap.size W w'):=hid fun W hW=>(qrq k s f hf W (hg.later hW.1) hs h1).mono fun e w' ⟨h1,h2⟩=>⟨h1,hW.later h2,h2⟩;have gU:=qim h0;have kM:=qim uD;have Iw:Hid (∀W v b t bo,qvd w k s W→qau W v (qbc x.data.toList)→qau W (.agg #[.bool b,t,bo]) (qbc s.data.toList)→Calls Tryz.prog 47 #[.agg #[.func (.func f) #[] #[],.bool b,t,bo],v] W fun e w'=>(∃v',e = .returned v'∧qau w' v' (qi9 f (qbc x.data.toList) (qbc s.data.toList)))∧qvd w k s w'):=hid fun W v b t bo hW hv hv'=>(qvc f b t bo v _ _ W hv' hv (by omega) 600 gU kM (by omega) (by omega) k hf).mono fun e w' ⟨h1,h2⟩=>⟨h1,hW.later h2⟩;have Bt:Hid (∀W v,qvd w k s W→qau W v (qi9 f (qbc x.data.toList) (qbc s.data.toList))→Calls Tryz.prog 44 #[v] W (qmq (qi9 f (qbc x.data.toList) (qbc s.data.toList)) w)):=hid fun W v hW hv=>(qi6 v _ W hv (by have:=(q5a f gU kM (by omega)).rs;unfold Cap;omega)).mono fun e w' h=>qy8 hW.1 h;clear hg hx hs h0 h1 uD lM hf gU kM;generalize qbc x.data.toList=qx at *;generalize qbc s.data.toList=qs at *;generalize qi9 f qx qs=qr at *;go_enter Tryz.func15,Tryz.ntmps15;go_wp2_with fail;refine(cJ.out _ aM.out).mono ?_;rintro e w1 ⟨⟨v1,rfl,hv⟩,hr⟩;obtain⟨p1,k1,l1,p2,k2,l2,rfl,dW,dP⟩:=hv.parts;clear dW dP;obtain⟨aD,gU⟩:=qo0 w1 (decide (qx.num<0)) (.slice p1 k1 l1) (.slice p2 k2 l2);have oF:=hid (hr.later aD);have gS:=hid (hv.later aD);have lR:=hid gU;clear hr hv aD gU cJ aM;generalize decide (qx.num<0)=s1 at *;obtain⟨c0,c1⟩:=qaq oF.out.2;go_wp2_with fail;refine(Qf.out _ oF.out).mono ?_;clear c0 c1;rintro e w2 ⟨⟨rb,rt,rbo,rfl,hv⟩,hr,hb⟩
   obtain⟨pt,kt,ct,pf,kf,cf,he,dW,dP⟩:=hv.parts;simp only[Value.agg.injEq,Array.mk.injEq,List.cons.injEq,and_true] at he;obtain⟨he0,rfl,rfl⟩:=he;clear he0 dW dP;have aD:Below w2.heap.size w2 (w2.alloc (.cells #[.func (.func f) #[] #[],.bool rb,.slice pt kt ct,.slice pf kf cf] 95)):=qad _ _;have cK:=hid (hr.later aD);have cL:=hid (hv.later aD);have cO:=hid ((gS.out.later hb).later aD);have qP:=(lR.out.later (hb.mono lR.out.1)).later (aD.mono (by have:=lR.out.1;have:=hb.size;omega));obtain⟨x0,x1,x2⟩:=qbt qP;clear hr hv hb aD qP oF gS lR Qf;go_wp2_with fail;refine(Iw.out _ _ _ _ _ cK.out cO.out cL.out).mono ?_;clear x0 x1 x2;rintro e w3 ⟨⟨v3,rfl,hv⟩,hr⟩;have fP:=hid hr;have jH:=hid hv;clear hr hv cK cO cL Iw;go_wp2_with fail;refine(Bt.out _ _ fP.out jH.out).mono ?_;rintro e w4 h;obtain⟨tx,ec,rfl,h2⟩:=qy9 h;have HF4:=hid (aF.out _ _ h2);clear h h2 fP jH Bt aF;go_wp2_with fail;go_ret2;exact HF4.out
  ·have Qf:Hid (∀W,qvd w k s W→Calls Tryz.prog 46 #[.agg #[.string k,.string s]] W fun e w'=>e = .returned (.tuple #[.agg #[.nilFunc,.bool false,.slice none 0 0,.slice none 0 0],.int .i64 (qa8 k s.data.toList:Nat)])∧qvd w k s w'∧Below W.heap.size W w'):=hid fun W hW=>(qtg k s W (hg.later hW.1) hs h1).mono fun e w' ⟨h1,h2⟩=>⟨h1,hW.later h2,h2⟩
   have aF:Hid (∀w',Below w.heap.size w w'→qh3 x.data.toList k s.data.toList w (.returned (.tuple #[.string ⟨#[]⟩,.int .i64 (qa8 k s.data.toList:Nat)])) w'):=hid fun w' h=>by
    unfold qh3;rw[if_neg (by omega),if_pos h1];exact⟨rfl,h⟩
   have dS:((qa8 k s.data.toList:Int)==0)=false:=qam (by omega);clear hg hx hs h0 h1;generalize qa8 k s.data.toList=c at *;generalize qbc x.data.toList=qx at *;go_enter Tryz.func15,Tryz.ntmps15;go_wp2_with fail;refine(cJ.out _ aM.out).mono ?_;rintro e w1 ⟨⟨v1,rfl,hv⟩,hr⟩;obtain⟨p1,k1,l1,p2,k2,l2,rfl,dW,dP⟩:=hv.parts;clear dW dP hv;obtain⟨aD,gU⟩:=qo0 w1 (decide (qx.num<0)) (.slice p1 k1 l1) (.slice p2 k2 l2);have oF:=hid (hr.later aD);clear hr aD gU cJ aM;generalize decide (qx.num<0)=s1 at *;obtain⟨c0,c1⟩:=qaq oF.out.2;go_wp2_with fail;refine(Qf.out _ oF.out).mono ?_;clear c0 c1;rintro e w2 ⟨rfl,hr,hb⟩;have aK:Hid (Below w.heap.size w (w2.alloc (.cells #[.nilFunc,.bool false,.slice none 0 0,.slice none 0 0] 95))):=hid (hr.1.alloc hr.1.size _);clear hr hb oF Qf;go_wp2_with fail;go_ret2;exact aF.out _ aK.out
 ·have cJ:Hid (∀W,qvd w k s W→Calls Tryz.prog 45 #[.string x] W fun e w'=>e = .returned (.tuple #[.agg #[.bool false,.slice none 0 0,.slice none 0 0],.int .i64 (qah x.data.toList:Nat)])∧qvd w k s w'):=hid fun W hW=>(qo1 x W (hg.later hW.1) hx h0).mono fun e w' ⟨h1,h2⟩=>⟨h1,hW.later h2⟩
  have aF:Hid (∀w',Below w.heap.size w w'→qh3 x.data.toList k s.data.toList w (.returned (.tuple #[.string ⟨#[]⟩,.int .i64 (qah x.data.toList:Nat)])) w'):=hid fun w' h=>by
   unfold qh3;rw[if_pos h0];exact⟨rfl,h⟩
  have dS:((qah x.data.toList:Int)==0)=false:=qam (by omega);clear hg hx hs h0;generalize qah x.data.toList=c at *;go_enter Tryz.func15,Tryz.ntmps15;go_wp2_with fail;refine(cJ.out _ aM.out).mono ?_;rintro e w1 ⟨rfl,hr⟩;have aK:Hid (Below w.heap.size w (w1.alloc (.cells #[.bool false,.slice none 0 0,.slice none 0 0] 87))):=hid (hr.1.alloc hr.1.size _);clear hr cJ aM;go_wp2_with fail;go_ret2;exact aF.out _ aK.out
section
variable {P:Program} (w:World)
theorem qbw{ops:Array Oper}{rest:List Oper}{o:Oper}{a:Act}{Q:Exit→Act→World→Prop}(vJ:o.guard=none)(s x:Operand)(t:TypeId)
  (ho:o.op = .call { callee := .builtin .append,args:=#[s,x],argTypes:=#[t,t] })
  (e:TypeId) (i:TypeInfo) (size:Nat) (ht:P.underlying t=some (.slice e)) (hi:P.info? e=some i) (Qg:i.size=size)
  (g n cap:Nat) (cur:Array Value) (hs:a.eval s = .slice (some ⟨g,0,none⟩) n cap) (hg:w.heap[g]? = some (.cells cur e (0,0)))
  (ad:Addr) (m c:Nat) (news:List Value) (hx:a.eval x = .slice (some ad) m c) (hl:news.length=m*size) (Qh:∀j u,news[j]? = some u→w.cell? (ad.add j)=some u) (h1:∀u ∈ news,u.oneCell'=true)
  (Qi:n+m≤cap) (bU:n*size+news.length≤cur.size)
  (h:wpList P ops Q rest (a.put o.dst (.slice (some ⟨g,0,none⟩) (n+m) cap)) (w.setRow g (cur.toList.take (n*size)++news++cur.toList.drop (n*size+news.length)).toArray)):wpList P ops Q (o::rest) a w:=by
 refine wpList_plain vJ fun _ hK => ?_;subst Qg;have hr:=run_append_room (P:=P) w t o.type e i ht hi g n cap cur hg ad m c news hl Qh h1 Qi bU;unfold Oper.wp execOp;simp only[ho,resolve,invoke,builtin,Sem.run_bind,Sem.run_pure,Result.andThen_ok,List.map_toArray,List.map_cons,List.map_nil,hs,hx,hr];exact hK _ _ h
end
theorem qa5.setRow{W:World}{v:Value}{n g:Nat}{cur:Array Value}{ty:TypeId}{fr:Nat × Nat}(h:qa5 W v n)(hg:W.heap[g]? = some (.cells cur ty fr))(hc:∀c ∈ cur.toList,∀k z,c ≠ .int k z)(cs:Array Value):qa5 (W.setRow g cs) v n:=by
 obtain⟨h1,q,c,h2,h3,h4,h5⟩:=h;refine⟨h1,q,c,h2,h3,h4, ?_⟩;rcases h5 with h5|⟨b,o,h6,h7⟩
 ·exact .inl h5
 ·refine .inr ⟨b,o,h6,fun i hi => ?_⟩
  have aC:=h7 i hi;by_cases e:b=g
  ·subst e
   rw[cell_of_row W b (o+i) cur ty fr hg] at aC
   have hm:wd (qan B64 n) i ∈ cur.toList:=by
    rw[←Array.getElem?_toList] at aC;exact qbh aC
   exact absurd rfl (hc _ hm _ _)
  ·rw[cell_setRow_other W g cs ⟨b,o+i,none⟩ e]
   exact aC
theorem qau.setRow{W:World}{v:Value}{q:Rat}{g:Nat}{cur:Array Value}{ty:TypeId}{fr:Nat × Nat}(h:qau W v q)(hg:W.heap[g]? = some (.cells cur ty fr))(hc:∀c ∈ cur.toList,∀k z,c ≠ .int k z)(cs:Array Value):qau (W.setRow g cs) v q:=by
 obtain⟨t,b,e,h1,h2⟩:=h;exact⟨t,b,e,h1.setRow hg hc cs,h2.setRow hg hc cs⟩
def qjv(W:World)(g cap:Nat)(qs:List Rat):Prop:=
 qs.length≤cap∧∃cur:Array Value,W.heap[g]? = some (.cells cur 87 (0,0))∧cur.size=cap*3∧(∀c ∈ cur.toList,∀k z,c ≠ .int k z)∧
  ∀(j:Nat) (q:Rat),qs[j]? = some q→∃b p1 k1 c1 p2 k2 c2,cur.toList[j*3]? = some (.bool b)∧cur.toList[j*3+1]? = some (.slice p1 k1 c1)∧cur.toList[j*3+2]? = some (.slice p2 k2 c2)∧qau W (.agg #[.bool b,.slice p1 k1 c1,.slice p2 k2 c2]) q
theorem qmt(w:World)(cap:Nat):qjv (w.alloc (.cells (madeCells #[.bool false,.slice none 0 0,.slice none 0 0] (cap*3)) 87)) w.heap.size cap []:=by
 refine⟨Nat.zero_le _,_,heap_alloc_new w _,size_madeCells _ _,fun c hc k z => ?_,fun j q h=>by simp at h⟩;unfold madeCells at hc;simp only[Array.toList_map,Array.toList_range,List.mem_map] at hc;obtain⟨i,_,rfl⟩:=hc;have h3:i % 3=0∨i % 3=1∨i % 3=2:=by omega
 intro h;simp only[List.size_toArray,List.length_cons,List.length_nil] at h;rcases h3 with h3|h3|h3<;>rw[h3] at h<;>cases h
theorem qjv.lt{W:World}{g cap:Nat}{qs:List Rat}(h:qjv W g cap qs):g<W.heap.size:=by
 obtain⟨_,cur,hg,_⟩:=h;rcases Nat.lt_or_ge g W.heap.size with h1|h1
 ·exact h1
 ·rw[Array.getElem?_eq_none h1] at hg;cases hg
theorem qjv.later{W W':World}{g cap:Nat}{qs:List Rat}(h:qjv W g cap qs)(hb:Below W.heap.size W W'):qjv W' g cap qs:=by
 have aY:=h.lt;obtain⟨h1,cur,hg,h2,h3,h4⟩:=h;refine⟨h1,cur,(hb.block g aY).trans hg,h2,h3,fun j q hq => ?_⟩;obtain⟨b,p1,k1,c1,p2,k2,c2,e1,e2,e3,hv⟩:=h4 j q hq;exact⟨b,p1,k1,c1,p2,k2,c2,e1,e2,e3,hv.later hb⟩
theorem qve(W:World)(sg:Bool)(t b:Value):Below W.heap.size W (W.alloc (.cells #[.bool sg,t,b] 87))∧Own (W.alloc (.cells #[.bool sg,t,b] 87)) W.heap.size 3 (qcs sg t b):=
 ⟨qad _ _,qqk _ _ _ _⟩
theorem qjv.push{W:World}{g cap:Nat}{qs:List Rat}{b:Bool}{p1 p2:Option Addr}{k1 c1 k2 c2:Nat}{q:Rat}(h:qjv W g cap qs)(hk:qs.length<cap)(hv:qau W (.agg #[.bool b,.slice p1 k1 c1,.slice p2 k2 c2]) q):
  ∃cur:Array Value,W.heap[g]? = some (.cells cur 87 (0,0))∧qs.length*3+3≤cur.size∧
   qjv (W.setRow g (cur.toList.take (qs.length*3)++[Value.bool b,.slice p1 k1 c1,.slice p2 k2 c2]++cur.toList.drop (qs.length*3+3)).toArray) g cap (qs++[q])∧
   ∀B,B≤g→Below B W (W.setRow g (cur.toList.take (qs.length*3)++[Value.bool b,.slice p1 k1 c1,.slice p2 k2 c2]++cur.toList.drop (qs.length*3+3)).toArray):=by
 obtain⟨h1,cur,hg,h2,h3,h4⟩:=h;have bU:qs.length*3+3≤cur.size:=by omega
 have hfit':qs.length*3+3≤cur.toList.length:=by rw[Array.length_toList];exact bU
 have aE:(cur.toList.take (qs.length*3)).length=qs.length*3:=by rw[List.length_take];omega
 refine⟨cur,hg,bU,⟨by rw[List.length_append];simp;omega,_,setRow_heap W g cur _ _ _ hg, ?_, ?_, ?_⟩,fun B hB=>⟨rfl,rfl,rfl,by simp[World.setRow],fun k hk=>setRow_other W g k _ (by omega)⟩⟩
 ·simp only[List.size_toArray,List.length_append,aE,List.length_cons,List.length_nil,List.length_drop,Array.length_toList]
  omega
 ·intro c hc k z
  rw[List.mem_append,List.mem_append] at hc;rcases hc with(hc|hc)|hc
  ·exact h3 c (List.mem_of_mem_take hc) k z
  ·simp only[List.mem_cons,List.not_mem_nil,or_false] at hc
   rcases hc with rfl|rfl|rfl<;>(intro h;cases h)
  ·exact h3 c (List.mem_of_mem_drop hc) k z
 ·intro j q' hq'
  rcases Nat.lt_or_ge j qs.length with hj|hj
  ·rw[List.getElem?_append_left hj] at hq'
   obtain⟨b',a1,a2,a3,a4,a5,a6,e1,e2,e3,hv'⟩:=h4 j q' hq'
   have key:∀i,i<qs.length*3→(cur.toList.take (qs.length*3)++[Value.bool b,.slice p1 k1 c1,.slice p2 k2 c2]++cur.toList.drop (qs.length*3+3)).toArray.toList[i]? = cur.toList[i]? := by
    intro i hi;rw[List.append_assoc,List.getElem?_append_left (by rw[aE];exact hi),List.getElem?_take_of_lt hi]
   refine⟨b',a1,a2,a3,a4,a5,a6, ?_, ?_, ?_,hv'.setRow hg h3 _⟩
   ·rw[key _ (by omega)];exact e1
   ·rw[key _ (by omega)];exact e2
   ·rw[key _ (by omega)];exact e3
  ·have hj':j=qs.length:=by
    have:=(List.getElem?_eq_some_iff.1 hq').1;rw[List.length_append] at this;simp at this;omega
   subst hj'
   have Cm:q'=q:=by
    rw[List.getElem?_append_right (qac _),Nat.sub_self] at hq'
    simpa using hq'.symm
   subst Cm
   have key:∀i,i<3→(cur.toList.take (qs.length*3)++[Value.bool b,.slice p1 k1 c1,.slice p2 k2 c2]++cur.toList.drop (qs.length*3+3)).toArray.toList[qs.length*3+i]? = [Value.bool b,.slice p1 k1 c1,.slice p2 k2 c2][i]? := by
    intro i hi;rw[List.append_assoc,List.getElem?_append_right (by rw[aE];omega),aE,Nat.add_sub_cancel_left,List.getElem?_append_left (by simpa using hi)]
   exact⟨b,p1,k1,c1,p2,k2,c2,key 0 (by omega),key 1 (by omega),key 2 (by omega),hv.setRow hg h3 _⟩
theorem qjv.get{W:World}{g cap:Nat}{qs:List Rat}(h:qjv W g cap qs)(j:Nat)(q:Rat)(hq:qs[j]? = some q):
  ∃b p1 k1 c1 p2 k2 c2,W.cell? ⟨g,j*3,none⟩=some (.bool b)∧W.cell? ⟨g,j*3+1,none⟩=some (.slice p1 k1 c1)∧W.cell? ⟨g,j*3+2,none⟩=some (.slice p2 k2 c2)∧qau W (.agg #[.bool b,.slice p1 k1 c1,.slice p2 k2 c2]) q:=by
 obtain⟨_,cur,hg,_,_,h4⟩:=h;obtain⟨b,p1,k1,c1,p2,k2,c2,e1,e2,e3,hv⟩:=h4 j q hq;refine⟨b,p1,k1,c1,p2,k2,c2, ?_, ?_, ?_,hv⟩
 ·rw[cell_of_row W g _ cur _ (0,0) hg,←Array.getElem?_toList];exact e1
 ·rw[cell_of_row W g _ cur _ (0,0) hg,←Array.getElem?_toList];exact e2
 ·rw[cell_of_row W g _ cur _ (0,0) hg,←Array.getElem?_toList];exact e3
def qaj:List Nat→Nat
 | []=>0
 | e::l=>if e=0 then qaj l else e
theorem qf3(l m:List Nat)(h:qaj l=0):qaj (l++m)=qaj m:=by
 induction l with
 | nil=>rfl
 | cons e l ih=>
  unfold qaj at h;by_cases he:e=0
  ·rw[if_pos he] at h
   show(if e=0 then qaj (l++m) else e)=_;rw[if_pos he,ih h]
  ·rw[if_neg he] at h
   exact absurd h he
def qj8(errs:List Nat)(qs:List Rat)(w:World)(e:Ending)(w':World):Prop:=
 (if qaj errs=0 then ∃g,w.heap.size≤g∧e = .returned (.tuple #[.slice (some ⟨g,0,none⟩) qs.length qs.length,.int .i64 0])∧qjv w' g qs.length qs
  else e = .returned (.tuple #[.slice none 0 0,.int .i64 (qaj errs)]))∧Below w.heap.size w w'
theorem qo2(n:Nat)(hn:n≤1048576)(w:World):
  (Instr.makeSlice 63 (.int .i64 0) (.int .i64 (n:Int))).run Tryz.prog w = .ok (.slice (some ⟨w.heap.size,0,none⟩) 0 n) (w.alloc (.cells (madeCells #[.bool false,.slice none 0 0,.slice none 0 0] (n*3)) 87)):=by
 obtain⟨i0,hi,cU,eE,eK⟩:=info_parts (show(Tryz.prog.info? 87).map (fun i=>(i.zero,i.size,i.bytes))=some (some (.agg #[.bool false,.slice none 0 0,.slice none 0 0]),3,56) by kernel_rfl);have h:=run_make (P:=Tryz.prog) w 63 87 i0 _ Tryz.underlying63 hi cU .i64 .i64 0 (n:Int) (Int.le_refl _) (by omega) (by rw[eK];omega) (by omega);rw[eE] at h
 simpa [Value.cells] using h
theorem qbl{α:Type}{l:List α}{k:Nat}{s:α}(h:l[k]? = some s):l.take (k+1)=l.take k++[s]:=by
 rw[List.take_add_one,h];rfl
theorem qja{α:Type}{l:List α}{k:Nat}{s:α}(f:α→Nat)(h:l[k]? = some s)(h0:qaj ((l.take k).map f)=0)(hs:f s≠0):qaj (l.map f)=f s:=by
 have e:l=l.take k++s::l.drop (k+1):=by
  have hk:=(List.getElem?_eq_some_iff.1 h).1;have hv:=(List.getElem?_eq_some_iff.1 h).2;rw[←hv,List.getElem_cons_drop,List.take_append_drop]
 have e2:l.map f=(l.take k).map f++f s::(l.drop (k+1)).map f:=by
  conv=>lhs;rw[e]
  rw[List.map_append,List.map_cons]
 rw[e2,qf3 _ _ h0];show(if f s=0 then _ else f s)=_;rw[if_neg hs]
theorem qhf{α:Type}{l:List α}{k:Nat}{s:α}(f:α→Nat)(h:l[k]? = some s)(h0:qaj ((l.take k).map f)=0)(hs:f s=0):qaj ((l.take (k+1)).map f)=0:=by
 rw[qbl h,List.map_append,qf3 _ _ h0];show(if f s=0 then qaj [] else f s)=0;rw[if_pos hs];rfl
theorem qza{errs:List Nat}{qs:List Rat}{w w':World}{k:Nat}{e:Ending}(h:qaj errs=k)(hk:k≠0)(he:e = .returned (.tuple #[.slice none 0 0,.int .i64 (k:Int)]))(hb:Below w.heap.size w w'):qj8 errs qs w e w':=by
 unfold qj8;rw[if_neg (by omega),h];exact⟨he,hb⟩
theorem qvf{errs:List Nat}{qs:List Rat}{w w':World}{g n:Nat}{e:Ending}(h:qaj errs=0)(hn:qs.length=n)(hg:w.heap.size≤g)(he:e = .returned (.tuple #[.slice (some ⟨g,0,none⟩) n n,.int .i64 0]))(hv:qjv w' g n qs)(hb:Below w.heap.size w w'):qj8 errs qs w e w':=by
 unfold qj8;rw[if_pos h,hn];exact⟨⟨g,hg,he,hv⟩,hb⟩
theorem q1n{s:BA}{w:World}(h:Calls Tryz.prog 45 #[.string s] w (qkm s.data.toList w))(hc:qah s.data.toList=0):
  Calls Tryz.prog 45 #[.string s] w fun e w'=>(∃v',e = .returned (.tuple #[v',.int .i64 0])∧qau w' v' (qbc s.data.toList))∧Below w.heap.size w w':=by
 refine h.mono fun e w' h => ?_;unfold qkm at h;rw[if_pos hc] at h;exact h
theorem q5c{s:BA}{w:World}(h:Calls Tryz.prog 45 #[.string s] w (qkm s.data.toList w))(hc:qah s.data.toList≠0):
  Calls Tryz.prog 45 #[.string s] w fun e w'=>e = .returned (.tuple #[.agg #[.bool false,.slice none 0 0,.slice none 0 0],.int .i64 (qah s.data.toList:Nat)])∧Below w.heap.size w w':=by
 refine h.mono fun e w' h => ?_;unfold qkm at h;rw[if_neg hc] at h;exact h
theorem q1o(l:List BA)(b o c:Nat)(w:World)(hg:GW w)(aB:∀i s,l[i]? = some s→w.cell? ⟨b,o+i,none⟩=some (.string s))(hl:l.length≤1048576)(hs:∀s ∈ l,s.size≤1073741824):
  Calls Tryz.prog 61 #[.slice (some ⟨b,o,none⟩) l.length c,.func (.func 45) #[] #[]] w
   (qj8 (l.map fun s=>qah s.data.toList) (l.map fun s=>qbc s.data.toList) w):=by
 have HG:=hid hg;have bL:=hid aB;have HS:=hid hs;have lO:=qo2 l.length hl;obtain⟨i0,hi,cU,eE,eK⟩:=info_parts (show(Tryz.prog.info? 87).map (fun i=>(i.zero,i.size,i.bytes))=some (some (.agg #[.bool false,.slice none 0 0,.slice none 0 0]),3,56) by kernel_rfl);have HI:=hid hi;clear hg aB hs hi cU eK;go_enter Tryz.func61,Tryz.ntmps61;go_wp2_with fail;clear lO;have hU:=hid (qmt w l.length);have dM:Hid (Below w.heap.size w (w.alloc (.cells (madeCells #[.bool false,.slice none 0 0,.slice none 0 0] (l.length*3)) 87))):=hid (qad _ _);generalize w.alloc (.cells (madeCells #[.bool false,.slice none 0 0,.slice none 0 0] (l.length*3)) 87)=w0 at *
 go_loopw [6,16] (fun r i wr=>∃k:Nat,k≤l.length∧i = .int .i64 k∧r = .slice (some ⟨w.heap.size,0,none⟩) k l.length∧Hid (qjv wr w.heap.size l.length ((l.take k).map fun s=>qbc s.data.toList))∧Hid (qaj ((l.take k).map fun s=>qah s.data.toList)=0)∧Hid (Below w.heap.size w wr)) (fun _ i _=>l.length-(intOf i).toNat)
 case atStart=>exact⟨0,Nat.zero_le _,rfl,rfl,hU,hid rfl,dM⟩
 case round=>
  obtain⟨k,hk,rfl,rfl,HN,HE,HB⟩:=hrel;clear hU dM;by_cases cT:k<l.length
  ·obtain⟨s,bV⟩:∃s,l[k]? = some s:=⟨l[k],qap cT⟩
   have jB:=bL.out k s bV
   have aC:wr.cell? ⟨b,o+k,none⟩=some (.string s):=by
    rw[HB.out.cell (qae w _ jB)];exact jB
   have cJ:=hid (qe8 s wr (HG.out.later HB.out) (HS.out s (qbh bV)));have oZ:=hid bV;clear jB bV;by_cases hc:qah s.data.toList=0
   ·have fC:=hid (q1n cJ.out hc)
    have gN:=hid (qhf (fun s:BA=>qah s.data.toList) oZ.out HE.out hc);clear cJ HE hc;go_wp2_with fail;refine fC.out.mono ?_;rintro e w1 ⟨⟨v',rfl,hv⟩,hb⟩;obtain⟨p1,k1,c1,p2,k2,c2,rfl,dW,dP⟩:=hv.parts
    have iU:((l.take k).map fun s=>qbc s.data.toList)++[qbc s.data.toList]=(l.take (k+1)).map fun s=>qbc s.data.toList:=by
     rw[qbl oZ.out,List.map_append];rfl
    have xN:=hid iU;have iG:((l.take k).map fun s=>qbc s.data.toList).length=k:=by rw[List.length_map,List.length_take];omega
    have dH:=hid (HN.out.later hb);have gS:=hid hv;have aP:=hid (HB.out.trans (hb.mono HB.out.size));clear dW dP iU hv hb HN HB fC aC;generalize decide ((qbc s.data.toList).num<0)=sg at *;generalize qbc s.data.toList=q at *;generalize ((l.take k).map fun s=>qbc s.data.toList)=qs at *;obtain⟨aD,gU⟩:=qve w1 sg (.slice p1 k1 c1) (.slice p2 k2 c2);have gI:=hid (dH.out.later aD);have cO:=hid (gS.out.later aD);have kM:w.heap.size≤w1.heap.size:=aP.out.size;have aK:=hid (aP.out.trans (aD.mono kM));obtain⟨x0,x1,x2⟩:=qbt gU;have bP:Below (w1.alloc (.cells #[.bool sg,.slice p1 k1 c1,.slice p2 k2 c2] 87)).heap.size (w1.alloc (.cells #[.bool sg,.slice p1 k1 c1,.slice p2 k2 c2] 87)) ((w1.alloc (.cells #[.bool sg,.slice p1 k1 c1,.slice p2 k2 c2] 87)).alloc (.cells #[.bool sg,.slice p1 k1 c1,.slice p2 k2 c2] 87)):=qad _ _;obtain⟨cur,eH,bU,cG,bK⟩:=(gI.out.later bP).push (by rw[iG];exact cT) (cO.out.later bP);have gO:=heap_alloc_new (w1.alloc (.cells #[.bool sg,.slice p1 k1 c1,.slice p2 k2 c2] 87)) (.cells #[.bool sg,.slice p1 k1 c1,.slice p2 k2 c2] 87);rw[qab] at gO;rw[iG] at bU cG bK;simp only[List.append_assoc,List.cons_append,List.nil_append] at cG bK;have bY:=hid cG;have aG:=hid (aK.out.trans ((bP.mono (by rw[qab];omega)).trans (bK w.heap.size (qac _))));have kT:=hid eH;have kA:=hid gO;have dJ:=hid bU;clear aD gU bP kM eH bU cG bK gO dH gS aP gI cO aK iG;go_wp2_with (at_builtin;refine qbw _ rfl _ _ 63 rfl 87 i0 3 Tryz.underlying63 HI.out eE w.heap.size k l.length cur rfl kT.out ⟨w1.heap.size+1,0,none⟩ 1 1 [.bool sg,.slice p1 k1 c1,.slice p2 k2 c2] rfl rfl (World.news_of_block kA.out) ?mK (by omega) dJ.out ?_)
    case mK=>
     intro u hu;simp only[List.mem_cons,List.not_mem_nil,or_false] at hu;rcases hu with rfl|rfl|rfl<;>rfl
    clear x0 x1 x2;go_wp2_with fail;go_roundw
    case rel=>exact⟨k+1,cT,by go_num,rfl,hid (by rw[←xN.out];exact bY.out),gN,aG⟩
    case measure=>simp[intOf];omega
   ·have fC:=hid (q5c cJ.out hc)
    have HF:=hid (qja (fun s:BA=>qah s.data.toList) oZ.out HE.out hc);clear cJ HE;generalize qah s.data.toList=ck at *;have lV:((ck:Int)==0)=false:=qam (by omega);have eX:=hid hc;clear hc;go_wp2_with fail;refine fC.out.mono ?_;rintro e w1 ⟨rfl,hb⟩;have aP:=hid (HB.out.trans ((hb.mono HB.out.size).trans ((qaa w.heap.size w1).alloc (Nat.le_trans HB.out.size hb.size) (.cells #[.bool false,.slice none 0 0,.slice none 0 0] 87))));clear hb HB fC aC;go_wp2_with fail;go_ret2;exact qza HF.out eX.out rfl aP.out
  ·obtain rfl:k=l.length:=by omega
   have iG:(l.map fun s=>qbc s.data.toList).length=l.length:=by rw[List.length_map]
   have jU:=hid iG;have hE:=HE.out;have hN:=HN.out;rw[List.take_length] at hE hN;have HE':=hid hE;have HN':=hid hN;clear hE hN iG HE HN;go_wp2_with fail;go_ret2;exact qvf HE'.out jU.out (qac _) rfl HN'.out HB.out
theorem qmu{a b:Nat}(h:qaj [a,b]=0):a=0∧b=0:=by
 have h1:(if a=0 then qaj [b] else a)=0:=h;by_cases ha:a=0
 ·rw[if_pos ha] at h1
  have h2:(if b=0 then qaj [] else b)=0:=h1;by_cases hb:b=0
  ·exact⟨ha,hb⟩
  ·rw[if_neg hb] at h2;exact absurd h2 hb
 ·rw[if_neg ha] at h1;exact absurd h1 ha
theorem q5d(w:World)(x y:BA)(ty:TypeId):∀i s,[x,y][i]? = some s→(w.alloc (.cells #[.string x,.string y] ty)).cell? ⟨w.heap.size,0+i,none⟩=some (.string s):=by
 intro i s h;rw[Nat.zero_add,World.cell?_alloc_at _ _ _ _ rfl]
 match i,h with
 | 0,h=>cases h;rfl
 | 1,h=>cases h;rfl
theorem qxc(x y:BA)(w:World)(hg:GW w)(hx:x.size≤1073741824)(hy:y.size≤1073741824)(ty:TypeId):
  Calls Tryz.prog 61 #[.slice (some ⟨w.heap.size,0,none⟩) 2 2,.func (.func 45) #[] #[]] (w.alloc (.cells #[.string x,.string y] ty))
   (fun e w'=>qj8 [qah x.data.toList,qah y.data.toList] [qbc x.data.toList,qbc y.data.toList] (w.alloc (.cells #[.string x,.string y] ty)) e w'∧Below w.heap.size w w'):=by
 have aD:Below w.heap.size w (w.alloc (.cells #[.string x,.string y] ty)):=qad _ _
 refine(q1o [x,y] w.heap.size 0 2 (w.alloc (.cells #[.string x,.string y] ty)) (hg.later aD) (q5d w x y ty) (by simp) (by
  intro s hs;simp only[List.mem_cons,List.not_mem_nil,or_false] at hs
  rcases hs with rfl|rfl<;>assumption)).mono ?_
 intro e w' h;exact⟨h,aD.trans (h.2.mono (by rw[qab];omega))⟩
theorem q7q{x y:BA}{w:World}{ty:TypeId}(h:Calls Tryz.prog 61 #[.slice (some ⟨w.heap.size,0,none⟩) 2 2,.func (.func 45) #[] #[]] (w.alloc (.cells #[.string x,.string y] ty))
   (fun e w'=>qj8 [qah x.data.toList,qah y.data.toList] [qbc x.data.toList,qbc y.data.toList] (w.alloc (.cells #[.string x,.string y] ty)) e w'∧Below w.heap.size w w')) (h0:qaj [qah x.data.toList,qah y.data.toList]≠0):
  Calls Tryz.prog 61 #[.slice (some ⟨w.heap.size,0,none⟩) 2 2,.func (.func 45) #[] #[]] (w.alloc (.cells #[.string x,.string y] ty))
   (fun e w'=>e = .returned (.tuple #[.slice none 0 0,.int .i64 (qaj [qah x.data.toList,qah y.data.toList]:Nat)])∧Below w.heap.size w w'):=by
 refine h.mono ?_;rintro e w' ⟨h1,h2⟩;unfold qj8 at h1;rw[if_neg h0] at h1;exact⟨h1.1,h2⟩
theorem q5e{x y:BA}{w:World}{ty:TypeId}(h:Calls Tryz.prog 61 #[.slice (some ⟨w.heap.size,0,none⟩) 2 2,.func (.func 45) #[] #[]] (w.alloc (.cells #[.string x,.string y] ty))
   (fun e w'=>qj8 [qah x.data.toList,qah y.data.toList] [qbc x.data.toList,qbc y.data.toList] (w.alloc (.cells #[.string x,.string y] ty)) e w'∧Below w.heap.size w w')) (h0:qaj [qah x.data.toList,qah y.data.toList]=0):
  Calls Tryz.prog 61 #[.slice (some ⟨w.heap.size,0,none⟩) 2 2,.func (.func 45) #[] #[]] (w.alloc (.cells #[.string x,.string y] ty))
   (fun e w'=>(∃g,e = .returned (.tuple #[.slice (some ⟨g,0,none⟩) 2 2,.int .i64 0])∧qjv w' g 2 [qbc x.data.toList,qbc y.data.toList])∧Below w.heap.size w w'):=by
 refine h.mono ?_;rintro e w' ⟨h1,h2⟩;unfold qj8 at h1;rw[if_pos h0] at h1;obtain⟨⟨g,_,he,hn⟩,_⟩:=h1;exact⟨⟨g,he,hn⟩,h2⟩
abbrev zan(g:Nat)(b:Bool)(p1:Option Addr)(k1 c1:Nat)(p2:Option Addr)(k2 c2:Nat)(b':Bool)(p1':Option Addr)(k1' c1':Nat)(p2':Option Addr)(k2' c2':Nat)(W:World):Prop:=
 W.cell? ⟨g,0,none⟩=some (.bool b)∧W.cell? ⟨g,1,none⟩=some (.slice p1 k1 c1)∧W.cell? ⟨g,2,none⟩=some (.slice p2 k2 c2)∧
 W.cell? ⟨g,3,none⟩=some (.bool b')∧W.cell? ⟨g,4,none⟩=some (.slice p1' k1' c1')∧W.cell? ⟨g,5,none⟩=some (.slice p2' k2' c2')
theorem qxd{W:World}{g:Nat}{a c:Rat}(h:qjv W g 2 [a,c]):∃b p1 k1 c1 p2 k2 c2 b' p1' k1' c1' p2' k2' c2',(∀W',Below W.heap.size W W'→zan g b p1 k1 c1 p2 k2 c2 b' p1' k1' c1' p2' k2' c2' W')∧
  qau W (.agg #[.bool b,.slice p1 k1 c1,.slice p2 k2 c2]) a∧qau W (.agg #[.bool b',.slice p1' k1' c1',.slice p2' k2' c2']) c:=by
 obtain⟨b,p1,k1,c1,p2,k2,c2,e1,e2,e3,hv⟩:=h.get 0 a rfl;obtain⟨b',p1',k1',c1',p2',k2',c2',f1,f2,f3,hv'⟩:=h.get 1 c rfl;refine⟨b,p1,k1,c1,p2,k2,c2,b',p1',k1',c1',p2',k2',c2',fun W' hb => ?_,hv,hv'⟩;have key:∀(o:Nat),W'.cell? ⟨g,o,none⟩=W.cell? ⟨g,o,none⟩:=fun o=>hb.cell h.lt;show _∧_;rw[key,key,key,key,key,key];exact⟨e1,e2,e3,f1,f2,f3⟩
end Go.Proofs.YtlkdlffhmakbgaaGreatDoor
