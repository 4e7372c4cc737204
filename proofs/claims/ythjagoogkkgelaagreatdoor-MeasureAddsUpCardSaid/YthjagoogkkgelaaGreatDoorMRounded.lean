/- rounded: a number that is rounded by a rule. -/
import Derived.Test.YthjagoogkkgelaaGreatDoorMReadRuleB
import Derived.Test.YthjagoogkkgelaaGreatDoorMNumWalk
import Derived.Deep.AppendLies
set_option linter.all false
namespace Go.Proofs.YthjagoogkkgelaaGreatDoor
open Go.RowKit
set_option maxRecDepth 100000
set_option maxHeartbeats 40000000
def qpf(f:Nat)(q:Rat):Rat:=
 if qlx f (qcu (q-(q.floor:Rat)) (1/2)) (!decide (((q.floor:Rat)/2).den=1)) then(q.floor:Rat)+1 else(q.floor:Rat)
def qjf(f:Nat)(a s:Rat):Rat:=if(a/s).den=1 then a else qpf f (a/s)*s
theorem qv4{k:ByteArray}{f:Nat}(h:qdl k=some f):f=155∨f=156∨f=157∨f=158:=by
 unfold qdl at h;split at h
 ·cases h;exact .inl rfl
 split at h
 ·cases h;exact .inr (.inl rfl)
 split at h
 ·cases h;exact .inr (.inr (.inl rfl))
 split at h
 ·cases h;exact .inr (.inr (.inr rfl))
 ·cases h
def qc7(w:World)(rf:Value)(rb:Bool)(rt rbo:Value)(na:Bool)(ta ba:Value)(W:World):Prop:=
 Below w.heap.size w W∧Own W w.heap.size 4 (q5d rf (.bool rb) rt rbo)∧Own W (w.heap.size+1) 3 (qcm na ta ba)∧Own W (w.heap.size+1+1) 3 (qcm false (.slice none 0 0) (.slice none 0 0))
section
variable {w W W':World} {rf:Value} {rb:Bool} {rt rbo:Value} {na:Bool} {ta ba:Value}
theorem qc7.later(h:qc7 w rf rb rt rbo na ta ba W)(hb:Below W.heap.size W W'):qc7 w rf rb rt rbo na ta ba W':=by
 obtain⟨h1,h2,h3,h4⟩:=h;exact⟨h1.trans (hb.mono h1.size),h2.later (hb.mono h2.1),h3.later (hb.mono h3.1),h4.later (hb.mono h4.1)⟩
theorem qc7.set(h:qc7 w rf rb rt rbo na ta ba W){g:Nat}(hg:w.heap.size+1+1<g)(o:Nat)(x:Value):qc7 w rf rb rt rbo na ta ba (W.setCell ⟨g,o,none⟩ x):=by
 obtain⟨h1,h2,h3,h4⟩:=h;have hb:Below (w.heap.size+1+1+1) W (W.setCell ⟨g,o,none⟩ x):=(Below.refl _ _).setCell hg x;exact⟨h1.setCell (by show w.heap.size≤g;omega) x,h2.later (hb.mono (by omega)),h3.later (hb.mono (by omega)),h4.later hb⟩
theorem qtw(w:World)(rf:Value)(rb:Bool)(rt rbo:Value)(na:Bool)(ta ba:Value):
  qc7 w rf rb rt rbo na ta ba (((w.alloc (.cells #[rf,.bool rb,rt,rbo] 110)).alloc (.cells #[.bool na,ta,ba] 80)).alloc (.cells #[.bool false,.slice none 0 0,.slice none 0 0] 80)):=by
 have h1:=qif w 110 rf (.bool rb) rt rbo;have h2:=qq5 (w.alloc (.cells #[rf,.bool rb,rt,rbo] 110)) na ta ba;have h3:=qq5 ((w.alloc (.cells #[rf,.bool rb,rt,rbo] 110)).alloc (.cells #[.bool na,ta,ba] 80)) false (.slice none 0 0) (.slice none 0 0);simp only[World.size_alloc] at h2 h3;have al:∀(V:World) (o:Obj),Below V.heap.size V (V.alloc o):=fun V o=>(Below.refl _ _).alloc (Nat.le_refl _) _;refine⟨((al w _).trans ((al _ _).mono (by rw[World.size_alloc];omega))).trans ((al _ _).mono (by rw[World.size_alloc,World.size_alloc];omega)), ?_, ?_,h3⟩
 ·exact(h1.later ((al _ _).mono (by rw[World.size_alloc];omega))).later ((al _ _).mono (by rw[World.size_alloc,World.size_alloc];omega))
 ·exact h2.later ((al _ _).mono (by rw[World.size_alloc,World.size_alloc];omega))
theorem qci(h:qc7 w rf rb rt rbo na ta ba W):W.cell? ⟨w.heap.size,0,none⟩=some rf∧W.cell? ⟨w.heap.size,1,none⟩=some (.bool rb)∧W.cell? ⟨w.heap.size,2,none⟩=some rt∧W.cell? ⟨w.heap.size,3,none⟩=some rbo∧
  W.cell? ⟨w.heap.size+1,0,none⟩=some (.bool na)∧W.cell? ⟨w.heap.size+1,1,none⟩=some ta∧W.cell? ⟨w.heap.size+1,2,none⟩=some ba:=
 ⟨(h.2.1.2 0 (by omega)).1,(h.2.1.2 1 (by omega)).1,(h.2.1.2 2 (by omega)).1,(h.2.1.2 3 (by omega)).1,(h.2.2.1.2 0 (by omega)).1,(h.2.2.1.2 1 (by omega)).1,(h.2.2.1.2 2 (by omega)).1⟩
theorem qv5(h:qc7 w rf rb rt rbo na ta ba W):
  (W.cell? ⟨w.heap.size+1+1,0,none⟩=some (.bool false)∧W.frozen? ⟨w.heap.size+1+1,0,none⟩=false)∧
  (W.cell? ⟨w.heap.size+1+1,1,none⟩=some (.slice none 0 0)∧W.frozen? ⟨w.heap.size+1+1,1,none⟩=false)∧
  (W.cell? ⟨w.heap.size+1+1,2,none⟩=some (.slice none 0 0)∧W.frozen? ⟨w.heap.size+1+1,2,none⟩=false):=
 ⟨h.2.2.2.2 0 (by omega),h.2.2.2.2 1 (by omega),h.2.2.2.2 2 (by omega)⟩
theorem qdu{f:FuncId}{args:Array Value}{P:Ending→World→Prop}(hW:qc7 w rf rb rt rbo na ta ba W)
  (h:Calls Tryz.prog f args W fun e w'=>P e w'∧Below W.heap.size W w'):Calls Tryz.prog f args W fun e w'=>P e w'∧qc7 w rf rb rt rbo na ta ba w'∧Below W.heap.size W w':=
 h.mono fun _ _ ⟨h1,h2⟩=>⟨h1,hW.later h2,h2⟩
end
theorem qpg(W:World)(sg:Bool)(t b:Value):Below W.heap.size W (W.alloc (.cells #[.bool sg,t,b] 80))∧Own (W.alloc (.cells #[.bool sg,t,b] 80)) W.heap.size 3 (qcm sg t b):=
 ⟨(Below.refl _ _).alloc (Nat.le_refl _) _,qq5 _ _ _ _⟩
theorem qr9(f:Nat)(rb:Bool)(rt rbo:Value)(va:Value)(a s:Rat)(w:World)(hs:qaj w (.agg #[.bool rb,rt,rbo]) s)(ha:qaj w va a)(hs0:s.num≠0)(m:Nat)(hma:bd a m)(hms:bd s m)(hm1:1≤m)(hc:m≤1048576)(hw:(a/s).den=1):
  Calls Tryz.prog 59 #[.agg #[.func (.func f) #[] #[],.bool rb,rt,rbo],va] w fun e w'=>(∃v',e = .returned v'∧qaj w' v' a)∧Below w.heap.size w w':=by
 have HA:=hid ha;obtain⟨pa1,ka1,ca1,pa2,ka2,ca2,rfl,ha1,ha2⟩:=ha.parts;obtain⟨ps1,ks1,cs1,ps2,ks2,cs2,he,hs1,hs2⟩:=hs.parts;simp only[Value.agg.injEq,Array.mk.injEq,List.cons.injEq,and_true,Value.bool.injEq] at he;obtain⟨hrb,hrt,hrbo⟩:=he;have HS:=hid hs;have HW0:=hid (qtw w (.func (.func f) #[] #[]) rb rt rbo (decide (a.num<0)) (.slice pa1 ka1 ca1) (.slice pa2 ka2 ca2));have hq:=qns hma hms;have HOV:Hid (∀W,qc7 w (.func (.func f) #[] #[]) rb rt rbo (decide (a.num<0)) (.slice pa1 ka1 ca1) (.slice pa2 ka2 ca2) W→Calls Tryz.prog 41 #[.agg #[.bool (decide (a.num<0)),.slice pa1 ka1 ca1,.slice pa2 ka2 ca2],.agg #[.bool rb,rt,rbo]] W fun e w'=>(∃v',e = .returned v'∧qaj w' v' (a/s))∧qc7 w (.func (.func f) #[] #[]) rb rt rbo (decide (a.num<0)) (.slice pa1 ka1 ca1) (.slice pa2 ka2 ca2) w'∧Below W.heap.size W w'):=hid fun W hW=>qdu hW (qfo _ _ a s W (HA.out.later hW.1) (HS.out.later hW.1) hs0 (by have:=hma.rs;have:=hms.rs;unfold Cap;omega));have HIW:Hid (∀W v,qc7 w (.func (.func f) #[] #[]) rb rt rbo (decide (a.num<0)) (.slice pa1 ka1 ca1) (.slice pa2 ka2 ca2) W→qaj W v (a/s)→Calls Tryz.prog 100 #[v] W fun e w'=>e = .returned (.bool (decide ((a/s).den=1)))∧qc7 w (.func (.func f) #[] #[]) rb rt rbo (decide (a.num<0)) (.slice pa1 ka1 ca1) (.slice pa2 ka2 ca2) w'∧Below W.heap.size W w'):=hid fun W v hW hv=>qdu hW (qkt v _ W hv);rw[decide_eq_true hw] at HIW;subst hrb hrt hrbo;clear ha ha1 ha2 hs hs1 hs2 hma hms hm1 hc hs0 hq;generalize decide (a.num<0)=na at *;generalize decide (s.num<0)=rb at *;go_enter Tryz.func59,Tryz.ntmps59;go_wp2_with fail
 generalize ((w.alloc (.cells #[.func (.func f) #[] #[],.bool rb,.slice ps1 ks1 cs1,.slice ps2 ks2 cs2] 110)).alloc (.cells #[.bool na,.slice pa1 ka1 ca1,.slice pa2 ka2 ca2] 80)).alloc (.cells #[.bool false,.slice none 0 0,.slice none 0 0] 80)=w0 at *;obtain⟨c0,c1,c2,c3,c4,c5,c6⟩:=qci HW0.out;go_wp2_with fail;refine(HOV.out _ HW0.out).mono ?_;clear c0 c1 c2 c3 c4 c5 c6;rintro e w1 ⟨⟨v1,rfl,hv⟩,hr,hb⟩;obtain⟨p1,k1,l1,p2,k2,l2,rfl,hp1,hp2⟩:=hv.parts;clear hp1 hp2;obtain⟨hal,hbx⟩:=qpg w1 (decide ((a/s).num<0)) (.slice p1 k1 l1) (.slice p2 k2 l2);have HR:=hid (hr.later hal);have HV:=hid (hv.later hal);have HX:=hid hbx;have hlt1:w.heap.size+1+1<w1.heap.size:=hr.2.2.2.1;clear hr hv hb hal hbx HOV HW0;generalize decide ((a/s).num<0)=s1 at *;go_wp2_with fail;refine(HIW.out _ _ HR.out HV.out).mono ?_;rintro e w2 ⟨rfl,hr,hb⟩;have HR2:=hid hr;have HV2:=hid (HV.out.later hb);have HX2:=hid (HX.out.later (hb.mono HX.out.1));clear hr hb HR HV HX HIW;generalize w1.heap.size=B5 at *;obtain⟨c0,c1,c2,c3,c4,c5,c6⟩:=qci HR2.out;obtain⟨⟨r0,g0⟩,⟨r1,g1⟩,⟨r2,g2⟩⟩:=qv5 HR2.out;have HFIN:=hid (qbd (HA.out.later HR2.out.1) r0 r1 r2);have HBEL:=hid (qai HR2.out.1 (show w.heap.size≤w.heap.size+1+1 by omega) (.bool na) (.slice pa1 ka1 ca1) (.slice pa2 ka2 ca2));clear HR2 HV2 HX2;go_wp2_with fail;refine bodyPost_ret (v := .agg #[.bool na,.slice pa1 ka1 ca1,.slice pa2 ka2 ca2]) ?_ rfl ?_
 ·simp[results,Tryz.results59,go_sem,r0,r1,r2]
 ·exact⟨⟨_,rfl,HFIN.out⟩,HBEL.out⟩
theorem qtx(f:Nat)(rb:Bool)(rt rbo:Value)(va:Value)(a s:Rat)(w:World)(hs:qaj w (.agg #[.bool rb,rt,rbo]) s)(ha:qaj w va a)(hs0:s.num≠0)(m:Nat)(hma:bd a m)(hms:bd s m)(hm1:1≤m)(hc:m≤1048576)(kk:ByteArray)(hff:qdl kk=some f)(hw:¬(a/s).den=1):
  Calls Tryz.prog 59 #[.agg #[.func (.func f) #[] #[],.bool rb,rt,rbo],va] w fun e w'=>(∃v',e = .returned v'∧qaj w' v' (qpf f (a/s)*s))∧Below w.heap.size w w':=by
 have HA:=hid ha;obtain⟨pa1,ka1,ca1,pa2,ka2,ca2,rfl,ha1,ha2⟩:=ha.parts;obtain⟨ps1,ks1,cs1,ps2,ks2,cs2,he,hs1,hs2⟩:=hs.parts;simp only[Value.agg.injEq,Array.mk.injEq,List.cons.injEq,and_true,Value.bool.injEq] at he;obtain⟨hrb,hrt,hrbo⟩:=he;have HS:=hid hs;have HW0:=hid (qtw w (.func (.func f) #[] #[]) rb rt rbo (decide (a.num<0)) (.slice pa1 ka1 ca1) (.slice pa2 ka2 ca2));have hq:=qns hma hms;have HOV:Hid (∀W,qc7 w (.func (.func f) #[] #[]) rb rt rbo (decide (a.num<0)) (.slice pa1 ka1 ca1) (.slice pa2 ka2 ca2) W→Calls Tryz.prog 41 #[.agg #[.bool (decide (a.num<0)),.slice pa1 ka1 ca1,.slice pa2 ka2 ca2],.agg #[.bool rb,rt,rbo]] W fun e w'=>(∃v',e = .returned v'∧qaj w' v' (a/s))∧qc7 w (.func (.func f) #[] #[]) rb rt rbo (decide (a.num<0)) (.slice pa1 ka1 ca1) (.slice pa2 ka2 ca2) w'∧Below W.heap.size W w'):=hid fun W hW=>qdu hW (qfo _ _ a s W (HA.out.later hW.1) (HS.out.later hW.1) hs0 (by have:=hma.rs;have:=hms.rs;unfold Cap;omega));have HIW:Hid (∀W v,qc7 w (.func (.func f) #[] #[]) rb rt rbo (decide (a.num<0)) (.slice pa1 ka1 ca1) (.slice pa2 ka2 ca2) W→qaj W v (a/s)→Calls Tryz.prog 100 #[v] W fun e w'=>e = .returned (.bool (decide ((a/s).den=1)))∧qc7 w (.func (.func f) #[] #[]) rb rt rbo (decide (a.num<0)) (.slice pa1 ka1 ca1) (.slice pa2 ka2 ca2) w'∧Below W.heap.size W w'):=hid fun W v hW hv=>qdu hW (qkt v _ W hv);have hfl:=qx4 hq (by omega);have HFL:Hid (∀W v,qc7 w (.func (.func f) #[] #[]) rb rt rbo (decide (a.num<0)) (.slice pa1 ka1 ca1) (.slice pa2 ka2 ca2) W→qaj W v (a/s)→Calls Tryz.prog 101 #[v] W fun e w'=>(∃v',e = .returned v'∧qaj w' v' ((a/s).floor:Rat))∧qc7 w (.func (.func f) #[] #[]) rb rt rbo (decide (a.num<0)) (.slice pa1 ka1 ca1) (.slice pa2 ka2 ca2) w'∧Below W.heap.size W w'):=hid fun W v hW hv=>qdu hW (q1v v _ W hv (by have:=hq.rs;unfold Cap;omega))
 have HMI:Hid (∀W v v',qc7 w (.func (.func f) #[] #[]) rb rt rbo (decide (a.num<0)) (.slice pa1 ka1 ca1) (.slice pa2 ka2 ca2) W→qaj W v (a/s)→qaj W v' ((a/s).floor:Rat)→Calls Tryz.prog 102 #[v,v'] W fun e w'=>(∃v',e = .returned v'∧qaj w' v' (a/s-((a/s).floor:Rat)))∧qc7 w (.func (.func f) #[] #[]) rb rt rbo (decide (a.num<0)) (.slice pa1 ka1 ca1) (.slice pa2 ka2 ca2) w'∧Below W.heap.size W w'):=hid fun W v v' hW hv hv'=>qdu hW (qtj v v' _ _ W hv hv' (by have:=hq.rs;have:=hfl.rs;unfold Cap;omega));have HW1:Hid (∀W,qc7 w (.func (.func f) #[] #[]) rb rt rbo (decide (a.num<0)) (.slice pa1 ka1 ca1) (.slice pa2 ka2 ca2) W→Calls Tryz.prog 38 #[.int .i64 1] W fun e w'=>(∃v',e = .returned v'∧qaj w' v' 1)∧qc7 w (.func (.func f) #[] #[]) rb rt rbo (decide (a.num<0)) (.slice pa1 ka1 ca1) (.slice pa2 ka2 ca2) w'∧Below W.heap.size W w'):=hid fun W hW=>qdu hW (qe0 1 W (by omega) (by omega));have HH1:Hid (∀W v,qc7 w (.func (.func f) #[] #[]) rb rt rbo (decide (a.num<0)) (.slice pa1 ka1 ca1) (.slice pa2 ka2 ca2) W→qaj W v 1→Calls Tryz.prog 103 #[v] W fun e w'=>(∃v',e = .returned v'∧qaj w' v' (1/2))∧qc7 w (.func (.func f) #[] #[]) rb rt rbo (decide (a.num<0)) (.slice pa1 ka1 ca1) (.slice pa2 ka2 ca2) w'∧Below W.heap.size W w'):=hid fun W v hW hv=>qdu hW (qx5 v 1 W hv 1 (qe2 1 (by omega) (by omega)) (by omega))
 have HCM:Hid (∀W v v',qc7 w (.func (.func f) #[] #[]) rb rt rbo (decide (a.num<0)) (.slice pa1 ka1 ca1) (.slice pa2 ka2 ca2) W→qaj W v (a/s-((a/s).floor:Rat))→qaj W v' (1/2)→Calls Tryz.prog 36 #[v,v'] W fun e w'=>e = .returned (.int .i64 (qcu (a/s-((a/s).floor:Rat)) (1/2)))∧qc7 w (.func (.func f) #[] #[]) rb rt rbo (decide (a.num<0)) (.slice pa1 ka1 ca1) (.slice pa2 ka2 ca2) w'∧Below W.heap.size W w'):=hid fun W v v' hW hv hv'=>qdu hW (qb7 v v' _ _ W hv hv' (by have:=(q2b hq hfl).rs;have:=(qns (qe2 1 (by omega) (by omega)) (qe2 2 (by omega) (by omega))).rs;have h3:rs (1/2:Rat)≤6:=this;unfold Cap;omega));have HH2:Hid (∀W v,qc7 w (.func (.func f) #[] #[]) rb rt rbo (decide (a.num<0)) (.slice pa1 ka1 ca1) (.slice pa2 ka2 ca2) W→qaj W v ((a/s).floor:Rat)→Calls Tryz.prog 103 #[v] W fun e w'=>(∃v',e = .returned v'∧qaj w' v' (((a/s).floor:Rat)/2))∧qc7 w (.func (.func f) #[] #[]) rb rt rbo (decide (a.num<0)) (.slice pa1 ka1 ca1) (.slice pa2 ka2 ca2) w'∧Below W.heap.size W w'):=hid fun W v hW hv=>qdu hW (qx5 v _ W hv _ hfl (by omega));have HI2:Hid (∀W v,qc7 w (.func (.func f) #[] #[]) rb rt rbo (decide (a.num<0)) (.slice pa1 ka1 ca1) (.slice pa2 ka2 ca2) W→qaj W v (((a/s).floor:Rat)/2)→Calls Tryz.prog 100 #[v] W fun e w'=>e = .returned (.bool (decide ((((a/s).floor:Rat)/2).den=1)))∧qc7 w (.func (.func f) #[] #[]) rb rt rbo (decide (a.num<0)) (.slice pa1 ka1 ca1) (.slice pa2 ka2 ca2) w'∧Below W.heap.size W w'):=hid fun W v hW hv=>qdu hW (qkt v _ W hv);have HGU:Hid (∀W side o,qc7 w (.func (.func f) #[] #[]) rb rt rbo (decide (a.num<0)) (.slice pa1 ka1 ca1) (.slice pa2 ka2 ca2) W→Calls Tryz.prog f #[.int .i64 side,.bool o] W fun e w'=>e = .returned (.bool (qlx f side o))∧w'=W):=hid fun W side o _=>qzq kk f hff side o W
 have HP1:Hid (∀W v v',qc7 w (.func (.func f) #[] #[]) rb rt rbo (decide (a.num<0)) (.slice pa1 ka1 ca1) (.slice pa2 ka2 ca2) W→qaj W v ((a/s).floor:Rat)→qaj W v' 1→Calls Tryz.prog 79 #[v,v'] W fun e w'=>(∃v',e = .returned v'∧qaj w' v' (((a/s).floor:Rat)+1))∧qc7 w (.func (.func f) #[] #[]) rb rt rbo (decide (a.num<0)) (.slice pa1 ka1 ca1) (.slice pa2 ka2 ca2) w'∧Below W.heap.size W w'):=hid fun W v v' hW hv hv'=>qdu hW (qia v v' _ _ W hv hv' (by have:=hfl.rs;have h3:rs (1:Rat)≤2:=(qe2 1 (by omega) (by omega)).rs;unfold Cap;omega))
 have hl1:∀l,l=((a/s).floor:Rat)∨l=((a/s).floor:Rat)+1→bd l (m+m+1+1+1+1):=by
  rintro l (rfl|rfl)
  ·exact hfl.mono (by omega)
  ·exact(qnr hfl (qe2 1 (by omega) (by omega))).mono (by omega)
 have HTM:Hid (∀W v l,l=((a/s).floor:Rat)∨l=((a/s).floor:Rat)+1→qc7 w (.func (.func f) #[] #[]) rb rt rbo (decide (a.num<0)) (.slice pa1 ka1 ca1) (.slice pa2 ka2 ca2) W→qaj W v l→Calls Tryz.prog 40 #[v,.agg #[.bool rb,rt,rbo]] W fun e w'=>(∃v',e = .returned v'∧qaj w' v' (l*s))∧qc7 w (.func (.func f) #[] #[]) rb rt rbo (decide (a.num<0)) (.slice pa1 ka1 ca1) (.slice pa2 ka2 ca2) w'∧Below W.heap.size W w'):=hid fun W v l hl hW hv=>qdu hW (qd3 v _ _ _ W hv (HS.out.later hW.1) (by have:=(hl1 l hl).rs;have:=hms.rs;unfold Cap;omega));rw[decide_eq_false hw] at HIW;have HRN:Hid (qpf f (a/s)=if qlx f (qcu (a/s-((a/s).floor:Rat)) (1/2)) (!decide ((((a/s).floor:Rat)/2).den=1)) then((a/s).floor:Rat)+1 else((a/s).floor:Rat)):=hid rfl;clear hl1 hfl;generalize ((a/s).floor:Rat)=fl at *;generalize a/s-fl=dq at *;generalize qcu dq (1/2)=side at *;generalize decide ((fl/2).den=1)=ev at *;subst hrb hrt hrbo;clear ha ha1 ha2 hs hs1 hs2 hma hms hm1 hc hs0 hq;generalize decide (a.num<0)=na at *;generalize decide (s.num<0)=rb at *;have hf4:=qv4 hff;clear hff;generalize qpf f (a/s)=RN at *;generalize qlx f=GU at *
 all_goals
  go_enter Tryz.func59,Tryz.ntmps59;go_wp2_with fail;generalize ((w.alloc (.cells #[.func (.func f) #[] #[],.bool rb,.slice ps1 ks1 cs1,.slice ps2 ks2 cs2] 110)).alloc (.cells #[.bool na,.slice pa1 ka1 ca1,.slice pa2 ka2 ca2] 80)).alloc (.cells #[.bool false,.slice none 0 0,.slice none 0 0] 80)=w0 at *;obtain⟨c0,c1,c2,c3,c4,c5,c6⟩:=qci HW0.out;go_wp2_with fail;refine(HOV.out _ HW0.out).mono ?_;clear c0 c1 c2 c3 c4 c5 c6;rintro e w1 ⟨⟨v1,rfl,hv⟩,hr,hb⟩;obtain⟨p1,k1,l1,p2,k2,l2,rfl,hp1,hp2⟩:=hv.parts;clear hp1 hp2;obtain⟨hal,hbx⟩:=qpg w1 (decide ((a/s).num<0)) (.slice p1 k1 l1) (.slice p2 k2 l2);have HR:=hid (hr.later hal);have HV:=hid (hv.later hal);have HX:=hid hbx;have hlt1:w.heap.size+1+1<w1.heap.size:=hr.2.2.2.1;clear hr hv hb hal hbx HOV HW0;generalize decide ((a/s).num<0)=s1 at *;go_wp2_with fail;refine(HIW.out _ _ HR.out HV.out).mono ?_;rintro e w2 ⟨rfl,hr,hb⟩;have HR2:=hid hr;have HV2:=hid (HV.out.later hb);have HX2:=hid (HX.out.later (hb.mono HX.out.1));clear hr hb HR HV HX HIW;generalize w1.heap.size=B5 at *;obtain⟨x0,x1,x2⟩:=qbf HX2.out;go_wp2_with fail;refine(HFL.out _ _ HR2.out HV2.out).mono ?_;clear x0 x1 x2;rintro e w3 ⟨⟨v3,rfl,hv⟩,hr,hb⟩;obtain⟨p3,k3,l3,p4,k4,l4,rfl,hp1,hp2⟩:=hv.parts;clear hp1 hp2;obtain⟨hal,hbx⟩:=qpg w3 (decide (fl.num<0)) (.slice p3 k3 l3) (.slice p4 k4 l4);have HR3:=hid (hr.later hal);have HF3:=hid (hv.later hal);have HV3:=hid ((HV2.out.later hb).later hal);have HX3:=hid ((HX2.out.later (hb.mono HX2.out.1)).later (hal.mono (by have:=HX2.out.1;have:=hb.size;omega)));have HY3:=hid hbx;have hlt3:w.heap.size+1+1<w3.heap.size:=hr.2.2.2.1;clear hr hv hb hal hbx HR2 HV2 HX2 HFL;generalize decide (fl.num<0)=s3 at *;obtain⟨x0,x1,x2⟩:=qbf HX3.out;go_wp2_with fail;refine(HMI.out _ _ _ HR3.out HV3.out HF3.out).mono ?_;clear x0 x1 x2
  rintro e w4 ⟨⟨v4,rfl,hv⟩,hr,hb⟩;have HD4:=hid hv;have HR4:=hid hr;have HF4:=hid (HF3.out.later hb);have HY4:=hid (HY3.out.later (hb.mono HY3.out.1));clear hv hr hb HR3 HV3 HF3 HX3 HY3 HMI;go_wp2_with fail;refine(HW1.out _ HR4.out).mono ?_;rintro e w5 ⟨⟨v5,rfl,hv⟩,hr,hb⟩;have HO5:=hid hv;have HR5:=hid hr;have HD5:=hid (HD4.out.later hb);have HF5:=hid (HF4.out.later hb);have HY5:=hid (HY4.out.later (hb.mono HY4.out.1));clear hv hr hb HR4 HD4 HF4 HY4;go_wp2_with fail;refine(HH1.out _ _ HR5.out HO5.out).mono ?_;rintro e w6 ⟨⟨v6,rfl,hv⟩,hr,hb⟩;have HH6:=hid hv;have HR6:=hid hr;have HD6:=hid (HD5.out.later hb);have HF6:=hid (HF5.out.later hb);have HY6:=hid (HY5.out.later (hb.mono HY5.out.1));clear hv hr hb HR5 HD5 HF5 HY5 HO5 HH1;go_wp2_with fail;refine(HCM.out _ _ _ HR6.out HD6.out HH6.out).mono ?_;rintro e w7 ⟨rfl,hr,hb⟩;have HR7:=hid (hr.later ((Below.refl _ _).drew));have HF7:=hid ((HF6.out.later hb).later ((Below.refl _ _).drew));have HY7:=hid ((HY6.out.later (hb.mono HY6.out.1)).later ((Below.refl _ _).drew));clear hr hb HR6 HD6 HF6 HY6 HH6 HCM;generalize w3.heap.size=B6 at *;go_wp2_with fail;rcases hf4 with rfl|rfl|rfl|rfl
  all_goals
   have cA:=qci HR7.out;have xA:=qbf HY7.out
   first
   | (go_region_held3 (fun W=>(W.cell? ⟨w.heap.size,0,none⟩=some (.func (.func 155) #[] #[]))∧(W.cell? ⟨B6,0,none⟩=some (.bool s3)∧W.cell? ⟨B6,1,none⟩=some (.slice p3 k3 l3)∧W.cell? ⟨B6,2,none⟩=some (.slice p4 k4 l4))) (first|with_reducible exact⟨cA.1,xA⟩|with_reducible exact⟨cB.1,xB⟩|with_reducible exact⟨cC.1,xC⟩)
    (first
     | (go_at_call 103;((with_reducible refine(HH2.out _ _ HR7.out HF7.out).mono ?_);rintro e wX ⟨⟨vX,rfl,hn⟩,ht,hb⟩;have HVX:=hid hn;have HRX:=hid ht;have HFX:=hid (HF7.out.later hb);have HYX:=hid (HY7.out.later (hb.mono HY7.out.1));have cB:=qci ht;have xB:=qbf HYX.out;clear hn ht hb))
     | (go_at_call 100;((with_reducible refine(HI2.out _ _ HRX.out HVX.out).mono ?_);rintro e wY ⟨rfl,ht,hb⟩;have HRY:=hid ht;have HFY:=hid (HFX.out.later hb);have HYY:=hid (HYX.out.later (hb.mono HYX.out.1));have cC:=qci ht;have xC:=qbf HYY.out;clear ht hb))
     | (go_at_call 155;((refine(HGU.out _ _ _ HRY.out).mono ?_);rintro e wZ ⟨rfl,hwz⟩;rw[hwz];clear hwz))))
   | (go_region_held3 (fun W=>(W.cell? ⟨w.heap.size,0,none⟩=some (.func (.func 156) #[] #[]))∧(W.cell? ⟨B6,0,none⟩=some (.bool s3)∧W.cell? ⟨B6,1,none⟩=some (.slice p3 k3 l3)∧W.cell? ⟨B6,2,none⟩=some (.slice p4 k4 l4))) (first|with_reducible exact⟨cA.1,xA⟩|with_reducible exact⟨cB.1,xB⟩|with_reducible exact⟨cC.1,xC⟩)
    (first
     | (go_at_call 103;((with_reducible refine(HH2.out _ _ HR7.out HF7.out).mono ?_);rintro e wX ⟨⟨vX,rfl,hn⟩,ht,hb⟩;have HVX:=hid hn;have HRX:=hid ht;have HFX:=hid (HF7.out.later hb);have HYX:=hid (HY7.out.later (hb.mono HY7.out.1));have cB:=qci ht;have xB:=qbf HYX.out;clear hn ht hb))
     | (go_at_call 100;((with_reducible refine(HI2.out _ _ HRX.out HVX.out).mono ?_);rintro e wY ⟨rfl,ht,hb⟩;have HRY:=hid ht;have HFY:=hid (HFX.out.later hb);have HYY:=hid (HYX.out.later (hb.mono HYX.out.1));have cC:=qci ht;have xC:=qbf HYY.out;clear ht hb))
     | (go_at_call 156;((refine(HGU.out _ _ _ HRY.out).mono ?_);rintro e wZ ⟨rfl,hwz⟩;rw[hwz];clear hwz))))
   | (go_region_held3 (fun W=>(W.cell? ⟨w.heap.size,0,none⟩=some (.func (.func 157) #[] #[]))∧(W.cell? ⟨B6,0,none⟩=some (.bool s3)∧W.cell? ⟨B6,1,none⟩=some (.slice p3 k3 l3)∧W.cell? ⟨B6,2,none⟩=some (.slice p4 k4 l4))) (first|with_reducible exact⟨cA.1,xA⟩|with_reducible exact⟨cB.1,xB⟩|with_reducible exact⟨cC.1,xC⟩)
    (first
     | (go_at_call 103;((with_reducible refine(HH2.out _ _ HR7.out HF7.out).mono ?_);rintro e wX ⟨⟨vX,rfl,hn⟩,ht,hb⟩;have HVX:=hid hn;have HRX:=hid ht;have HFX:=hid (HF7.out.later hb);have HYX:=hid (HY7.out.later (hb.mono HY7.out.1));have cB:=qci ht;have xB:=qbf HYX.out;clear hn ht hb))
     | (go_at_call 100;((with_reducible refine(HI2.out _ _ HRX.out HVX.out).mono ?_);rintro e wY ⟨rfl,ht,hb⟩;have HRY:=hid ht;have HFY:=hid (HFX.out.later hb);have HYY:=hid (HYX.out.later (hb.mono HYX.out.1));have cC:=qci ht;have xC:=qbf HYY.out;clear ht hb))
     | (go_at_call 157;((refine(HGU.out _ _ _ HRY.out).mono ?_);rintro e wZ ⟨rfl,hwz⟩;rw[hwz];clear hwz))))
   | (go_region_held3 (fun W=>(W.cell? ⟨w.heap.size,0,none⟩=some (.func (.func 158) #[] #[]))∧(W.cell? ⟨B6,0,none⟩=some (.bool s3)∧W.cell? ⟨B6,1,none⟩=some (.slice p3 k3 l3)∧W.cell? ⟨B6,2,none⟩=some (.slice p4 k4 l4))) (first|with_reducible exact⟨cA.1,xA⟩|with_reducible exact⟨cB.1,xB⟩|with_reducible exact⟨cC.1,xC⟩)
    (first
     | (go_at_call 103;((with_reducible refine(HH2.out _ _ HR7.out HF7.out).mono ?_);rintro e wX ⟨⟨vX,rfl,hn⟩,ht,hb⟩;have HVX:=hid hn;have HRX:=hid ht;have HFX:=hid (HF7.out.later hb);have HYX:=hid (HY7.out.later (hb.mono HY7.out.1));have cB:=qci ht;have xB:=qbf HYX.out;clear hn ht hb))
     | (go_at_call 100;((with_reducible refine(HI2.out _ _ HRX.out HVX.out).mono ?_);rintro e wY ⟨rfl,ht,hb⟩;have HRY:=hid ht;have HFY:=hid (HFX.out.later hb);have HYY:=hid (HYX.out.later (hb.mono HYX.out.1));have cC:=qci ht;have xC:=qbf HYY.out;clear ht hb))
     | (go_at_call 158;((refine(HGU.out _ _ _ HRY.out).mono ?_);rintro e wZ ⟨rfl,hwz⟩;rw[hwz];clear hwz))))
   have HFZ:=hid HFY.out;clear cA xA cB xB cC xC HR7 HF7 HY7 HRX HFX HYX HVX HH2 HI2 HGU;generalize GU side (!ev)=gu at *;cases gu
   ·have HE:Hid (RN=fl):=hid HRN.out
    obtain⟨c0,c1,c2,c3,c4,c5,c6⟩:=qci HRY.out;obtain⟨x0,x1,x2⟩:=qbf HYY.out;go_wp2_with fail;refine(HTM.out _ _ fl (.inl rfl) HRY.out HFY.out).mono ?_;clear c0 c1 c2 c3 c4 c5 c6 x0 x1 x2;rintro e wT ⟨⟨vT,rfl,hv⟩,hr,hb⟩;obtain⟨pt,kt,ct,pf,kf,cf,rfl,hp1,hp2⟩:=hv.parts;generalize decide ((fl*s).num<0)=sg at *;obtain⟨⟨r0,g0⟩,⟨r1,g1⟩,⟨r2,g2⟩⟩:=qv5 hr;have HFIN:=hid (qbd hv r0 r1 r2);have HBEL:=hid (qai hr.1 (show w.heap.size≤w.heap.size+1+1 by omega) (.bool sg) (.slice pt kt ct) (.slice pf kf cf));clear hp1 hp2 hv hr hb HRY HFY HYY HFZ;go_wp2_with fail;refine bodyPost_ret (v := .agg #[.bool sg,.slice pt kt ct,.slice pf kf cf]) ?_ rfl ?_
    ·simp[results,Tryz.results59,go_sem,r0,r1,r2]
    ·exact⟨⟨_,rfl,by rw[HE.out];exact HFIN.out⟩,HBEL.out⟩
   ·have HE:Hid (RN=fl+1):=hid HRN.out
    go_wp2_with fail;have HRD:=hid (HRY.out.later ((Below.refl _ _).drew));have HFD:=hid (HFY.out.later ((Below.refl _ _).drew));have HYD:Hid (Own wY.drew B6 3 (qcm s3 (.slice p3 k3 l3) (.slice p4 k4 l4))):=hid (HYY.out.later ((Below.refl _ _).drew));obtain⟨x0,x1,x2⟩:=qbf HYD.out
    go_region_with (first
     | (go_at_call 38;((with_reducible refine(HW1.out _ HRD.out).mono ?_);rintro e wU ⟨⟨vU,rfl,hn⟩,ht,hb⟩;have HVU:=hid hn;have HRU:=hid ht;have HFU:=hid (HFD.out.later hb);have HYU:=hid (HYD.out.later (hb.mono HYD.out.1));clear x0 x1 x2;obtain⟨x0,x1,x2⟩:=qbf HYU.out;clear hn ht hb))
     | (go_at_call 79;((with_reducible refine(HP1.out _ _ _ HRU.out HFU.out HVU.out).mono ?_);rintro e wV ⟨⟨vV,rfl,hn⟩,ht,hb⟩;have HVV:=hid hn;have HRV:=hid ht;have HYV:=hid (HYU.out.later (hb.mono HYU.out.1));obtain⟨pt,kt,ct,pf,kf,cf,rfl,hp1,hp2⟩:=hn.parts;generalize decide ((fl+1).num<0)=sv at *;clear x0 x1 x2;obtain⟨x0,x1,x2⟩:=qbf HYV.out;have y0:=(HYV.out.2 0 (by omega)).2;have y1:=(HYV.out.2 1 (by omega)).2;have y2:=(HYV.out.2 2 (by omega)).2;clear hn ht hb hp1 hp2)))
    all_goals
    have hrs:=((HRV.out.set hlt3 0 (.bool sv)).set hlt3 1 (.slice pt kt ct)).set hlt3 2 (.slice pf kf cf);have h1:=qa8 HVV.out HYV.out 0 (by omega) (by intro k z h;cases h) (.bool sv);have h2:=qa8 h1 (HYV.out.set 0 (by omega) (.bool sv)) 1 (by omega) (by intro k z h;cases h) (.slice pt kt ct);have h3:=qa8 h2 ((HYV.out.set 0 (by omega) (.bool sv)).set 1 (by omega) (.slice pt kt ct)) 2 (by omega) (by intro k z h;cases h) (.slice pf kf cf)
    have ho:=(((HYV.out.set 0 (by omega) (.bool sv)).set 1 (by omega) (.slice pt kt ct)).set 2 (by omega) (.slice pf kf cf)).congr (f':=qcm sv (.slice pt kt ct) (.slice pf kf cf)) (fun i hi=>by
     match i,hi with
     | 0,_=>rfl
     | 1,_=>rfl
     | 2,_=>rfl)
    clear h1 h2 x0 x1 x2 y0 y1 y2 HYV HRV HVV HRU HFU HYU HVU HRD HFD HYD HRY HFY HYY HFZ HW1 HP1;generalize ((wV.setCell ⟨B6,0,none⟩ (.bool sv)).setCell ⟨B6,1,none⟩ (.slice pt kt ct)).setCell ⟨B6,2,none⟩ (.slice pf kf cf)=wW at *;have HRW:=hid hrs;have HFW:=hid h3;obtain⟨c0,c1,c2,c3,c4,c5,c6⟩:=qci hrs;obtain⟨x0,x1,x2⟩:=qbf ho;clear hrs h3 ho;go_wp2_with fail;refine(HTM.out _ _ (fl+1) (.inr rfl) HRW.out HFW.out).mono ?_;clear c0 c1 c2 c3 c4 c5 c6 x0 x1 x2;rintro e wT ⟨⟨vT,rfl,hv⟩,hr,hb⟩;obtain⟨pu,ku,cu,pg,kg,cg,rfl,hp1,hp2⟩:=hv.parts;generalize decide (((fl+1)*s).num<0)=sg at *;obtain⟨⟨r0,g0⟩,⟨r1,g1⟩,⟨r2,g2⟩⟩:=qv5 hr;have HFIN:=hid (qbd hv r0 r1 r2);have HBEL:=hid (qai hr.1 (show w.heap.size≤w.heap.size+1+1 by omega) (.bool sg) (.slice pu ku cu) (.slice pg kg cg));clear hp1 hp2 hv hr hb HRW HFW;go_wp2_with fail;refine bodyPost_ret (v := .agg #[.bool sg,.slice pu ku cu,.slice pg kg cg]) ?_ rfl ?_
    ·simp[results,Tryz.results59,go_sem,r0,r1,r2]
    ·exact⟨⟨_,rfl,by rw[HE.out];exact HFIN.out⟩,HBEL.out⟩
theorem qv6(f:Nat)(rb:Bool)(rt rbo:Value)(va:Value)(a s:Rat)(w:World)(hs:qaj w (.agg #[.bool rb,rt,rbo]) s)(ha:qaj w va a)(hs0:s.num≠0)(m:Nat)(hma:bd a m)(hms:bd s m)(hm1:1≤m)(hc:m≤1048576)(kk:ByteArray)(hff:qdl kk=some f):
  Calls Tryz.prog 59 #[.agg #[.func (.func f) #[] #[],.bool rb,rt,rbo],va] w fun e w'=>(∃v',e = .returned v'∧qaj w' v' (qjf f a s))∧Below w.heap.size w w':=by
 by_cases hw:(a/s).den=1
 ·have e1:qjf f a s=a:=if_pos hw
  rw[e1];exact qr9 f rb rt rbo va a s w hs ha hs0 m hma hms hm1 hc hw
 ·have e1:qjf f a s=qpf f (a/s)*s:=if_neg hw
  rw[e1];exact qtx f rb rt rbo va a s w hs ha hs0 m hma hms hm1 hc kk hff hw
def qj6(l:List UInt8)(k:ByteArray)(step:List UInt8):Rat:=qjf ((qdl k).getD 0) (qav l) (qav step)
def qig(l:List UInt8)(k:ByteArray)(step:List UInt8)(w:World)(e:Ending)(w':World):Prop:=
 if qaa l≠0 then e = .returned (.tuple #[.string ⟨#[]⟩,.int .i64 (qaa l)])∧Below w.heap.size w w'
 else if qau k step≠0 then e = .returned (.tuple #[.string ⟨#[]⟩,.int .i64 (qau k step)])∧Below w.heap.size w w'
 else qm2 (qj6 l k step) w e w'
theorem qzr{q:Rat}{w0 w w':World}{e:Ending}(hb:Below w0.heap.size w0 w)(h:qm2 q w e w'):qm2 q w0 e w':=⟨h.1,hb.trans (h.2.mono hb.size)⟩
theorem qzs{q:Rat}{w w':World}{e:Ending}(h:qm2 q w e w'):∃(tx:ByteArray) (ec:Int),e = .returned (.tuple #[.string tx,.int .i64 ec])∧qm2 q w (.returned (.tuple #[.string tx,.int .i64 ec])) w':=by
 have h1:=h.1;exact⟨_,_,h1,by rw[←h1];exact h⟩
theorem qqq{k:ByteArray}{step:List UInt8}(h:qau k step=0):qaa step=0∧0<(qav step).num∧∃f,qdl k=some f:=by
 unfold qau at h;split at h
 ·cases h
 ·rename_i h1
  split at h
  ·rename_i h2;exact absurd h h2
  ·rename_i h2
   split at h
   ·cases h
   ·rename_i h3
    refine⟨by omega,by omega, ?_⟩;cases hk:qdl k
    ·exact absurd hk h1
    ·exact⟨_,rfl⟩
theorem q2f(f:Nat){q:Rat}{m:Nat}(h:bd q m)(hm:1≤m):bd (qpf f q) (m+1+1+1):=by
 unfold qpf;have hf:=qx4 h hm;split
 ·exact(qnr hf (qe2 1 (by omega) (by omega))).mono (by omega)
 ·exact hf.mono (by omega)
theorem q56(f:Nat){a s:Rat}{m:Nat}(ha:bd a m)(hs:bd s m)(hm:1≤m):bd (qjf f a s) (3*m+4):=by
 unfold qjf;split
 ·exact ha.mono (by omega)
 ·exact(qe8 (q2f f (qns ha hs) (by omega)) hs).mono (by omega)
def qph(w:World)(k s:ByteArray)(W:World):Prop:=Below w.heap.size w W∧Own W w.heap.size 2 (qml (.string k) (.string s))
theorem qph.later{w W W':World}{k s:ByteArray}(h:qph w k s W)(hb:Below W.heap.size W W'):qph w k s W':=
 ⟨h.1.trans (hb.mono h.1.size),h.2.later (hb.mono h.2.1)⟩
theorem q57(w:World)(k s:ByteArray):qph w k s (w.alloc (.cells #[.string k,.string s] 60)):=
 ⟨(Below.refl _ _).alloc (Nat.le_refl _) _,qbl _ _ _ _⟩
theorem qpi(s:ByteArray)(w:World)(hg:GW w)(hs:s.size≤1073741824)(h0:qaa s.data.toList≠0):
  Calls Tryz.prog 57 #[.string s] w fun e w'=>e = .returned (.tuple #[.agg #[.bool false,.slice none 0 0,.slice none 0 0],.int .i64 (qaa s.data.toList:Nat)])∧Below w.heap.size w w':=
 (qfc s w hg hs).mono fun e w' h=>by
  unfold qky at h;rw[if_neg h0] at h;exact h
theorem qm4(s:ByteArray)(w:World)(hg:GW w)(hs:s.size≤1073741824)(h0:qaa s.data.toList=0):
  Calls Tryz.prog 57 #[.string s] w fun e w'=>(∃v',e = .returned (.tuple #[v',.int .i64 0])∧qaj w' v' (qav s.data.toList))∧Below w.heap.size w w':=
 (qfc s w hg hs).mono fun e w' h=>by
  unfold qky at h;rw[if_pos h0] at h;exact h
theorem qty(k s:ByteArray)(w:World)(hg:GW w)(hs:s.size≤1073741824)(h0:qau k s.data.toList≠0):
  Calls Tryz.prog 58 #[.agg #[.string k,.string s]] w fun e w'=>e = .returned (.tuple #[.agg #[.nilFunc,.bool false,.slice none 0 0,.slice none 0 0],.int .i64 (qau k s.data.toList:Nat)])∧Below w.heap.size w w':=
 (qnt k s w hg hs).mono fun e w' h=>by
  unfold qje at h;rw[if_neg h0] at h;exact h
theorem qsa(k s:ByteArray)(f:Nat)(hf:qdl k=some f)(w:World)(hg:GW w)(hs:s.size≤1073741824)(h0:qau k s.data.toList=0):
  Calls Tryz.prog 58 #[.agg #[.string k,.string s]] w fun e w'=>(∃b t bo,e = .returned (.tuple #[.agg #[.func (.func f) #[] #[],.bool b,t,bo],.int .i64 0])∧qaj w' (.agg #[.bool b,t,bo]) (qav s.data.toList))∧Below w.heap.size w w':=
 (qnt k s w hg hs).mono fun e w' h=>by
  unfold qje at h;rw[if_pos h0] at h;obtain⟨⟨f',v,b,t,bo,he,hf',rfl,hv⟩,hb⟩:=h;rw[hf] at hf';cases hf'
  exact⟨⟨b,t,bo,he,hv⟩,hb⟩
theorem qtz(x k s:ByteArray)(w:World)(hg:GW w)(hx:x.size≤1073741824)(hs:s.size≤1073741824):
  Calls Tryz.prog 25 #[.string x,.agg #[.string k,.string s]] w (qig x.data.toList k s.data.toList w):=by
 have HW0:=hid (q57 w k s);by_cases h0:qaa x.data.toList=0
 ·have HRD:Hid (∀W,qph w k s W→Calls Tryz.prog 57 #[.string x] W fun e w'=>(∃v',e = .returned (.tuple #[v',.int .i64 0])∧qaj w' v' (qav x.data.toList))∧qph w k s w'):=hid fun W hW=>(qm4 x W (hg.later hW.1) hx h0).mono fun e w' ⟨h1,h2⟩=>⟨h1,hW.later h2⟩
  by_cases h1:qau k s.data.toList=0
  ·obtain⟨hcs,hpos,f,hf⟩:=qqq h1
   have HFIN:Hid (∀e w',qm2 (qjf f (qav x.data.toList) (qav s.data.toList)) w e w'→qig x.data.toList k s.data.toList w e w'):=hid fun e w' h=>by
    unfold qig;rw[if_neg (by omega),if_neg (by omega)];unfold qj6;rw[hf];exact h
   have HRR:Hid (∀W,qph w k s W→Calls Tryz.prog 58 #[.agg #[.string k,.string s]] W fun e w'=>(∃b t bo,e = .returned (.tuple #[.agg #[.func (.func f) #[] #[],.bool b,t,bo],.int .i64 0])∧qaj w' (.agg #[.bool b,t,bo]) (qav s.data.toList))∧qph w k s w'∧Below W.heap.size W w'):=hid fun W hW=>(qsa k s f hf W (hg.later hW.1) hs h1).mono fun e w' ⟨h1,h2⟩=>⟨h1,hW.later h2,h2⟩;have hbx:=qiu h0;have hbs:=qiu hcs;have HRN:Hid (∀W v b t bo,qph w k s W→qaj W v (qav x.data.toList)→qaj W (.agg #[.bool b,t,bo]) (qav s.data.toList)→Calls Tryz.prog 59 #[.agg #[.func (.func f) #[] #[],.bool b,t,bo],v] W fun e w'=>(∃v',e = .returned v'∧qaj w' v' (qjf f (qav x.data.toList) (qav s.data.toList)))∧qph w k s w'):=hid fun W v b t bo hW hv hv'=>(qv6 f b t bo v _ _ W hv' hv (by omega) 600 hbx hbs (by omega) (by omega) k hf).mono fun e w' ⟨h1,h2⟩=>⟨h1,hW.later h2⟩;have HWT:Hid (∀W v,qph w k s W→qaj W v (qjf f (qav x.data.toList) (qav s.data.toList))→Calls Tryz.prog 56 #[v] W (qm2 (qjf f (qav x.data.toList) (qav s.data.toList)) w)):=hid fun W v hW hv=>(qjc v _ W hv (by have:=(q56 f hbx hbs (by omega)).rs;unfold Cap;omega)).mono fun e w' h=>qzr hW.1 h;clear hg hx hs h0 h1 hcs hpos hf hbx hbs;generalize qav x.data.toList=qx at *;generalize qav s.data.toList=qs at *;generalize qjf f qx qs=qr at *;go_enter Tryz.func25,Tryz.ntmps25;go_wp2_with fail;refine(HRD.out _ HW0.out).mono ?_;rintro e w1 ⟨⟨v1,rfl,hv⟩,hr⟩;obtain⟨p1,k1,l1,p2,k2,l2,rfl,hp1,hp2⟩:=hv.parts;clear hp1 hp2;obtain⟨hal,hbx⟩:=qpg w1 (decide (qx.num<0)) (.slice p1 k1 l1) (.slice p2 k2 l2);have HR1:=hid (hr.later hal);have HV1:=hid (hv.later hal);have HX1:=hid hbx;clear hr hv hal hbx HRD HW0;generalize decide (qx.num<0)=s1 at *;obtain⟨c0,c1⟩:=qag HR1.out.2;go_wp2_with fail;refine(HRR.out _ HR1.out).mono ?_;clear c0 c1
   rintro e w2 ⟨⟨rb,rt,rbo,rfl,hv⟩,hr,hb⟩;obtain⟨pt,kt,ct,pf,kf,cf,he,hp1,hp2⟩:=hv.parts;simp only[Value.agg.injEq,Array.mk.injEq,List.cons.injEq,and_true] at he;obtain⟨he0,rfl,rfl⟩:=he;clear he0 hp1 hp2;have hal:Below w2.heap.size w2 (w2.alloc (.cells #[.func (.func f) #[] #[],.bool rb,.slice pt kt ct,.slice pf kf cf] 110)):=(Below.refl _ _).alloc (Nat.le_refl _) _;have HR2:=hid (hr.later hal);have HS2:=hid (hv.later hal);have HV2:=hid ((HV1.out.later hb).later hal);have hx2:=(HX1.out.later (hb.mono HX1.out.1)).later (hal.mono (by have:=HX1.out.1;have:=hb.size;omega));obtain⟨x0,x1,x2⟩:=qbf hx2;clear hr hv hb hal hx2 HR1 HV1 HX1 HRR;go_wp2_with fail;refine(HRN.out _ _ _ _ _ HR2.out HV2.out HS2.out).mono ?_;clear x0 x1 x2;rintro e w3 ⟨⟨v3,rfl,hv⟩,hr⟩;have HR3:=hid hr;have HV3:=hid hv;clear hr hv HR2 HV2 HS2 HRN;go_wp2_with fail;refine(HWT.out _ _ HR3.out HV3.out).mono ?_;rintro e w4 h;obtain⟨tx,ec,rfl,h2⟩:=qzs h;have HF4:=hid (HFIN.out _ _ h2);clear h h2 HR3 HV3 HWT HFIN;go_wp2_with fail;go_ret2;exact HF4.out
  ·have HRR:Hid (∀W,qph w k s W→Calls Tryz.prog 58 #[.agg #[.string k,.string s]] W fun e w'=>e = .returned (.tuple #[.agg #[.nilFunc,.bool false,.slice none 0 0,.slice none 0 0],.int .i64 (qau k s.data.toList:Nat)])∧qph w k s w'∧Below W.heap.size W w'):=hid fun W hW=>(qty k s W (hg.later hW.1) hs h1).mono fun e w' ⟨h1,h2⟩=>⟨h1,hW.later h2,h2⟩
   have HFIN:Hid (∀w',Below w.heap.size w w'→qig x.data.toList k s.data.toList w (.returned (.tuple #[.string ⟨#[]⟩,.int .i64 (qau k s.data.toList:Nat)])) w'):=hid fun w' h=>by
    unfold qig;rw[if_neg (by omega),if_pos h1];exact⟨rfl,h⟩
   have hb0:((qau k s.data.toList:Int)==0)=false:=beq_eq_false_iff_ne.2 (by omega);clear hg hx hs h0 h1;generalize qau k s.data.toList=c at *;generalize qav x.data.toList=qx at *;go_enter Tryz.func25,Tryz.ntmps25;go_wp2_with fail;refine(HRD.out _ HW0.out).mono ?_;rintro e w1 ⟨⟨v1,rfl,hv⟩,hr⟩;obtain⟨p1,k1,l1,p2,k2,l2,rfl,hp1,hp2⟩:=hv.parts;clear hp1 hp2 hv;obtain⟨hal,hbx⟩:=qpg w1 (decide (qx.num<0)) (.slice p1 k1 l1) (.slice p2 k2 l2);have HR1:=hid (hr.later hal);clear hr hal hbx HRD HW0;generalize decide (qx.num<0)=s1 at *;obtain⟨c0,c1⟩:=qag HR1.out.2;go_wp2_with fail;refine(HRR.out _ HR1.out).mono ?_;clear c0 c1;rintro e w2 ⟨rfl,hr,hb⟩;have HB2:Hid (Below w.heap.size w (w2.alloc (.cells #[.nilFunc,.bool false,.slice none 0 0,.slice none 0 0] 110))):=hid (hr.1.alloc hr.1.size _);clear hr hb HR1 HRR;go_wp2_with fail;go_ret2;exact HFIN.out _ HB2.out
 ·have HRD:Hid (∀W,qph w k s W→Calls Tryz.prog 57 #[.string x] W fun e w'=>e = .returned (.tuple #[.agg #[.bool false,.slice none 0 0,.slice none 0 0],.int .i64 (qaa x.data.toList:Nat)])∧qph w k s w'):=hid fun W hW=>(qpi x W (hg.later hW.1) hx h0).mono fun e w' ⟨h1,h2⟩=>⟨h1,hW.later h2⟩
  have HFIN:Hid (∀w',Below w.heap.size w w'→qig x.data.toList k s.data.toList w (.returned (.tuple #[.string ⟨#[]⟩,.int .i64 (qaa x.data.toList:Nat)])) w'):=hid fun w' h=>by
   unfold qig;rw[if_pos h0];exact⟨rfl,h⟩
  have hb0:((qaa x.data.toList:Int)==0)=false:=beq_eq_false_iff_ne.2 (by omega);clear hg hx hs h0;generalize qaa x.data.toList=c at *;go_enter Tryz.func25,Tryz.ntmps25;go_wp2_with fail;refine(HRD.out _ HW0.out).mono ?_;rintro e w1 ⟨rfl,hr⟩;have HB2:Hid (Below w.heap.size w (w1.alloc (.cells #[.bool false,.slice none 0 0,.slice none 0 0] 80))):=hid (hr.1.alloc hr.1.size _);clear hr HRD HW0;go_wp2_with fail;go_ret2;exact HFIN.out _ HB2.out
section
variable {P:Program} (w:World)
theorem qbi{ops:Array Oper}{rest:List Oper}{o:Oper}{a:Act}{Q:Exit→Act→World→Prop}(hgd:o.guard=none)(s x:Operand)(t:TypeId)
  (ho:o.op = .call { callee := .builtin .append,args:=#[s,x],argTypes:=#[t,t] })
  (e:TypeId) (i:TypeInfo) (size:Nat) (ht:P.underlying t=some (.slice e)) (hi:P.info? e=some i) (hsize:i.size=size)
  (g n cap:Nat) (cur:Array Value) (hs:a.eval s = .slice (some ⟨g,0,none⟩) n cap) (hg:w.heap[g]? = some (.cells cur e (0,0)))
  (ad:Addr) (m c:Nat) (news:List Value) (hx:a.eval x = .slice (some ad) m c) (hl:news.length=m*size) (hnews:∀j u,news[j]? = some u→w.cell? (ad.add j)=some u) (h1:∀u ∈ news,u.oneCell'=true)
  (hroom:n+m≤cap) (hfit:n*size+news.length≤cur.size)
  (h:wpList P ops Q rest (a.put o.dst (.slice (some ⟨g,0,none⟩) (n+m) cap)) (w.setRow g (cur.toList.take (n*size)++news++cur.toList.drop (n*size+news.length)).toArray)):wpList P ops Q (o::rest) a w:=by
 refine wpList_plain hgd fun _ hK => ?_;subst hsize;have hr:=run_append_room (P:=P) w t o.type e i ht hi g n cap cur hg ad m c news hl hnews h1 hroom hfit;unfold Oper.wp execOp;simp only[ho,resolve,invoke,builtin,Sem.run_bind,Sem.run_pure,Result.andThen_ok,List.map_toArray,List.map_cons,List.map_nil,hs,hx,hr];exact hK _ _ h
end
theorem qaq.setRow{W:World}{v:Value}{n g:Nat}{cur:Array Value}{ty:TypeId}{fr:Nat × Nat}(h:qaq W v n)(hg:W.heap[g]? = some (.cells cur ty fr))(hc:∀c ∈ cur.toList,∀k z,c ≠ .int k z)(cs:Array Value):qaq (W.setRow g cs) v n:=by
 obtain⟨h1,q,c,h2,h3,h4,h5⟩:=h;refine⟨h1,q,c,h2,h3,h4, ?_⟩;rcases h5 with h5|⟨b,o,h6,h7⟩
 ·exact .inl h5
 ·refine .inr ⟨b,o,h6,fun i hi => ?_⟩
  have hcell:=h7 i hi;by_cases e:b=g
  ·subst e
   rw[cell_of_row W b (o+i) cur ty fr hg] at hcell
   have hm:wd (qaf B64 n) i ∈ cur.toList:=by
    rw[←Array.getElem?_toList] at hcell;exact List.mem_of_getElem? hcell
   exact absurd rfl (hc _ hm _ _)
  ·rw[cell_setRow_other W g cs ⟨b,o+i,none⟩ e]
   exact hcell
theorem qaj.setRow{W:World}{v:Value}{q:Rat}{g:Nat}{cur:Array Value}{ty:TypeId}{fr:Nat × Nat}(h:qaj W v q)(hg:W.heap[g]? = some (.cells cur ty fr))(hc:∀c ∈ cur.toList,∀k z,c ≠ .int k z)(cs:Array Value):qaj (W.setRow g cs) v q:=by
 obtain⟨t,b,e,h1,h2⟩:=h;exact⟨t,b,e,h1.setRow hg hc cs,h2.setRow hg hc cs⟩
def qj7(W:World)(g cap:Nat)(qs:List Rat):Prop:=
 qs.length≤cap∧∃cur:Array Value,W.heap[g]? = some (.cells cur 80 (0,0))∧cur.size=cap*3∧(∀c ∈ cur.toList,∀k z,c ≠ .int k z)∧
  ∀(j:Nat) (q:Rat),qs[j]? = some q→∃b p1 k1 c1 p2 k2 c2,cur.toList[j*3]? = some (.bool b)∧cur.toList[j*3+1]? = some (.slice p1 k1 c1)∧cur.toList[j*3+2]? = some (.slice p2 k2 c2)∧qaj W (.agg #[.bool b,.slice p1 k1 c1,.slice p2 k2 c2]) q
theorem qm5(w:World)(cap:Nat):qj7 (w.alloc (.cells (madeCells #[.bool false,.slice none 0 0,.slice none 0 0] (cap*3)) 80)) w.heap.size cap []:=by
 refine⟨Nat.zero_le _,_,heap_alloc_new w _,size_madeCells _ _,fun c hc k z => ?_,fun j q h=>by simp at h⟩;unfold madeCells at hc;simp only[Array.toList_map,Array.toList_range,List.mem_map] at hc;obtain⟨i,_,rfl⟩:=hc;have h3:i % 3=0∨i % 3=1∨i % 3=2:=by omega
 intro h;simp only[List.size_toArray,List.length_cons,List.length_nil] at h;rcases h3 with h3|h3|h3<;>rw[h3] at h<;>cases h
theorem qj7.lt{W:World}{g cap:Nat}{qs:List Rat}(h:qj7 W g cap qs):g<W.heap.size:=by
 obtain⟨_,cur,hg,_⟩:=h;rcases Nat.lt_or_ge g W.heap.size with h1|h1
 ·exact h1
 ·rw[Array.getElem?_eq_none h1] at hg;cases hg
theorem qj7.later{W W':World}{g cap:Nat}{qs:List Rat}(h:qj7 W g cap qs)(hb:Below W.heap.size W W'):qj7 W' g cap qs:=by
 have hlt:=h.lt;obtain⟨h1,cur,hg,h2,h3,h4⟩:=h;refine⟨h1,cur,(hb.block g hlt).trans hg,h2,h3,fun j q hq => ?_⟩;obtain⟨b,p1,k1,c1,p2,k2,c2,e1,e2,e3,hv⟩:=h4 j q hq;exact⟨b,p1,k1,c1,p2,k2,c2,e1,e2,e3,hv.later hb⟩
theorem qv7(W:World)(sg:Bool)(t b:Value):Below W.heap.size W (W.alloc (.cells #[.bool sg,t,b] 80))∧Own (W.alloc (.cells #[.bool sg,t,b] 80)) W.heap.size 3 (qcm sg t b):=
 ⟨(Below.refl _ _).alloc (Nat.le_refl _) _,qq5 _ _ _ _⟩
theorem qj7.push{W:World}{g cap:Nat}{qs:List Rat}{b:Bool}{p1 p2:Option Addr}{k1 c1 k2 c2:Nat}{q:Rat}(h:qj7 W g cap qs)(hk:qs.length<cap)(hv:qaj W (.agg #[.bool b,.slice p1 k1 c1,.slice p2 k2 c2]) q):
  ∃cur:Array Value,W.heap[g]? = some (.cells cur 80 (0,0))∧qs.length*3+3≤cur.size∧
   qj7 (W.setRow g (cur.toList.take (qs.length*3)++[Value.bool b,.slice p1 k1 c1,.slice p2 k2 c2]++cur.toList.drop (qs.length*3+3)).toArray) g cap (qs++[q])∧
   ∀B,B≤g→Below B W (W.setRow g (cur.toList.take (qs.length*3)++[Value.bool b,.slice p1 k1 c1,.slice p2 k2 c2]++cur.toList.drop (qs.length*3+3)).toArray):=by
 obtain⟨h1,cur,hg,h2,h3,h4⟩:=h;have hfit:qs.length*3+3≤cur.size:=by omega
 have hfit':qs.length*3+3≤cur.toList.length:=by rw[Array.length_toList];exact hfit
 have hlen:(cur.toList.take (qs.length*3)).length=qs.length*3:=by rw[List.length_take];omega
 refine⟨cur,hg,hfit,⟨by rw[List.length_append];simp;omega,_,setRow_heap W g cur _ _ _ hg, ?_, ?_, ?_⟩,fun B hB=>⟨rfl,rfl,rfl,by simp[World.setRow],fun k hk=>setRow_other W g k _ (by omega)⟩⟩
 ·simp only[List.size_toArray,List.length_append,hlen,List.length_cons,List.length_nil,List.length_drop,Array.length_toList]
  omega
 ·intro c hc k z
  rw[List.mem_append,List.mem_append] at hc;rcases hc with(hc|hc)|hc
  ·exact h3 c (List.mem_of_mem_take hc) k z
  ·simp only[List.mem_cons,List.not_mem_nil,or_false] at hc
   rcases hc with rfl|rfl|rfl<;>(intro h;cases h)
  ·exact h3 c (List.mem_of_mem_drop hc) k z
 ·intro j q' hq'
  rcases Nat.lt_or_ge j qs.length with hj|hj
  ·rw[List.getElem?_append_left hj] at hq'
   obtain⟨b',a1,a2,a3,a4,a5,a6,e1,e2,e3,hv'⟩:=h4 j q' hq'
   have key:∀i,i<qs.length*3→(cur.toList.take (qs.length*3)++[Value.bool b,.slice p1 k1 c1,.slice p2 k2 c2]++cur.toList.drop (qs.length*3+3)).toArray.toList[i]? = cur.toList[i]? := by
    intro i hi;rw[List.append_assoc,List.getElem?_append_left (by rw[hlen];exact hi),List.getElem?_take_of_lt hi]
   refine⟨b',a1,a2,a3,a4,a5,a6, ?_, ?_, ?_,hv'.setRow hg h3 _⟩
   ·rw[key _ (by omega)];exact e1
   ·rw[key _ (by omega)];exact e2
   ·rw[key _ (by omega)];exact e3
  ·have hj':j=qs.length:=by
    have:=(List.getElem?_eq_some_iff.1 hq').1;rw[List.length_append] at this;simp at this;omega
   subst hj'
   have hqq:q'=q:=by
    rw[List.getElem?_append_right (Nat.le_refl _),Nat.sub_self] at hq'
    simpa using hq'.symm
   subst hqq
   have key:∀i,i<3→(cur.toList.take (qs.length*3)++[Value.bool b,.slice p1 k1 c1,.slice p2 k2 c2]++cur.toList.drop (qs.length*3+3)).toArray.toList[qs.length*3+i]? = [Value.bool b,.slice p1 k1 c1,.slice p2 k2 c2][i]? := by
    intro i hi;rw[List.append_assoc,List.getElem?_append_right (by rw[hlen];omega),hlen,Nat.add_sub_cancel_left,List.getElem?_append_left (by simpa using hi)]
   exact⟨b,p1,k1,c1,p2,k2,c2,key 0 (by omega),key 1 (by omega),key 2 (by omega),hv.setRow hg h3 _⟩
theorem qj7.get{W:World}{g cap:Nat}{qs:List Rat}(h:qj7 W g cap qs)(j:Nat)(q:Rat)(hq:qs[j]? = some q):
  ∃b p1 k1 c1 p2 k2 c2,W.cell? ⟨g,j*3,none⟩=some (.bool b)∧W.cell? ⟨g,j*3+1,none⟩=some (.slice p1 k1 c1)∧W.cell? ⟨g,j*3+2,none⟩=some (.slice p2 k2 c2)∧qaj W (.agg #[.bool b,.slice p1 k1 c1,.slice p2 k2 c2]) q:=by
 obtain⟨_,cur,hg,_,_,h4⟩:=h;obtain⟨b,p1,k1,c1,p2,k2,c2,e1,e2,e3,hv⟩:=h4 j q hq;refine⟨b,p1,k1,c1,p2,k2,c2, ?_, ?_, ?_,hv⟩
 ·rw[cell_of_row W g _ cur _ (0,0) hg,←Array.getElem?_toList];exact e1
 ·rw[cell_of_row W g _ cur _ (0,0) hg,←Array.getElem?_toList];exact e2
 ·rw[cell_of_row W g _ cur _ (0,0) hg,←Array.getElem?_toList];exact e3
def qac:List Nat→Nat
 | []=>0
 | e::l=>if e=0 then qac l else e
theorem qgb(l m:List Nat)(h:qac l=0):qac (l++m)=qac m:=by
 induction l with
 | nil=>rfl
 | cons e l ih=>
  unfold qac at h;by_cases he:e=0
  ·rw[if_pos he] at h
   show(if e=0 then qac (l++m) else e)=_;rw[if_pos he,ih h]
  ·rw[if_neg he] at h
   exact absurd h he
def qkj(errs:List Nat)(qs:List Rat)(w:World)(e:Ending)(w':World):Prop:=
 (if qac errs=0 then ∃g,w.heap.size≤g∧e = .returned (.tuple #[.slice (some ⟨g,0,none⟩) qs.length qs.length,.int .i64 0])∧qj7 w' g qs.length qs
  else e = .returned (.tuple #[.slice none 0 0,.int .i64 (qac errs)]))∧Below w.heap.size w w'
theorem qpj(n:Nat)(hn:n≤1048576)(w:World):
  (Instr.makeSlice 118 (.int .i64 0) (.int .i64 (n:Int))).run Tryz.prog w = .ok (.slice (some ⟨w.heap.size,0,none⟩) 0 n) (w.alloc (.cells (madeCells #[.bool false,.slice none 0 0,.slice none 0 0] (n*3)) 80)):=by
 obtain⟨i0,hi,hz0,hz1,hz2⟩:=info_parts (show(Tryz.prog.info? 80).map (fun i=>(i.zero,i.size,i.bytes))=some (some (.agg #[.bool false,.slice none 0 0,.slice none 0 0]),3,56) by kernel_rfl);have h:=run_make (P:=Tryz.prog) w 118 80 i0 _ Tryz.underlying118 hi hz0 .i64 .i64 0 (n:Int) (Int.le_refl _) (by omega) (by rw[hz2];omega) (by omega);rw[hz1] at h
 simpa [Value.cells] using h
theorem qb9{α:Type}{l:List α}{k:Nat}{s:α}(h:l[k]? = some s):l.take (k+1)=l.take k++[s]:=by
 rw[List.take_add_one,h];rfl
theorem qjg{α:Type}{l:List α}{k:Nat}{s:α}(f:α→Nat)(h:l[k]? = some s)(h0:qac ((l.take k).map f)=0)(hs:f s≠0):qac (l.map f)=f s:=by
 have e:l=l.take k++s::l.drop (k+1):=by
  have hk:=(List.getElem?_eq_some_iff.1 h).1;have hv:=(List.getElem?_eq_some_iff.1 h).2;rw[←hv,List.getElem_cons_drop,List.take_append_drop]
 have e2:l.map f=(l.take k).map f++f s::(l.drop (k+1)).map f:=by
  conv=>lhs;rw[e]
  rw[List.map_append,List.map_cons]
 rw[e2,qgb _ _ h0];show(if f s=0 then _ else f s)=_;rw[if_neg hs]
theorem qhy{α:Type}{l:List α}{k:Nat}{s:α}(f:α→Nat)(h:l[k]? = some s)(h0:qac ((l.take k).map f)=0)(hs:f s=0):qac ((l.take (k+1)).map f)=0:=by
 rw[qb9 h,List.map_append,qgb _ _ h0];show(if f s=0 then qac [] else f s)=0;rw[if_pos hs];rfl
theorem qzt{errs:List Nat}{qs:List Rat}{w w':World}{k:Nat}{e:Ending}(h:qac errs=k)(hk:k≠0)(he:e = .returned (.tuple #[.slice none 0 0,.int .i64 (k:Int)]))(hb:Below w.heap.size w w'):qkj errs qs w e w':=by
 unfold qkj;rw[if_neg (by omega),h];exact⟨he,hb⟩
theorem qv8{errs:List Nat}{qs:List Rat}{w w':World}{g n:Nat}{e:Ending}(h:qac errs=0)(hn:qs.length=n)(hg:w.heap.size≤g)(he:e = .returned (.tuple #[.slice (some ⟨g,0,none⟩) n n,.int .i64 0]))(hv:qj7 w' g n qs)(hb:Below w.heap.size w w'):qkj errs qs w e w':=by
 unfold qkj;rw[if_pos h,hn];exact⟨⟨g,hg,he,hv⟩,hb⟩
theorem q2g{s:ByteArray}{w:World}(h:Calls Tryz.prog 57 #[.string s] w (qky s.data.toList w))(hc:qaa s.data.toList=0):
  Calls Tryz.prog 57 #[.string s] w fun e w'=>(∃v',e = .returned (.tuple #[v',.int .i64 0])∧qaj w' v' (qav s.data.toList))∧Below w.heap.size w w':=by
 refine h.mono fun e w' h => ?_;unfold qky at h;rw[if_pos hc] at h;exact h
theorem q58{s:ByteArray}{w:World}(h:Calls Tryz.prog 57 #[.string s] w (qky s.data.toList w))(hc:qaa s.data.toList≠0):
  Calls Tryz.prog 57 #[.string s] w fun e w'=>e = .returned (.tuple #[.agg #[.bool false,.slice none 0 0,.slice none 0 0],.int .i64 (qaa s.data.toList:Nat)])∧Below w.heap.size w w':=by
 refine h.mono fun e w' h => ?_;unfold qky at h;rw[if_neg hc] at h;exact h
theorem q2h(l:List ByteArray)(b o c:Nat)(w:World)(hg:GW w)(hrow:∀i s,l[i]? = some s→w.cell? ⟨b,o+i,none⟩=some (.string s))(hl:l.length≤1048576)(hs:∀s ∈ l,s.size≤1073741824):
  Calls Tryz.prog 66 #[.slice (some ⟨b,o,none⟩) l.length c,.func (.func 57) #[] #[]] w
   (qkj (l.map fun s=>qaa s.data.toList) (l.map fun s=>qav s.data.toList) w):=by
 have HG:=hid hg;have HROW:=hid hrow;have HS:=hid hs;have hmk:=qpj l.length hl;obtain⟨i0,hi,hz0,hz1,hz2⟩:=info_parts (show(Tryz.prog.info? 80).map (fun i=>(i.zero,i.size,i.bytes))=some (some (.agg #[.bool false,.slice none 0 0,.slice none 0 0]),3,56) by kernel_rfl);have HI:=hid hi;clear hg hrow hs hi hz0 hz2;go_enter Tryz.func66,Tryz.ntmps66;go_wp2_with fail;clear hmk;have HN0:=hid (qm5 w l.length);have HB0:Hid (Below w.heap.size w (w.alloc (.cells (madeCells #[.bool false,.slice none 0 0,.slice none 0 0] (l.length*3)) 80))):=hid ((Below.refl _ _).alloc (Nat.le_refl _) _);generalize w.alloc (.cells (madeCells #[.bool false,.slice none 0 0,.slice none 0 0] (l.length*3)) 80)=w0 at *
 go_loopw [6,16] (fun r i wr=>∃k:Nat,k≤l.length∧i = .int .i64 k∧r = .slice (some ⟨w.heap.size,0,none⟩) k l.length∧Hid (qj7 wr w.heap.size l.length ((l.take k).map fun s=>qav s.data.toList))∧Hid (qac ((l.take k).map fun s=>qaa s.data.toList)=0)∧Hid (Below w.heap.size w wr)) (fun _ i _=>l.length-(intOf i).toNat)
 case atStart=>exact⟨0,Nat.zero_le _,rfl,rfl,HN0,hid rfl,HB0⟩
 case round=>
  obtain⟨k,hk,rfl,rfl,HN,HE,HB⟩:=hrel;clear HN0 HB0;by_cases hkl:k<l.length
  ·obtain⟨s,hsk⟩:∃s,l[k]? = some s:=⟨l[k],List.getElem?_eq_getElem hkl⟩
   have hcell0:=HROW.out k s hsk
   have hcell:wr.cell? ⟨b,o+k,none⟩=some (.string s):=by
    rw[HB.out.cell (World.block_lt_of_cell? w _ hcell0)];exact hcell0
   have HRD:=hid (qfc s wr (HG.out.later HB.out) (HS.out s (List.mem_of_getElem? hsk)));have HSK:=hid hsk;clear hcell0 hsk;by_cases hc:qaa s.data.toList=0
   ·have HRD2:=hid (q2g HRD.out hc)
    have HE2:=hid (qhy (fun s:ByteArray=>qaa s.data.toList) HSK.out HE.out hc);clear HRD HE hc;go_wp2_with fail;refine HRD2.out.mono ?_;rintro e w1 ⟨⟨v',rfl,hv⟩,hb⟩;obtain⟨p1,k1,c1,p2,k2,c2,rfl,hp1,hp2⟩:=hv.parts
    have hqs:((l.take k).map fun s=>qav s.data.toList)++[qav s.data.toList]=(l.take (k+1)).map fun s=>qav s.data.toList:=by
     rw[qb9 HSK.out,List.map_append];rfl
    have HQS:=hid hqs;have hql:((l.take k).map fun s=>qav s.data.toList).length=k:=by rw[List.length_map,List.length_take];omega
    have HN1:=hid (HN.out.later hb);have HV1:=hid hv;have HB1:=hid (HB.out.trans (hb.mono HB.out.size));clear hp1 hp2 hqs hv hb HN HB HRD2 hcell;generalize decide ((qav s.data.toList).num<0)=sg at *;generalize qav s.data.toList=q at *;generalize ((l.take k).map fun s=>qav s.data.toList)=qs at *;obtain⟨hal,hbx⟩:=qv7 w1 sg (.slice p1 k1 c1) (.slice p2 k2 c2);have HN2:=hid (HN1.out.later hal);have HV2:=hid (HV1.out.later hal);have hbs:w.heap.size≤w1.heap.size:=HB1.out.size;have HB2:=hid (HB1.out.trans (hal.mono hbs));obtain⟨x0,x1,x2⟩:=qbf hbx;have hal2:Below (w1.alloc (.cells #[.bool sg,.slice p1 k1 c1,.slice p2 k2 c2] 80)).heap.size (w1.alloc (.cells #[.bool sg,.slice p1 k1 c1,.slice p2 k2 c2] 80)) ((w1.alloc (.cells #[.bool sg,.slice p1 k1 c1,.slice p2 k2 c2] 80)).alloc (.cells #[.bool sg,.slice p1 k1 c1,.slice p2 k2 c2] 80)):=(Below.refl _ _).alloc (Nat.le_refl _) _;obtain⟨cur,hcur,hfit,hnew,hbel⟩:=(HN2.out.later hal2).push (by rw[hql];exact hkl) (HV2.out.later hal2);have hnb:=heap_alloc_new (w1.alloc (.cells #[.bool sg,.slice p1 k1 c1,.slice p2 k2 c2] 80)) (.cells #[.bool sg,.slice p1 k1 c1,.slice p2 k2 c2] 80);rw[World.size_alloc] at hnb;rw[hql] at hfit hnew hbel;simp only[List.append_assoc,List.cons_append,List.nil_append] at hnew hbel;have HNEW:=hid hnew;have HBEL:=hid (HB2.out.trans ((hal2.mono (by rw[World.size_alloc];omega)).trans (hbel w.heap.size (Nat.le_refl _))));have HCUR:=hid hcur;have HNB:=hid hnb;have HFIT:=hid hfit;clear hal hbx hal2 hbs hcur hfit hnew hbel hnb HN1 HV1 HB1 HN2 HV2 HB2 hql
    go_wp2_with (at_builtin;refine qbi _ rfl _ _ 118 rfl 80 i0 3 Tryz.underlying118 HI.out hz1 w.heap.size k l.length cur rfl HCUR.out ⟨w1.heap.size+1,0,none⟩ 1 1 [.bool sg,.slice p1 k1 c1,.slice p2 k2 c2] rfl rfl (World.news_of_block HNB.out) ?qc1 (by omega) HFIT.out ?_)
    case qc1=>
     intro u hu;simp only[List.mem_cons,List.not_mem_nil,or_false] at hu;rcases hu with rfl|rfl|rfl<;>rfl
    clear x0 x1 x2;go_wp2_with fail;go_roundw
    case rel=>exact⟨k+1,hkl,by go_num,rfl,hid (by rw[←HQS.out];exact HNEW.out),HE2,HBEL⟩
    case measure=>simp[intOf];omega
   ·have HRD2:=hid (q58 HRD.out hc)
    have HF:=hid (qjg (fun s:ByteArray=>qaa s.data.toList) HSK.out HE.out hc);clear HRD HE;generalize qaa s.data.toList=ck at *;have hck:((ck:Int)==0)=false:=beq_eq_false_iff_ne.2 (by omega);have HCK:=hid hc;clear hc;go_wp2_with fail;refine HRD2.out.mono ?_;rintro e w1 ⟨rfl,hb⟩;have HB1:=hid (HB.out.trans ((hb.mono HB.out.size).trans ((Below.refl w.heap.size w1).alloc (Nat.le_trans HB.out.size hb.size) (.cells #[.bool false,.slice none 0 0,.slice none 0 0] 80))));clear hb HB HRD2 hcell;go_wp2_with fail;go_ret2;exact qzt HF.out HCK.out rfl HB1.out
  ·obtain rfl:k=l.length:=by omega
   have hql:(l.map fun s=>qav s.data.toList).length=l.length:=by rw[List.length_map]
   have HQL:=hid hql;have hE:=HE.out;have hN:=HN.out;rw[List.take_length] at hE hN;have HE':=hid hE;have HN':=hid hN;clear hE hN hql HE HN;go_wp2_with fail;go_ret2;exact qv8 HE'.out HQL.out (Nat.le_refl _) rfl HN'.out HB.out
theorem qj8{a b:Nat}(h:qac [a,b]=0):a=0∧b=0:=by
 have h1:(if a=0 then qac [b] else a)=0:=h;by_cases ha:a=0
 ·rw[if_pos ha] at h1
  have h2:(if b=0 then qac [] else b)=0:=h1;by_cases hb:b=0
  ·exact⟨ha,hb⟩
  ·rw[if_neg hb] at h2;exact absurd h2 hb
 ·rw[if_neg ha] at h1;exact absurd h1 ha
theorem q59(w:World)(x y:ByteArray)(ty:TypeId):∀i s,[x,y][i]? = some s→(w.alloc (.cells #[.string x,.string y] ty)).cell? ⟨w.heap.size,0+i,none⟩=some (.string s):=by
 intro i s h;rw[Nat.zero_add,World.cell?_alloc_at _ _ _ _ rfl]
 match i,h with
 | 0,h=>cases h;rfl
 | 1,h=>cases h;rfl
theorem qx6(x y:ByteArray)(w:World)(hg:GW w)(hx:x.size≤1073741824)(hy:y.size≤1073741824)(ty:TypeId):
  Calls Tryz.prog 66 #[.slice (some ⟨w.heap.size,0,none⟩) 2 2,.func (.func 57) #[] #[]] (w.alloc (.cells #[.string x,.string y] ty))
   (fun e w'=>qkj [qaa x.data.toList,qaa y.data.toList] [qav x.data.toList,qav y.data.toList] (w.alloc (.cells #[.string x,.string y] ty)) e w'∧Below w.heap.size w w'):=by
 have hal:Below w.heap.size w (w.alloc (.cells #[.string x,.string y] ty)):=(Below.refl _ _).alloc (Nat.le_refl _) _
 refine(q2h [x,y] w.heap.size 0 2 (w.alloc (.cells #[.string x,.string y] ty)) (hg.later hal) (q59 w x y ty) (by simp) (by
  intro s hs;simp only[List.mem_cons,List.not_mem_nil,or_false] at hs
  rcases hs with rfl|rfl<;>assumption)).mono ?_
 intro e w' h;exact⟨h,hal.trans (h.2.mono (by rw[World.size_alloc];omega))⟩
theorem q87{x y:ByteArray}{w:World}{ty:TypeId}(h:Calls Tryz.prog 66 #[.slice (some ⟨w.heap.size,0,none⟩) 2 2,.func (.func 57) #[] #[]] (w.alloc (.cells #[.string x,.string y] ty))
   (fun e w'=>qkj [qaa x.data.toList,qaa y.data.toList] [qav x.data.toList,qav y.data.toList] (w.alloc (.cells #[.string x,.string y] ty)) e w'∧Below w.heap.size w w')) (h0:qac [qaa x.data.toList,qaa y.data.toList]≠0):
  Calls Tryz.prog 66 #[.slice (some ⟨w.heap.size,0,none⟩) 2 2,.func (.func 57) #[] #[]] (w.alloc (.cells #[.string x,.string y] ty))
   (fun e w'=>e = .returned (.tuple #[.slice none 0 0,.int .i64 (qac [qaa x.data.toList,qaa y.data.toList]:Nat)])∧Below w.heap.size w w'):=by
 refine h.mono ?_;rintro e w' ⟨h1,h2⟩;unfold qkj at h1;rw[if_neg h0] at h1;exact⟨h1.1,h2⟩
theorem q6a{x y:ByteArray}{w:World}{ty:TypeId}(h:Calls Tryz.prog 66 #[.slice (some ⟨w.heap.size,0,none⟩) 2 2,.func (.func 57) #[] #[]] (w.alloc (.cells #[.string x,.string y] ty))
   (fun e w'=>qkj [qaa x.data.toList,qaa y.data.toList] [qav x.data.toList,qav y.data.toList] (w.alloc (.cells #[.string x,.string y] ty)) e w'∧Below w.heap.size w w')) (h0:qac [qaa x.data.toList,qaa y.data.toList]=0):
  Calls Tryz.prog 66 #[.slice (some ⟨w.heap.size,0,none⟩) 2 2,.func (.func 57) #[] #[]] (w.alloc (.cells #[.string x,.string y] ty))
   (fun e w'=>(∃g,e = .returned (.tuple #[.slice (some ⟨g,0,none⟩) 2 2,.int .i64 0])∧qj7 w' g 2 [qav x.data.toList,qav y.data.toList])∧Below w.heap.size w w'):=by
 refine h.mono ?_;rintro e w' ⟨h1,h2⟩;unfold qkj at h1;rw[if_pos h0] at h1;obtain⟨⟨g,_,he,hn⟩,_⟩:=h1;exact⟨⟨g,he,hn⟩,h2⟩
abbrev zb8(g:Nat)(b:Bool)(p1:Option Addr)(k1 c1:Nat)(p2:Option Addr)(k2 c2:Nat)(b':Bool)(p1':Option Addr)(k1' c1':Nat)(p2':Option Addr)(k2' c2':Nat)(W:World):Prop:=
 W.cell? ⟨g,0,none⟩=some (.bool b)∧W.cell? ⟨g,1,none⟩=some (.slice p1 k1 c1)∧W.cell? ⟨g,2,none⟩=some (.slice p2 k2 c2)∧
 W.cell? ⟨g,3,none⟩=some (.bool b')∧W.cell? ⟨g,4,none⟩=some (.slice p1' k1' c1')∧W.cell? ⟨g,5,none⟩=some (.slice p2' k2' c2')
theorem qx7{W:World}{g:Nat}{a c:Rat}(h:qj7 W g 2 [a,c]):∃b p1 k1 c1 p2 k2 c2 b' p1' k1' c1' p2' k2' c2',(∀W',Below W.heap.size W W'→zb8 g b p1 k1 c1 p2 k2 c2 b' p1' k1' c1' p2' k2' c2' W')∧
  qaj W (.agg #[.bool b,.slice p1 k1 c1,.slice p2 k2 c2]) a∧qaj W (.agg #[.bool b',.slice p1' k1' c1',.slice p2' k2' c2']) c:=by
 obtain⟨b,p1,k1,c1,p2,k2,c2,e1,e2,e3,hv⟩:=h.get 0 a rfl;obtain⟨b',p1',k1',c1',p2',k2',c2',f1,f2,f3,hv'⟩:=h.get 1 c rfl;refine⟨b,p1,k1,c1,p2,k2,c2,b',p1',k1',c1',p2',k2',c2',fun W' hb => ?_,hv,hv'⟩;have key:∀(o:Nat),W'.cell? ⟨g,o,none⟩=W.cell? ⟨g,o,none⟩:=fun o=>hb.cell h.lt;show _∧_;rw[key,key,key,key,key,key];exact⟨e1,e2,e3,f1,f2,f3⟩
end Go.Proofs.YthjagoogkkgelaaGreatDoor
