/- Compare of two rational numbers of unlike signs. -/
import Derived.Test.YthjagoogkkgelaaGreatDoorMOrder
set_option linter.all false
namespace Go.Proofs.YthjagoogkkgelaaGreatDoor
open Go.RowKit
set_option maxRecDepth 100000
set_option maxHeartbeats 10000000
theorem qtk(va vb:Value)(a b:Rat)(w:World)(ha:qaj w va a)(hb:qaj w vb b)(hne:sgn a≠sgn b):
  Calls Tryz.prog 36 #[va,vb] w fun e w'=>e = .returned (.int .i64 (qcu a b))∧Below w.heap.size w w':=by
 have HA:=hid ha;have HB:=hid hb;obtain⟨pa1,ka1,ca1,pa2,ka2,ca2,rfl,ha1,ha2⟩:=ha.parts;obtain⟨pb1,kb1,cb1,pb2,kb2,cb2,rfl,hb1,hb2⟩:=hb.parts;clear ha hb ha1 ha2 hb1 hb2;generalize decide (a.num<0)=na at *;generalize decide (b.num<0)=nb at *;have HW0:=hid (qmu w na (.slice pa1 ka1 ca1) (.slice pa2 ka2 ca2) nb (.slice pb1 kb1 cb1) (.slice pb2 kb2 cb2));have HSA:Hid (∀W,qb6 w na (.slice pa1 ka1 ca1) (.slice pa2 ka2 ca2) nb (.slice pb1 kb1 cb1) (.slice pb2 kb2 cb2) W→Calls Tryz.prog 73 #[.agg #[.bool na,.slice pa1 ka1 ca1,.slice pa2 ka2 ca2]] W fun e w'=>(e = .returned (.int .i64 (sgn a)))∧qb6 w na (.slice pa1 ka1 ca1) (.slice pa2 ka2 ca2) nb (.slice pb1 kb1 cb1) (.slice pb2 kb2 cb2) w'∧Below W.heap.size W w'):=hid fun W hW=>qhr hW (qdq _ a W (HA.out.later hW.1));have HSB:Hid (∀W,qb6 w na (.slice pa1 ka1 ca1) (.slice pa2 ka2 ca2) nb (.slice pb1 kb1 cb1) (.slice pb2 kb2 cb2) W→Calls Tryz.prog 73 #[.agg #[.bool nb,.slice pb1 kb1 cb1,.slice pb2 kb2 cb2]] W fun e w'=>(e = .returned (.int .i64 (sgn b)))∧qb6 w na (.slice pa1 ka1 ca1) (.slice pa2 ka2 ca2) nb (.slice pb1 kb1 cb1) (.slice pb2 kb2 cb2) w'∧Below W.heap.size W w'):=hid fun W hW=>qhr hW (qdq _ b W (HB.out.later hW.1));have HCM:Hid (∀W,Calls Tryz.prog 50 #[.int .i64 (sgn a),.int .i64 (sgn b)] W fun e w'=>e = .returned (.int .i64 (qcu a b))∧w'=W):=hid fun W=>by rw[←qq6 a b (.inl hne)];exact qju _ _ W
 have hbe:(sgn a==sgn b)=false:=beq_eq_false_iff_ne.2 hne;generalize qcu a b=res at *;have hca:=qey a;have hcb:=qey b;generalize sgn a=sa at *;generalize sgn b=sb at *;have hcc:(sa = -1∧sb=0)∨(sa = -1∧sb=1)∨(sa=0∧sb = -1)∨(sa=0∧sb=1)∨(sa=1∧sb = -1)∨(sa=1∧sb=0):=by omega
 clear hne hca hcb hbe;rcases hcc with⟨rfl,rfl⟩|⟨rfl,rfl⟩|⟨rfl,rfl⟩|⟨rfl,rfl⟩|⟨rfl,rfl⟩|⟨rfl,rfl⟩
 all_goals
  go_enter Tryz.func36,Tryz.ntmps36;go_wp2_with fail;generalize (w.alloc (.cells #[.bool na,.slice pa1 ka1 ca1,.slice pa2 ka2 ca2] 80)).alloc (.cells #[.bool nb,.slice pb1 kb1 cb1,.slice pb2 kb2 cb2] 80)=w0 at *;have HT0:=hid HW0.out.drew;obtain⟨d0,d1,d2,d3,d4,d5⟩:=qbo HT0.out
  go_region_with (first
   | (go_at_call 73;first
     | ((with_reducible refine(HSA.out _ ?qa).mono ?_);(case qa=>first|exact HTD.out|exact HT0.out);rintro e wC ⟨rfl,ht,hb⟩;have HTC:=hid ht;obtain⟨c0,c1,c2,c3,c4,c5⟩:=qbo ht;clear ht hb)
     | ((with_reducible refine(HSB.out _ ?qb).mono ?_);(case qb=>first|exact HTC.out|exact HT0.out);rintro e wD ⟨rfl,ht,hb⟩;have HTD:=hid ht;obtain⟨e0,e1,e2,e3,e4,e5⟩:=qbo ht;clear ht hb)))
  all_goals
   clear d0 d1 d2 d3 d4 d5 c0 c1 c2 c3 c4 c5 e0 e1 e2 e3 e4 e5;have HTCD:=hid HTC.out.drew;have HTDD:=hid HTD.out.drew;clear HT0 HTC HTD HW0;go_wp2_with fail
   go_region_held3 (fun W=>W.cell? ⟨w.heap.size,0,none⟩=some (.bool na)∧W.cell? ⟨w.heap.size,1,none⟩=some (.slice pa1 ka1 ca1)∧W.cell? ⟨w.heap.size,2,none⟩=some (.slice pa2 ka2 ca2)∧W.cell? ⟨w.heap.size+1,0,none⟩=some (.bool nb)∧W.cell? ⟨w.heap.size+1,1,none⟩=some (.slice pb1 kb1 cb1)∧W.cell? ⟨w.heap.size+1,2,none⟩=some (.slice pb2 kb2 cb2)) (first|exact qbo HTF.out|exact qbo HTE.out|exact qbo HTDD.out|exact qbo HTCD.out)
   (first
   | (go_at_call 73;first
     | ((with_reducible refine(HSA.out _ ?qe).mono ?_);(case qe=>first|exact HTF.out|exact HTDD.out|exact HTCD.out);rintro e wE ⟨rfl,ht,hb⟩;have HTE:=hid ht;clear ht hb)
     | ((with_reducible refine(HSB.out _ ?qf).mono ?_);(case qf=>first|exact HTE.out|exact HTDD.out|exact HTCD.out);rintro e wF ⟨rfl,ht,hb⟩;have HTF:=hid ht;clear ht hb))
   | (go_at_call 50;((refine(HCM.out _).mono ?_);rintro e wG ⟨rfl,rfl⟩)))
   have HBE:=hid HTE.out.1;have HBF:=hid HTF.out.1;go_wp2_with fail;go_ret;exact⟨rfl,by first|exact HBF.out|exact HBE.out⟩
theorem qb7(va vb:Value)(a b:Rat)(w:World)(ha:qaj w va a)(hb:qaj w vb b)(hcap:rs a+rs b≤Cap):
  Calls Tryz.prog 36 #[va,vb] w fun e w'=>e = .returned (.int .i64 (qcu a b))∧Below w.heap.size w w':=by
 by_cases h:sgn a=sgn b
 ·exact qzh va vb a b w ha hb h hcap
 ·exact qtk va vb a b w ha hb h
theorem qo9{a b:Rat}:qcu a b<0↔a<b:=by
 unfold qcu;rw[Rat.lt_iff];rcases Int.lt_trichotomy (a.num*b.den) (b.num*a.den) with h|h|h
 ·rw[qda h];constructor<;>intro<;>omega
 ·rw[qet h];constructor<;>intro<;>omega
 ·rw[qcl h];constructor<;>intro<;>omega
theorem qvx{a b:Rat}:0<qcu a b↔b<a:=by
 unfold qcu;rw[Rat.lt_iff];rcases Int.lt_trichotomy (a.num*b.den) (b.num*a.den) with h|h|h
 ·rw[qda h];constructor<;>intro<;>omega
 ·rw[qet h];constructor<;>intro<;>omega
 ·rw[qcl h];constructor<;>intro<;>omega
theorem qmv{a b:Rat}:qcu a b≤0↔a≤b:=by
 rw[←Int.not_lt,qvx,Rat.not_lt]
theorem qvy{a b:Rat}:0≤qcu a b↔b≤a:=by
 rw[←Int.not_lt,qo9,Rat.not_lt]
theorem qq7(a b:Rat):(qcu a b = -1∧a<b)∨(qcu a b=0∧a=b)∨(qcu a b=1∧b<a):=by
 have h1:=@qo9 a b;have h2:=@qvx a b
 have h:qcu a b = -1∨qcu a b=0∨qcu a b=1:=by
  unfold qcu qql;split
  ·exact .inl rfl
  ·split
   ·exact .inr (.inr rfl)
   ·exact .inr (.inl rfl)
 rcases h with h|h|h
 ·exact .inl ⟨h,h1.1 (by omega)⟩
 ·refine .inr (.inl ⟨h, ?_⟩)
  exact Rat.le_antisymm (qmv.1 (by omega)) (qvy.1 (by omega))
 ·exact .inr (.inr ⟨h,h2.1 (by omega)⟩)
def qno(a b:Rat):Rat:=if a≤b then a else b
def qnp(a b:Rat):Rat:=if b≤a then a else b
end Go.Proofs.YthjagoogkkgelaaGreatDoor
