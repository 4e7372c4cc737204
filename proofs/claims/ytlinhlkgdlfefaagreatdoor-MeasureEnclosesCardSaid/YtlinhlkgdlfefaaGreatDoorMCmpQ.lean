/- Compare of two rational numbers of unlike signs. -/
import Derived.Test.YtlinhlkgdlfefaaGreatDoorMOrder
set_option linter.all false
namespace Go.Proofs.YtlinhlkgdlfefaaGreatDoor
open Go.RowKit
set_option maxRecDepth 100000
set_option maxHeartbeats 10000000
theorem qtj(va vb:Value)(a b:Rat)(w:World)(ha:qai w va a)(hb:qai w vb b)(hne:sgn a≠sgn b):
  Calls Tryz.prog 53 #[va,vb] w fun e w'=>e = .returned (.int .i64 (qcp a b))∧Below w.heap.size w w':=by
 have HA:=hid ha;have HB:=hid hb;obtain⟨pa1,ka1,ca1,pa2,ka2,ca2,rfl,ha1,ha2⟩:=ha.parts;obtain⟨pb1,kb1,cb1,pb2,kb2,cb2,rfl,hb1,hb2⟩:=hb.parts;clear ha hb ha1 ha2 hb1 hb2;generalize decide (a.num<0)=na at *;generalize decide (b.num<0)=nb at *;have HW0:=hid (qmj w na (.slice pa1 ka1 ca1) (.slice pa2 ka2 ca2) nb (.slice pb1 kb1 cb1) (.slice pb2 kb2 cb2));have HSA:Hid (∀W,qb0 w na (.slice pa1 ka1 ca1) (.slice pa2 ka2 ca2) nb (.slice pb1 kb1 cb1) (.slice pb2 kb2 cb2) W→Calls Tryz.prog 107 #[.agg #[.bool na,.slice pa1 ka1 ca1,.slice pa2 ka2 ca2]] W fun e w'=>(e = .returned (.int .i64 (sgn a)))∧qb0 w na (.slice pa1 ka1 ca1) (.slice pa2 ka2 ca2) nb (.slice pb1 kb1 cb1) (.slice pb2 kb2 cb2) w'∧Below W.heap.size W w'):=hid fun W hW=>qhn hW (qdv _ a W (HA.out.later hW.1));have HSB:Hid (∀W,qb0 w na (.slice pa1 ka1 ca1) (.slice pa2 ka2 ca2) nb (.slice pb1 kb1 cb1) (.slice pb2 kb2 cb2) W→Calls Tryz.prog 107 #[.agg #[.bool nb,.slice pb1 kb1 cb1,.slice pb2 kb2 cb2]] W fun e w'=>(e = .returned (.int .i64 (sgn b)))∧qb0 w na (.slice pa1 ka1 ca1) (.slice pa2 ka2 ca2) nb (.slice pb1 kb1 cb1) (.slice pb2 kb2 cb2) w'∧Below W.heap.size W w'):=hid fun W hW=>qhn hW (qdv _ b W (HB.out.later hW.1));have HCM:Hid (∀W,Calls Tryz.prog 67 #[.int .i64 (sgn a),.int .i64 (sgn b)] W fun e w'=>e = .returned (.int .i64 (qcp a b))∧w'=W):=hid fun W=>by rw[←qqx a b (.inl hne)];exact qjs _ _ W
 have hbe:(sgn a==sgn b)=false:=beq_eq_false_iff_ne.2 hne;generalize qcp a b=res at *;have hca:=qey a;have hcb:=qey b;generalize sgn a=sa at *;generalize sgn b=sb at *;have hcc:(sa = -1∧sb=0)∨(sa = -1∧sb=1)∨(sa=0∧sb = -1)∨(sa=0∧sb=1)∨(sa=1∧sb = -1)∨(sa=1∧sb=0):=by omega
 clear hne hca hcb hbe;rcases hcc with⟨rfl,rfl⟩|⟨rfl,rfl⟩|⟨rfl,rfl⟩|⟨rfl,rfl⟩|⟨rfl,rfl⟩|⟨rfl,rfl⟩
 all_goals
  go_enter Tryz.func53,Tryz.ntmps53;go_wp2_with fail;generalize (w.alloc (.cells #[.bool na,.slice pa1 ka1 ca1,.slice pa2 ka2 ca2] 75)).alloc (.cells #[.bool nb,.slice pb1 kb1 cb1,.slice pb2 kb2 cb2] 75)=w0 at *;have HT0:=hid HW0.out.drew;obtain⟨d0,d1,d2,d3,d4,d5⟩:=qbl HT0.out
  go_region_with (first
   | (go_at_call 107;first
     | ((with_reducible refine(HSA.out _ ?qa).mono ?_);(case qa=>first|exact HTD.out|exact HT0.out);rintro e wC ⟨rfl,ht,hb⟩;have HTC:=hid ht;obtain⟨c0,c1,c2,c3,c4,c5⟩:=qbl ht;clear ht hb)
     | ((with_reducible refine(HSB.out _ ?qb).mono ?_);(case qb=>first|exact HTC.out|exact HT0.out);rintro e wD ⟨rfl,ht,hb⟩;have HTD:=hid ht;obtain⟨e0,e1,e2,e3,e4,e5⟩:=qbl ht;clear ht hb)))
  all_goals
   clear d0 d1 d2 d3 d4 d5 c0 c1 c2 c3 c4 c5 e0 e1 e2 e3 e4 e5;have HTCD:=hid HTC.out.drew;have HTDD:=hid HTD.out.drew;clear HT0 HTC HTD HW0;go_wp2_with fail
   go_region_held3 (fun W=>W.cell? ⟨w.heap.size,0,none⟩=some (.bool na)∧W.cell? ⟨w.heap.size,1,none⟩=some (.slice pa1 ka1 ca1)∧W.cell? ⟨w.heap.size,2,none⟩=some (.slice pa2 ka2 ca2)∧W.cell? ⟨w.heap.size+1,0,none⟩=some (.bool nb)∧W.cell? ⟨w.heap.size+1,1,none⟩=some (.slice pb1 kb1 cb1)∧W.cell? ⟨w.heap.size+1,2,none⟩=some (.slice pb2 kb2 cb2)) (first|exact qbl HTF.out|exact qbl HTE.out|exact qbl HTDD.out|exact qbl HTCD.out)
   (first
   | (go_at_call 107;first
     | ((with_reducible refine(HSA.out _ ?qe).mono ?_);(case qe=>first|exact HTF.out|exact HTDD.out|exact HTCD.out);rintro e wE ⟨rfl,ht,hb⟩;have HTE:=hid ht;clear ht hb)
     | ((with_reducible refine(HSB.out _ ?qf).mono ?_);(case qf=>first|exact HTE.out|exact HTDD.out|exact HTCD.out);rintro e wF ⟨rfl,ht,hb⟩;have HTF:=hid ht;clear ht hb))
   | (go_at_call 67;((refine(HCM.out _).mono ?_);rintro e wG ⟨rfl,rfl⟩)))
   have HBE:=hid HTE.out.1;have HBF:=hid HTF.out.1;go_wp2_with fail;go_ret;exact⟨rfl,by first|exact HBF.out|exact HBE.out⟩
theorem qb1(va vb:Value)(a b:Rat)(w:World)(ha:qai w va a)(hb:qai w vb b)(hcap:rs a+rs b≤Cap):
  Calls Tryz.prog 53 #[va,vb] w fun e w'=>e = .returned (.int .i64 (qcp a b))∧Below w.heap.size w w':=by
 by_cases h:sgn a=sgn b
 ·exact qzg va vb a b w ha hb h hcap
 ·exact qtj va vb a b w ha hb h
theorem qkv{a b:Rat}:qcp a b<0↔a<b:=by
 unfold qcp;rw[Rat.lt_iff];rcases Int.lt_trichotomy (a.num*b.den) (b.num*a.den) with h|h|h
 ·rw[qdf h];constructor<;>intro<;>omega
 ·rw[qet h];constructor<;>intro<;>omega
 ·rw[qch h];constructor<;>intro<;>omega
theorem qv6{a b:Rat}:0<qcp a b↔b<a:=by
 unfold qcp;rw[Rat.lt_iff];rcases Int.lt_trichotomy (a.num*b.den) (b.num*a.den) with h|h|h
 ·rw[qdf h];constructor<;>intro<;>omega
 ·rw[qet h];constructor<;>intro<;>omega
 ·rw[qch h];constructor<;>intro<;>omega
theorem qf0{a b:Rat}:qcp a b≤0↔a≤b:=by
 rw[←Int.not_lt,qv6,Rat.not_lt]
theorem q1q{a b:Rat}:0≤qcp a b↔b≤a:=by
 rw[←Int.not_lt,qkv,Rat.not_lt]
theorem qqy(a b:Rat):(qcp a b = -1∧a<b)∨(qcp a b=0∧a=b)∨(qcp a b=1∧b<a):=by
 have h1:=@qkv a b;have h2:=@qv6 a b
 have h:qcp a b = -1∨qcp a b=0∨qcp a b=1:=by
  unfold qcp qs4;split
  ·exact .inl rfl
  ·split
   ·exact .inr (.inr rfl)
   ·exact .inr (.inl rfl)
 rcases h with h|h|h
 ·exact .inl ⟨h,h1.1 (by omega)⟩
 ·refine .inr (.inl ⟨h, ?_⟩)
  exact Rat.le_antisymm (qf0.1 (by omega)) (q1q.1 (by omega))
 ·exact .inr (.inr ⟨h,h2.1 (by omega)⟩)
def qtk(a b:Rat):Rat:=if a≤b then a else b
def qtl(a b:Rat):Rat:=if b≤a then a else b
end Go.Proofs.YtlinhlkgdlfefaaGreatDoor
