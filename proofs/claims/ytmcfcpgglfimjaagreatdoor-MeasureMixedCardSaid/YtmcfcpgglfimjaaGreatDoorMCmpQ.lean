/- Compare of two rational numbers of unlike signs. -/
import Derived.Test.YtmcfcpgglfimjaaGreatDoorMOrder
set_option linter.all false
namespace Go.Proofs.YtmcfcpgglfimjaaGreatDoor
open Go.RowKit
set_option maxRecDepth 100000
set_option maxHeartbeats 10000000
theorem qtp(va vb:Value)(a b:Rat)(w:World)(ha:qaw w va a)(hb:qaw w vb b)(hne:sgn a≠sgn b):
  Calls Tryz.prog 49 #[va,vb] w fun e w'=>e = .returned (.int .i64 (qfd a b))∧Below w.heap.size w w':=by
 have HA:=hid ha;have HB:=hid hb;obtain⟨aH,aI,aJ,aM,aL,aN,rfl,dM,eO⟩:=ha.parts;obtain⟨aZ,bA,bB,bF,bG,bH,rfl,aY,aR⟩:=hb.parts;clear ha hb dM eO aY aR;generalize decide (a.num<0)=na at *;generalize decide (b.num<0)=nb at *;have aO:=hid (qmf w na (.slice aH aI aJ) (.slice aM aL aN) nb (.slice aZ bA bB) (.slice bF bG bH));have nT:Hid (∀W,qch w na (.slice aH aI aJ) (.slice aM aL aN) nb (.slice aZ bA bB) (.slice bF bG bH) W→Calls Tryz.prog 89 #[.agg #[.bool na,.slice aH aI aJ,.slice aM aL aN]] W fun e w'=>(e = .returned (.int .i64 (sgn a)))∧qch w na (.slice aH aI aJ) (.slice aM aL aN) nb (.slice aZ bA bB) (.slice bF bG bH) w'∧Below W.heap.size W w'):=hid fun W hW=>qhd hW (qdv _ a W (HA.out.later hW.1));have cL:Hid (∀W,qch w na (.slice aH aI aJ) (.slice aM aL aN) nb (.slice aZ bA bB) (.slice bF bG bH) W→Calls Tryz.prog 89 #[.agg #[.bool nb,.slice aZ bA bB,.slice bF bG bH]] W fun e w'=>(e = .returned (.int .i64 (sgn b)))∧qch w na (.slice aH aI aJ) (.slice aM aL aN) nb (.slice aZ bA bB) (.slice bF bG bH) w'∧Below W.heap.size W w'):=hid fun W hW=>qhd hW (qdv _ b W (HB.out.later hW.1));have tV:Hid (∀W,Calls Tryz.prog 58 #[.int .i64 (sgn a),.int .i64 (sgn b)] W fun e w'=>e = .returned (.int .i64 (qfd a b))∧w'=W):=hid fun W=>by rw[←qqn a b (.inl hne)];exact qjp _ _ W
 have Pv:(sgn a==sgn b)=false:=qan hne;generalize qfd a b=res at *;have hca:=qes a;have At:=qes b;generalize sgn a=sa at *;generalize sgn b=sb at *;have fL:(sa = -1∧sb=0)∨(sa = -1∧sb=1)∨(sa=0∧sb = -1)∨(sa=0∧sb=1)∨(sa=1∧sb = -1)∨(sa=1∧sb=0):=by omega
 clear hne hca At Pv;rcases fL with⟨rfl,rfl⟩|⟨rfl,rfl⟩|⟨rfl,rfl⟩|⟨rfl,rfl⟩|⟨rfl,rfl⟩|⟨rfl,rfl⟩
 all_goals
  go_enter Tryz.func49,Tryz.ntmps49;go_wp2_with fail;generalize (w.alloc (.cells #[.bool na,.slice aH aI aJ,.slice aM aL aN] 85)).alloc (.cells #[.bool nb,.slice aZ bA bB,.slice bF bG bH] 85)=w0 at *;have cF:=hid aO.out.drew;obtain⟨d0,d1,d2,d3,d4,d5⟩:=qb1 cF.out
  go_region_with (first
   | (go_at_call 89;first
     | ((with_reducible refine(nT.out _ ?qa).mono ?_);(case qa=>first|exact nZ.out|exact cF.out);rintro e wC ⟨rfl,ht,hb⟩;have HTC:=hid ht;obtain⟨c0,c1,c2,c3,c4,c5⟩:=qb1 ht;clear ht hb)
     | ((with_reducible refine(cL.out _ ?qb).mono ?_);(case qb=>first|exact HTC.out|exact cF.out);rintro e wD ⟨rfl,ht,hb⟩;have nZ:=hid ht;obtain⟨e0,e1,e2,e3,e4,e5⟩:=qb1 ht;clear ht hb)))
  all_goals
   clear d0 d1 d2 d3 d4 d5 c0 c1 c2 c3 c4 c5 e0 e1 e2 e3 e4 e5;have Ir:=hid HTC.out.drew;have Is:=hid nZ.out.drew;clear cF HTC nZ aO;go_wp2_with fail
   go_region_held3 (fun W=>W.cell? ⟨w.heap.size,0,none⟩=some (.bool na)∧W.cell? ⟨w.heap.size,1,none⟩=some (.slice aH aI aJ)∧W.cell? ⟨w.heap.size,2,none⟩=some (.slice aM aL aN)∧W.cell? ⟨w.heap.size+1,0,none⟩=some (.bool nb)∧W.cell? ⟨w.heap.size+1,1,none⟩=some (.slice aZ bA bB)∧W.cell? ⟨w.heap.size+1,2,none⟩=some (.slice bF bG bH)) (first|exact qb1 HTF.out|exact qb1 HTE.out|exact qb1 Is.out|exact qb1 Ir.out)
   (first
   | (go_at_call 89;first
     | ((with_reducible refine(nT.out _ ?qe).mono ?_);(case qe=>first|exact HTF.out|exact Is.out|exact Ir.out);rintro e wE ⟨rfl,ht,hb⟩;have HTE:=hid ht;clear ht hb)
     | ((with_reducible refine(cL.out _ ?qf).mono ?_);(case qf=>first|exact HTE.out|exact Is.out|exact Ir.out);rintro e wF ⟨rfl,ht,hb⟩;have HTF:=hid ht;clear ht hb))
   | (go_at_call 58;((refine(tV.out _).mono ?_);rintro e wG ⟨rfl,rfl⟩)))
   have nL:=hid HTE.out.1;have kD:=hid HTF.out.1;go_wp2_with fail;go_ret;exact⟨rfl,by first|exact kD.out|exact nL.out⟩
theorem qdp(va vb:Value)(a b:Rat)(w:World)(ha:qaw w va a)(hb:qaw w vb b)(aQ:rs a+rs b≤Cap):
  Calls Tryz.prog 49 #[va,vb] w fun e w'=>e = .returned (.int .i64 (qfd a b))∧Below w.heap.size w w':=by
 by_cases h:sgn a=sgn b
 ·exact qy3 va vb a b w ha hb h aQ
 ·exact qtp va vb a b w ha hb h
theorem qo0{a b:Rat}:qfd a b<0↔a<b:=by
 unfold qfd;rw[Rat.lt_iff];rcases Int.lt_trichotomy (a.num*b.den) (b.num*a.den) with h|h|h
 ·rw[qde h];constructor<;>intro<;>omega
 ·rw[qem h];constructor<;>intro<;>omega
 ·rw[qcq h];constructor<;>intro<;>omega
theorem qvr{a b:Rat}:0<qfd a b↔b<a:=by
 unfold qfd;rw[Rat.lt_iff];rcases Int.lt_trichotomy (a.num*b.den) (b.num*a.den) with h|h|h
 ·rw[qde h];constructor<;>intro<;>omega
 ·rw[qem h];constructor<;>intro<;>omega
 ·rw[qcq h];constructor<;>intro<;>omega
theorem q2e{a b:Rat}:qfd a b≤0↔a≤b:=by
 rw[←Int.not_lt,qvr,Rat.not_lt]
theorem q8a{a b:Rat}:0≤qfd a b↔b≤a:=by
 rw[←Int.not_lt,qo0,Rat.not_lt]
theorem qzh(a b:Rat):(qfd a b = -1∧a<b)∨(qfd a b=0∧a=b)∨(qfd a b=1∧b<a):=by
 have h1:=@qo0 a b;have h2:=@qvr a b
 have h:qfd a b = -1∨qfd a b=0∨qfd a b=1:=by
  unfold qfd qsn;split
  ·exact .inl rfl
  ·split
   ·exact .inr (.inr rfl)
   ·exact .inr (.inl rfl)
 rcases h with h|h|h
 ·exact .inl ⟨h,h1.1 (by omega)⟩
 ·refine .inr (.inl ⟨h, ?_⟩)
  exact Rat.le_antisymm (q2e.1 (by omega)) (q8a.1 (by omega))
 ·exact .inr (.inr ⟨h,h2.1 (by omega)⟩)
end Go.Proofs.YtmcfcpgglfimjaaGreatDoor
