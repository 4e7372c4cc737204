/- Compare of two rational numbers of unlike signs. -/
import Derived.Test.YtclimablgihlhaaGreatDoorMOrder
set_option linter.all false
namespace Go.Proofs.YtclimablgihlhaaGreatDoor
open Go.RowKit
set_option maxRecDepth 100000
set_option maxHeartbeats 10000000
theorem qsn(va vb:Value)(a b:Rat)(w:World)(ha:qaj w va a)(hb:qaj w vb b)(hne:sgn a≠sgn b):
  Calls Tryz.prog 33 #[va,vb] w fun e w'=>e = .returned (.int .i64 (qcq a b))∧Below w.heap.size w w':=by
 have HA:=hid ha;have HB:=hid hb;obtain⟨aI,aJ,aK,aM,aL,aN,rfl,dK,dX⟩:=ha.parts;obtain⟨aY,aZ,bA,bC,bE,bF,rfl,bB,aT⟩:=hb.parts;clear ha hb dK dX bB aT;generalize decide (a.num<0)=na at *;generalize decide (b.num<0)=nb at *;have aO:=hid (ql3 w na (.slice aI aJ aK) (.slice aM aL aN) nb (.slice aY aZ bA) (.slice bC bE bF));have oU:Hid (∀W,qb4 w na (.slice aI aJ aK) (.slice aM aL aN) nb (.slice aY aZ bA) (.slice bC bE bF) W→Calls Tryz.prog 70 #[.agg #[.bool na,.slice aI aJ aK,.slice aM aL aN]] W fun e w'=>(e = .returned (.int .i64 (sgn a)))∧qb4 w na (.slice aI aJ aK) (.slice aM aL aN) nb (.slice aY aZ bA) (.slice bC bE bF) w'∧Below W.heap.size W w'):=hid fun W hW=>qha hW (qdl _ a W (HA.out.later hW.1));have cQ:Hid (∀W,qb4 w na (.slice aI aJ aK) (.slice aM aL aN) nb (.slice aY aZ bA) (.slice bC bE bF) W→Calls Tryz.prog 70 #[.agg #[.bool nb,.slice aY aZ bA,.slice bC bE bF]] W fun e w'=>(e = .returned (.int .i64 (sgn b)))∧qb4 w na (.slice aI aJ aK) (.slice aM aL aN) nb (.slice aY aZ bA) (.slice bC bE bF) w'∧Below W.heap.size W w'):=hid fun W hW=>qha hW (qdl _ b W (HB.out.later hW.1));have iA:Hid (∀W,Calls Tryz.prog 58 #[.int .i64 (sgn a),.int .i64 (sgn b)] W fun e w'=>e = .returned (.int .i64 (qcq a b))∧w'=W):=hid fun W=>by rw[←qp8 a b (.inl hne)];exact qja _ _ W
 have Rp:(sgn a==sgn b)=false:=zat hne;generalize qcq a b=res at *;have hca:=qeo a;have Du:=qeo b;generalize sgn a=sa at *;generalize sgn b=sb at *;have gA:(sa = -1∧sb=0)∨(sa = -1∧sb=1)∨(sa=0∧sb = -1)∨(sa=0∧sb=1)∨(sa=1∧sb = -1)∨(sa=1∧sb=0):=by omega
 clear hne hca Du Rp;rcases gA with⟨rfl,rfl⟩|⟨rfl,rfl⟩|⟨rfl,rfl⟩|⟨rfl,rfl⟩|⟨rfl,rfl⟩|⟨rfl,rfl⟩
 all_goals
  go_enter Tryz.func33,Tryz.ntmps33;go_wp2_with fail;generalize (w.alloc (.cells #[.bool na,.slice aI aJ aK,.slice aM aL aN] 74)).alloc (.cells #[.bool nb,.slice aY aZ bA,.slice bC bE bF] 74)=w0 at *;have cG:=hid aO.out.drew;obtain⟨d0,d1,d2,d3,d4,d5⟩:=qbn cG.out
  go_region_with (first
   | (go_at_call 70;first
     | ((with_reducible refine(oU.out _ ?qa).mono ?_);(case qa=>first|exact pF.out|exact cG.out);rintro e wC ⟨rfl,ht,hb⟩;have HTC:=hid ht;obtain⟨c0,c1,c2,c3,c4,c5⟩:=qbn ht;clear ht hb)
     | ((with_reducible refine(cQ.out _ ?qb).mono ?_);(case qb=>first|exact HTC.out|exact cG.out);rintro e wD ⟨rfl,ht,hb⟩;have pF:=hid ht;obtain⟨e0,e1,e2,e3,e4,e5⟩:=qbn ht;clear ht hb)))
  all_goals
   clear d0 d1 d2 d3 d4 d5 c0 c1 c2 c3 c4 c5 e0 e1 e2 e3 e4 e5;have Ki:=hid HTC.out.drew;have Kj:=hid pF.out.drew;clear cG HTC pF aO;go_wp2_with fail
   go_region_held3 (fun W=>W.cell? ⟨w.heap.size,0,none⟩=some (.bool na)∧W.cell? ⟨w.heap.size,1,none⟩=some (.slice aI aJ aK)∧W.cell? ⟨w.heap.size,2,none⟩=some (.slice aM aL aN)∧W.cell? ⟨w.heap.size+1,0,none⟩=some (.bool nb)∧W.cell? ⟨w.heap.size+1,1,none⟩=some (.slice aY aZ bA)∧W.cell? ⟨w.heap.size+1,2,none⟩=some (.slice bC bE bF)) (first|exact qbn HTF.out|exact qbn HTE.out|exact qbn Kj.out|exact qbn Ki.out)
   (first
   | (go_at_call 70;first
     | ((with_reducible refine(oU.out _ ?qe).mono ?_);(case qe=>first|exact HTF.out|exact Kj.out|exact Ki.out);rintro e wE ⟨rfl,ht,hb⟩;have HTE:=hid ht;clear ht hb)
     | ((with_reducible refine(cQ.out _ ?qf).mono ?_);(case qf=>first|exact HTE.out|exact Kj.out|exact Ki.out);rintro e wF ⟨rfl,ht,hb⟩;have HTF:=hid ht;clear ht hb))
   | (go_at_call 58;((refine(iA.out _).mono ?_);rintro e wG ⟨rfl,rfl⟩)))
   have pG:=hid HTE.out.1;have fT:=hid HTF.out.1;go_wp2_with fail;go_ret;exact⟨rfl,by first|exact fT.out|exact pG.out⟩
theorem qb5(va vb:Value)(a b:Rat)(w:World)(ha:qaj w va a)(hb:qaj w vb b)(aP:rs a+rs b≤Cap):
  Calls Tryz.prog 33 #[va,vb] w fun e w'=>e = .returned (.int .i64 (qcq a b))∧Below w.heap.size w w':=by
 by_cases h:sgn a=sgn b
 ·exact qx2 va vb a b w ha hb h aP
 ·exact qsn va vb a b w ha hb h
theorem qoh{a b:Rat}:qcq a b<0↔a<b:=by
 unfold qcq;rw[Rat.lt_iff];rcases Int.lt_trichotomy (a.num*b.den) (b.num*a.den) with h|h|h
 ·rw[qcy h];constructor<;>intro<;>omega
 ·rw[qei h];constructor<;>intro<;>omega
 ·rw[qch h];constructor<;>intro<;>omega
theorem qus{a b:Rat}:0<qcq a b↔b<a:=by
 unfold qcq;rw[Rat.lt_iff];rcases Int.lt_trichotomy (a.num*b.den) (b.num*a.den) with h|h|h
 ·rw[qcy h];constructor<;>intro<;>omega
 ·rw[qei h];constructor<;>intro<;>omega
 ·rw[qch h];constructor<;>intro<;>omega
theorem ql4{a b:Rat}:qcq a b≤0↔a≤b:=by
 rw[←Int.not_lt,qus,Rat.not_lt]
theorem qut{a b:Rat}:0≤qcq a b↔b≤a:=by
 rw[←Int.not_lt,qoh,Rat.not_lt]
theorem qp9(a b:Rat):(qcq a b = -1∧a<b)∨(qcq a b=0∧a=b)∨(qcq a b=1∧b<a):=by
 have h1:=@qoh a b;have h2:=@qus a b
 have h:qcq a b = -1∨qcq a b=0∨qcq a b=1:=by
  unfold qcq qr9;split
  ·exact .inl rfl
  ·split
   ·exact .inr (.inr rfl)
   ·exact .inr (.inl rfl)
 rcases h with h|h|h
 ·exact .inl ⟨h,h1.1 (by omega)⟩
 ·refine .inr (.inl ⟨h, ?_⟩)
  exact Rat.le_antisymm (ql4.1 (by omega)) (qut.1 (by omega))
 ·exact .inr (.inr ⟨h,h2.1 (by omega)⟩)
def qmu(a b:Rat):Rat:=if a≤b then a else b
def qmv(a b:Rat):Rat:=if b≤a then a else b
end Go.Proofs.YtclimablgihlhaaGreatDoor
