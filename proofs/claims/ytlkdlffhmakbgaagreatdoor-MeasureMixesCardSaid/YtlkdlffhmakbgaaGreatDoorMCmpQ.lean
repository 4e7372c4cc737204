/- Compare of two rational numbers of unlike signs. -/
import Derived.Test.YtlkdlffhmakbgaaGreatDoorMOrder
set_option linter.all false
namespace Go.Proofs.YtlkdlffhmakbgaaGreatDoor
open Go.RowKit
set_option maxRecDepth 100000
set_option maxHeartbeats 10000000
theorem qs3(va vb:Value)(a b:Rat)(w:World)(ha:qau w va a)(hb:qau w vb b)(hne:sgn a≠sgn b):
  Calls Tryz.prog 51 #[va,vb] w fun e w'=>e = .returned (.int .i64 (qfe a b))∧Below w.heap.size w w':=by
 have HA:=hid ha;have HB:=hid hb;obtain⟨aH,aI,aJ,aN,aL,aO,rfl,dQ,eR⟩:=ha.parts;obtain⟨bB,bC,bE,bH,bI,bJ,rfl,aZ,aR⟩:=hb.parts;clear ha hb dQ eR aZ aR;generalize decide (a.num<0)=na at *;generalize decide (b.num<0)=nb at *;have aM:=hid (qmj w na (.slice aH aI aJ) (.slice aN aL aO) nb (.slice bB bC bE) (.slice bH bI bJ));have oL:Hid (∀W,qcg w na (.slice aH aI aJ) (.slice aN aL aO) nb (.slice bB bC bE) (.slice bH bI bJ) W→Calls Tryz.prog 98 #[.agg #[.bool na,.slice aH aI aJ,.slice aN aL aO]] W fun e w'=>(e = .returned (.int .i64 (sgn a)))∧qcg w na (.slice aH aI aJ) (.slice aN aL aO) nb (.slice bB bC bE) (.slice bH bI bJ) w'∧Below W.heap.size W w'):=hid fun W hW=>qg9 hW (qdu _ a W (HA.out.later hW.1));have cP:Hid (∀W,qcg w na (.slice aH aI aJ) (.slice aN aL aO) nb (.slice bB bC bE) (.slice bH bI bJ) W→Calls Tryz.prog 98 #[.agg #[.bool nb,.slice bB bC bE,.slice bH bI bJ]] W fun e w'=>(e = .returned (.int .i64 (sgn b)))∧qcg w na (.slice aH aI aJ) (.slice aN aL aO) nb (.slice bB bC bE) (.slice bH bI bJ) w'∧Below W.heap.size W w'):=hid fun W hW=>qg9 hW (qdu _ b W (HB.out.later hW.1));have oV:Hid (∀W,Calls Tryz.prog 60 #[.int .i64 (sgn a),.int .i64 (sgn b)] W fun e w'=>e = .returned (.int .i64 (qfe a b))∧w'=W):=hid fun W=>by rw[←qql a b (.inl hne)];exact qjl _ _ W
 have Pk:(sgn a==sgn b)=false:=qam hne;generalize qfe a b=res at *;have hca:=qey a;have Cf:=qey b;generalize sgn a=sa at *;generalize sgn b=sb at *;have fR:(sa = -1∧sb=0)∨(sa = -1∧sb=1)∨(sa=0∧sb = -1)∨(sa=0∧sb=1)∨(sa=1∧sb = -1)∨(sa=1∧sb=0):=by omega
 clear hne hca Cf Pk;rcases fR with⟨rfl,rfl⟩|⟨rfl,rfl⟩|⟨rfl,rfl⟩|⟨rfl,rfl⟩|⟨rfl,rfl⟩|⟨rfl,rfl⟩
 all_goals
  go_enter Tryz.func51,Tryz.ntmps51;go_wp2_with fail;generalize (w.alloc (.cells #[.bool na,.slice aH aI aJ,.slice aN aL aO] 87)).alloc (.cells #[.bool nb,.slice bB bC bE,.slice bH bI bJ] 87)=w0 at *;have bX:=hid aM.out.drew;obtain⟨d0,d1,d2,d3,d4,d5⟩:=qb1 bX.out
  go_region_with (first
   | (go_at_call 98;first
     | ((with_reducible refine(oL.out _ ?qa).mono ?_);(case qa=>first|exact oU.out|exact bX.out);rintro e wC ⟨rfl,ht,hb⟩;have HTC:=hid ht;obtain⟨c0,c1,c2,c3,c4,c5⟩:=qb1 ht;clear ht hb)
     | ((with_reducible refine(cP.out _ ?qb).mono ?_);(case qb=>first|exact HTC.out|exact bX.out);rintro e wD ⟨rfl,ht,hb⟩;have oU:=hid ht;obtain⟨e0,e1,e2,e3,e4,e5⟩:=qb1 ht;clear ht hb)))
  all_goals
   clear d0 d1 d2 d3 d4 d5 c0 c1 c2 c3 c4 c5 e0 e1 e2 e3 e4 e5;have Im:=hid HTC.out.drew;have Io:=hid oU.out.drew;clear bX HTC oU aM;go_wp2_with fail
   go_region_held3 (fun W=>W.cell? ⟨w.heap.size,0,none⟩=some (.bool na)∧W.cell? ⟨w.heap.size,1,none⟩=some (.slice aH aI aJ)∧W.cell? ⟨w.heap.size,2,none⟩=some (.slice aN aL aO)∧W.cell? ⟨w.heap.size+1,0,none⟩=some (.bool nb)∧W.cell? ⟨w.heap.size+1,1,none⟩=some (.slice bB bC bE)∧W.cell? ⟨w.heap.size+1,2,none⟩=some (.slice bH bI bJ)) (first|exact qb1 HTF.out|exact qb1 HTE.out|exact qb1 Io.out|exact qb1 Im.out)
   (first
   | (go_at_call 98;first
     | ((with_reducible refine(oL.out _ ?qe).mono ?_);(case qe=>first|exact HTF.out|exact Io.out|exact Im.out);rintro e wE ⟨rfl,ht,hb⟩;have HTE:=hid ht;clear ht hb)
     | ((with_reducible refine(cP.out _ ?qf).mono ?_);(case qf=>first|exact HTE.out|exact Io.out|exact Im.out);rintro e wF ⟨rfl,ht,hb⟩;have HTF:=hid ht;clear ht hb))
   | (go_at_call 60;((refine(oV.out _).mono ?_);rintro e wG ⟨rfl,rfl⟩)))
   have nD:=hid HTE.out.1;have jA:=hid HTF.out.1;go_wp2_with fail;go_ret;exact⟨rfl,by first|exact jA.out|exact nD.out⟩
theorem qdq(va vb:Value)(a b:Rat)(w:World)(ha:qau w va a)(hb:qau w vb b)(aQ:rs a+rs b≤Cap):
  Calls Tryz.prog 51 #[va,vb] w fun e w'=>e = .returned (.int .i64 (qfe a b))∧Below w.heap.size w w':=by
 by_cases h:sgn a=sgn b
 ·exact qyx va vb a b w ha hb h aQ
 ·exact qs3 va vb a b w ha hb h
theorem qot{a b:Rat}:qfe a b<0↔a<b:=by
 unfold qfe;rw[Rat.lt_iff];rcases Int.lt_trichotomy (a.num*b.den) (b.num*a.den) with h|h|h
 ·rw[qdf h];constructor<;>intro<;>omega
 ·rw[qet h];constructor<;>intro<;>omega
 ·rw[qcr h];constructor<;>intro<;>omega
theorem qu3{a b:Rat}:0<qfe a b↔b<a:=by
 unfold qfe;rw[Rat.lt_iff];rcases Int.lt_trichotomy (a.num*b.den) (b.num*a.den) with h|h|h
 ·rw[qdf h];constructor<;>intro<;>omega
 ·rw[qet h];constructor<;>intro<;>omega
 ·rw[qcr h];constructor<;>intro<;>omega
theorem q04{a b:Rat}:qfe a b≤0↔a≤b:=by
 rw[←Int.not_lt,qu3,Rat.not_lt]
theorem q7b{a b:Rat}:0≤qfe a b↔b≤a:=by
 rw[←Int.not_lt,qot,Rat.not_lt]
theorem qyy(a b:Rat):(qfe a b = -1∧a<b)∨(qfe a b=0∧a=b)∨(qfe a b=1∧b<a):=by
 have h1:=@qot a b;have h2:=@qu3 a b
 have h:qfe a b = -1∨qfe a b=0∨qfe a b=1:=by
  unfold qfe qso;split
  ·exact .inl rfl
  ·split
   ·exact .inr (.inr rfl)
   ·exact .inr (.inl rfl)
 rcases h with h|h|h
 ·exact .inl ⟨h,h1.1 (by omega)⟩
 ·refine .inr (.inl ⟨h, ?_⟩)
  exact Rat.le_antisymm (q04.1 (by omega)) (q7b.1 (by omega))
 ·exact .inr (.inr ⟨h,h2.1 (by omega)⟩)
end Go.Proofs.YtlkdlffhmakbgaaGreatDoor
