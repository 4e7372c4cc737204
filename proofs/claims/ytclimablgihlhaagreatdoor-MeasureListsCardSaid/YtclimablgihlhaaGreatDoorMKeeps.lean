/- Lesser and Greater. -/
import Derived.Test.YtclimablgihlhaaGreatDoorMCmpQ
import Derived.Test.YtclimablgihlhaaGreatDoorMRounded
import Derived.Test.YtclimablgihlhaaGreatDoorMRefK
import Derived.Test.YtclimablgihlhaaGreatDoorMAwake
set_option linter.all false
namespace Go.Proofs.YtclimablgihlhaaGreatDoor
open Go.RowKit
set_option maxRecDepth 100000
set_option maxHeartbeats 1000000
theorem qqp(va vb:Value)(a b:Rat)(w:World)(ha:qaj w va a)(hb:qaj w vb b)(aP:rs a+rs b≤Cap):
  Calls Tryz.prog 30 #[va,vb] w fun e w'=>(∃v',e = .returned v'∧qaj w' v' (qmu a b))∧Below w.heap.size w w':=by
 have HA:=hid ha;have HB:=hid hb;obtain⟨aI,aJ,aK,aM,aL,aN,rfl,dK,dX⟩:=ha.parts;obtain⟨aY,aZ,bA,bC,bE,bF,rfl,bB,aT⟩:=hb.parts;clear ha hb dK dX bB aT;generalize decide (a.num<0)=na at *;generalize decide (b.num<0)=nb at *;have aO:=hid (qg9 w na (.slice aI aJ aK) (.slice aM aL aN) nb (.slice aY aZ bA) (.slice bC bE bF))
 have iA:Hid (∀W,qbh w na (.slice aI aJ aK) (.slice aM aL aN) nb (.slice aY aZ bA) (.slice bC bE bF) W→Calls Tryz.prog 33 #[.agg #[.bool na,.slice aI aJ aK,.slice aM aL aN],.agg #[.bool nb,.slice aY aZ bA,.slice bC bE bF]] W fun e w'=>e = .returned (.int .i64 (qcq a b))∧qbh w na (.slice aI aJ aK) (.slice aM aL aN) nb (.slice aY aZ bA) (.slice bC bE bF) w'∧Below W.heap.size W w'):=
  hid fun W hW=>qbv hW (qb5 _ _ a b W (HA.out.later hW.1) (HB.out.later hW.1) aP)
 have dF:=@ql4 a b;clear aP;generalize qcq a b=c at *;by_cases iV:a≤b
 ·have hc:c≤0:=dF.2 iV
  have HR:Hid (qmu a b=a):=hid (if_pos iV);clear dF iV;go_enter Tryz.func30,Tryz.ntmps30;go_wp2_with fail;generalize ((w.alloc (.cells #[.bool na,.slice aI aJ aK,.slice aM aL aN] 74)).alloc (.cells #[.bool nb,.slice aY aZ bA,.slice bC bE bF] 74)).alloc (.cells #[.bool false,.slice none 0 0,.slice none 0 0] 74)=w0 at *;refine(iA.out _ aO.out).mono ?_;rintro e w1 ⟨rfl,ht,hb⟩;have HT:=hid ht;obtain⟨d10,d11,d12,d20,d21,d22⟩:=qam ht;obtain⟨⟨r0,g0⟩,⟨r1,g1⟩,⟨r2,g2⟩⟩:=qj8 ht;clear ht hb iA aO;have aG:=hid (qbc (HA.out.later HT.out.1) r0 r1 r2);have aH:=hid (qai HT.out.1 (show w.heap.size≤w.heap.size+1+1 by omega) (.bool na) (.slice aI aJ aK) (.slice aM aL aN));go_wp2_with fail;refine bodyPost_ret (v := .agg #[.bool na,.slice aI aJ aK,.slice aM aL aN]) ?_ rfl ?_
  ·simp[results,Tryz.results30,go_sem,r0,r1,r2]
  ·exact⟨⟨_,rfl,by rw[HR.out];exact aG.out⟩,aH.out⟩
 ·have hc:¬c≤0:=fun h=>iV (dF.1 h)
  have HR:Hid (qmu a b=b):=hid (if_neg iV);clear dF iV;go_enter Tryz.func30,Tryz.ntmps30;go_wp2_with fail;generalize ((w.alloc (.cells #[.bool na,.slice aI aJ aK,.slice aM aL aN] 74)).alloc (.cells #[.bool nb,.slice aY aZ bA,.slice bC bE bF] 74)).alloc (.cells #[.bool false,.slice none 0 0,.slice none 0 0] 74)=w0 at *;refine(iA.out _ aO.out).mono ?_;rintro e w1 ⟨rfl,ht,hb⟩;have HT:=hid ht;obtain⟨d10,d11,d12,d20,d21,d22⟩:=qam ht;obtain⟨⟨r0,g0⟩,⟨r1,g1⟩,⟨r2,g2⟩⟩:=qj8 ht;clear ht hb iA aO;have aG:=hid (qbc (HB.out.later HT.out.1) r0 r1 r2);have aH:=hid (qai HT.out.1 (show w.heap.size≤w.heap.size+1+1 by omega) (.bool nb) (.slice aY aZ bA) (.slice bC bE bF));go_wp2_with fail;refine bodyPost_ret (v := .agg #[.bool nb,.slice aY aZ bA,.slice bC bE bF]) ?_ rfl ?_
  ·simp[results,Tryz.results30,go_sem,r0,r1,r2]
  ·exact⟨⟨_,rfl,by rw[HR.out];exact aG.out⟩,aH.out⟩
theorem qph(va vb:Value)(a b:Rat)(w:World)(ha:qaj w va a)(hb:qaj w vb b)(aP:rs a+rs b≤Cap):
  Calls Tryz.prog 31 #[va,vb] w fun e w'=>(∃v',e = .returned v'∧qaj w' v' (qmv a b))∧Below w.heap.size w w':=by
 have HA:=hid ha;have HB:=hid hb;obtain⟨aI,aJ,aK,aM,aL,aN,rfl,dK,dX⟩:=ha.parts;obtain⟨aY,aZ,bA,bC,bE,bF,rfl,bB,aT⟩:=hb.parts;clear ha hb dK dX bB aT;generalize decide (a.num<0)=na at *;generalize decide (b.num<0)=nb at *;have aO:=hid (qg9 w na (.slice aI aJ aK) (.slice aM aL aN) nb (.slice aY aZ bA) (.slice bC bE bF))
 have iA:Hid (∀W,qbh w na (.slice aI aJ aK) (.slice aM aL aN) nb (.slice aY aZ bA) (.slice bC bE bF) W→Calls Tryz.prog 33 #[.agg #[.bool na,.slice aI aJ aK,.slice aM aL aN],.agg #[.bool nb,.slice aY aZ bA,.slice bC bE bF]] W fun e w'=>e = .returned (.int .i64 (qcq a b))∧qbh w na (.slice aI aJ aK) (.slice aM aL aN) nb (.slice aY aZ bA) (.slice bC bE bF) w'∧Below W.heap.size W w'):=
  hid fun W hW=>qbv hW (qb5 _ _ a b W (HA.out.later hW.1) (HB.out.later hW.1) aP)
 have dF:=@qut a b;clear aP;generalize qcq a b=c at *;by_cases iV:b≤a
 ·have hc:0≤c:=dF.2 iV
  have HR:Hid (qmv a b=a):=hid (if_pos iV);clear dF iV;go_enter Tryz.func31,Tryz.ntmps31;go_wp2_with fail;generalize ((w.alloc (.cells #[.bool na,.slice aI aJ aK,.slice aM aL aN] 74)).alloc (.cells #[.bool nb,.slice aY aZ bA,.slice bC bE bF] 74)).alloc (.cells #[.bool false,.slice none 0 0,.slice none 0 0] 74)=w0 at *;refine(iA.out _ aO.out).mono ?_;rintro e w1 ⟨rfl,ht,hb⟩;have HT:=hid ht;obtain⟨d10,d11,d12,d20,d21,d22⟩:=qam ht;obtain⟨⟨r0,g0⟩,⟨r1,g1⟩,⟨r2,g2⟩⟩:=qj8 ht;clear ht hb iA aO;have aG:=hid (qbc (HA.out.later HT.out.1) r0 r1 r2);have aH:=hid (qai HT.out.1 (show w.heap.size≤w.heap.size+1+1 by omega) (.bool na) (.slice aI aJ aK) (.slice aM aL aN));go_wp2_with fail;refine bodyPost_ret (v := .agg #[.bool na,.slice aI aJ aK,.slice aM aL aN]) ?_ rfl ?_
  ·simp[results,Tryz.results31,go_sem,r0,r1,r2]
  ·exact⟨⟨_,rfl,by rw[HR.out];exact aG.out⟩,aH.out⟩
 ·have hc:¬0≤c:=fun h=>iV (dF.1 h)
  have HR:Hid (qmv a b=b):=hid (if_neg iV);clear dF iV;go_enter Tryz.func31,Tryz.ntmps31;go_wp2_with fail;generalize ((w.alloc (.cells #[.bool na,.slice aI aJ aK,.slice aM aL aN] 74)).alloc (.cells #[.bool nb,.slice aY aZ bA,.slice bC bE bF] 74)).alloc (.cells #[.bool false,.slice none 0 0,.slice none 0 0] 74)=w0 at *;refine(iA.out _ aO.out).mono ?_;rintro e w1 ⟨rfl,ht,hb⟩;have HT:=hid ht;obtain⟨d10,d11,d12,d20,d21,d22⟩:=qam ht;obtain⟨⟨r0,g0⟩,⟨r1,g1⟩,⟨r2,g2⟩⟩:=qj8 ht;clear ht hb iA aO;have aG:=hid (qbc (HB.out.later HT.out.1) r0 r1 r2);have aH:=hid (qai HT.out.1 (show w.heap.size≤w.heap.size+1+1 by omega) (.bool nb) (.slice aY aZ bA) (.slice bC bE bF));go_wp2_with fail;refine bodyPost_ret (v := .agg #[.bool nb,.slice aY aZ bA,.slice bC bE bF]) ?_ rfl ?_
  ·simp[results,Tryz.results31,go_sem,r0,r1,r2]
  ·exact⟨⟨_,rfl,by rw[HR.out];exact aG.out⟩,aH.out⟩
end Go.Proofs.YtclimablgihlhaaGreatDoor
namespace Go.Proofs.YtclimablgihlhaaGreatDoor
set_option maxRecDepth 100000
set_option maxHeartbeats 1000000
open Go.RowKit
open Go.RowKit
end Go.Proofs.YtclimablgihlhaaGreatDoor
namespace Go.Proofs.YtclimablgihlhaaGreatDoor
open Go.RowKit
set_option maxRecDepth 100000
set_option maxHeartbeats 1000000
structure Inv(I:World→Prop):Prop where
 later:∀W W',I W→Below W.heap.size W W'→I W'
 gw:∀W,I W→GW W
def qcg(I:World→Prop)(f:FuncId)(args:Array Value)(v:Value):Prop:=∀W,I W→Calls Tryz.prog f args W fun e w'=>e = .returned v∧I w'
theorem kgo{I:World→Prop}{f:FuncId}{args:Array Value}{v:Value}{W:World}{Q:Ending→World→Prop}(K:qcg I f args v)(h:Hid (I W))(k:∀W',Hid (I W')→Q (.returned v) W'):Calls Tryz.prog f args W Q:=
 (K W h.out).mono fun e W' hh=>by
  obtain⟨rfl,h2⟩:=hh;exact k W' (hid h2)
theorem qbr{I:World→Prop}(J:Inv I){f:FuncId}{args:Array Value}{v:Value}(h:∀W,I W→GW W→Calls Tryz.prog f args W fun e w'=>e = .returned v∧Below W.heap.size W w'):qcg I f args v:=
 fun W hW=>(h W hW (J.gw W hW)).mono fun _ _ ⟨h1,h2⟩=>⟨h1,J.later _ _ hW h2⟩
theorem qvx{I:World→Prop}(J:Inv I):qcg I 4 #[] (.bool true):=qbr J fun W _ hg=>q2z W hg
theorem qe5{x:BA}(h:qaa x.data.toList=0):x=rt (qav x.data.toList)∧qa3 (qav x.data.toList) 600=true:=by
 have ht:qk7 x.data.toList=x.data.toList:=by
  unfold qaa at h;split at h
  ·cases h
  ·split at h
   ·cases h
   ·split at h
    ·cases h
    ·split at h
     ·assumption
     ·cases h
 have hne:x.data.toList≠[]:=by
  intro e;rw[e] at h
  revert h
  decide
 unfold qk7 at ht;split at ht
 ·rename_i hf
  exact⟨q1k ht.symm,hf⟩
 ·exact absurd ht.symm hne
theorem qf7{q:Rat}{n:Nat}(h:(rt q).size≤n)(hn:1≤n):sm q n:=by
 have h1:=qgs (rt q) q (qdv q);refine⟨qh4 (by omega), ?_⟩;by_cases hd:q.den=1
 ·rw[hd]
  exact Nat.lt_of_lt_of_le (by decide:1<10^1) (Nat.pow_le_pow_right (by decide) hn)
 ·rw[if_neg hd] at h1
  exact qh4 (by omega)
theorem q20(a b:Rat):sgn (a-b)=qcq a b:=by
 have h1:a≤b↔0≤(b-a).num:=by rw[Rat.le_iff_sub_nonneg,Rat.num_nonneg]
 have h2:b≤a↔0≤(a-b).num:=by rw[Rat.le_iff_sub_nonneg,Rat.num_nonneg]
 have h3:(a-b).num = -(b-a).num:=by rw[←Rat.neg_sub,Rat.neg_num]
 unfold sgn;rcases qp9 a b with⟨e,h⟩|⟨e,h⟩|⟨e,h⟩
 ·have h4:=mt h2.2 (Rat.not_le.2 h)
  rw[e,if_pos (by omega)]
 ·subst h
  rw[e,Rat.sub_self];rfl
 ·have h4:=mt h1.2 (Rat.not_le.2 h)
  rw[e,if_neg (by omega),if_neg (by omega)]
theorem q21(W:World)(x y:BA)(t:TypeId):qg3 (W.alloc (.cells #[.string x,.string y] t)) (.slice (some ⟨W.heap.size,0,none⟩) 2 2) [x,y]:=by
 refine⟨_,0,2,rfl,zap _,by decide,fun j s hj => ?_⟩;rw[World.cell?_alloc_at _ _ _ _ rfl]
 match j,hj with
 | 0,hj=>cases hj;rfl
 | 1,hj=>cases hj;rfl
theorem qea{I:World→Prop}(J:Inv I)(x:BA)(c:Nat)(hc:qaa x.data.toList=c)(hx:x.size≤5000):qcg I 79 #[.string x] (.int .i64 (c:Nat)):=
 qbr J fun W _ _=>by rw[←hc];exact q9n x W hx
theorem qqq{q:Rat}{k m:Nat}(h:sm q k)(hk:k+1≤m):qa3 q m=true:=by
 have h1:=qnq h.1;have h2:=qnq h.2;unfold qa3;rw[zas (by omega),Bool.true_and,Bool.or_eq_true];exact .inr (zas (by omega))
theorem q5u(q:Rat)(h:q.num.natAbs<10)(h2:q.den<10):sm q 1:=⟨h,h2⟩
theorem qt5{I:World→Prop}(J:Inv I){p q:Rat}{j:Nat}(sp:sm p j)(sq:sm q j)(hj:j≤2000){tp tq:BA}(ep:tp=rt p)(eq:tq=rt q){z:Int}(hz:qcq p q=z):qcg I 43 #[.string tp,.string tq] (.int .i64 z):=qbr J fun W _ _=>by
 rw[ep,eq,←hz,←q20];exact q6n p q j W sp sq hj
end Go.Proofs.YtclimablgihlhaaGreatDoor
