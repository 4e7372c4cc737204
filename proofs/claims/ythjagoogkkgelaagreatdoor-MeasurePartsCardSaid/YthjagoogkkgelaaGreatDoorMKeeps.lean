/- Lesser and Greater. -/
import Derived.Test.YthjagoogkkgelaaGreatDoorMCmpQ
import Derived.Test.YthjagoogkkgelaaGreatDoorMRounded
import Derived.Test.YthjagoogkkgelaaGreatDoorMRefK
import Derived.Test.YthjagoogkkgelaaGreatDoorMAwake
set_option linter.all false
namespace Go.Proofs.YthjagoogkkgelaaGreatDoor
open Go.RowKit
set_option maxRecDepth 100000
set_option maxHeartbeats 1000000
theorem qrm(va vb:Value)(a b:Rat)(w:World)(ha:qaj w va a)(hb:qaj w vb b)(hcap:rs a+rs b≤Cap):
  Calls Tryz.prog 33 #[va,vb] w fun e w'=>(∃v',e = .returned v'∧qaj w' v' (qno a b))∧Below w.heap.size w w':=by
 have HA:=hid ha;have HB:=hid hb;obtain⟨pa1,ka1,ca1,pa2,ka2,ca2,rfl,ha1,ha2⟩:=ha.parts;obtain⟨pb1,kb1,cb1,pb2,kb2,cb2,rfl,hb1,hb2⟩:=hb.parts;clear ha hb ha1 ha2 hb1 hb2;generalize decide (a.num<0)=na at *;generalize decide (b.num<0)=nb at *;have HW0:=hid (qhq w na (.slice pa1 ka1 ca1) (.slice pa2 ka2 ca2) nb (.slice pb1 kb1 cb1) (.slice pb2 kb2 cb2))
 have HCM:Hid (∀W,qbh w na (.slice pa1 ka1 ca1) (.slice pa2 ka2 ca2) nb (.slice pb1 kb1 cb1) (.slice pb2 kb2 cb2) W→Calls Tryz.prog 36 #[.agg #[.bool na,.slice pa1 ka1 ca1,.slice pa2 ka2 ca2],.agg #[.bool nb,.slice pb1 kb1 cb1,.slice pb2 kb2 cb2]] W fun e w'=>e = .returned (.int .i64 (qcu a b))∧qbh w na (.slice pa1 ka1 ca1) (.slice pa2 ka2 ca2) nb (.slice pb1 kb1 cb1) (.slice pb2 kb2 cb2) w'∧Below W.heap.size W w'):=
  hid fun W hW=>qbv hW (qb7 _ _ a b W (HA.out.later hW.1) (HB.out.later hW.1) hcap)
 have hle:=@qmv a b;clear hcap;generalize qcu a b=c at *;by_cases hab:a≤b
 ·have hc:c≤0:=hle.2 hab
  have HR:Hid (qno a b=a):=hid (if_pos hab);clear hle hab;go_enter Tryz.func33,Tryz.ntmps33;go_wp2_with fail;generalize ((w.alloc (.cells #[.bool na,.slice pa1 ka1 ca1,.slice pa2 ka2 ca2] 80)).alloc (.cells #[.bool nb,.slice pb1 kb1 cb1,.slice pb2 kb2 cb2] 80)).alloc (.cells #[.bool false,.slice none 0 0,.slice none 0 0] 80)=w0 at *;refine(HCM.out _ HW0.out).mono ?_;rintro e w1 ⟨rfl,ht,hb⟩;have HT:=hid ht;obtain⟨d10,d11,d12,d20,d21,d22⟩:=qan ht;obtain⟨⟨r0,g0⟩,⟨r1,g1⟩,⟨r2,g2⟩⟩:=qku ht;clear ht hb HCM HW0;have HFIN:=hid (qbd (HA.out.later HT.out.1) r0 r1 r2);have HBEL:=hid (qai HT.out.1 (show w.heap.size≤w.heap.size+1+1 by omega) (.bool na) (.slice pa1 ka1 ca1) (.slice pa2 ka2 ca2));go_wp2_with fail;refine bodyPost_ret (v := .agg #[.bool na,.slice pa1 ka1 ca1,.slice pa2 ka2 ca2]) ?_ rfl ?_
  ·simp[results,Tryz.results33,go_sem,r0,r1,r2]
  ·exact⟨⟨_,rfl,by rw[HR.out];exact HFIN.out⟩,HBEL.out⟩
 ·have hc:¬c≤0:=fun h=>hab (hle.1 h)
  have HR:Hid (qno a b=b):=hid (if_neg hab);clear hle hab;go_enter Tryz.func33,Tryz.ntmps33;go_wp2_with fail;generalize ((w.alloc (.cells #[.bool na,.slice pa1 ka1 ca1,.slice pa2 ka2 ca2] 80)).alloc (.cells #[.bool nb,.slice pb1 kb1 cb1,.slice pb2 kb2 cb2] 80)).alloc (.cells #[.bool false,.slice none 0 0,.slice none 0 0] 80)=w0 at *;refine(HCM.out _ HW0.out).mono ?_;rintro e w1 ⟨rfl,ht,hb⟩;have HT:=hid ht;obtain⟨d10,d11,d12,d20,d21,d22⟩:=qan ht;obtain⟨⟨r0,g0⟩,⟨r1,g1⟩,⟨r2,g2⟩⟩:=qku ht;clear ht hb HCM HW0;have HFIN:=hid (qbd (HB.out.later HT.out.1) r0 r1 r2);have HBEL:=hid (qai HT.out.1 (show w.heap.size≤w.heap.size+1+1 by omega) (.bool nb) (.slice pb1 kb1 cb1) (.slice pb2 kb2 cb2));go_wp2_with fail;refine bodyPost_ret (v := .agg #[.bool nb,.slice pb1 kb1 cb1,.slice pb2 kb2 cb2]) ?_ rfl ?_
  ·simp[results,Tryz.results33,go_sem,r0,r1,r2]
  ·exact⟨⟨_,rfl,by rw[HR.out];exact HFIN.out⟩,HBEL.out⟩
theorem qp8(va vb:Value)(a b:Rat)(w:World)(ha:qaj w va a)(hb:qaj w vb b)(hcap:rs a+rs b≤Cap):
  Calls Tryz.prog 34 #[va,vb] w fun e w'=>(∃v',e = .returned v'∧qaj w' v' (qnp a b))∧Below w.heap.size w w':=by
 have HA:=hid ha;have HB:=hid hb;obtain⟨pa1,ka1,ca1,pa2,ka2,ca2,rfl,ha1,ha2⟩:=ha.parts;obtain⟨pb1,kb1,cb1,pb2,kb2,cb2,rfl,hb1,hb2⟩:=hb.parts;clear ha hb ha1 ha2 hb1 hb2;generalize decide (a.num<0)=na at *;generalize decide (b.num<0)=nb at *;have HW0:=hid (qhq w na (.slice pa1 ka1 ca1) (.slice pa2 ka2 ca2) nb (.slice pb1 kb1 cb1) (.slice pb2 kb2 cb2))
 have HCM:Hid (∀W,qbh w na (.slice pa1 ka1 ca1) (.slice pa2 ka2 ca2) nb (.slice pb1 kb1 cb1) (.slice pb2 kb2 cb2) W→Calls Tryz.prog 36 #[.agg #[.bool na,.slice pa1 ka1 ca1,.slice pa2 ka2 ca2],.agg #[.bool nb,.slice pb1 kb1 cb1,.slice pb2 kb2 cb2]] W fun e w'=>e = .returned (.int .i64 (qcu a b))∧qbh w na (.slice pa1 ka1 ca1) (.slice pa2 ka2 ca2) nb (.slice pb1 kb1 cb1) (.slice pb2 kb2 cb2) w'∧Below W.heap.size W w'):=
  hid fun W hW=>qbv hW (qb7 _ _ a b W (HA.out.later hW.1) (HB.out.later hW.1) hcap)
 have hle:=@qvy a b;clear hcap;generalize qcu a b=c at *;by_cases hab:b≤a
 ·have hc:0≤c:=hle.2 hab
  have HR:Hid (qnp a b=a):=hid (if_pos hab);clear hle hab;go_enter Tryz.func34,Tryz.ntmps34;go_wp2_with fail;generalize ((w.alloc (.cells #[.bool na,.slice pa1 ka1 ca1,.slice pa2 ka2 ca2] 80)).alloc (.cells #[.bool nb,.slice pb1 kb1 cb1,.slice pb2 kb2 cb2] 80)).alloc (.cells #[.bool false,.slice none 0 0,.slice none 0 0] 80)=w0 at *;refine(HCM.out _ HW0.out).mono ?_;rintro e w1 ⟨rfl,ht,hb⟩;have HT:=hid ht;obtain⟨d10,d11,d12,d20,d21,d22⟩:=qan ht;obtain⟨⟨r0,g0⟩,⟨r1,g1⟩,⟨r2,g2⟩⟩:=qku ht;clear ht hb HCM HW0;have HFIN:=hid (qbd (HA.out.later HT.out.1) r0 r1 r2);have HBEL:=hid (qai HT.out.1 (show w.heap.size≤w.heap.size+1+1 by omega) (.bool na) (.slice pa1 ka1 ca1) (.slice pa2 ka2 ca2));go_wp2_with fail;refine bodyPost_ret (v := .agg #[.bool na,.slice pa1 ka1 ca1,.slice pa2 ka2 ca2]) ?_ rfl ?_
  ·simp[results,Tryz.results34,go_sem,r0,r1,r2]
  ·exact⟨⟨_,rfl,by rw[HR.out];exact HFIN.out⟩,HBEL.out⟩
 ·have hc:¬0≤c:=fun h=>hab (hle.1 h)
  have HR:Hid (qnp a b=b):=hid (if_neg hab);clear hle hab;go_enter Tryz.func34,Tryz.ntmps34;go_wp2_with fail;generalize ((w.alloc (.cells #[.bool na,.slice pa1 ka1 ca1,.slice pa2 ka2 ca2] 80)).alloc (.cells #[.bool nb,.slice pb1 kb1 cb1,.slice pb2 kb2 cb2] 80)).alloc (.cells #[.bool false,.slice none 0 0,.slice none 0 0] 80)=w0 at *;refine(HCM.out _ HW0.out).mono ?_;rintro e w1 ⟨rfl,ht,hb⟩;have HT:=hid ht;obtain⟨d10,d11,d12,d20,d21,d22⟩:=qan ht;obtain⟨⟨r0,g0⟩,⟨r1,g1⟩,⟨r2,g2⟩⟩:=qku ht;clear ht hb HCM HW0;have HFIN:=hid (qbd (HB.out.later HT.out.1) r0 r1 r2);have HBEL:=hid (qai HT.out.1 (show w.heap.size≤w.heap.size+1+1 by omega) (.bool nb) (.slice pb1 kb1 cb1) (.slice pb2 kb2 cb2));go_wp2_with fail;refine bodyPost_ret (v := .agg #[.bool nb,.slice pb1 kb1 cb1,.slice pb2 kb2 cb2]) ?_ rfl ?_
  ·simp[results,Tryz.results34,go_sem,r0,r1,r2]
  ·exact⟨⟨_,rfl,by rw[HR.out];exact HFIN.out⟩,HBEL.out⟩
end Go.Proofs.YthjagoogkkgelaaGreatDoor
namespace Go.Proofs.YthjagoogkkgelaaGreatDoor
set_option maxRecDepth 100000
set_option maxHeartbeats 1000000
open Go.RowKit
open Go.RowKit
end Go.Proofs.YthjagoogkkgelaaGreatDoor
namespace Go.Proofs.YthjagoogkkgelaaGreatDoor
open Go.RowKit
set_option maxRecDepth 100000
set_option maxHeartbeats 1000000
structure Inv(I:World→Prop):Prop where
 later:∀W W',I W→Below W.heap.size W W'→I W'
 gw:∀W,I W→GW W
def qck(I:World→Prop)(f:FuncId)(args:Array Value)(v:Value):Prop:=∀W,I W→Calls Tryz.prog f args W fun e w'=>e = .returned v∧I w'
theorem kgo{I:World→Prop}{f:FuncId}{args:Array Value}{v:Value}{W:World}{Q:Ending→World→Prop}(K:qck I f args v)(h:Hid (I W))(k:∀W',Hid (I W')→Q (.returned v) W'):Calls Tryz.prog f args W Q:=
 (K W h.out).mono fun e W' hh=>by
  obtain⟨rfl,h2⟩:=hh;exact k W' (hid h2)
theorem qbs{I:World→Prop}(J:Inv I){f:FuncId}{args:Array Value}{v:Value}(h:∀W,I W→GW W→Calls Tryz.prog f args W fun e w'=>e = .returned v∧Below W.heap.size W w'):qck I f args v:=
 fun W hW=>(h W hW (J.gw W hW)).mono fun _ _ ⟨h1,h2⟩=>⟨h1,J.later _ _ hW h2⟩
theorem qw2{I:World→Prop}(J:Inv I):qck I 6 #[] (.bool true):=qbs J fun W _ hg=>qd6 W hg
theorem qfg{x:ByteArray}(h:qaa x.data.toList=0):x=rt (qav x.data.toList)∧qa4 (qav x.data.toList) 600=true:=by
 have ht:qlu x.data.toList=x.data.toList:=by
  unfold qaa at h;split at h
  ·cases h
  ·split at h
   ·cases h
   ·split at h
    ·cases h
    ·split at h
     ·assumption
     ·cases h
 have hne:x.data.toList≠[]:=by
  intro e;rw[e] at h
  revert h
  decide
 unfold qlu at ht;split at ht
 ·rename_i hf
  exact⟨q36 ht.symm,hf⟩
 ·exact absurd ht.symm hne
theorem qgl{q:Rat}{n:Nat}(h:(rt q).size≤n)(hn:1≤n):sm q n:=by
 have h1:=qhd (rt q) q (qd2 q);refine⟨qio (by omega), ?_⟩;by_cases hd:q.den=1
 ·rw[hd]
  exact Nat.lt_of_lt_of_le (by decide:1<10^1) (Nat.pow_le_pow_right (by decide) hn)
 ·rw[if_neg hd] at h1
  exact qio (by omega)
theorem q4m(a b:Rat):sgn (a-b)=qcu a b:=by
 have h1:a≤b↔0≤(b-a).num:=by rw[Rat.le_iff_sub_nonneg,Rat.num_nonneg]
 have h2:b≤a↔0≤(a-b).num:=by rw[Rat.le_iff_sub_nonneg,Rat.num_nonneg]
 have h3:(a-b).num = -(b-a).num:=by rw[←Rat.neg_sub,Rat.neg_num]
 unfold sgn;rcases qq7 a b with⟨e,h⟩|⟨e,h⟩|⟨e,h⟩
 ·have h4:=mt h2.2 (Rat.not_le.2 h)
  rw[e,if_pos (by omega)]
 ·subst h
  rw[e,Rat.sub_self];rfl
 ·have h4:=mt h1.2 (Rat.not_le.2 h)
  rw[e,if_neg (by omega),if_neg (by omega)]
theorem q4n(W:World)(x y:ByteArray)(t:TypeId):qhl (W.alloc (.cells #[.string x,.string y] t)) (.slice (some ⟨W.heap.size,0,none⟩) 2 2) [x,y]:=by
 refine⟨_,0,2,rfl,Nat.le_refl _,by decide,fun j s hj => ?_⟩;rw[World.cell?_alloc_at _ _ _ _ rfl]
 match j,hj with
 | 0,hj=>cases hj;rfl
 | 1,hj=>cases hj;rfl
theorem qei{I:World→Prop}(J:Inv I)(x:ByteArray)(c:Nat)(hc:qaa x.data.toList=c)(hx:x.size≤5000):qck I 82 #[.string x] (.int .i64 (c:Nat)):=
 qbs J fun W _ _=>by rw[←hc];exact zbq x W hx
theorem qrn{q:Rat}{k m:Nat}(h:sm q k)(hk:k+1≤m):qa4 q m=true:=by
 have h1:=qoo h.1;have h2:=qoo h.2;unfold qa4;rw[decide_eq_true (by omega),Bool.true_and,Bool.or_eq_true];exact .inr (decide_eq_true (by omega))
theorem q7g(q:Rat)(h:q.num.natAbs<10)(h2:q.den<10):sm q 1:=⟨h,h2⟩
theorem qu2{I:World→Prop}(J:Inv I){p q:Rat}{j:Nat}(sp:sm p j)(sq:sm q j)(hj:j≤2000){tp tq:ByteArray}(ep:tp=rt p)(eq:tq=rt q){z:Int}(hz:qcu p q=z):qck I 46 #[.string tp,.string tq] (.int .i64 z):=qbs J fun W _ _=>by
 rw[ep,eq,←hz,←q4m];exact q8g p q j W sp sq hj
end Go.Proofs.YthjagoogkkgelaaGreatDoor
