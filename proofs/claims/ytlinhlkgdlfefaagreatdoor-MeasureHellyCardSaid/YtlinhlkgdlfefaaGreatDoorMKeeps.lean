/- Lesser and Greater. -/
import Derived.Test.YtlinhlkgdlfefaaGreatDoorMCmpQ
import Derived.Test.YtlinhlkgdlfefaaGreatDoorMRounded
import Derived.Test.YtlinhlkgdlfefaaGreatDoorMRefK
import Derived.Test.YtlinhlkgdlfefaaGreatDoorMAwake
set_option linter.all false
namespace Go.Proofs.YtlinhlkgdlfefaaGreatDoor
open Go.RowKit
set_option maxRecDepth 100000
set_option maxHeartbeats 4000000
theorem qrh(va vb:Value)(a b:Rat)(w:World)(ha:qai w va a)(hb:qai w vb b)(hcap:rs a+rs b≤Cap):
  Calls Tryz.prog 52 #[va,vb] w fun e w'=>(∃v',e = .returned v'∧qai w' v' (qtk a b))∧Below w.heap.size w w':=by
 have HA:=hid ha;have HB:=hid hb;obtain⟨pa1,ka1,ca1,pa2,ka2,ca2,rfl,ha1,ha2⟩:=ha.parts;obtain⟨pb1,kb1,cb1,pb2,kb2,cb2,rfl,hb1,hb2⟩:=hb.parts;clear ha hb ha1 ha2 hb1 hb2;generalize decide (a.num<0)=na at *;generalize decide (b.num<0)=nb at *;have HW0:=hid (qhm w na (.slice pa1 ka1 ca1) (.slice pa2 ka2 ca2) nb (.slice pb1 kb1 cb1) (.slice pb2 kb2 cb2))
 have HCM:Hid (∀W,qbg w na (.slice pa1 ka1 ca1) (.slice pa2 ka2 ca2) nb (.slice pb1 kb1 cb1) (.slice pb2 kb2 cb2) W→Calls Tryz.prog 53 #[.agg #[.bool na,.slice pa1 ka1 ca1,.slice pa2 ka2 ca2],.agg #[.bool nb,.slice pb1 kb1 cb1,.slice pb2 kb2 cb2]] W fun e w'=>e = .returned (.int .i64 (qcp a b))∧qbg w na (.slice pa1 ka1 ca1) (.slice pa2 ka2 ca2) nb (.slice pb1 kb1 cb1) (.slice pb2 kb2 cb2) w'∧Below W.heap.size W w'):=
  hid fun W hW=>qbq hW (qb1 _ _ a b W (HA.out.later hW.1) (HB.out.later hW.1) hcap)
 have hle:=@qf0 a b;clear hcap;generalize qcp a b=c at *;by_cases hab:a≤b
 ·have hc:c≤0:=hle.2 hab
  have HR:Hid (qtk a b=a):=hid (if_pos hab);clear hle hab;go_enter Tryz.func52,Tryz.ntmps52;go_wp2_with fail;generalize ((w.alloc (.cells #[.bool na,.slice pa1 ka1 ca1,.slice pa2 ka2 ca2] 75)).alloc (.cells #[.bool nb,.slice pb1 kb1 cb1,.slice pb2 kb2 cb2] 75)).alloc (.cells #[.bool false,.slice none 0 0,.slice none 0 0] 75)=w0 at *;refine(HCM.out _ HW0.out).mono ?_;rintro e w1 ⟨rfl,ht,hb⟩;have HT:=hid ht;obtain⟨d10,d11,d12,d20,d21,d22⟩:=qan ht;obtain⟨⟨r0,g0⟩,⟨r1,g1⟩,⟨r2,g2⟩⟩:=qku ht;clear ht hb HCM HW0;have HFIN:=hid (qbb (HA.out.later HT.out.1) r0 r1 r2);have HBEL:=hid (qaj HT.out.1 (show w.heap.size≤w.heap.size+1+1 by omega) (.bool na) (.slice pa1 ka1 ca1) (.slice pa2 ka2 ca2));go_wp2_with fail;refine bodyPost_ret (v := .agg #[.bool na,.slice pa1 ka1 ca1,.slice pa2 ka2 ca2]) ?_ rfl ?_
  ·simp[results,Tryz.results52,go_sem,r0,r1,r2]
  ·exact⟨⟨_,rfl,by rw[HR.out];exact HFIN.out⟩,HBEL.out⟩
 ·have hc:¬c≤0:=fun h=>hab (hle.1 h)
  have HR:Hid (qtk a b=b):=hid (if_neg hab);clear hle hab;go_enter Tryz.func52,Tryz.ntmps52;go_wp2_with fail;generalize ((w.alloc (.cells #[.bool na,.slice pa1 ka1 ca1,.slice pa2 ka2 ca2] 75)).alloc (.cells #[.bool nb,.slice pb1 kb1 cb1,.slice pb2 kb2 cb2] 75)).alloc (.cells #[.bool false,.slice none 0 0,.slice none 0 0] 75)=w0 at *;refine(HCM.out _ HW0.out).mono ?_;rintro e w1 ⟨rfl,ht,hb⟩;have HT:=hid ht;obtain⟨d10,d11,d12,d20,d21,d22⟩:=qan ht;obtain⟨⟨r0,g0⟩,⟨r1,g1⟩,⟨r2,g2⟩⟩:=qku ht;clear ht hb HCM HW0;have HFIN:=hid (qbb (HB.out.later HT.out.1) r0 r1 r2);have HBEL:=hid (qaj HT.out.1 (show w.heap.size≤w.heap.size+1+1 by omega) (.bool nb) (.slice pb1 kb1 cb1) (.slice pb2 kb2 cb2));go_wp2_with fail;refine bodyPost_ret (v := .agg #[.bool nb,.slice pb1 kb1 cb1,.slice pb2 kb2 cb2]) ?_ rfl ?_
  ·simp[results,Tryz.results52,go_sem,r0,r1,r2]
  ·exact⟨⟨_,rfl,by rw[HR.out];exact HFIN.out⟩,HBEL.out⟩
theorem qp0(va vb:Value)(a b:Rat)(w:World)(ha:qai w va a)(hb:qai w vb b)(hcap:rs a+rs b≤Cap):
  Calls Tryz.prog 51 #[va,vb] w fun e w'=>(∃v',e = .returned v'∧qai w' v' (qtl a b))∧Below w.heap.size w w':=by
 have HA:=hid ha;have HB:=hid hb;obtain⟨pa1,ka1,ca1,pa2,ka2,ca2,rfl,ha1,ha2⟩:=ha.parts;obtain⟨pb1,kb1,cb1,pb2,kb2,cb2,rfl,hb1,hb2⟩:=hb.parts;clear ha hb ha1 ha2 hb1 hb2;generalize decide (a.num<0)=na at *;generalize decide (b.num<0)=nb at *;have HW0:=hid (qhm w na (.slice pa1 ka1 ca1) (.slice pa2 ka2 ca2) nb (.slice pb1 kb1 cb1) (.slice pb2 kb2 cb2))
 have HCM:Hid (∀W,qbg w na (.slice pa1 ka1 ca1) (.slice pa2 ka2 ca2) nb (.slice pb1 kb1 cb1) (.slice pb2 kb2 cb2) W→Calls Tryz.prog 53 #[.agg #[.bool na,.slice pa1 ka1 ca1,.slice pa2 ka2 ca2],.agg #[.bool nb,.slice pb1 kb1 cb1,.slice pb2 kb2 cb2]] W fun e w'=>e = .returned (.int .i64 (qcp a b))∧qbg w na (.slice pa1 ka1 ca1) (.slice pa2 ka2 ca2) nb (.slice pb1 kb1 cb1) (.slice pb2 kb2 cb2) w'∧Below W.heap.size W w'):=
  hid fun W hW=>qbq hW (qb1 _ _ a b W (HA.out.later hW.1) (HB.out.later hW.1) hcap)
 have hle:=@q1q a b;clear hcap;generalize qcp a b=c at *;by_cases hab:b≤a
 ·have hc:0≤c:=hle.2 hab
  have HR:Hid (qtl a b=a):=hid (if_pos hab);clear hle hab;go_enter Tryz.func51,Tryz.ntmps51;go_wp2_with fail;generalize ((w.alloc (.cells #[.bool na,.slice pa1 ka1 ca1,.slice pa2 ka2 ca2] 75)).alloc (.cells #[.bool nb,.slice pb1 kb1 cb1,.slice pb2 kb2 cb2] 75)).alloc (.cells #[.bool false,.slice none 0 0,.slice none 0 0] 75)=w0 at *;refine(HCM.out _ HW0.out).mono ?_;rintro e w1 ⟨rfl,ht,hb⟩;have HT:=hid ht;obtain⟨d10,d11,d12,d20,d21,d22⟩:=qan ht;obtain⟨⟨r0,g0⟩,⟨r1,g1⟩,⟨r2,g2⟩⟩:=qku ht;clear ht hb HCM HW0;have HFIN:=hid (qbb (HA.out.later HT.out.1) r0 r1 r2);have HBEL:=hid (qaj HT.out.1 (show w.heap.size≤w.heap.size+1+1 by omega) (.bool na) (.slice pa1 ka1 ca1) (.slice pa2 ka2 ca2));go_wp2_with fail;refine bodyPost_ret (v := .agg #[.bool na,.slice pa1 ka1 ca1,.slice pa2 ka2 ca2]) ?_ rfl ?_
  ·simp[results,Tryz.results51,go_sem,r0,r1,r2]
  ·exact⟨⟨_,rfl,by rw[HR.out];exact HFIN.out⟩,HBEL.out⟩
 ·have hc:¬0≤c:=fun h=>hab (hle.1 h)
  have HR:Hid (qtl a b=b):=hid (if_neg hab);clear hle hab;go_enter Tryz.func51,Tryz.ntmps51;go_wp2_with fail;generalize ((w.alloc (.cells #[.bool na,.slice pa1 ka1 ca1,.slice pa2 ka2 ca2] 75)).alloc (.cells #[.bool nb,.slice pb1 kb1 cb1,.slice pb2 kb2 cb2] 75)).alloc (.cells #[.bool false,.slice none 0 0,.slice none 0 0] 75)=w0 at *;refine(HCM.out _ HW0.out).mono ?_;rintro e w1 ⟨rfl,ht,hb⟩;have HT:=hid ht;obtain⟨d10,d11,d12,d20,d21,d22⟩:=qan ht;obtain⟨⟨r0,g0⟩,⟨r1,g1⟩,⟨r2,g2⟩⟩:=qku ht;clear ht hb HCM HW0;have HFIN:=hid (qbb (HB.out.later HT.out.1) r0 r1 r2);have HBEL:=hid (qaj HT.out.1 (show w.heap.size≤w.heap.size+1+1 by omega) (.bool nb) (.slice pb1 kb1 cb1) (.slice pb2 kb2 cb2));go_wp2_with fail;refine bodyPost_ret (v := .agg #[.bool nb,.slice pb1 kb1 cb1,.slice pb2 kb2 cb2]) ?_ rfl ?_
  ·simp[results,Tryz.results51,go_sem,r0,r1,r2]
  ·exact⟨⟨_,rfl,by rw[HR.out];exact HFIN.out⟩,HBEL.out⟩
end Go.Proofs.YtlinhlkgdlfefaaGreatDoor
namespace Go.Proofs.YtlinhlkgdlfefaaGreatDoor
set_option maxRecDepth 100000
set_option maxHeartbeats 4000000
open Go.RowKit
open Go.RowKit
end Go.Proofs.YtlinhlkgdlfefaaGreatDoor
namespace Go.Proofs.YtlinhlkgdlfefaaGreatDoor
open Go.RowKit
set_option maxRecDepth 100000
set_option maxHeartbeats 4000000
structure Inv(I:World→Prop):Prop where
 later:∀W W',I W→Below W.heap.size W W'→I W'
 gw:∀W,I W→GW W
theorem qu6{w:World}(hg:GW w):Inv (Below w.heap.size w):=⟨fun _ _ h hb=>h.trans (hb.mono h.size),fun _ h=>hg.later h⟩
def qgv(I:World→Prop)(f:FuncId)(args:Array Value)(v:Value):Prop:=∀W,I W→Calls Tryz.prog f args W fun e w'=>e = .returned v∧I w'
theorem kgo{I:World→Prop}{f:FuncId}{args:Array Value}{v:Value}{W:World}{Q:Ending→World→Prop}(K:qgv I f args v)(h:Hid (I W))(k:∀W',Hid (I W')→Q (.returned v) W'):Calls Tryz.prog f args W Q:=
 (K W h.out).mono fun e W' hh=>by
  obtain⟨rfl,h2⟩:=hh;exact k W' (hid h2)
theorem qbo{I:World→Prop}(J:Inv I){f:FuncId}{args:Array Value}{v:Value}(h:∀W,I W→GW W→Calls Tryz.prog f args W fun e w'=>e = .returned v∧Below W.heap.size W w'):qgv I f args v:=
 fun W hW=>(h W hW (J.gw W hW)).mono fun _ _ ⟨h1,h2⟩=>⟨h1,J.later _ _ hW h2⟩
theorem qgg{I:World→Prop}(J:Inv I){f:FuncId}{args:Array Value}{q:Rat}(h:∀W,Calls Tryz.prog f args W (qnv q W)):qgv I f args (.string (rt q)):=
 qbo J fun W _ _=>h W
theorem qgw{I:World→Prop}(J:Inv I):qgv I 5 #[] (.bool true):=qbo J fun W _ hg=>q4a W hg
theorem qfh{x:ByteArray}(h:qaa x.data.toList=0):x=rt (qam x.data.toList)∧qa2 (qam x.data.toList) 600=true:=by
 have ht:qkd x.data.toList=x.data.toList:=by
  unfold qaa at h;split at h
  ·cases h
  ·split at h
   ·cases h
   ·split at h
    ·cases h
    ·split at h
     ·assumption
     ·cases h
 have hne:x.data.toList≠[]:=by
  intro e;rw[e] at h
  revert h
  decide
 unfold qkd at ht;split at ht
 ·rename_i hf
  exact⟨q3a ht.symm,hf⟩
 ·exact absurd ht.symm hne
theorem qkb{q:Rat}{n:Nat}(h:(rt q).size≤n)(hn:1≤n):sm q n:=by
 have h1:=qg5 (rt q) q (qc7 q);refine⟨qin (by omega), ?_⟩;by_cases hd:q.den=1
 ·rw[hd]
  exact Nat.lt_of_lt_of_le (by decide:1<10^1) (Nat.pow_le_pow_right (by decide) hn)
 ·rw[if_neg hd] at h1
  exact qin (by omega)
theorem qm6(a b:Rat):sgn (a-b)=qcp a b:=by
 have h1:a≤b↔0≤(b-a).num:=by rw[Rat.le_iff_sub_nonneg,Rat.num_nonneg]
 have h2:b≤a↔0≤(a-b).num:=by rw[Rat.le_iff_sub_nonneg,Rat.num_nonneg]
 have h3:(a-b).num = -(b-a).num:=by rw[←Rat.neg_sub,Rat.neg_num]
 unfold sgn;rcases qqy a b with⟨e,h⟩|⟨e,h⟩|⟨e,h⟩
 ·have h4:=mt h2.2 (Rat.not_le.2 h)
  rw[e,if_pos (by omega)]
 ·subst h
  rw[e,Rat.sub_self];rfl
 ·have h4:=mt h1.2 (Rat.not_le.2 h)
  rw[e,if_neg (by omega),if_neg (by omega)]
theorem qel{I:World→Prop}(J:Inv I)(x:ByteArray)(c:Nat)(hc:qaa x.data.toList=c)(hx:x.size≤5000):qgv I 54 #[.string x] (.int .i64 (c:Nat)):=
 qbo J fun W _ _=>by rw[←hc];exact q7l x W hx
theorem qu7:∀(k n:Nat),n<10^k→0<n→(qfj n).head? ≠ some 48
 | 0,n,h,h0=>by rw[Nat.pow_zero] at h;omega
 | k+1,n,h,h0=>by
  rw[qdj h0];by_cases hn:n/10=0
  ·rw[hn,qcq]
   intro e;have e1:dig n=48:=by simpa using e
   have e2:=(qni n).1 (by rw[e1];rfl);omega
  ·have ih:=qu7 k (n/10) (by rw[Nat.pow_succ] at h;omega) (by omega)
   cases hq:qfj (n/10) with
   | nil=>
    exfalso;have:=qo2 (n/10);rw[hq] at this;exact hn this.symm
   | cons x y=>
    rw[hq] at ih;exact ih
theorem qfq(n:Nat):qa8 (qal n)=true:=by
 unfold qa8;rw[qzh];by_cases h:n=0
 ·subst h;rfl
 ·have h1:qal n=qfj n:=by unfold qal;rw[if_neg h]
  have h2:=qu7 (qfj n).length n (qfc n) (by omega);rw[h1,Bool.true_and,Bool.or_eq_true];exact .inr (by simpa using h2)
theorem q4b(q:Rat):∃t,qh0 (rt q) t (decide (q.num<0)) (qal q.num.natAbs) (if q.den=1 then[] else qal q.den) (decide (q.den≠1)):=by
 have hd:∀c ∈ qal q.num.natAbs,c≠47:=fun c hc=>q7f c (qez _ c hc);have hsl:sl (qal q.num.natAbs)=(qal q.num.natAbs).length:=qw0 hd;refine⟨⟨(qal q.num.natAbs++(if q.den=1 then[] else 47::qal q.den)).toArray⟩, ?_, ?_, ?_, ?_, ?_⟩
 ·rw[qc7]
  unfold qaq;rw[List.append_assoc];by_cases h:q.num<0
  ·rw[if_pos h,decide_eq_true h];rfl
  ·rw[if_neg h,decide_eq_false h];rfl
 ·intro h
  have h1:¬q.num<0:=of_decide_eq_false h;rw[qc7];unfold qaq;rw[if_neg h1,List.nil_append];cases hl:qal q.num.natAbs with
  | nil=>exact absurd hl (qg1 _)
  | cons x y=>
   have hx:=qez q.num.natAbs x (by rw[hl];exact List.mem_cons_self ..);unfold Lib.hasPrefix;show((45==x)&&_)=false;have:((45:UInt8)==x)=false:=beq_eq_false_iff_ne.2 (fun e=>by subst e;revert hx;decide);rw[this];rfl
 ·by_cases h:q.den=1
  ·simp only[if_pos h,List.append_nil]
   rw[hsl];simp
  ·simp only[if_neg h]
   rw[qrb _ _ hd];simp
 ·by_cases h:q.den=1
  ·simp only[if_pos h,List.append_nil]
   rw[hsl];simp
  ·simp only[if_neg h]
   rw[qrb _ _ hd];rw[show(qal q.num.natAbs).length+1=(qal q.num.natAbs++[47]).length by simp,show qal q.num.natAbs++47::qal q.den=(qal q.num.natAbs++[47])++qal q.den by simp,List.drop_left]
 ·by_cases h:q.den=1
  ·simp only[if_pos h,List.append_nil]
   rw[hsl];simp[h]
  ·simp only[if_neg h]
   rw[qrb _ _ hd];simp[h]
theorem qhf{n:Nat}(h:qal n=[48]):n=0:=by
 rw[←qde n,h];rfl
theorem qdh(q:Rat):qam (rt q).data.toList=q:=by
 obtain⟨t,hF⟩:=q4b q
 rw[hF.num (qfq _) (fun h=>by
  have hd:q.den≠1:=of_decide_eq_true h;rw[if_neg hd]
  exact⟨qfq _,fun e=>by have:=qhf e;have:=q.den_pos;omega⟩)]
 have e1:(if decide (q.num<0)=true then -(qaw 0 (qal q.num.natAbs):Int) else(qaw 0 (qal q.num.natAbs):Int))=q.num:=by
  rw[qde];by_cases h:q.num<0
  ·rw[decide_eq_true h,if_pos rfl];omega
  ·rw[decide_eq_false h,if_neg (by decide)];omega
 have e2:(if decide (q.den≠1)=true then qaw 0 (if q.den=1 then[] else qal q.den) else 1)=q.den:=by
  by_cases h:q.den=1
  ·rw[decide_eq_false (by simpa using h),if_neg (by decide),h]
  ·rw[decide_eq_true h,if_pos rfl,if_neg h,qde]
 rw[e1,e2];exact Rat.mkRat_self q
theorem qgh{q:Rat}(hf:qa2 q 600=true):qaa (rt q).data.toList=0:=by
 obtain⟨t,hF⟩:=q4b q;have hf2:=q6c q;rw[hf] at hf2;have hf3:=hf2.symm;rw[Bool.and_eq_true] at hf3;have l1:=of_decide_eq_true hf3.1;have l2:=of_decide_eq_true hf3.2;rw[hF.check,qfq]
 have h1:(decide (q.num<0)&&(qal q.num.natAbs==[48]))=false:=by
  by_cases h:q.num<0
  ·have h2:(qal q.num.natAbs==[48])=false:=beq_eq_false_iff_ne.2 (fun e=>by have:=qhf e;omega)
   rw[h2,Bool.and_false]
  ·rw[decide_eq_false h];rfl
 rw[h1]
 have ht:qkd (rt q).data.toList=(rt q).data.toList:=by
  unfold qkd;rw[qdh,if_pos hf,qc7]
 by_cases h:q.den=1
 ·rw[decide_eq_false (by simpa using h)]
  simp only[Bool.not_true,Bool.or_self,Bool.false_eq_true,if_false,Bool.false_and,false_and,or_false,ht,if_true];rw[if_neg (by omega)]
 ·rw[decide_eq_true h,if_neg h,qfq]
  have h3:(qal q.den==[48])=false:=beq_eq_false_iff_ne.2 (fun e=>by have:=qhf e;have:=q.den_pos;omega);have h4:(qal q.den==[49])=false:=beq_eq_false_iff_ne.2 (fun e=>h (by rw[←qde q.den,e];rfl));rw[h3,h4];simp only[Bool.not_true,Bool.or_self,Bool.false_eq_true,if_false,Bool.true_and,true_and,ht,if_true];rw[if_neg (by omega)]
theorem qb8{q:Rat}{k m:Nat}(h:sm q k)(hk:k+1≤m):qa2 q m=true:=by
 have h1:=qoe h.1;have h2:=qoe h.2;unfold qa2;rw[decide_eq_true (by omega),Bool.true_and,Bool.or_eq_true];exact .inr (decide_eq_true (by omega))
theorem zam(q:Rat)(k:Nat)(hk:1≤k):qa2 q k=(decide ((qal q.num.natAbs).length≤k)&&decide ((qal q.den).length≤k)):=by
 unfold qa2;by_cases h:q.den=1
 ·rw[decide_eq_true h,h,qjo,decide_eq_true (show([49]:List UInt8).length≤k from hk)];rfl
 ·rw[decide_eq_false h];rfl
def qp1(x:ByteArray)(k:Nat):Bool:=decide (x.size≤2*k+2)&&(decide (qaa x.data.toList=0)&&qa2 (qam x.data.toList) k)
theorem qdb{x:ByteArray}{k:Nat}(h:qp1 x k=true)(hk:1≤k):qaa x.data.toList=0∧x=rt (qam x.data.toList)∧sm (qam x.data.toList) k:=by
 unfold qp1 at h;rw[Bool.and_eq_true,Bool.and_eq_true] at h;have h1:=of_decide_eq_true h.2.1;exact⟨h1,(qfh h1).1,qm2 h.2.2 hk⟩
theorem zbj(x:ByteArray)(k:Nat)(w:World)(hk:1≤k)(hk2:k≤2000):
  Calls Tryz.prog 31 #[.string x,.int .i64 (k:Int)] w fun e w'=>e = .returned (.bool (qp1 x k))∧Below w.heap.size w w':=by
 have hki:(k:Int)≤2000:=by omega
 have hw1:IntKind.i64.wrap (2*(k:Int))=2*(k:Int):=by rw[IntKind.wrap_i64];omega
 have hw2:IntKind.i64.wrap (2*(k:Int)+2)=2*(k:Int)+2:=by rw[IntKind.wrap_i64];omega
 by_cases hs:x.size≤2*k+2
 ·have hsi:(x.size:Int)≤2*(k:Int)+2:=by omega
  have HC:=hid (fun W=>q7l x W (by omega));by_cases hc:qaa x.data.toList=0
  ·rw[hc] at HC
   have ex:=(qfh hc).1;have hB:qp1 x k=qa2 (qam x.data.toList) k:=by unfold qp1;rw[decide_eq_true hs,decide_eq_true hc];rfl
   rw[hB,zam _ _ hk];generalize qam x.data.toList=q at *;subst ex;have HN:=hid (fun W=>zaf q W (by omega));have HD:=hid (fun W=>zag q W (by omega))
   have HA:Hid (∀W:World,Calls Tryz.prog 76 #[.string (rt (q.num:Rat))] W fun e w'=>e = .returned (.string (rt ((q.num.natAbs:Int):Rat)))∧w'=W):=hid fun W=>by
    have h:=zab (q.num:Rat) W;rw[q8v] at h;exact h
   have h1:=qpp q.num.natAbs;have h2:=qpp q.den;rw[←h1,←h2];clear h1 h2 hB hc hs;generalize rt ((q.num.natAbs:Int):Rat)=ta at *;generalize rt ((q.den:Int):Rat)=td at *;generalize rt (q.num:Rat)=tn at *;generalize rt q=tq at *;by_cases ha:ta.size≤k
   ·rw[decide_eq_true ha]
    have hai:(ta.size:Int)≤(k:Int):=by omega
    by_cases hd:td.size≤k
    ·rw[decide_eq_true hd]
     have hdi:(td.size:Int)≤(k:Int):=by omega
     go_enter Tryz.func31,Tryz.ntmps31;go_wp2_with fail;refine(HC.out _).mono ?_;rintro e w1 ⟨rfl,hb⟩;have HB:=hid hb;clear hb;go_wp2_with fail;refine(HN.out _).mono ?_;rintro e w2 ⟨rfl,rfl⟩;go_wp2_with fail;refine(HA.out _).mono ?_;rintro e w2 ⟨rfl,rfl⟩;go_wp2_with fail;refine(HD.out _).mono ?_;rintro e w2 ⟨rfl,rfl⟩;go_wp2_with fail;go_ret;exact⟨rfl,HB.out⟩
    ·rw[decide_eq_false hd]
     have hdi:¬(td.size:Int)≤(k:Int):=by omega
     go_enter Tryz.func31,Tryz.ntmps31;go_wp2_with fail;refine(HC.out _).mono ?_;rintro e w1 ⟨rfl,hb⟩;have HB:=hid hb;clear hb;go_wp2_with fail;refine(HN.out _).mono ?_;rintro e w2 ⟨rfl,rfl⟩;go_wp2_with fail;refine(HA.out _).mono ?_;rintro e w2 ⟨rfl,rfl⟩;go_wp2_with fail;refine(HD.out _).mono ?_;rintro e w2 ⟨rfl,rfl⟩;go_wp2_with fail;go_ret;exact⟨rfl,HB.out⟩
   ·rw[decide_eq_false ha]
    have hai:¬(ta.size:Int)≤(k:Int):=by omega
    go_enter Tryz.func31,Tryz.ntmps31;go_wp2_with fail;refine(HC.out _).mono ?_;rintro e w1 ⟨rfl,hb⟩;have HB:=hid hb;clear hb;go_wp2_with fail;refine(HN.out _).mono ?_;rintro e w2 ⟨rfl,rfl⟩;go_wp2_with fail;refine(HA.out _).mono ?_;rintro e w2 ⟨rfl,rfl⟩;go_wp2_with fail;go_ret;exact⟨rfl,HB.out⟩
  ·have hB:qp1 x k=false:=by unfold qp1;rw[decide_eq_false hc];simp
   rw[hB];have hne:((qaa x.data.toList:Int)==0)=false:=beq_eq_false_iff_ne.2 (by omega);clear hB hc hs;generalize qaa x.data.toList=c at *;go_enter Tryz.func31,Tryz.ntmps31;go_wp2_with fail;refine(HC.out _).mono ?_;rintro e w1 ⟨rfl,hb⟩;have HB:=hid hb;clear hb;go_wp2_with fail;go_ret;exact⟨rfl,HB.out⟩
 ·have hB:qp1 x k=false:=by unfold qp1;rw[decide_eq_false hs];rfl
  have hsi:¬(x.size:Int)≤2*(k:Int)+2:=by omega
  rw[hB];clear hB hs;go_enter Tryz.func31,Tryz.ntmps31;go_wp2_with fail;go_ret;exact⟨rfl,Below.refl _ _⟩
theorem qgi(q:Rat)(h:q.num.natAbs<10)(h2:q.den<10):sm q 1:=⟨h,h2⟩
theorem qu8{I:World→Prop}(J:Inv I){p q:Rat}{j:Nat}(sp:sm p j)(sq:sm q j)(hj:j≤2000){tp tq:ByteArray}(ep:tp=rt p)(eq:tq=rt q){z:Int}(hz:qcp p q=z):qgv I 21 #[.string tp,.string tq] (.int .i64 z):=qbo J fun W _ _=>by
 rw[ep,eq,←hz,←qm6];exact qrc p q j W sp sq hj
end Go.Proofs.YtlinhlkgdlfefaaGreatDoor
