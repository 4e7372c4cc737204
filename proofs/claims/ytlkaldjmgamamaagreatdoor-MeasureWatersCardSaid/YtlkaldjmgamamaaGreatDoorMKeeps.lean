/- Lesser and Greater. -/
import Derived.Test.YtlkaldjmgamamaaGreatDoorMCmpQ
import Derived.Test.YtlkaldjmgamamaaGreatDoorMRounded
import Derived.Test.YtlkaldjmgamamaaGreatDoorMRefK
import Derived.Test.YtlkaldjmgamamaaGreatDoorMAwake
set_option linter.all false
namespace Go.Proofs.YtlkaldjmgamamaaGreatDoor
open Go.RowKit
set_option maxRecDepth 100000
set_option maxHeartbeats 4000000
theorem qq8(va vb:Value)(a b:Rat)(w:World)(ha:qai w va a)(hb:qai w vb b)(hcap:rs a+rs b≤Cap):
  Calls Tryz.prog 49 #[va,vb] w fun e w'=>(∃v',e = .returned v'∧qai w' v' (qta a b))∧Below w.heap.size w w':=by
 have HA:=hid ha;have HB:=hid hb;obtain⟨pa1,ka1,ca1,pa2,ka2,ca2,rfl,ha1,ha2⟩:=ha.parts;obtain⟨pb1,kb1,cb1,pb2,kb2,cb2,rfl,hb1,hb2⟩:=hb.parts;clear ha hb ha1 ha2 hb1 hb2;generalize decide (a.num<0)=na at *;generalize decide (b.num<0)=nb at *;have HW0:=hid (qhi w na (.slice pa1 ka1 ca1) (.slice pa2 ka2 ca2) nb (.slice pb1 kb1 cb1) (.slice pb2 kb2 cb2))
 have HCM:Hid (∀W,qbg w na (.slice pa1 ka1 ca1) (.slice pa2 ka2 ca2) nb (.slice pb1 kb1 cb1) (.slice pb2 kb2 cb2) W→Calls Tryz.prog 50 #[.agg #[.bool na,.slice pa1 ka1 ca1,.slice pa2 ka2 ca2],.agg #[.bool nb,.slice pb1 kb1 cb1,.slice pb2 kb2 cb2]] W fun e w'=>e = .returned (.int .i64 (qcc a b))∧qbg w na (.slice pa1 ka1 ca1) (.slice pa2 ka2 ca2) nb (.slice pb1 kb1 cb1) (.slice pb2 kb2 cb2) w'∧Below W.heap.size W w'):=
  hid fun W hW=>qbr hW (qbz _ _ a b W (HA.out.later hW.1) (HB.out.later hW.1) hcap)
 have hle:=@qgp a b;clear hcap;generalize qcc a b=c at *;by_cases hab:a≤b
 ·have hc:c≤0:=hle.2 hab
  have HR:Hid (qta a b=a):=hid (if_pos hab);clear hle hab;go_enter Tryz.func49,Tryz.ntmps49;go_wp2_with fail;generalize ((w.alloc (.cells #[.bool na,.slice pa1 ka1 ca1,.slice pa2 ka2 ca2] 72)).alloc (.cells #[.bool nb,.slice pb1 kb1 cb1,.slice pb2 kb2 cb2] 72)).alloc (.cells #[.bool false,.slice none 0 0,.slice none 0 0] 72)=w0 at *;refine(HCM.out _ HW0.out).mono ?_;rintro e w1 ⟨rfl,ht,hb⟩;have HT:=hid ht;obtain⟨d10,d11,d12,d20,d21,d22⟩:=qan ht;obtain⟨⟨r0,g0⟩,⟨r1,g1⟩,⟨r2,g2⟩⟩:=qkm ht;clear ht hb HCM HW0;have HFIN:=hid (qbd (HA.out.later HT.out.1) r0 r1 r2);have HBEL:=hid (qaj HT.out.1 (show w.heap.size≤w.heap.size+1+1 by omega) (.bool na) (.slice pa1 ka1 ca1) (.slice pa2 ka2 ca2));go_wp2_with fail;refine bodyPost_ret (v := .agg #[.bool na,.slice pa1 ka1 ca1,.slice pa2 ka2 ca2]) ?_ rfl ?_
  ·simp[results,Tryz.results49,go_sem,r0,r1,r2]
  ·exact⟨⟨_,rfl,by rw[HR.out];exact HFIN.out⟩,HBEL.out⟩
 ·have hc:¬c≤0:=fun h=>hab (hle.1 h)
  have HR:Hid (qta a b=b):=hid (if_neg hab);clear hle hab;go_enter Tryz.func49,Tryz.ntmps49;go_wp2_with fail;generalize ((w.alloc (.cells #[.bool na,.slice pa1 ka1 ca1,.slice pa2 ka2 ca2] 72)).alloc (.cells #[.bool nb,.slice pb1 kb1 cb1,.slice pb2 kb2 cb2] 72)).alloc (.cells #[.bool false,.slice none 0 0,.slice none 0 0] 72)=w0 at *;refine(HCM.out _ HW0.out).mono ?_;rintro e w1 ⟨rfl,ht,hb⟩;have HT:=hid ht;obtain⟨d10,d11,d12,d20,d21,d22⟩:=qan ht;obtain⟨⟨r0,g0⟩,⟨r1,g1⟩,⟨r2,g2⟩⟩:=qkm ht;clear ht hb HCM HW0;have HFIN:=hid (qbd (HB.out.later HT.out.1) r0 r1 r2);have HBEL:=hid (qaj HT.out.1 (show w.heap.size≤w.heap.size+1+1 by omega) (.bool nb) (.slice pb1 kb1 cb1) (.slice pb2 kb2 cb2));go_wp2_with fail;refine bodyPost_ret (v := .agg #[.bool nb,.slice pb1 kb1 cb1,.slice pb2 kb2 cb2]) ?_ rfl ?_
  ·simp[results,Tryz.results49,go_sem,r0,r1,r2]
  ·exact⟨⟨_,rfl,by rw[HR.out];exact HFIN.out⟩,HBEL.out⟩
theorem qpt(va vb:Value)(a b:Rat)(w:World)(ha:qai w va a)(hb:qai w vb b)(hcap:rs a+rs b≤Cap):
  Calls Tryz.prog 48 #[va,vb] w fun e w'=>(∃v',e = .returned v'∧qai w' v' (qtb a b))∧Below w.heap.size w w':=by
 have HA:=hid ha;have HB:=hid hb;obtain⟨pa1,ka1,ca1,pa2,ka2,ca2,rfl,ha1,ha2⟩:=ha.parts;obtain⟨pb1,kb1,cb1,pb2,kb2,cb2,rfl,hb1,hb2⟩:=hb.parts;clear ha hb ha1 ha2 hb1 hb2;generalize decide (a.num<0)=na at *;generalize decide (b.num<0)=nb at *;have HW0:=hid (qhi w na (.slice pa1 ka1 ca1) (.slice pa2 ka2 ca2) nb (.slice pb1 kb1 cb1) (.slice pb2 kb2 cb2))
 have HCM:Hid (∀W,qbg w na (.slice pa1 ka1 ca1) (.slice pa2 ka2 ca2) nb (.slice pb1 kb1 cb1) (.slice pb2 kb2 cb2) W→Calls Tryz.prog 50 #[.agg #[.bool na,.slice pa1 ka1 ca1,.slice pa2 ka2 ca2],.agg #[.bool nb,.slice pb1 kb1 cb1,.slice pb2 kb2 cb2]] W fun e w'=>e = .returned (.int .i64 (qcc a b))∧qbg w na (.slice pa1 ka1 ca1) (.slice pa2 ka2 ca2) nb (.slice pb1 kb1 cb1) (.slice pb2 kb2 cb2) w'∧Below W.heap.size W w'):=
  hid fun W hW=>qbr hW (qbz _ _ a b W (HA.out.later hW.1) (HB.out.later hW.1) hcap)
 have hle:=@qvk a b;clear hcap;generalize qcc a b=c at *;by_cases hab:b≤a
 ·have hc:0≤c:=hle.2 hab
  have HR:Hid (qtb a b=a):=hid (if_pos hab);clear hle hab;go_enter Tryz.func48,Tryz.ntmps48;go_wp2_with fail;generalize ((w.alloc (.cells #[.bool na,.slice pa1 ka1 ca1,.slice pa2 ka2 ca2] 72)).alloc (.cells #[.bool nb,.slice pb1 kb1 cb1,.slice pb2 kb2 cb2] 72)).alloc (.cells #[.bool false,.slice none 0 0,.slice none 0 0] 72)=w0 at *;refine(HCM.out _ HW0.out).mono ?_;rintro e w1 ⟨rfl,ht,hb⟩;have HT:=hid ht;obtain⟨d10,d11,d12,d20,d21,d22⟩:=qan ht;obtain⟨⟨r0,g0⟩,⟨r1,g1⟩,⟨r2,g2⟩⟩:=qkm ht;clear ht hb HCM HW0;have HFIN:=hid (qbd (HA.out.later HT.out.1) r0 r1 r2);have HBEL:=hid (qaj HT.out.1 (show w.heap.size≤w.heap.size+1+1 by omega) (.bool na) (.slice pa1 ka1 ca1) (.slice pa2 ka2 ca2));go_wp2_with fail;refine bodyPost_ret (v := .agg #[.bool na,.slice pa1 ka1 ca1,.slice pa2 ka2 ca2]) ?_ rfl ?_
  ·simp[results,Tryz.results48,go_sem,r0,r1,r2]
  ·exact⟨⟨_,rfl,by rw[HR.out];exact HFIN.out⟩,HBEL.out⟩
 ·have hc:¬0≤c:=fun h=>hab (hle.1 h)
  have HR:Hid (qtb a b=b):=hid (if_neg hab);clear hle hab;go_enter Tryz.func48,Tryz.ntmps48;go_wp2_with fail;generalize ((w.alloc (.cells #[.bool na,.slice pa1 ka1 ca1,.slice pa2 ka2 ca2] 72)).alloc (.cells #[.bool nb,.slice pb1 kb1 cb1,.slice pb2 kb2 cb2] 72)).alloc (.cells #[.bool false,.slice none 0 0,.slice none 0 0] 72)=w0 at *;refine(HCM.out _ HW0.out).mono ?_;rintro e w1 ⟨rfl,ht,hb⟩;have HT:=hid ht;obtain⟨d10,d11,d12,d20,d21,d22⟩:=qan ht;obtain⟨⟨r0,g0⟩,⟨r1,g1⟩,⟨r2,g2⟩⟩:=qkm ht;clear ht hb HCM HW0;have HFIN:=hid (qbd (HB.out.later HT.out.1) r0 r1 r2);have HBEL:=hid (qaj HT.out.1 (show w.heap.size≤w.heap.size+1+1 by omega) (.bool nb) (.slice pb1 kb1 cb1) (.slice pb2 kb2 cb2));go_wp2_with fail;refine bodyPost_ret (v := .agg #[.bool nb,.slice pb1 kb1 cb1,.slice pb2 kb2 cb2]) ?_ rfl ?_
  ·simp[results,Tryz.results48,go_sem,r0,r1,r2]
  ·exact⟨⟨_,rfl,by rw[HR.out];exact HFIN.out⟩,HBEL.out⟩
end Go.Proofs.YtlkaldjmgamamaaGreatDoor
namespace Go.Proofs.YtlkaldjmgamamaaGreatDoor
set_option maxRecDepth 100000
set_option maxHeartbeats 4000000
open Go.RowKit
open Go.RowKit
end Go.Proofs.YtlkaldjmgamamaaGreatDoor
namespace Go.Proofs.YtlkaldjmgamamaaGreatDoor
open Go.RowKit
set_option maxRecDepth 100000
set_option maxHeartbeats 4000000
structure Inv(I:World→Prop):Prop where
 later:∀W W',I W→Below W.heap.size W W'→I W'
 gw:∀W,I W→GW W
theorem qh2{w:World}(hg:GW w):Inv (Below w.heap.size w):=⟨fun _ _ h hb=>h.trans (hb.mono h.size),fun _ h=>hg.later h⟩
def qfe(I:World→Prop)(f:FuncId)(args:Array Value)(v:Value):Prop:=∀W,I W→Calls Tryz.prog f args W fun e w'=>e = .returned v∧I w'
theorem kgo{I:World→Prop}{f:FuncId}{args:Array Value}{v:Value}{W:World}{Q:Ending→World→Prop}(K:qfe I f args v)(h:Hid (I W))(k:∀W',Hid (I W')→Q (.returned v) W'):Calls Tryz.prog f args W Q:=
 (K W h.out).mono fun e W' hh=>by
  obtain⟨rfl,h2⟩:=hh;exact k W' (hid h2)
theorem qbj{I:World→Prop}(J:Inv I){f:FuncId}{args:Array Value}{v:Value}(h:∀W,I W→GW W→Calls Tryz.prog f args W fun e w'=>e = .returned v∧Below W.heap.size W w'):qfe I f args v:=
 fun W hW=>(h W hW (J.gw W hW)).mono fun _ _ ⟨h1,h2⟩=>⟨h1,J.later _ _ hW h2⟩
theorem qgj{I:World→Prop}{f:FuncId}{args:Array Value}{v:Value}(h:∀W,Calls Tryz.prog f args W fun e w'=>e = .returned v∧w'=W):qfe I f args v:=
 fun W hW=>(h W).mono fun _ _ ⟨h1,h2⟩=>⟨h1,by rw[h2];exact hW⟩
theorem ql7{I:World→Prop}(J:Inv I){f:FuncId}{args:Array Value}{q:Rat}(h:∀W,Calls Tryz.prog f args W (qqc q W)):qfe I f args (.string (rt q)):=
 qbj J fun W _ _=>h W
theorem qdp{I:World→Prop}(J:Inv I):qfe I 5 #[] (.bool true):=qbj J fun W _ hg=>q32 W hg
theorem qcy{x:ByteArray}(h:qaa x.data.toList=0):x=rt (qak x.data.toList)∧qa2 (qak x.data.toList) 600=true:=by
 have ht:qka x.data.toList=x.data.toList:=by
  unfold qaa at h;split at h
  ·cases h
  ·split at h
   ·cases h
   ·split at h
    ·cases h
    ·split at h
     ·assumption
     ·cases h
 have hne:x.data.toList≠[]:=by
  intro e;rw[e] at h
  revert h
  decide
 unfold qka at ht;split at ht
 ·rename_i hf
  exact⟨q29 ht.symm,hf⟩
 ·exact absurd ht.symm hne
theorem qel{q:Rat}{n:Nat}(h:(rt q).size≤n)(hn:1≤n):sm q n:=by
 have h1:=qg7 (rt q) q (qcx q);refine⟨qin (by omega), ?_⟩;by_cases hd:q.den=1
 ·rw[hd]
  exact Nat.lt_of_lt_of_le (by decide:1<10^1) (Nat.pow_le_pow_right (by decide) hn)
 ·rw[if_neg hd] at h1
  exact qin (by omega)
theorem qk4(a b:Rat):sgn (a-b)=qcc a b:=by
 have h1:a≤b↔0≤(b-a).num:=by rw[Rat.le_iff_sub_nonneg,Rat.num_nonneg]
 have h2:b≤a↔0≤(a-b).num:=by rw[Rat.le_iff_sub_nonneg,Rat.num_nonneg]
 have h3:(a-b).num = -(b-a).num:=by rw[←Rat.neg_sub,Rat.neg_num]
 unfold sgn;rcases qqp a b with⟨e,h⟩|⟨e,h⟩|⟨e,h⟩
 ·have h4:=mt h2.2 (Rat.not_le.2 h)
  rw[e,if_pos (by omega)]
 ·subst h
  rw[e,Rat.sub_self];rfl
 ·have h4:=mt h1.2 (Rat.not_le.2 h)
  rw[e,if_neg (by omega),if_neg (by omega)]
theorem qec{I:World→Prop}(J:Inv I)(x:ByteArray)(c:Nat)(hc:qaa x.data.toList=c)(hx:x.size≤5000):qfe I 38 #[.string x] (.int .i64 (c:Nat)):=
 qbj J fun W _ _=>by rw[←hc];exact q3p x W hx
theorem qjn(I:World→Prop)(q:Rat)(k:Nat)(h:sm q k)(hk:k≤2400):qfe I 11 #[.string (q6g q),.int .i64 (qf2 q:Nat),.int .i64 0,.string (rt q)] (.bool true):=
 qgj fun W=>q3r q W (by have:=qb3 h;omega)
theorem qk5(I:World→Prop)(c:Nat)(t:ByteArray)(hc:c≠0):qfe I 11 #[.string ⟨#[]⟩,.int .i64 (c:Nat),.int .i64 (c:Nat),.string t] (.bool true):=
 qgj fun W=>q0e (c:Int) t W (by omega)
theorem qup:∀(k n:Nat),n<10^k→0<n→(qfh n).head? ≠ some 48
 | 0,n,h,h0=>by rw[Nat.pow_zero] at h;omega
 | k+1,n,h,h0=>by
  rw[qdd h0];by_cases hn:n/10=0
  ·rw[hn,qcl]
   intro e;have e1:dig n=48:=by simpa using e
   have e2:=(qnd n).1 (by rw[e1];rfl);omega
  ·have ih:=qup k (n/10) (by rw[Nat.pow_succ] at h;omega) (by omega)
   cases hq:qfh (n/10) with
   | nil=>
    exfalso;have:=qow (n/10);rw[hq] at this;exact hn this.symm
   | cons x y=>
    rw[hq] at ih;exact ih
theorem qfn(n:Nat):qa8 (qam n)=true:=by
 unfold qa8;rw[qy5];by_cases h:n=0
 ·subst h;rfl
 ·have h1:qam n=qfh n:=by unfold qam;rw[if_neg h]
  have h2:=qup (qfh n).length n (qe9 n) (by omega);rw[h1,Bool.true_and,Bool.or_eq_true];exact .inr (by simpa using h2)
theorem q33(q:Rat):∃t,qh1 (rt q) t (decide (q.num<0)) (qam q.num.natAbs) (if q.den=1 then[] else qam q.den) (decide (q.den≠1)):=by
 have hd:∀c ∈ qam q.num.natAbs,c≠47:=fun c hc=>q67 c (qew _ c hc);have hsl:sl (qam q.num.natAbs)=(qam q.num.natAbs).length:=qwg hd;refine⟨⟨(qam q.num.natAbs++(if q.den=1 then[] else 47::qam q.den)).toArray⟩, ?_, ?_, ?_, ?_, ?_⟩
 ·rw[qcx]
  unfold qaq;rw[List.append_assoc];by_cases h:q.num<0
  ·rw[if_pos h,decide_eq_true h];rfl
  ·rw[if_neg h,decide_eq_false h];rfl
 ·intro h
  have h1:¬q.num<0:=of_decide_eq_false h;rw[qcx];unfold qaq;rw[if_neg h1,List.nil_append];cases hl:qam q.num.natAbs with
  | nil=>exact absurd hl (qgz _)
  | cons x y=>
   have hx:=qew q.num.natAbs x (by rw[hl];exact List.mem_cons_self ..);unfold Lib.hasPrefix;show((45==x)&&_)=false;have:((45:UInt8)==x)=false:=beq_eq_false_iff_ne.2 (fun e=>by subst e;revert hx;decide);rw[this];rfl
 ·by_cases h:q.den=1
  ·simp only[if_pos h,List.append_nil]
   rw[hsl];simp
  ·simp only[if_neg h]
   rw[qq5 _ _ hd];simp
 ·by_cases h:q.den=1
  ·simp only[if_pos h,List.append_nil]
   rw[hsl];simp
  ·simp only[if_neg h]
   rw[qq5 _ _ hd];rw[show(qam q.num.natAbs).length+1=(qam q.num.natAbs++[47]).length by simp,show qam q.num.natAbs++47::qam q.den=(qam q.num.natAbs++[47])++qam q.den by simp,List.drop_left]
 ·by_cases h:q.den=1
  ·simp only[if_pos h,List.append_nil]
   rw[hsl];simp[h]
  ·simp only[if_neg h]
   rw[qq5 _ _ hd];simp[h]
theorem qhd{n:Nat}(h:qam n=[48]):n=0:=by
 rw[←qc9 n,h];rfl
theorem qf0(q:Rat):qak (rt q).data.toList=q:=by
 obtain⟨t,hF⟩:=q33 q
 rw[hF.num (qfn _) (fun h=>by
  have hd:q.den≠1:=of_decide_eq_true h;rw[if_neg hd]
  exact⟨qfn _,fun e=>by have:=qhd e;have:=q.den_pos;omega⟩)]
 have e1:(if decide (q.num<0)=true then -(qaw 0 (qam q.num.natAbs):Int) else(qaw 0 (qam q.num.natAbs):Int))=q.num:=by
  rw[qc9];by_cases h:q.num<0
  ·rw[decide_eq_true h,if_pos rfl];omega
  ·rw[decide_eq_false h,if_neg (by decide)];omega
 have e2:(if decide (q.den≠1)=true then qaw 0 (if q.den=1 then[] else qam q.den) else 1)=q.den:=by
  by_cases h:q.den=1
  ·rw[decide_eq_false (by simpa using h),if_neg (by decide),h]
  ·rw[decide_eq_true h,if_pos rfl,if_neg h,qc9]
 rw[e1,e2];exact Rat.mkRat_self q
theorem qj7{q:Rat}(hf:qa2 q 600=true):qaa (rt q).data.toList=0:=by
 obtain⟨t,hF⟩:=q33 q;have hf2:=qyb q;rw[hf] at hf2;have hf3:=hf2.symm;rw[Bool.and_eq_true] at hf3;have l1:=of_decide_eq_true hf3.1;have l2:=of_decide_eq_true hf3.2;rw[hF.check,qfn]
 have h1:(decide (q.num<0)&&(qam q.num.natAbs==[48]))=false:=by
  by_cases h:q.num<0
  ·have h2:(qam q.num.natAbs==[48])=false:=beq_eq_false_iff_ne.2 (fun e=>by have:=qhd e;omega)
   rw[h2,Bool.and_false]
  ·rw[decide_eq_false h];rfl
 rw[h1]
 have ht:qka (rt q).data.toList=(rt q).data.toList:=by
  unfold qka;rw[qf0,if_pos hf,qcx]
 by_cases h:q.den=1
 ·rw[decide_eq_false (by simpa using h)]
  simp only[Bool.not_true,Bool.or_self,Bool.false_eq_true,if_false,Bool.false_and,false_and,or_false,ht,if_true];rw[if_neg (by omega)]
 ·rw[decide_eq_true h,if_neg h,qfn]
  have h3:(qam q.den==[48])=false:=beq_eq_false_iff_ne.2 (fun e=>by have:=qhd e;have:=q.den_pos;omega);have h4:(qam q.den==[49])=false:=beq_eq_false_iff_ne.2 (fun e=>h (by rw[←qc9 q.den,e];rfl));rw[h3,h4];simp only[Bool.not_true,Bool.or_self,Bool.false_eq_true,if_false,Bool.true_and,true_and,ht,if_true];rw[if_neg (by omega)]
theorem qem{q:Rat}{k m:Nat}(h:sm q k)(hk:k+1≤m):qa2 q m=true:=by
 have h1:=qob h.1;have h2:=qob h.2;unfold qa2;rw[decide_eq_true (by omega),Bool.true_and,Bool.or_eq_true];exact .inr (decide_eq_true (by omega))
theorem zaa(q:Rat)(k:Nat)(hk:1≤k):qa2 q k=(decide ((qam q.num.natAbs).length≤k)&&decide ((qam q.den).length≤k)):=by
 unfold qa2;by_cases h:q.den=1
 ·rw[decide_eq_true h,h,qjm,decide_eq_true (show([49]:List UInt8).length≤k from hk)];rfl
 ·rw[decide_eq_false h];rfl
def qqe(x:ByteArray)(k:Nat):Bool:=decide (x.size≤2*k+2)&&(decide (qaa x.data.toList=0)&&qa2 (qak x.data.toList) k)
theorem qh3{x:ByteArray}{k:Nat}(h:qqe x k=true)(hk:1≤k):qaa x.data.toList=0∧x=rt (qak x.data.toList)∧sm (qak x.data.toList) k:=by
 unfold qqe at h;rw[Bool.and_eq_true,Bool.and_eq_true] at h;have h1:=of_decide_eq_true h.2.1;exact⟨h1,(qcy h1).1,qm6 h.2.2 hk⟩
theorem zay(x:ByteArray)(k:Nat)(w:World)(hk:1≤k)(hk2:k≤2000):
  Calls Tryz.prog 46 #[.string x,.int .i64 (k:Int)] w fun e w'=>e = .returned (.bool (qqe x k))∧Below w.heap.size w w':=by
 have hki:(k:Int)≤2000:=by omega
 have hw1:IntKind.i64.wrap (2*(k:Int))=2*(k:Int):=by rw[IntKind.wrap_i64];omega
 have hw2:IntKind.i64.wrap (2*(k:Int)+2)=2*(k:Int)+2:=by rw[IntKind.wrap_i64];omega
 by_cases hs:x.size≤2*k+2
 ·have hsi:(x.size:Int)≤2*(k:Int)+2:=by omega
  have HC:=hid (fun W=>q3p x W (by omega));by_cases hc:qaa x.data.toList=0
  ·rw[hc] at HC
   have ex:=(qcy hc).1;have hB:qqe x k=qa2 (qak x.data.toList) k:=by unfold qqe;rw[decide_eq_true hs,decide_eq_true hc];rfl
   rw[hB,zaa _ _ hk];generalize qak x.data.toList=q at *;subst ex;have HN:=hid (fun W=>q7f q W (by omega));have HD:=hid (fun W=>q7g q W (by omega))
   have HA:Hid (∀W:World,Calls Tryz.prog 86 #[.string (rt (q.num:Rat))] W fun e w'=>e = .returned (.string (rt ((q.num.natAbs:Int):Rat)))∧w'=W):=hid fun W=>by
    have h:=q7c (q.num:Rat) W;rw[q3q] at h;exact h
   have h1:=qir q.num.natAbs;have h2:=qir q.den;rw[←h1,←h2];clear h1 h2 hB hc hs;generalize rt ((q.num.natAbs:Int):Rat)=ta at *;generalize rt ((q.den:Int):Rat)=td at *;generalize rt (q.num:Rat)=tn at *;generalize rt q=tq at *;by_cases ha:ta.size≤k
   ·rw[decide_eq_true ha]
    have hai:(ta.size:Int)≤(k:Int):=by omega
    by_cases hd:td.size≤k
    ·rw[decide_eq_true hd]
     have hdi:(td.size:Int)≤(k:Int):=by omega
     go_enter Tryz.func46,Tryz.ntmps46;go_wp2_with fail;refine(HC.out _).mono ?_;rintro e w1 ⟨rfl,hb⟩;have HB:=hid hb;clear hb;go_wp2_with fail;refine(HN.out _).mono ?_;rintro e w2 ⟨rfl,rfl⟩;go_wp2_with fail;refine(HA.out _).mono ?_;rintro e w2 ⟨rfl,rfl⟩;go_wp2_with fail;refine(HD.out _).mono ?_;rintro e w2 ⟨rfl,rfl⟩;go_wp2_with fail;go_ret;exact⟨rfl,HB.out⟩
    ·rw[decide_eq_false hd]
     have hdi:¬(td.size:Int)≤(k:Int):=by omega
     go_enter Tryz.func46,Tryz.ntmps46;go_wp2_with fail;refine(HC.out _).mono ?_;rintro e w1 ⟨rfl,hb⟩;have HB:=hid hb;clear hb;go_wp2_with fail;refine(HN.out _).mono ?_;rintro e w2 ⟨rfl,rfl⟩;go_wp2_with fail;refine(HA.out _).mono ?_;rintro e w2 ⟨rfl,rfl⟩;go_wp2_with fail;refine(HD.out _).mono ?_;rintro e w2 ⟨rfl,rfl⟩;go_wp2_with fail;go_ret;exact⟨rfl,HB.out⟩
   ·rw[decide_eq_false ha]
    have hai:¬(ta.size:Int)≤(k:Int):=by omega
    go_enter Tryz.func46,Tryz.ntmps46;go_wp2_with fail;refine(HC.out _).mono ?_;rintro e w1 ⟨rfl,hb⟩;have HB:=hid hb;clear hb;go_wp2_with fail;refine(HN.out _).mono ?_;rintro e w2 ⟨rfl,rfl⟩;go_wp2_with fail;refine(HA.out _).mono ?_;rintro e w2 ⟨rfl,rfl⟩;go_wp2_with fail;go_ret;exact⟨rfl,HB.out⟩
  ·have hB:qqe x k=false:=by unfold qqe;rw[decide_eq_false hc];simp
   rw[hB];have hne:((qaa x.data.toList:Int)==0)=false:=beq_eq_false_iff_ne.2 (by omega);clear hB hc hs;generalize qaa x.data.toList=c at *;go_enter Tryz.func46,Tryz.ntmps46;go_wp2_with fail;refine(HC.out _).mono ?_;rintro e w1 ⟨rfl,hb⟩;have HB:=hid hb;clear hb;go_wp2_with fail;go_ret;exact⟨rfl,HB.out⟩
 ·have hB:qqe x k=false:=by unfold qqe;rw[decide_eq_false hs];rfl
  have hsi:¬(x.size:Int)≤2*(k:Int)+2:=by omega
  rw[hB];clear hB hs;go_enter Tryz.func46,Tryz.ntmps46;go_wp2_with fail;go_ret;exact⟨rfl,Below.refl _ _⟩
theorem quq{I:World→Prop}(J:Inv I){p q:Rat}{j:Nat}(sp:sm p j)(sq:sm q j)(hj:j≤2000){tp tq:ByteArray}(ep:tp=rt p)(eq:tq=rt q){z:Int}(hz:qcc p q=z):qfe I 21 #[.string tp,.string tq] (.int .i64 z):=qbj J fun W _ _=>by
 rw[ep,eq,←hz,←qk4];exact qpp p q j W sp sq hj
theorem q84{q:Rat}(h:q≤0):sgn q≤0:=by
 have h1:¬0<q.num:=fun h2=>by
  have h3:=Rat.num_nonneg.1 (Int.le_of_lt h2);have h4:q=0:=Rat.le_antisymm h h3;rw[h4] at h2;exact absurd h2 (by decide)
 unfold sgn;split<;>(try split)<;>omega
theorem q34{q:Rat}(h:0≤q):0≤sgn q:=by
 have h1:=Rat.num_nonneg.2 h;unfold sgn;split<;>(try split)<;>omega
end Go.Proofs.YtlkaldjmgamamaaGreatDoor
