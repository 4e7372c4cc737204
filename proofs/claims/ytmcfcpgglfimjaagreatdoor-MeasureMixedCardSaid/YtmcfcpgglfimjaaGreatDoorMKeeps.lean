/- Lesser and Greater. -/
import Derived.Test.YtmcfcpgglfimjaaGreatDoorMCmpQ
import Derived.Test.YtmcfcpgglfimjaaGreatDoorMRounded
import Derived.Test.YtmcfcpgglfimjaaGreatDoorMRefK
import Derived.Test.YtmcfcpgglfimjaaGreatDoorMAwake
set_option linter.all false
namespace Go.Proofs.YtmcfcpgglfimjaaGreatDoor
set_option maxRecDepth 100000
set_option maxHeartbeats 4000000
open Go.RowKit
open Go.RowKit
open Go.RowKit
end Go.Proofs.YtmcfcpgglfimjaaGreatDoor
namespace Go.Proofs.YtmcfcpgglfimjaaGreatDoor
open Go.RowKit
set_option maxRecDepth 100000
set_option maxHeartbeats 4000000
structure Inv(I:World→Prop):Prop where
 later:∀W W',I W→Below W.heap.size W W'→I W'
 gw:∀W,I W→GW W
theorem q3x{w:World}(hg:GW w):Inv (Below w.heap.size w):=⟨fun _ _ h hb=>h.trans (hb.mono h.size),fun _ h=>hg.later h⟩
def zah(I:World→Prop)(f:FuncId)(args:Array Value)(v:Value):Prop:=∀W,I W→Calls Tryz.prog f args W fun e w'=>e = .returned v∧I w'
theorem qxx{I:World→Prop}(J:Inv I){f:FuncId}{args:Array Value}{v:Value}(h:∀W,I W→GW W→Calls Tryz.prog f args W fun e w'=>e = .returned v∧Below W.heap.size W w'):zah I f args v:=
 fun W hW=>(h W hW (J.gw W hW)).mono fun _ _ ⟨h1,h2⟩=>⟨h1,J.later _ _ hW h2⟩
theorem qwf{I:World→Prop}(J:Inv I):zah I 4 #[] (.bool true):=qxx J fun W _ hg=>q3w W hg
theorem qih{x:BA}(h:qah x.data.toList=0):x=rt (qa9 x.data.toList)∧qbr (qa9 x.data.toList) 600=true:=by
 have ht:qj6 x.data.toList=x.data.toList:=by
  unfold qah at h;split at h
  ·cases h
  ·split at h
   ·cases h
   ·split at h
    ·cases h
    ·split at h
     ·assumption
     ·cases h
 have hne:x.data.toList≠[]:=by
  intro e;rw[e] at h
  revert h
  decide
 unfold qj6 at ht;split at ht
 ·rename_i hf
  exact⟨q76 ht.symm,hf⟩
 ·exact absurd ht.symm hne
theorem q0a{q:Rat}{n:Nat}(h:(rt q).size≤n)(hn:1≤n):sm q n:=by
 have h1:=qgx (rt q) q (qc9 q);refine⟨qh5 (by omega), ?_⟩;by_cases hd:q.den=1
 ·rw[hd]
  exact Nat.lt_of_lt_of_le (by decide:1<10^1) (Nat.pow_le_pow_right (by decide) hn)
 ·rw[if_neg hd] at h1
  exact qh5 (by omega)
theorem qub:∀(k n:Nat),n<10^k→0<n→(qfc n).head? ≠ some 48
 | 0,n,h,h0=>by rw[Nat.pow_zero] at h;omega
 | k+1,n,h,h0=>by
  rw[qdh h0];by_cases hn:n/10=0
  ·rw[hn,qcw]
   intro e;have e1:dig n=48:=by simpa using e
   have e2:=(qm6 n).1 (by rw[e1];rfl);omega
  ·have ih:=qub k (n/10) (by rw[Nat.pow_succ] at h;omega) (by omega)
   cases hq:qfc (n/10) with
   | nil=>
    exfalso;have:=qog (n/10);rw[hq] at this;exact hn this.symm
   | cons x y=>
    rw[hq] at ih;exact ih
theorem qfh(n:Nat):qbo (qav n)=true:=by
 unfold qbo;rw[qym];by_cases h:n=0
 ·subst h;rfl
 ·have h1:qav n=qfc n:=by unfold qav;rw[if_neg h]
  have h2:=qub (qfc n).length n (qe2 n) (by omega);rw[h1,Bool.true_and,Bool.or_eq_true];exact .inr (by simpa using h2)
theorem q3y(q:Rat):∃t,qhk (rt q) t (decide (q.num<0)) (qav q.num.natAbs) (if q.den=1 then[] else qav q.den) (decide (q.den≠1)):=by
 have hd:∀c ∈ qav q.num.natAbs,c≠47:=fun c hc=>q66 c (qep _ c hc);have eQ:sl (qav q.num.natAbs)=(qav q.num.natAbs).length:=qvj hd;refine⟨⟨(qav q.num.natAbs++(if q.den=1 then[] else 47::qav q.den)).toArray⟩, ?_, ?_, ?_, ?_, ?_⟩
 ·rw[qc9]
  unfold qa7;rw[List.append_assoc];by_cases h:q.num<0
  ·rw[if_pos h,qag h];rfl
  ·rw[if_neg h,qae h];rfl
 ·intro h
  have h1:¬q.num<0:=of_decide_eq_false h;rw[qc9];unfold qa7;rw[if_neg h1,List.nil_append];cases hl:qav q.num.natAbs with
  | nil=>exact absurd hl (qgt _)
  | cons x y=>
   have hx:=qep q.num.natAbs x (by rw[hl];exact List.mem_cons_self ..);unfold Lib.hasPrefix;show((45==x)&&_)=false;have:((45:UInt8)==x)=false:=qan (fun e=>by subst e;revert hx;decide);rw[this];rfl
 ·by_cases h:q.den=1
  ·simp only[if_pos h,List.append_nil]
   rw[eQ];simp
  ·simp only[if_neg h]
   rw[qqw _ _ hd];simp
 ·by_cases h:q.den=1
  ·simp only[if_pos h,List.append_nil]
   rw[eQ];simp
  ·simp only[if_neg h]
   rw[qqw _ _ hd];rw[show(qav q.num.natAbs).length+1=(qav q.num.natAbs++[47]).length by simp,show qav q.num.natAbs++47::qav q.den=(qav q.num.natAbs++[47])++qav q.den by simp,List.drop_left]
 ·by_cases h:q.den=1
  ·simp only[if_pos h,List.append_nil]
   rw[eQ];simp[h]
  ·simp only[if_neg h]
   rw[qqw _ _ hd];simp[h]
theorem qg8{n:Nat}(h:qav n=[48]):n=0:=by
 rw[←qdd n,h];rfl
theorem qm1(q:Rat):qa9 (rt q).data.toList=q:=by
 obtain⟨t,hF⟩:=q3y q
 rw[hF.num (qfh _) (fun h=>by
  have hd:q.den≠1:=of_decide_eq_true h;rw[if_neg hd]
  exact⟨qfh _,fun e=>by have:=qg8 e;have:=q.den_pos;omega⟩)]
 have e1:(if decide (q.num<0)=true then -(qbb 0 (qav q.num.natAbs):Int) else(qbb 0 (qav q.num.natAbs):Int))=q.num:=by
  rw[qdd];by_cases h:q.num<0
  ·rw[qag h,if_pos rfl];omega
  ·rw[qae h,if_neg (by decide)];omega
 have e2:(if decide (q.den≠1)=true then qbb 0 (if q.den=1 then[] else qav q.den) else 1)=q.den:=by
  by_cases h:q.den=1
  ·rw[qae (by simpa using h),if_neg (by decide),h]
  ·rw[qag h,if_pos rfl,if_neg h,qdd]
 rw[e1,e2];exact Rat.mkRat_self q
theorem zai{p q:Rat}(h:rt p=rt q):p=q:=by rw[←qm1 p,h,qm1]
theorem q6o{q:Rat}(hf:qbr q 600=true):qah (rt q).data.toList=0:=by
 obtain⟨t,hF⟩:=q3y q;have Ka:=q54 q;rw[hf] at Ka;have hf3:=Ka.symm;rw[Bool.and_eq_true] at hf3;have l1:=of_decide_eq_true hf3.1;have l2:=of_decide_eq_true hf3.2;rw[hF.check,qfh]
 have h1:(decide (q.num<0)&&(qav q.num.natAbs==[48]))=false:=by
  by_cases h:q.num<0
  ·have h2:(qav q.num.natAbs==[48])=false:=qan (fun e=>by have:=qg8 e;omega)
   rw[h2,Bool.and_false]
  ·rw[qae h];rfl
 rw[h1]
 have ht:qj6 (rt q).data.toList=(rt q).data.toList:=by
  unfold qj6;rw[qm1,if_pos hf,qc9]
 by_cases h:q.den=1
 ·rw[qae (by simpa using h)]
  simp only[Bool.not_true,Bool.or_self,Bool.false_eq_true,if_false,Bool.false_and,false_and,or_false,ht,if_true];rw[if_neg (by omega)]
 ·rw[qag h,if_neg h,qfh]
  have h3:(qav q.den==[48])=false:=qan (fun e=>by have:=qg8 e;have:=q.den_pos;omega);have h4:(qav q.den==[49])=false:=qan (fun e=>h (by rw[←qdd q.den,e];rfl));rw[h3,h4];simp only[Bool.not_true,Bool.or_self,Bool.false_eq_true,if_false,Bool.true_and,true_and,ht,if_true];rw[if_neg (by omega)]
theorem qm2{q:Rat}{k m:Nat}(h:sm q k)(hk:k+1≤m):qbr q m=true:=by
 have h1:=qnx h.1;have h2:=qnx h.2;unfold qbr;rw[qag (by omega),Bool.true_and,Bool.or_eq_true];exact .inr (qag (by omega))
theorem zaj(q:Rat)(k:Nat)(hk:1≤k):qbr q k=(decide ((qav q.num.natAbs).length≤k)&&decide ((qav q.den).length≤k)):=by
 unfold qbr;by_cases h:q.den=1
 ·rw[qag h,h,qja,qag (show([49]:List UInt8).length≤k from hk)];rfl
 ·rw[qae h];rfl
def q4t(x:BA)(k:Nat):Bool:=decide (x.size≤2*k+2)&&(decide (qah x.data.toList=0)&&qbr (qa9 x.data.toList) k)
theorem quc{x:BA}{k:Nat}(h:q4t x k=true)(hk:1≤k):qah x.data.toList=0∧x=rt (qa9 x.data.toList)∧sm (qa9 x.data.toList) k:=by
 unfold q4t at h;rw[Bool.and_eq_true,Bool.and_eq_true] at h;have h1:=of_decide_eq_true h.2.1;exact⟨h1,(qih h1).1,qmn h.2.2 hk⟩
theorem zbf(x:BA)(k:Nat)(w:World)(hk:1≤k)(nB:k≤2000):
  Calls Tryz.prog 7 #[.string x,.int .i64 (k:Int)] w fun e w'=>e = .returned (.bool (q4t x k))∧Below w.heap.size w w':=by
 have hki:(k:Int)≤2000:=by omega
 have cU:IntKind.i64.wrap (2*(k:Int))=2*(k:Int):=by rw[IntKind.wrap_i64];omega
 have kZ:IntKind.i64.wrap (2*(k:Int)+2)=2*(k:Int)+2:=by rw[IntKind.wrap_i64];omega
 by_cases hs:x.size≤2*k+2
 ·have hsi:(x.size:Int)≤2*(k:Int)+2:=by omega
  have HC:=hid (fun W=>q7c x W (by omega));by_cases hc:qah x.data.toList=0
  ·rw[hc] at HC
   have ex:=(qih hc).1;have hB:q4t x k=qbr (qa9 x.data.toList) k:=by unfold q4t;rw[qag hs,qag hc];rfl
   rw[hB,zaj _ _ hk];generalize qa9 x.data.toList=q at *;subst ex;have HN:=hid (fun W=>zab q W (by omega));have HD:=hid (fun W=>zac q W (by omega))
   have HA:Hid (∀W:World,Calls Tryz.prog 25 #[.string (rt (q.num:Rat))] W fun e w'=>e = .returned (.string (rt ((q.num.natAbs:Int):Rat)))∧w'=W):=hid fun W=>by
    have h:=q91 (q.num:Rat) W;rw[q8n] at h;exact h
   have h1:=qpc q.num.natAbs;have h2:=qpc q.den;rw[←h1,←h2];clear h1 h2 hB hc hs;generalize rt ((q.num.natAbs:Int):Rat)=ta at *;generalize rt ((q.den:Int):Rat)=td at *;generalize rt (q.num:Rat)=tn at *;generalize rt q=tq at *;by_cases ha:ta.size≤k
   ·rw[qag ha]
    have hai:(ta.size:Int)≤(k:Int):=by omega
    by_cases hd:td.size≤k
    ·rw[qag hd]
     have Eh:(td.size:Int)≤(k:Int):=by omega
     go_enter Tryz.func7,Tryz.ntmps7;go_wp2_with fail;refine(HC.out _).mono ?_;rintro e w1 ⟨rfl,hb⟩;have HB:=hid hb;clear hb;go_wp2_with fail;refine(HN.out _).mono ?_;rintro e w2 ⟨rfl,rfl⟩;go_wp2_with fail;refine(HA.out _).mono ?_;rintro e w2 ⟨rfl,rfl⟩;go_wp2_with fail;refine(HD.out _).mono ?_;rintro e w2 ⟨rfl,rfl⟩;go_wp2_with fail;go_ret;exact⟨rfl,HB.out⟩
    ·rw[qae hd]
     have Eh:¬(td.size:Int)≤(k:Int):=by omega
     go_enter Tryz.func7,Tryz.ntmps7;go_wp2_with fail;refine(HC.out _).mono ?_;rintro e w1 ⟨rfl,hb⟩;have HB:=hid hb;clear hb;go_wp2_with fail;refine(HN.out _).mono ?_;rintro e w2 ⟨rfl,rfl⟩;go_wp2_with fail;refine(HA.out _).mono ?_;rintro e w2 ⟨rfl,rfl⟩;go_wp2_with fail;refine(HD.out _).mono ?_;rintro e w2 ⟨rfl,rfl⟩;go_wp2_with fail;go_ret;exact⟨rfl,HB.out⟩
   ·rw[qae ha]
    have hai:¬(ta.size:Int)≤(k:Int):=by omega
    go_enter Tryz.func7,Tryz.ntmps7;go_wp2_with fail;refine(HC.out _).mono ?_;rintro e w1 ⟨rfl,hb⟩;have HB:=hid hb;clear hb;go_wp2_with fail;refine(HN.out _).mono ?_;rintro e w2 ⟨rfl,rfl⟩;go_wp2_with fail;refine(HA.out _).mono ?_;rintro e w2 ⟨rfl,rfl⟩;go_wp2_with fail;go_ret;exact⟨rfl,HB.out⟩
  ·have hB:q4t x k=false:=by unfold q4t;rw[qae hc];simp
   rw[hB];have hne:((qah x.data.toList:Int)==0)=false:=qan (by omega);clear hB hc hs;generalize qah x.data.toList=c at *;go_enter Tryz.func7,Tryz.ntmps7;go_wp2_with fail;refine(HC.out _).mono ?_;rintro e w1 ⟨rfl,hb⟩;have HB:=hid hb;clear hb;go_wp2_with fail;go_ret;exact⟨rfl,HB.out⟩
 ·have hB:q4t x k=false:=by unfold q4t;rw[qae hs];rfl
  have hsi:¬(x.size:Int)≤2*(k:Int)+2:=by omega
  rw[hB];clear hB hs;go_enter Tryz.func7,Tryz.ntmps7;go_wp2_with fail;go_ret;exact⟨rfl,qaa _ _⟩
end Go.Proofs.YtmcfcpgglfimjaaGreatDoor
namespace Go.Proofs.YtmcfcpgglfimjaaGreatDoor
set_option maxRecDepth 100000
set_option maxHeartbeats 4000000
open Go.RowKit
end Go.Proofs.YtmcfcpgglfimjaaGreatDoor
