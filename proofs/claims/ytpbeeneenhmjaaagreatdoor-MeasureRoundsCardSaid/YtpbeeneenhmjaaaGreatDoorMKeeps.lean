/- Lesser and Greater. -/
import Derived.Test.YtpbeeneenhmjaaaGreatDoorMCmpQ
import Derived.Test.YtpbeeneenhmjaaaGreatDoorMRounded
import Derived.Test.YtpbeeneenhmjaaaGreatDoorMRefK
import Derived.Test.YtpbeeneenhmjaaaGreatDoorMAwake
set_option linter.all false
namespace Go.Proofs.YtpbeeneenhmjaaaGreatDoor
open Go.RowKit
open Go.RowKit
open Go.RowKit
end Go.Proofs.YtpbeeneenhmjaaaGreatDoor
namespace Go.Proofs.YtpbeeneenhmjaaaGreatDoor
open Go.RowKit
structure Inv(I:World→Prop):Prop where
 later:∀W W',I W→Below W.heap.size W W'→I W'
 gw:∀W,I W→GW W
def qd5(I:World→Prop)(f:FuncId)(args:Array Value)(v:Value):Prop:=∀W,I W→Calls Tryz.prog f args W fun e w'=>e = .returned v∧I w'
theorem kgo{I:World→Prop}{f:FuncId}{args:Array Value}{v:Value}{W:World}{Q:Ending→World→Prop}(K:qd5 I f args v)(h:Hid (I W))(k:∀W',Hid (I W')→Q (.returned v) W'):Calls Tryz.prog f args W Q:=
 (K W h.out).mono fun e W' hh=>by
  obtain⟨rfl,h2⟩:=hh;exact k W' (hid h2)
theorem qax{I:World→Prop}(J:Inv I){f:FuncId}{args:Array Value}{v:Value}(h:∀W,I W→GW W→Calls Tryz.prog f args W fun e w'=>e = .returned v∧Below W.heap.size W w'):qd5 I f args v:=
 fun W hW=>(h W hW (J.gw W hW)).mono fun _ _ ⟨h1,h2⟩=>⟨h1,J.later _ _ hW h2⟩
theorem qkp{I:World→Prop}{f:FuncId}{args:Array Value}{v:Value}(h:∀W,Calls Tryz.prog f args W fun e w'=>e = .returned v∧w'=W):qd5 I f args v:=
 fun W hW=>(h W).mono fun _ _ ⟨h1,h2⟩=>⟨h1,by rw[h2];exact hW⟩
theorem qay{I:World→Prop}(J:Inv I){f:FuncId}{args:Array Value}{q:Rat}(h:∀W,Calls Tryz.prog f args W (qp7 q W)):qd5 I f args (.string (rt q)):=
 qax J fun W _ _=>h W
theorem qxp{I:World→Prop}(J:Inv I){f:FuncId}{args:Array Value}{q:Rat}(h:∀W,GW W→Calls Tryz.prog f args W (qle q W)):qd5 I f args (.tuple #[.string (q6p q),.int .i64 (qeu q:Nat)]):=
 qax J fun W _ hg=>(h W hg).mono fun _ _ h=>q30 h
theorem qeq{I:World→Prop}(J:Inv I):qd5 I 5 #[] (.bool true):=qax J fun W _ hg=>q4z W hg
theorem qba{x:ByteArray}(h:qab x.data.toList=0):x=rt (qal x.data.toList)∧qa6 (qal x.data.toList) 600=true:=by
 have ht:ql9 x.data.toList=x.data.toList:=by
  unfold qab at h;split at h
  ·cases h
  ·split at h
   ·cases h
   ·split at h
    ·cases h
    ·split at h
     ·assumption
     ·cases h
 have hne:x.data.toList≠[]:=by
  intro e;rw[e] at h
  revert h
  decide
 unfold ql9 at ht;split at ht
 ·rename_i hf
  exact⟨q3j ht.symm,hf⟩
 ·exact absurd ht.symm hne
theorem qb9{q:Rat}{n:Nat}(h:(rt q).size≤n)(hn:1≤n):sm q n:=by
 have h1:=qhb (rt q) q (qcw q);refine⟨qio (by omega), ?_⟩;by_cases hd:q.den=1
 ·rw[hd]
  exact Nat.lt_of_lt_of_le (by decide:1<10^1) (Nat.pow_le_pow_right (by decide) hn)
 ·rw[if_neg hd] at h1
  exact qio (by omega)
theorem q40(a b:Rat):sgn (a-b)=qcr a b:=by
 have h1:a≤b↔0≤(b-a).num:=by rw[Rat.le_iff_sub_nonneg,Rat.num_nonneg]
 have h2:b≤a↔0≤(a-b).num:=by rw[Rat.le_iff_sub_nonneg,Rat.num_nonneg]
 have h3:(a-b).num = -(b-a).num:=by rw[←Rat.neg_sub,Rat.neg_num]
 unfold sgn;rcases qm8 a b with⟨e,h⟩|⟨e,h⟩|⟨e,h⟩
 ·have h4:=mt h2.2 (Rat.not_le.2 h)
  rw[e,if_pos (by omega)]
 ·subst h
  rw[e,Rat.sub_self];rfl
 ·have h4:=mt h1.2 (Rat.not_le.2 h)
  rw[e,if_neg (by omega),if_neg (by omega)]
theorem q41(W:World)(x y:ByteArray)(t:TypeId):qqb (W.alloc (.cells #[.string x,.string y] t)) (.slice (some ⟨W.heap.size,0,none⟩) 2 2) [x,y]:=by
 refine⟨_,0,2,rfl,Nat.le_refl _,by decide,fun j s hj => ?_⟩;rw[World.cell?_alloc_at _ _ _ _ rfl]
 match j,hj with
 | 0,hj=>cases hj;rfl
 | 1,hj=>cases hj;rfl
theorem qbb{I:World→Prop}(J:Inv I)(x:ByteArray)(c:Nat)(hc:qab x.data.toList=c)(hx:x.size≤5000):qd5 I 20 #[.string x] (.int .i64 (c:Nat)):=
 qax J fun W _ _=>by rw[←hc];exact qyy x W hx
theorem qof(I:World→Prop)(q:Rat)(k:Nat)(h:sm q k)(hk:k≤2400):qd5 I 22 #[.string (q6p q),.int .i64 (qeu q:Nat),.int .i64 0,.string (rt q)] (.bool true):=
 qkp fun W=>q31 q W (by have:=qd8 h;omega)
theorem qxq(I:World→Prop)(c:Nat)(t:ByteArray)(hc:c≠0):qd5 I 22 #[.string ⟨#[]⟩,.int .i64 (c:Nat),.int .i64 (c:Nat),.string t] (.bool true):=
 qkp fun W=>q0n (c:Int) t W (by omega)
theorem qvp:∀(k n:Nat),n<10^k→0<n→(qft n).head? ≠ some 48
 | 0,n,h,h0=>by rw[Nat.pow_zero] at h;omega
 | k+1,n,h,h0=>by
  rw[qdf h0];by_cases hn:n/10=0
  ·rw[hn,qcs]
   intro e;have e1:dig n=48:=by simpa using e
   have e2:=(qn0 n).1 (by rw[e1];rfl);omega
  ·have ih:=qvp k (n/10) (by rw[Nat.pow_succ] at h;omega) (by omega)
   cases hq:qft (n/10) with
   | nil=>
    exfalso;have:=qpp (n/10);rw[hq] at this;exact hn this.symm
   | cons x y=>
    rw[hq] at ih;exact ih
theorem qk4(n:Nat):qbj (qap n)=true:=by
 unfold qbj;rw[qzy];by_cases h:n=0
 ·subst h;rfl
 ·have h1:qap n=qft n:=by unfold qap;rw[if_neg h]
  have h2:=qvp (qft n).length n (qfl n) (by omega);rw[h1,Bool.true_and,Bool.or_eq_true];exact .inr (by simpa using h2)
theorem q9o(q:Rat):∃t,qh3 (rt q) t (decide (q.num<0)) (qap q.num.natAbs) (if q.den=1 then[] else qap q.den) (decide (q.den≠1)):=by
 have hd:∀c ∈ qap q.num.natAbs,c≠47:=fun c hc=>q7p c (qe6 _ c hc);have hsl:sl (qap q.num.natAbs)=(qap q.num.natAbs).length:=qw3 hd;refine⟨⟨(qap q.num.natAbs++(if q.den=1 then[] else 47::qap q.den)).toArray⟩, ?_, ?_, ?_, ?_, ?_⟩
 ·rw[qcw]
  unfold qas;rw[List.append_assoc];by_cases h:q.num<0
  ·rw[if_pos h,decide_eq_true h];rfl
  ·rw[if_neg h,decide_eq_false h];rfl
 ·intro h
  have h1:¬q.num<0:=of_decide_eq_false h;rw[qcw];unfold qas;rw[if_neg h1,List.nil_append];cases hl:qap q.num.natAbs with
  | nil=>exact absurd hl (qg6 _)
  | cons x y=>
   have hx:=qe6 q.num.natAbs x (by rw[hl];exact List.mem_cons_self ..);unfold Lib.hasPrefix;show((45==x)&&_)=false;have:((45:UInt8)==x)=false:=beq_eq_false_iff_ne.2 (fun e=>by subst e;revert hx;decide);rw[this];rfl
 ·by_cases h:q.den=1
  ·simp only[if_pos h,List.append_nil]
   rw[hsl];simp
  ·simp only[if_neg h]
   rw[qr6 _ _ hd];simp
 ·by_cases h:q.den=1
  ·simp only[if_pos h,List.append_nil]
   rw[hsl];simp
  ·simp only[if_neg h]
   rw[qr6 _ _ hd];rw[show(qap q.num.natAbs).length+1=(qap q.num.natAbs++[47]).length by simp,show qap q.num.natAbs++47::qap q.den=(qap q.num.natAbs++[47])++qap q.den by simp,List.drop_left]
 ·by_cases h:q.den=1
  ·simp only[if_pos h,List.append_nil]
   rw[hsl];simp[h]
  ·simp only[if_neg h]
   rw[qr6 _ _ hd];simp[h]
theorem qrf{n:Nat}(h:qap n=[48]):n=0:=by
 rw[←qdz n,h];rfl
theorem qea(q:Rat):qal (rt q).data.toList=q:=by
 obtain⟨t,hF⟩:=q9o q
 rw[hF.num (qk4 _) (fun h=>by
  have hd:q.den≠1:=of_decide_eq_true h;rw[if_neg hd]
  exact⟨qk4 _,fun e=>by have:=qrf e;have:=q.den_pos;omega⟩)]
 have e1:(if decide (q.num<0)=true then -(qa2 0 (qap q.num.natAbs):Int) else(qa2 0 (qap q.num.natAbs):Int))=q.num:=by
  rw[qdz];by_cases h:q.num<0
  ·rw[decide_eq_true h,if_pos rfl];omega
  ·rw[decide_eq_false h,if_neg (by decide)];omega
 have e2:(if decide (q.den≠1)=true then qa2 0 (if q.den=1 then[] else qap q.den) else 1)=q.den:=by
  by_cases h:q.den=1
  ·rw[decide_eq_false (by simpa using h),if_neg (by decide),h]
  ·rw[decide_eq_true h,if_pos rfl,if_neg h,qdz]
 rw[e1,e2];exact Rat.mkRat_self q
theorem zay{p q:Rat}(h:rt p=rt q):p=q:=by rw[←qea p,h,qea]
theorem q42:(⟨#[49]⟩:ByteArray)=rt 1:=by kernel_rfl
theorem qj3:(⟨#[49,47,50]⟩:ByteArray)=rt (1/2):=by kernel_rfl
theorem qff(q:Rat)(h:q.num.natAbs<10)(h2:q.den<10):sm q 1:=⟨h,h2⟩
theorem qmq{I:World→Prop}(J:Inv I){p q:Rat}{j:Nat}(sp:sm p j)(sq:sm q j)(hj:j≤2000){tp tq:ByteArray}(ep:tp=rt p)(eq:tq=rt q){z:Int}(hz:qcr p q=z):qd5 I 37 #[.string tp,.string tq] (.int .i64 z):=qax J fun W _ _=>by
 rw[ep,eq,←hz,←q40];exact q7u p q j W sp sq hj
end Go.Proofs.YtpbeeneenhmjaaaGreatDoor
