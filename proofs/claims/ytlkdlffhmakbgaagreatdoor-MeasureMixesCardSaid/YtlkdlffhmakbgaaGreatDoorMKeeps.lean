/- Lesser and Greater. -/
import Derived.Test.YtlkdlffhmakbgaaGreatDoorMCmpQ
import Derived.Test.YtlkdlffhmakbgaaGreatDoorMRounded
import Derived.Test.YtlkdlffhmakbgaaGreatDoorMRefK
import Derived.Test.YtlkdlffhmakbgaaGreatDoorMAwake
set_option linter.all false
namespace Go.Proofs.YtlkdlffhmakbgaaGreatDoor
open Go.RowKit
open Go.RowKit
open Go.RowKit
end Go.Proofs.YtlkdlffhmakbgaaGreatDoor
namespace Go.Proofs.YtlkdlffhmakbgaaGreatDoor
open Go.RowKit
structure Inv(I:World→Prop):Prop where
 later:∀W W',I W→Below W.heap.size W W'→I W'
 gw:∀W,I W→GW W
theorem q3x{w:World}(hg:GW w):Inv (Below w.heap.size w):=⟨fun _ _ h hb=>h.trans (hb.mono h.size),fun _ h=>hg.later h⟩
def qj6(I:World→Prop)(f:FuncId)(args:Array Value)(v:Value):Prop:=∀W,I W→Calls Tryz.prog f args W fun e w'=>e = .returned v∧I w'
theorem kgo{I:World→Prop}{f:FuncId}{args:Array Value}{v:Value}{W:World}{Q:Ending→World→Prop}(K:qj6 I f args v)(h:Hid (I W))(k:∀W',Hid (I W')→Q (.returned v) W'):Calls Tryz.prog f args W Q:=
 (K W h.out).mono fun e W' hh=>by
  obtain⟨rfl,h2⟩:=hh;exact k W' (hid h2)
theorem qj3{I:World→Prop}(J:Inv I){f:FuncId}{args:Array Value}{v:Value}(h:∀W,I W→GW W→Calls Tryz.prog f args W fun e w'=>e = .returned v∧Below W.heap.size W w'):qj6 I f args v:=
 fun W hW=>(h W hW (J.gw W hW)).mono fun _ _ ⟨h1,h2⟩=>⟨h1,J.later _ _ hW h2⟩
theorem qwg{I:World→Prop}(J:Inv I):qj6 I 4 #[] (.bool true):=qj3 J fun W _ hg=>q3w W hg
theorem qwh{x:BA}(h:qah x.data.toList=0):x=rt (qbc x.data.toList)∧qby (qbc x.data.toList) 600=true:=by
 have ht:qlg x.data.toList=x.data.toList:=by
  unfold qah at h;split at h
  ·cases h
  ·split at h
   ·cases h
   ·split at h
    ·cases h
    ·split at h
     ·assumption
     ·cases h
 have hne:x.data.toList≠[]:=by
  intro e;rw[e] at h
  revert h
  decide
 unfold qlg at ht;split at ht
 ·rename_i hf
  exact⟨q2v ht.symm,hf⟩
 ·exact absurd ht.symm hne
theorem qz9{q:Rat}{n:Nat}(h:(rt q).size≤n)(hn:1≤n):sm q n:=by
 have h1:=qgv (rt q) q (qdi q);refine⟨qid (by omega), ?_⟩;by_cases hd:q.den=1
 ·rw[hd]
  exact Nat.lt_of_lt_of_le (by decide:1<10^1) (Nat.pow_le_pow_right (by decide) hn)
 ·rw[if_neg hd] at h1
  exact qid (by omega)
theorem quf:∀(k n:Nat),n<10^k→0<n→(qff n).head? ≠ some 48
 | 0,n,h,h0=>by rw[Nat.pow_zero] at h;omega
 | k+1,n,h,h0=>by
  rw[qdk h0];by_cases hn:n/10=0
  ·rw[hn,qcy]
   intro e;have e1:dig n=48:=by simpa using e
   have e2:=(qm9 n).1 (by rw[e1];rfl);omega
  ·have ih:=quf k (n/10) (by rw[Nat.pow_succ] at h;omega) (by omega)
   cases hq:qff (n/10) with
   | nil=>
    exfalso;have:=qou (n/10);rw[hq] at this;exact hn this.symm
   | cons x y=>
    rw[hq] at ih;exact ih
theorem qkd(n:Nat):qbs (qax n)=true:=by
 unfold qbs;rw[qyz];by_cases h:n=0
 ·subst h;rfl
 ·have h1:qax n=qff n:=by unfold qax;rw[if_neg h]
  have h2:=quf (qff n).length n (qe6 n) (by omega);rw[h1,Bool.true_and,Bool.or_eq_true];exact .inr (by simpa using h2)
theorem q8u(q:Rat):∃t,qhl (rt q) t (decide (q.num<0)) (qax q.num.natAbs) (if q.den=1 then[] else qax q.den) (decide (q.den≠1)):=by
 have hd:∀c ∈ qax q.num.natAbs,c≠47:=fun c hc=>q6x c (qez _ c hc);have eS:sl (qax q.num.natAbs)=(qax q.num.natAbs).length:=qv3 hd;refine⟨⟨(qax q.num.natAbs++(if q.den=1 then[] else 47::qax q.den)).toArray⟩, ?_, ?_, ?_, ?_, ?_⟩
 ·rw[qdi]
  unfold qa2;rw[List.append_assoc];by_cases h:q.num<0
  ·rw[if_pos h,qag h];rfl
  ·rw[if_neg h,qaf h];rfl
 ·intro h
  have h1:¬q.num<0:=of_decide_eq_false h;rw[qdi];unfold qa2;rw[if_neg h1,List.nil_append];cases hl:qax q.num.natAbs with
  | nil=>exact absurd hl (qgq _)
  | cons x y=>
   have hx:=qez q.num.natAbs x (by rw[hl];exact List.mem_cons_self ..);unfold Lib.hasPrefix;show((45==x)&&_)=false;have:((45:UInt8)==x)=false:=qam (fun e=>by subst e;revert hx;decide);rw[this];rfl
 ·by_cases h:q.den=1
  ·simp only[if_pos h,List.append_nil]
   rw[eS];simp
  ·simp only[if_neg h]
   rw[qqz _ _ hd];simp
 ·by_cases h:q.den=1
  ·simp only[if_pos h,List.append_nil]
   rw[eS];simp
  ·simp only[if_neg h]
   rw[qqz _ _ hd];rw[show(qax q.num.natAbs).length+1=(qax q.num.natAbs++[47]).length by simp,show qax q.num.natAbs++47::qax q.den=(qax q.num.natAbs++[47])++qax q.den by simp,List.drop_left]
 ·by_cases h:q.den=1
  ·simp only[if_pos h,List.append_nil]
   rw[eS];simp[h]
  ·simp only[if_neg h]
   rw[qqz _ _ hd];simp[h]
theorem qqc{n:Nat}(h:qax n=[48]):n=0:=by
 rw[←qdw n,h];rfl
theorem q3y(q:Rat):qbc (rt q).data.toList=q:=by
 obtain⟨t,hF⟩:=q8u q
 rw[hF.num (qkd _) (fun h=>by
  have hd:q.den≠1:=of_decide_eq_true h;rw[if_neg hd]
  exact⟨qkd _,fun e=>by have:=qqc e;have:=q.den_pos;omega⟩)]
 have e1:(if decide (q.num<0)=true then -(qbd 0 (qax q.num.natAbs):Int) else(qbd 0 (qax q.num.natAbs):Int))=q.num:=by
  rw[qdw];by_cases h:q.num<0
  ·rw[qag h,if_pos rfl];omega
  ·rw[qaf h,if_neg (by decide)];omega
 have e2:(if decide (q.den≠1)=true then qbd 0 (if q.den=1 then[] else qax q.den) else 1)=q.den:=by
  by_cases h:q.den=1
  ·rw[qaf (by simpa using h),if_neg (by decide),h]
  ·rw[qag h,if_pos rfl,if_neg h,qdw]
 rw[e1,e2];exact Rat.mkRat_self q
theorem zad{p q:Rat}(h:rt p=rt q):p=q:=by rw[←q3y p,h,q3y]
theorem qm4{q:Rat}{k m:Nat}(h:sm q k)(hk:k+1≤m):qby q m=true:=by
 have h1:=qn5 h.1;have h2:=qn5 h.2;unfold qby;rw[qag (by omega),Bool.true_and,Bool.or_eq_true];exact .inr (qag (by omega))
end Go.Proofs.YtlkdlffhmakbgaaGreatDoor
namespace Go.Proofs.YtlkdlffhmakbgaaGreatDoor
open Go.RowKit
end Go.Proofs.YtlkdlffhmakbgaaGreatDoor
