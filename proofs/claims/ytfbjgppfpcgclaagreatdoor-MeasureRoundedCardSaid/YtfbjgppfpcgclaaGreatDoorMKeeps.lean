/- What the walks of the laws share: calls with a known answer that leave all old memory as it was. -/
import Derived.Test.YtfbjgppfpcgclaaGreatDoorMRefK
import Derived.Test.YtfbjgppfpcgclaaGreatDoorMArith
import Derived.Test.YtfbjgppfpcgclaaGreatDoorMAwake
set_option linter.all false
namespace Go.Proofs.YtfbjgppfpcgclaaGreatDoor
open Go.RowKit
set_option maxRecDepth 100000
set_option maxHeartbeats 4000000
structure Inv(I:World→Prop):Prop where
 later:∀W W',I W→Below W.heap.size W W'→I W'
 gw:∀W,I W→GW W
def qgj(I:World→Prop)(f:FuncId)(args:Array Value)(v:Value):Prop:=∀W,I W→Calls Tryz.prog f args W fun e w'=>e = .returned v∧I w'
theorem qj5{I:World→Prop}(J:Inv I){f:FuncId}{args:Array Value}{v:Value}(h:∀W,I W→GW W→Calls Tryz.prog f args W fun e w'=>e = .returned v∧Below W.heap.size W w'):qgj I f args v:=
 fun W hW=>(h W hW (J.gw W hW)).mono fun _ _ ⟨h1,h2⟩=>⟨h1,J.later _ _ hW h2⟩
theorem qbv{I:World→Prop}{f:FuncId}{args:Array Value}{v:Value}(h:∀W,Calls Tryz.prog f args W fun e w'=>e = .returned v∧w'=W):qgj I f args v:=
 fun W hW=>(h W).mono fun _ _ ⟨h1,h2⟩=>⟨h1,by rw[h2];exact hW⟩
theorem qbr{I:World→Prop}(J:Inv I){f:FuncId}{args:Array Value}{q:Rat}(h:∀W,Calls Tryz.prog f args W (qvo q W)):qgj I f args (.string (rt q)):=
 qj5 J fun W _ _=>h W
theorem qb6{I:World→Prop}(J:Inv I):qgj I 5 #[] (.bool true):=qj5 J fun W _ hg=>q23 W hg
theorem qcp{x:ByteArray}(h:qac x.data.toList=0):x=rt (qad x.data.toList)∧qbh (qad x.data.toList) 600=true:=by
 have ht:qj7 x.data.toList=x.data.toList:=by
  unfold qac at h
  split at h
  ·cases h
  ·split at h
   ·cases h
   ·split at h
    ·cases h
    ·split at h
     ·assumption
     ·cases h
 have hne:x.data.toList≠[]:=by
  intro e
  rw[e] at h
  revert h
  decide
 unfold qj7 at ht
 split at ht
 ·rename_i hf
  exact⟨q1c ht.symm,hf⟩
 ·exact absurd ht.symm hne
theorem q7j(a b:Rat):sgn (a-b)=qbz a b:=by
 have h1:a≤b↔0≤(b-a).num:=by rw[Rat.le_iff_sub_nonneg,Rat.num_nonneg]
 have h2:b≤a↔0≤(a-b).num:=by rw[Rat.le_iff_sub_nonneg,Rat.num_nonneg]
 have h3:(a-b).num = -(b-a).num:=by rw[←Rat.neg_sub,Rat.neg_num]
 unfold sgn
 rcases qdz a b with⟨e,h⟩|⟨e,h⟩|⟨e,h⟩
 ·have h4:=mt h2.2 (Rat.not_le.2 h)
  rw[e,if_pos (by omega)]
 ·subst h
  rw[e,Rat.sub_self];rfl
 ·have h4:=mt h1.2 (Rat.not_le.2 h)
  rw[e,if_neg (by omega),if_neg (by omega)]
theorem qaq{I:World→Prop}(J:Inv I)(x:ByteArray)(c:Nat)(hc:qac x.data.toList=c)(hx:x.size≤5000):qgj I 13 #[.string x] (.int .i64 (c:Nat)):=
 qj5 J fun W _ _=>by rw[←hc];exact q5r x W hx
theorem qun:∀(k n:Nat),n<10^k→0<n→(qfm n).head? ≠ some 48
 | 0,n,h,h0=>by rw[Nat.pow_zero] at h;omega
 | k+1,n,h,h0=>by
  rw[qdi h0]
  by_cases hn:n/10=0
  ·rw[hn,qct]
   intro e
   have e1:dig n=48:=by simpa using e
   have e2:=(qnn n).1 (by rw[e1];rfl)
   omega
  ·have ih:=qun k (n/10) (by rw[Nat.pow_succ] at h;omega) (by omega)
   cases hq:qfm (n/10) with
   | nil=>
    exfalso
    have:=qo6 (n/10)
    rw[hq] at this
    exact hn this.symm
   | cons x y=>
    rw[hq] at ih
    exact ih
theorem qfq(n:Nat):qbf (qam n)=true:=by
 unfold qbf
 rw[qya]
 by_cases h:n=0
 ·subst h;rfl
 ·have h1:qam n=qfm n:=by unfold qam;rw[if_neg h]
  have h2:=qun (qfm n).length n (qfc n) (by omega)
  rw[h1,Bool.true_and,Bool.or_eq_true]
  exact .inr (by simpa using h2)
theorem q24(q:Rat):∃t,qhv (rt q) t (decide (q.num<0)) (qam q.num.natAbs) (if q.den=1 then[] else qam q.den) (decide (q.den≠1)):=by
 have hd:∀c ∈ qam q.num.natAbs,c≠47:=fun c hc=>q5m c (qe0 _ c hc)
 have hsl:sl (qam q.num.natAbs)=(qam q.num.natAbs).length:=qvi hd
 refine⟨⟨(qam q.num.natAbs++(if q.den=1 then[] else 47::qam q.den)).toArray⟩, ?_, ?_, ?_, ?_, ?_⟩
 ·rw[qc7]
  unfold qat
  rw[List.append_assoc]
  by_cases h:q.num<0
  ·rw[if_pos h,decide_eq_true h];rfl
  ·rw[if_neg h,decide_eq_false h];rfl
 ·intro h
  have h1:¬q.num<0:=of_decide_eq_false h
  rw[qc7]
  unfold qat
  rw[if_neg h1,List.nil_append]
  cases hl:qam q.num.natAbs with
  | nil=>exact absurd hl (qg4 _)
  | cons x y=>
   have hx:=qe0 q.num.natAbs x (by rw[hl];exact List.mem_cons_self ..)
   unfold Lib.hasPrefix
   show((45==x)&&_)=false
   have:((45:UInt8)==x)=false:=beq_eq_false_iff_ne.2 (fun e=>by subst e;revert hx;decide)
   rw[this];rfl
 ·by_cases h:q.den=1
  ·simp only[if_pos h,List.append_nil]
   rw[hsl];simp
  ·simp only[if_neg h]
   rw[qq7 _ _ hd];simp
 ·by_cases h:q.den=1
  ·simp only[if_pos h,List.append_nil]
   rw[hsl];simp
  ·simp only[if_neg h]
   rw[qq7 _ _ hd]
   rw[show(qam q.num.natAbs).length+1=(qam q.num.natAbs++[47]).length by simp,show qam q.num.natAbs++47::qam q.den=(qam q.num.natAbs++[47])++qam q.den by simp,List.drop_left]
 ·by_cases h:q.den=1
  ·simp only[if_pos h,List.append_nil]
   rw[hsl]
   simp[h]
  ·simp only[if_neg h]
   rw[qq7 _ _ hd]
   simp[h]
theorem qhg{n:Nat}(h:qam n=[48]):n=0:=by
 rw[←qdc n,h];rfl
theorem qc8(q:Rat):qad (rt q).data.toList=q:=by
 obtain⟨t,hF⟩:=q24 q
 rw[hF.num (qfq _) (fun h=>by
  have hd:q.den≠1:=of_decide_eq_true h
  rw[if_neg hd]
  exact⟨qfq _,fun e=>by have:=qhg e;have:=q.den_pos;omega⟩)]
 have e1:(if decide (q.num<0)=true then -(qa1 0 (qam q.num.natAbs):Int) else(qa1 0 (qam q.num.natAbs):Int))=q.num:=by
  rw[qdc]
  by_cases h:q.num<0
  ·rw[decide_eq_true h,if_pos rfl];omega
  ·rw[decide_eq_false h,if_neg (by decide)];omega
 have e2:(if decide (q.den≠1)=true then qa1 0 (if q.den=1 then[] else qam q.den) else 1)=q.den:=by
  by_cases h:q.den=1
  ·rw[decide_eq_false (by simpa using h),if_neg (by decide),h]
  ·rw[decide_eq_true h,if_pos rfl,if_neg h,qdc]
 rw[e1,e2]
 exact Rat.mkRat_self q
theorem q5w{p q:Rat}(h:rt p=rt q):p=q:=by rw[←qc8 p,h,qc8]
theorem qcr{q:Rat}(hf:qbh q 600=true):qac (rt q).data.toList=0:=by
 obtain⟨t,hF⟩:=q24 q
 have hf2:=q4k q
 rw[hf] at hf2
 have hf3:=hf2.symm
 rw[Bool.and_eq_true] at hf3
 have l1:=of_decide_eq_true hf3.1
 have l2:=of_decide_eq_true hf3.2
 rw[hF.check,qfq]
 have h1:(decide (q.num<0)&&(qam q.num.natAbs==[48]))=false:=by
  by_cases h:q.num<0
  ·have h2:(qam q.num.natAbs==[48])=false:=beq_eq_false_iff_ne.2 (fun e=>by have:=qhg e;omega)
   rw[h2,Bool.and_false]
  ·rw[decide_eq_false h];rfl
 rw[h1]
 have ht:qj7 (rt q).data.toList=(rt q).data.toList:=by
  unfold qj7
  rw[qc8,if_pos hf,qc7]
 by_cases h:q.den=1
 ·rw[decide_eq_false (by simpa using h)]
  simp only[Bool.not_true,Bool.or_self,Bool.false_eq_true,if_false,Bool.false_and,false_and,or_false,ht,if_true]
  rw[if_neg (by omega)]
 ·rw[decide_eq_true h,if_neg h,qfq]
  have h3:(qam q.den==[48])=false:=beq_eq_false_iff_ne.2 (fun e=>by have:=qhg e;have:=q.den_pos;omega)
  have h4:(qam q.den==[49])=false:=beq_eq_false_iff_ne.2 (fun e=>h (by rw[←qdc q.den,e];rfl))
  rw[h3,h4]
  simp only[Bool.not_true,Bool.or_self,Bool.false_eq_true,if_false,Bool.true_and,true_and,ht,if_true]
  rw[if_neg (by omega)]
theorem qbw{q:Rat}{k m:Nat}(h:sm q k)(hk:k+1≤m):qbh q m=true:=by
 have h1:=qoi h.1
 have h2:=qoi h.2
 unfold qbh
 rw[decide_eq_true (by omega),Bool.true_and,Bool.or_eq_true]
 exact .inr (decide_eq_true (by omega))
theorem q8s(q:Rat)(k:Nat)(hk:1≤k):qbh q k=(decide ((qam q.num.natAbs).length≤k)&&decide ((qam q.den).length≤k)):=by
 unfold qbh
 by_cases h:q.den=1
 ·rw[decide_eq_true h,h,qjg,decide_eq_true (show([49]:List UInt8).length≤k from hk)];rfl
 ·rw[decide_eq_false h];rfl
def qgv(x:ByteArray)(k:Nat):Bool:=decide (x.size≤2*k+2)&&(decide (qac x.data.toList=0)&&qbh (qad x.data.toList) k)
theorem qbb{x:ByteArray}{k:Nat}(h:qgv x k=true)(hk:1≤k):qac x.data.toList=0∧x=rt (qad x.data.toList)∧sm (qad x.data.toList) k:=by
 unfold qgv at h
 rw[Bool.and_eq_true,Bool.and_eq_true] at h
 have h1:=of_decide_eq_true h.2.1
 exact⟨h1,(qcp h1).1,qm0 h.2.2 hk⟩
theorem q9f(x:ByteArray)(k:Nat)(w:World)(hk:1≤k)(hk2:k≤2000):
  Calls Tryz.prog 22 #[.string x,.int .i64 (k:Int)] w fun e w'=>e = .returned (.bool (qgv x k))∧Below w.heap.size w w':=by
 have hki:(k:Int)≤2000:=by omega
 have hw1:IntKind.i64.wrap (2*(k:Int))=2*(k:Int):=by rw[IntKind.wrap_i64];omega
 have hw2:IntKind.i64.wrap (2*(k:Int)+2)=2*(k:Int)+2:=by rw[IntKind.wrap_i64];omega
 by_cases hs:x.size≤2*k+2
 ·have hsi:(x.size:Int)≤2*(k:Int)+2:=by omega
  have HC:=hid (fun W=>q5r x W (by omega))
  by_cases hc:qac x.data.toList=0
  ·rw[hc] at HC
   have ex:=(qcp hc).1
   have hB:qgv x k=qbh (qad x.data.toList) k:=by unfold qgv;rw[decide_eq_true hs,decide_eq_true hc];rfl
   rw[hB,q8s _ _ hk]
   generalize qad x.data.toList=q at *
   subst ex
   have HN:=hid (fun W=>q8k q W (by omega))
   have HD:=hid (fun W=>q8l q W (by omega))
   have HA:Hid (∀W:World,Calls Tryz.prog 27 #[.string (rt (q.num:Rat))] W fun e w'=>e = .returned (.string (rt ((q.num.natAbs:Int):Rat)))∧w'=W):=hid fun W=>by
    have h:=qty (q.num:Rat) W
    rw[q6t] at h
    exact h
   have h1:=qpp q.num.natAbs
   have h2:=qpp q.den
   rw[←h1,←h2]
   clear h1 h2 hB hc hs
   generalize rt ((q.num.natAbs:Int):Rat)=ta at *
   generalize rt ((q.den:Int):Rat)=td at *
   generalize rt (q.num:Rat)=tn at *
   generalize rt q=tq at *
   by_cases ha:ta.size≤k
   ·rw[decide_eq_true ha]
    have hai:(ta.size:Int)≤(k:Int):=by omega
    by_cases hd:td.size≤k
    ·rw[decide_eq_true hd]
     have hdi:(td.size:Int)≤(k:Int):=by omega
     go_enter Tryz.func22,Tryz.ntmps22
     go_wp2_with fail
     refine(HC.out _).mono ?_
     rintro e w1 ⟨rfl,hb⟩
     have HB:=hid hb
     clear hb
     go_wp2_with fail
     refine(HN.out _).mono ?_
     rintro e w2 ⟨rfl,rfl⟩
     go_wp2_with fail
     refine(HA.out _).mono ?_
     rintro e w2 ⟨rfl,rfl⟩
     go_wp2_with fail
     refine(HD.out _).mono ?_
     rintro e w2 ⟨rfl,rfl⟩
     go_wp2_with fail
     go_ret
     exact⟨rfl,HB.out⟩
    ·rw[decide_eq_false hd]
     have hdi:¬(td.size:Int)≤(k:Int):=by omega
     go_enter Tryz.func22,Tryz.ntmps22
     go_wp2_with fail
     refine(HC.out _).mono ?_
     rintro e w1 ⟨rfl,hb⟩
     have HB:=hid hb
     clear hb
     go_wp2_with fail
     refine(HN.out _).mono ?_
     rintro e w2 ⟨rfl,rfl⟩
     go_wp2_with fail
     refine(HA.out _).mono ?_
     rintro e w2 ⟨rfl,rfl⟩
     go_wp2_with fail
     refine(HD.out _).mono ?_
     rintro e w2 ⟨rfl,rfl⟩
     go_wp2_with fail
     go_ret
     exact⟨rfl,HB.out⟩
   ·rw[decide_eq_false ha]
    have hai:¬(ta.size:Int)≤(k:Int):=by omega
    go_enter Tryz.func22,Tryz.ntmps22
    go_wp2_with fail
    refine(HC.out _).mono ?_
    rintro e w1 ⟨rfl,hb⟩
    have HB:=hid hb
    clear hb
    go_wp2_with fail
    refine(HN.out _).mono ?_
    rintro e w2 ⟨rfl,rfl⟩
    go_wp2_with fail
    refine(HA.out _).mono ?_
    rintro e w2 ⟨rfl,rfl⟩
    go_wp2_with fail
    go_ret
    exact⟨rfl,HB.out⟩
  ·have hB:qgv x k=false:=by unfold qgv;rw[decide_eq_false hc];simp
   rw[hB]
   have hne:((qac x.data.toList:Int)==0)=false:=beq_eq_false_iff_ne.2 (by omega)
   clear hB hc hs
   generalize qac x.data.toList=c at *
   go_enter Tryz.func22,Tryz.ntmps22
   go_wp2_with fail
   refine(HC.out _).mono ?_
   rintro e w1 ⟨rfl,hb⟩
   have HB:=hid hb
   clear hb
   go_wp2_with fail
   go_ret
   exact⟨rfl,HB.out⟩
 ·have hB:qgv x k=false:=by unfold qgv;rw[decide_eq_false hs];rfl
  have hsi:¬(x.size:Int)≤2*(k:Int)+2:=by omega
  rw[hB]
  clear hB hs
  go_enter Tryz.func22,Tryz.ntmps22
  go_wp2_with fail
  go_ret
  exact⟨rfl,Below.refl _ _⟩
theorem qaz{I:World→Prop}(J:Inv I)(x:ByteArray)(v:Bool)(h:qgv x 8=v):qgj I 22 #[.string x,.int .i64 8] (.bool v):=qj5 J fun W _ _=>by
 rw[←h]
 exact q9f x 8 W (by decide) (by decide)
theorem q25:(⟨#[45,49]⟩:ByteArray)=rt (-1):=by kernel_rfl
theorem q5x:(⟨#[49]⟩:ByteArray)=rt 1:=by kernel_rfl
theorem qmb:(⟨#[49,47,50]⟩:ByteArray)=rt (1/2):=by kernel_rfl
theorem qrc:(⟨#[45,49,47,50]⟩:ByteArray)=rt (-(1/2)):=by kernel_rfl
theorem qg9(q:Rat)(h:q.num.natAbs<10)(h2:q.den<10):sm q 1:=⟨h,h2⟩
theorem qbq{I:World→Prop}(J:Inv I){p q:Rat}{j:Nat}(sp:sm p j)(sq:sm q j)(hj:j≤2000){tp tq:ByteArray}(ep:tp=rt p)(eq:tq=rt q){z:Int}(hz:qbz p q=z):qgj I 19 #[.string tp,.string tq] (.int .i64 z):=qj5 J fun W _ _=>by
 rw[ep,eq,←hz,←q7j]
 exact q8e p q j W sp sq hj
theorem qhh{q:Rat}(h:q≤0):sgn q≤0:=by
 have h1:¬0<q.num:=fun h2=>by
  have h3:=Rat.num_nonneg.1 (Int.le_of_lt h2)
  have h4:q=0:=Rat.le_antisymm h h3
  rw[h4] at h2
  exact absurd h2 (by decide)
 unfold sgn
 split<;>(try split)<;>omega
theorem q26{q:Rat}(h:0≤q):0≤sgn q:=by
 have h1:=Rat.num_nonneg.2 h
 unfold sgn
 split<;>(try split)<;>omega
theorem qsh{q:Rat}(h1 : -(1/2)≤q)(h2:q≤1/2):qmg q≤1/2:=by
 unfold qmg
 split<;>grind
theorem qxk{q:Rat}{k:Nat}(h:sm q k):sm (qmg q) k:=by
 unfold qmg
 split
 ·exact q1d h
 ·exact h
end Go.Proofs.YtfbjgppfpcgclaaGreatDoor
