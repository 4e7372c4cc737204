/- What the walks of the laws share: calls with a known answer that leave all old memory as it was. -/
import Derived.Test.YtoijmhmmalnilaaGreatDoorMRefK
import Derived.Test.YtoijmhmmalnilaaGreatDoorMArith
import Derived.Test.YtoijmhmmalnilaaGreatDoorMAwake
set_option linter.all false
namespace Go.Proofs.YtoijmhmmalnilaaGreatDoor
open Go.RowKit
set_option maxRecDepth 100000
set_option maxHeartbeats 4000000
structure Inv(I:World→Prop):Prop where
 later:∀W W',I W→Below W.heap.size W W'→I W'
 gw:∀W,I W→GW W
theorem qdr{w:World}(hg:GW w):Inv (Below w.heap.size w):=⟨fun _ _ h hb=>h.trans (hb.mono h.size),fun _ h=>hg.later h⟩
def qds(I:World→Prop)(f:FuncId)(args:Array Value)(v:Value):Prop:=∀W,I W→Calls Tryz.prog f args W fun e w'=>e = .returned v∧I w'
theorem qbo{I:World→Prop}(J:Inv I){f:FuncId}{args:Array Value}{v:Value}(h:∀W,I W→GW W→Calls Tryz.prog f args W fun e w'=>e = .returned v∧Below W.heap.size W w'):qds I f args v:=
 fun W hW=>(h W hW (J.gw W hW)).mono fun _ _ ⟨h1,h2⟩=>⟨h1,J.later _ _ hW h2⟩
theorem qj3{I:World→Prop}{f:FuncId}{args:Array Value}{v:Value}(h:∀W,Calls Tryz.prog f args W fun e w'=>e = .returned v∧w'=W):qds I f args v:=
 fun W hW=>(h W).mono fun _ _ ⟨h1,h2⟩=>⟨h1,by rw[h2];exact hW⟩
theorem qb2{I:World→Prop}(J:Inv I){f:FuncId}{args:Array Value}{q:Rat}(h:∀W,Calls Tryz.prog f args W (qq3 q W)):qds I f args (.string (rt q)):=
 qbo J fun W _ _=>h W
theorem qk6{I:World→Prop}(J:Inv I){f:FuncId}{args:Array Value}{q:Rat}(h:∀W,GW W→Calls Tryz.prog f args W (qe1 q W)):qds I f args (.tuple #[.string (qr9 q),.int .i64 (qcp q:Nat)]):=
 qbo J fun W _ hg=>(h W hg).mono fun _ _ h=>q2v h
theorem qb0{I:World→Prop}(J:Inv I):qds I 5 #[] (.bool true):=qbo J fun W _ hg=>q3v W hg
theorem qdt{x:ByteArray}(h:qaa x.data.toList=0):x=rt (qac x.data.toList)∧qa8 (qac x.data.toList) 600=true:=by
 have ht:qj8 x.data.toList=x.data.toList:=by
  unfold qaa at h
  split at h
  ·cases h
  ·split at h
   ·cases h
   ·split at h
    ·cases h
    ·split at h
     ·assumption
     ·cases h
 have hne:x.data.toList≠[]:=by
  intro e
  rw[e] at h
  revert h
  decide
 unfold qj8 at ht
 split at ht
 ·rename_i hf
  exact⟨q13 ht.symm,hf⟩
 ·exact absurd ht.symm hne
theorem qga{q:Rat}{n:Nat}(h:(rt q).size≤n)(hn:1≤n):sm q n:=by
 have h1:=qgs (rt q) q (qcd q)
 refine⟨qh2 (by omega), ?_⟩
 by_cases hd:q.den=1
 ·rw[hd]
  exact Nat.lt_of_lt_of_le (by decide:1<10^1) (Nat.pow_le_pow_right (by decide) hn)
 ·rw[if_neg hd] at h1
  exact qh2 (by omega)
theorem qws(a b:Rat):sgn (a-b)=qdb a b:=by
 have h1:a≤b↔0≤(b-a).num:=by rw[Rat.le_iff_sub_nonneg,Rat.num_nonneg]
 have h2:b≤a↔0≤(a-b).num:=by rw[Rat.le_iff_sub_nonneg,Rat.num_nonneg]
 have h3:(a-b).num = -(b-a).num:=by rw[←Rat.neg_sub,Rat.neg_num]
 unfold sgn
 rcases qq4 a b with⟨e,h⟩|⟨e,h⟩|⟨e,h⟩
 ·have h4:=mt h2.2 (Rat.not_le.2 h)
  rw[e,if_pos (by omega)]
 ·subst h
  rw[e,Rat.sub_self];rfl
 ·have h4:=mt h1.2 (Rat.not_le.2 h)
  rw[e,if_neg (by omega),if_neg (by omega)]
theorem qho{I:World→Prop}(J:Inv I){f:FuncId}{x y:ByteArray}{q:Rat}(hx:qaa x.data.toList=0)(hy:qaa y.data.toList=0)(h:∀W,GW W→Calls Tryz.prog f #[.string x,.string y] W (qcw q x y W)):qds I f #[.string x,.string y] (.tuple #[.string (qr9 q),.int .i64 (qcp q:Nat)]):=
 qk6 J fun W hg=>(h W hg).mono fun _ _ h=>by
  unfold qcw at h
  rw[hx,hy] at h
  exact h
theorem qj4{I:World→Prop}(J:Inv I){f:FuncId}{x y:ByteArray}{q:Rat}{c:Nat}(hc:qab [qaa x.data.toList,qaa y.data.toList]=c)(h0:c≠0)(h:∀W,GW W→Calls Tryz.prog f #[.string x,.string y] W (qcw q x y W)):qds I f #[.string x,.string y] (.tuple #[.string ⟨#[]⟩,.int .i64 (c:Nat)]):=
 qbo J fun W _ hg=>(h W hg).mono fun _ _ h=>by
  unfold qcw at h
  rw[hc,if_pos h0] at h
  exact h
theorem q3w(W:World)(x y:ByteArray)(t:TypeId):qm6 (W.alloc (.cells #[.string x,.string y] t)) (.slice (some ⟨W.heap.size,0,none⟩) 2 2) [x,y]:=by
 refine⟨_,0,2,rfl,Nat.le_refl _,by decide,fun j s hj => ?_⟩
 rw[World.cell?_alloc_at _ _ _ _ rfl]
 match j,hj with
 | 0,hj=>cases hj;rfl
 | 1,hj=>cases hj;rfl
theorem qj5{I:World→Prop}(J:Inv I)(x y:ByteArray)(t:TypeId)(c:Nat)(hc:qab [qaa x.data.toList,qaa y.data.toList]=c)(hx:x.size≤5000)(hy:y.size≤5000)(W:World)(hW:I W):
  Calls Tryz.prog 12 #[.slice (some ⟨W.heap.size,0,none⟩) 2 2] (W.alloc (.cells #[.string x,.string y] t)) fun e w'=>e = .returned (.int .i64 (c:Nat))∧I w':=
 (qud _ [x,y] _ (q3w W x y t) (fun s hs=>by
  rcases List.mem_cons.1 hs with e|hs
  ·rw[e];exact hx
  ·rw[List.mem_singleton.1 hs];exact hy) (by simp)).mono fun _ _ ⟨h1,h2⟩=>by
   refine⟨?_,J.later _ _ (J.later _ _ hW ((Below.refl _ _).alloc (Nat.le_refl _) (.cells #[.string x,.string y] t))) h2⟩
   rw[h1]
   show Ending.returned (.int .i64 (qab [qaa x.data.toList,qaa y.data.toList]:Nat))=_
   rw[hc]
theorem qig{I:World→Prop}(J:Inv I)(x:ByteArray)(c:Nat)(hc:qaa x.data.toList=c)(hx:x.size≤5000):qds I 13 #[.string x] (.int .i64 (c:Nat)):=
 qbo J fun W _ _=>by rw[←hc];exact qxy x W hx
theorem qbx(I:World→Prop)(q:Rat)(k:Nat)(h:sm q k)(hk:k≤2400):qds I 14 #[.string (qr9 q),.int .i64 (qcp q:Nat),.int .i64 0,.string (rt q)] (.bool true):=
 qj3 fun W=>q2w q W (by have:=qcs h;omega)
theorem qk7(I:World→Prop)(c:Nat)(t:ByteArray)(hc:c≠0):qds I 14 #[.string ⟨#[]⟩,.int .i64 (c:Nat),.int .i64 (c:Nat),.string t] (.bool true):=
 qj3 fun W=>qzn (c:Int) t W (by omega)
theorem quv:∀(k n:Nat),n<10^k→0<n→(qfe n).head? ≠ some 48
 | 0,n,h,h0=>by rw[Nat.pow_zero] at h;omega
 | k+1,n,h,h0=>by
  rw[qda h0]
  by_cases hn:n/10=0
  ·rw[hn,qcf]
   intro e
   have e1:dig n=48:=by simpa using e
   have e2:=(qnk n).1 (by rw[e1];rfl)
   omega
  ·have ih:=quv k (n/10) (by rw[Nat.pow_succ] at h;omega) (by omega)
   cases hq:qfe (n/10) with
   | nil=>
    exfalso
    have:=qoy (n/10)
    rw[hq] at this
    exact hn this.symm
   | cons x y=>
    rw[hq] at ih
    exact ih
theorem qfj(n:Nat):qa9 (qal n)=true:=by
 unfold qa9
 rw[qyz]
 by_cases h:n=0
 ·subst h;rfl
 ·have h1:qal n=qfe n:=by unfold qal;rw[if_neg h]
  have h2:=quv (qfe n).length n (qe4 n) (by omega)
  rw[h1,Bool.true_and,Bool.or_eq_true]
  exact .inr (by simpa using h2)
theorem q3x(q:Rat):∃t,qhh (rt q) t (decide (q.num<0)) (qal q.num.natAbs) (if q.den=1 then[] else qal q.den) (decide (q.den≠1)):=by
 have hd:∀c ∈ qal q.num.natAbs,c≠47:=fun c hc=>q6f c (qev _ c hc)
 have hsl:sl (qal q.num.natAbs)=(qal q.num.natAbs).length:=qvx hd
 refine⟨⟨(qal q.num.natAbs++(if q.den=1 then[] else 47::qal q.den)).toArray⟩, ?_, ?_, ?_, ?_, ?_⟩
 ·rw[qcd]
  unfold qap
  rw[List.append_assoc]
  by_cases h:q.num<0
  ·rw[if_pos h,decide_eq_true h];rfl
  ·rw[if_neg h,decide_eq_false h];rfl
 ·intro h
  have h1:¬q.num<0:=of_decide_eq_false h
  rw[qcd]
  unfold qap
  rw[if_neg h1,List.nil_append]
  cases hl:qal q.num.natAbs with
  | nil=>exact absurd hl (qgp _)
  | cons x y=>
   have hx:=qev q.num.natAbs x (by rw[hl];exact List.mem_cons_self ..)
   unfold Lib.hasPrefix
   show((45==x)&&_)=false
   have:((45:UInt8)==x)=false:=beq_eq_false_iff_ne.2 (fun e=>by subst e;revert hx;decide)
   rw[this];rfl
 ·by_cases h:q.den=1
  ·simp only[if_pos h,List.append_nil]
   rw[hsl];simp
  ·simp only[if_neg h]
   rw[qq1 _ _ hd];simp
 ·by_cases h:q.den=1
  ·simp only[if_pos h,List.append_nil]
   rw[hsl];simp
  ·simp only[if_neg h]
   rw[qq1 _ _ hd]
   rw[show(qal q.num.natAbs).length+1=(qal q.num.natAbs++[47]).length by simp,show qal q.num.natAbs++47::qal q.den=(qal q.num.natAbs++[47])++qal q.den by simp,List.drop_left]
 ·by_cases h:q.den=1
  ·simp only[if_pos h,List.append_nil]
   rw[hsl]
   simp[h]
  ·simp only[if_neg h]
   rw[qq1 _ _ hd]
   simp[h]
theorem qg2{n:Nat}(h:qal n=[48]):n=0:=by
 rw[←qcz n,h];rfl
theorem qwt(q:Rat):qac (rt q).data.toList=q:=by
 obtain⟨t,hF⟩:=q3x q
 rw[hF.num (qfj _) (fun h=>by
  have hd:q.den≠1:=of_decide_eq_true h
  rw[if_neg hd]
  exact⟨qfj _,fun e=>by have:=qg2 e;have:=q.den_pos;omega⟩)]
 have e1:(if decide (q.num<0)=true then -(qay 0 (qal q.num.natAbs):Int) else(qay 0 (qal q.num.natAbs):Int))=q.num:=by
  rw[qcz]
  by_cases h:q.num<0
  ·rw[decide_eq_true h,if_pos rfl];omega
  ·rw[decide_eq_false h,if_neg (by decide)];omega
 have e2:(if decide (q.den≠1)=true then qay 0 (if q.den=1 then[] else qal q.den) else 1)=q.den:=by
  by_cases h:q.den=1
  ·rw[decide_eq_false (by simpa using h),if_neg (by decide),h]
  ·rw[decide_eq_true h,if_pos rfl,if_neg h,qcz]
 rw[e1,e2]
 exact Rat.mkRat_self q
theorem qj6{q:Rat}(hf:qa8 q 600=true):qaa (rt q).data.toList=0:=by
 obtain⟨t,hF⟩:=q3x q
 have hf2:=qxz q
 rw[hf] at hf2
 have hf3:=hf2.symm
 rw[Bool.and_eq_true] at hf3
 have l1:=of_decide_eq_true hf3.1
 have l2:=of_decide_eq_true hf3.2
 rw[hF.check,qfj]
 have h1:(decide (q.num<0)&&(qal q.num.natAbs==[48]))=false:=by
  by_cases h:q.num<0
  ·have h2:(qal q.num.natAbs==[48])=false:=beq_eq_false_iff_ne.2 (fun e=>by have:=qg2 e;omega)
   rw[h2,Bool.and_false]
  ·rw[decide_eq_false h];rfl
 rw[h1]
 have ht:qj8 (rt q).data.toList=(rt q).data.toList:=by
  unfold qj8
  rw[qwt,if_pos hf,qcd]
 by_cases h:q.den=1
 ·rw[decide_eq_false (by simpa using h)]
  simp only[Bool.not_true,Bool.or_self,Bool.false_eq_true,if_false,Bool.false_and,false_and,or_false,ht,if_true]
  rw[if_neg (by omega)]
 ·rw[decide_eq_true h,if_neg h,qfj]
  have h3:(qal q.den==[48])=false:=beq_eq_false_iff_ne.2 (fun e=>by have:=qg2 e;have:=q.den_pos;omega)
  have h4:(qal q.den==[49])=false:=beq_eq_false_iff_ne.2 (fun e=>h (by rw[←qcz q.den,e];rfl))
  rw[h3,h4]
  simp only[Bool.not_true,Bool.or_self,Bool.false_eq_true,if_false,Bool.true_and,true_and,ht,if_true]
  rw[if_neg (by omega)]
theorem qgb{q:Rat}{k m:Nat}(h:sm q k)(hk:k+1≤m):qa8 q m=true:=by
 have h1:=qoa h.1
 have h2:=qoa h.2
 unfold qa8
 rw[decide_eq_true (by omega),Bool.true_and,Bool.or_eq_true]
 exact .inr (decide_eq_true (by omega))
theorem q9f(q:Rat)(k:Nat)(hk:1≤k):qa8 q k=(decide ((qal q.num.natAbs).length≤k)&&decide ((qal q.den).length≤k)):=by
 unfold qa8
 by_cases h:q.den=1
 ·rw[decide_eq_true h,h,qja,decide_eq_true (show([49]:List UInt8).length≤k from hk)];rfl
 ·rw[decide_eq_false h];rfl
def qn0(x:ByteArray)(k:Nat):Bool:=decide (x.size≤2*k+2)&&(decide (qaa x.data.toList=0)&&qa8 (qac x.data.toList) k)
theorem qmf{x:ByteArray}{k:Nat}(h:qn0 x k=true)(hk:1≤k):qaa x.data.toList=0∧x=rt (qac x.data.toList)∧sm (qac x.data.toList) k:=by
 unfold qn0 at h
 rw[Bool.and_eq_true,Bool.and_eq_true] at h
 have h1:=of_decide_eq_true h.2.1
 exact⟨h1,(qdt h1).1,qm1 h.2.2 hk⟩
theorem q90(x:ByteArray)(k:Nat)(w:World)(hk:1≤k)(hk2:k≤2000):
  Calls Tryz.prog 22 #[.string x,.int .i64 (k:Int)] w fun e w'=>e = .returned (.bool (qn0 x k))∧Below w.heap.size w w':=by
 have hki:(k:Int)≤2000:=by omega
 have hw1:IntKind.i64.wrap (2*(k:Int))=2*(k:Int):=by rw[IntKind.wrap_i64];omega
 have hw2:IntKind.i64.wrap (2*(k:Int)+2)=2*(k:Int)+2:=by rw[IntKind.wrap_i64];omega
 by_cases hs:x.size≤2*k+2
 ·have hsi:(x.size:Int)≤2*(k:Int)+2:=by omega
  have HC:=hid (fun W=>qxy x W (by omega))
  by_cases hc:qaa x.data.toList=0
  ·rw[hc] at HC
   have ex:=(qdt hc).1
   have hB:qn0 x k=qa8 (qac x.data.toList) k:=by unfold qn0;rw[decide_eq_true hs,decide_eq_true hc];rfl
   rw[hB,q9f _ _ hk]
   generalize qac x.data.toList=q at *
   subst ex
   have HN:=hid (fun W=>q6l q W (by omega))
   have HD:=hid (fun W=>q6m q W (by omega))
   have HA:Hid (∀W:World,Calls Tryz.prog 65 #[.string (rt (q.num:Rat))] W fun e w'=>e = .returned (.string (rt ((q.num.natAbs:Int):Rat)))∧w'=W):=hid fun W=>by
    have h:=q6k (q.num:Rat) W
    rw[q2u] at h
    exact h
   have h1:=qia q.num.natAbs
   have h2:=qia q.den
   rw[←h1,←h2]
   clear h1 h2 hB hc hs
   generalize rt ((q.num.natAbs:Int):Rat)=ta at *
   generalize rt ((q.den:Int):Rat)=td at *
   generalize rt (q.num:Rat)=tn at *
   generalize rt q=tq at *
   by_cases ha:ta.size≤k
   ·rw[decide_eq_true ha]
    have hai:(ta.size:Int)≤(k:Int):=by omega
    by_cases hd:td.size≤k
    ·rw[decide_eq_true hd]
     have hdi:(td.size:Int)≤(k:Int):=by omega
     go_enter Tryz.func22,Tryz.ntmps22
     go_wp2_with fail
     refine(HC.out _).mono ?_
     rintro e w1 ⟨rfl,hb⟩
     have HB:=hid hb
     clear hb
     go_wp2_with fail
     refine(HN.out _).mono ?_
     rintro e w2 ⟨rfl,rfl⟩
     go_wp2_with fail
     refine(HA.out _).mono ?_
     rintro e w2 ⟨rfl,rfl⟩
     go_wp2_with fail
     refine(HD.out _).mono ?_
     rintro e w2 ⟨rfl,rfl⟩
     go_wp2_with fail
     go_ret
     exact⟨rfl,HB.out⟩
    ·rw[decide_eq_false hd]
     have hdi:¬(td.size:Int)≤(k:Int):=by omega
     go_enter Tryz.func22,Tryz.ntmps22
     go_wp2_with fail
     refine(HC.out _).mono ?_
     rintro e w1 ⟨rfl,hb⟩
     have HB:=hid hb
     clear hb
     go_wp2_with fail
     refine(HN.out _).mono ?_
     rintro e w2 ⟨rfl,rfl⟩
     go_wp2_with fail
     refine(HA.out _).mono ?_
     rintro e w2 ⟨rfl,rfl⟩
     go_wp2_with fail
     refine(HD.out _).mono ?_
     rintro e w2 ⟨rfl,rfl⟩
     go_wp2_with fail
     go_ret
     exact⟨rfl,HB.out⟩
   ·rw[decide_eq_false ha]
    have hai:¬(ta.size:Int)≤(k:Int):=by omega
    go_enter Tryz.func22,Tryz.ntmps22
    go_wp2_with fail
    refine(HC.out _).mono ?_
    rintro e w1 ⟨rfl,hb⟩
    have HB:=hid hb
    clear hb
    go_wp2_with fail
    refine(HN.out _).mono ?_
    rintro e w2 ⟨rfl,rfl⟩
    go_wp2_with fail
    refine(HA.out _).mono ?_
    rintro e w2 ⟨rfl,rfl⟩
    go_wp2_with fail
    go_ret
    exact⟨rfl,HB.out⟩
  ·have hB:qn0 x k=false:=by unfold qn0;rw[decide_eq_false hc];simp
   rw[hB]
   have hne:((qaa x.data.toList:Int)==0)=false:=beq_eq_false_iff_ne.2 (by omega)
   clear hB hc hs
   generalize qaa x.data.toList=c at *
   go_enter Tryz.func22,Tryz.ntmps22
   go_wp2_with fail
   refine(HC.out _).mono ?_
   rintro e w1 ⟨rfl,hb⟩
   have HB:=hid hb
   clear hb
   go_wp2_with fail
   go_ret
   exact⟨rfl,HB.out⟩
 ·have hB:qn0 x k=false:=by unfold qn0;rw[decide_eq_false hs];rfl
  have hsi:¬(x.size:Int)≤2*(k:Int)+2:=by omega
  rw[hB]
  clear hB hs
  go_enter Tryz.func22,Tryz.ntmps22
  go_wp2_with fail
  go_ret
  exact⟨rfl,Below.refl _ _⟩
theorem qpw{I:World→Prop}(J:Inv I){p q:Rat}{j:Nat}(sp:sm p j)(sq:sm q j)(hj:j≤2000){tp tq:ByteArray}(ep:tp=rt p)(eq:tq=rt q){z:Int}(hz:qdb p q=z):qds I 19 #[.string tp,.string tq] (.int .i64 z):=qbo J fun W _ _=>by
 rw[ep,eq,←hz,←qws]
 exact qxv p q j W sp sq hj
theorem q8c{q:Rat}(h:0≤q):0≤sgn q:=by
 have h1:=Rat.num_nonneg.2 h
 unfold sgn
 split<;>(try split)<;>omega
end Go.Proofs.YtoijmhmmalnilaaGreatDoor
