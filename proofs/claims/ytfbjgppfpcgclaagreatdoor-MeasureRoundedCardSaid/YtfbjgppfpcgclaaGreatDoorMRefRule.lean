/- What rounding keeps: whole multiples, the distance, the order. -/
import Derived.Test.YtfbjgppfpcgclaaGreatDoorMRounded
import Derived.Test.YtfbjgppfpcgclaaGreatDoorMKeeps
set_option linter.all false
namespace Go.Proofs.YtfbjgppfpcgclaaGreatDoor
open Go.RowKit
set_option maxRecDepth 100000
set_option maxHeartbeats 2000000
def qdb(f:Nat)(q:Rat):Int:=if q.den=1 then q.floor else if qcq f (qbz (q-(q.floor:Rat)) (1/2)) (!decide (((q.floor:Rat)/2).den=1)) then q.floor+1 else q.floor
theorem qgw{q:Rat}(h:q.den=1):((q.floor:Int):Rat)=q:=by
 rw[Rat.floor_def,h]
 show((q.num/1:Int):Rat)=q
 rw[Int.ediv_one]
 exact Rat.ext rfl (by rw[h];rfl)
theorem qmc(q:Rat):(q.floor:Rat)≤q∧q<(q.floor:Rat)+1:=by
 refine⟨Rat.floor_le q, ?_⟩
 have h:=Rat.lt_floor_add_one q
 rwa [Rat.intCast_add] at h
theorem q27{q:Rat}(h:q.den≠1):(q.floor:Rat)≠q:=fun e=>h (by rw[←e];rfl)
theorem qp4(f:Nat)(q:Rat):qdb f q=q.floor∨qdb f q=q.floor+1:=by
 unfold qdb
 split
 ·exact .inl rfl
 ·split
  ·exact .inr rfl
  ·exact .inl rfl
theorem qgx(f:Nat){a s:Rat}(hs:s≠0):qay f a s=(qdb f (a/s):Rat)*s:=by
 unfold qay qdb
 split
 ·rename_i h
  rw[qgw h]
  grind
 ·unfold ql2
  split
  ·rw[Rat.intCast_add];rfl
  ·rfl
theorem q28{q:Rat}:0≤qbz (q-(q.floor:Rat)) (1/2)↔1/2≤q-(q.floor:Rat):=q1r
theorem qzo(f:Nat){p q:Rat}(h:p≤q):qdb f p≤qdb f q:=by
 have hf:=Rat.floor_monotone h
 rcases Int.lt_or_eq_of_le hf with h1|h1
 ·rcases qp4 f p with e1|e1<;>rcases qp4 f q with e2|e2<;>omega
 ·by_cases hq:q.den=1
  ·have e2:=qgw hq
   have e3:=(qmc p).1
   have e4:p=q:=by rw[h1] at e3;grind
   rw[e4]
   exact Int.le_refl _
  ·by_cases hp:p.den=1
   ·unfold qdb
    rw[if_pos hp,if_neg hq,h1]
    split<;>omega
   ·unfold qdb
    rw[if_neg hp,if_neg hq,h1]
    have key:qcq f (qbz (p-(q.floor:Rat)) (1/2)) (!decide (((q.floor:Rat)/2).den=1))=true→qcq f (qbz (q-(q.floor:Rat)) (1/2)) (!decide (((q.floor:Rat)/2).den=1))=true:=by
     have hm:qbz (p-(q.floor:Rat)) (1/2)≤qbz (q-(q.floor:Rat)) (1/2):=by
      clear hf h1 hq hp
      generalize ((q.floor:Int):Rat)=F at *
      rcases qdz (p-F) (1/2) with⟨h3,h4⟩|⟨h3,h4⟩|⟨h3,h4⟩<;>rcases qdz (q-F) (1/2) with⟨h5,h6⟩|⟨h5,h6⟩|⟨h5,h6⟩
      all_goals have hpq:p-F≤q-F:=by grind
      all_goals first|omega|(exfalso;rw[h4] at hpq;exact absurd h6 (Rat.not_lt.2 hpq))|(exfalso;rw[h6] at hpq;exact absurd h4 (Rat.not_lt.2 hpq))|(exfalso;grind)
     generalize qbz (p-(q.floor:Rat)) (1/2)=x at *
     generalize qbz (q-(q.floor:Rat)) (1/2)=y at *
     generalize (!decide (((q.floor:Rat)/2).den=1))=o at *
     unfold qcq
     split
     ·exact fun h=>h
     ·split
      ·exact fun h=>h
      ·split
       ·intro h
        have:=of_decide_eq_true h
        exact decide_eq_true (by omega)
       ·rw[Bool.or_eq_true,Bool.or_eq_true,Bool.and_eq_true,Bool.and_eq_true]
        rintro(h|⟨h,ho⟩)
        ·have:=of_decide_eq_true h
         exact .inl (decide_eq_true (by omega))
        ·have:=of_decide_eq_true h
         by_cases hy:y=0
         ·exact .inr ⟨decide_eq_true hy,ho⟩
         ·exact .inl (decide_eq_true (by omega))
    split
    ·rename_i h5
     rw[key h5,if_pos rfl]
     exact Int.le_refl _
    ·split<;>omega
theorem qj6(f:Nat){a b s:Rat}(hs:0<s)(h:a≤b):qay f a s≤qay f b s:=by
 have hs0:s≠0:=fun e=>by rw[e] at hs;exact absurd hs (by decide)
 rw[qgx f hs0,qgx f hs0]
 refine Rat.mul_le_mul_of_nonneg_right (Rat.intCast_le_intCast.2 (qzo f ?_)) (Rat.le_of_lt hs)
 rw[Rat.div_def,Rat.div_def]
 exact Rat.mul_le_mul_of_nonneg_right h (Rat.le_of_lt (Rat.inv_pos.2 hs))
theorem qwb(f:Nat){a s:Rat}(hs:s≠0):qay f a s/s=(qdb f (a/s):Rat):=by
 rw[qgx f hs]
 grind
theorem qe7(f:Nat){a s:Rat}(hs:s≠0):(qay f a s/s).den=1:=by
 rw[qwb f hs];rfl
theorem qdv(f:Nat){a s:Rat}(hs:s≠0):qay f (qay f a s) s=qay f a s:=by
 show(if(qay f a s/s).den=1 then qay f a s else ql2 f (qay f a s/s)*s)=_
 rw[if_pos (qe7 f hs)]
theorem qet(f:Nat){a s:Rat}(hs:s≠0):(qay f a s-a)/s=(qdb f (a/s):Rat)-a/s:=by
 rw[qgx f hs]
 grind
theorem quo(q:Rat) : -1<(qdb 158 q:Rat)-q∧(qdb 158 q:Rat)-q≤0:=by
 obtain⟨h1,h2⟩:=qmc q
 have e:qdb 158 q=q.floor:=by
  unfold qdb
  split
  ·rfl
  ·unfold qcq;rfl
 rw[e]
 constructor<;>grind
theorem q29(q:Rat):0≤(qdb 159 q:Rat)-q∧(qdb 159 q:Rat)-q<1:=by
 obtain⟨h1,h2⟩:=qmc q
 by_cases hq:q.den=1
 ·have e:qdb 159 q=q.floor:=by unfold qdb;rw[if_pos hq]
  have e2:=qgw hq
  rw[e,e2]
  constructor<;>grind
 ·have e:qdb 159 q=q.floor+1:=by unfold qdb;rw[if_neg hq];unfold qcq;rfl
  have h3:=q27 hq
  rw[e,Rat.intCast_add]
  show 0≤((q.floor:Int):Rat)+1-q∧((q.floor:Int):Rat)+1-q<1
  generalize ((q.floor:Int):Rat)=F at *
  constructor<;>grind
theorem qp5(q:Rat) : -(1/2)<(qdb 160 q:Rat)-q∧(qdb 160 q:Rat)-q≤1/2:=by
 obtain⟨h1,h2⟩:=qmc q
 by_cases hq:q.den=1
 ·have e:qdb 160 q=q.floor:=by unfold qdb;rw[if_pos hq]
  have e2:=qgw hq
  rw[e,e2]
  constructor<;>grind
 ·by_cases hh:0≤qbz (q-(q.floor:Rat)) (1/2)
  ·have e:qdb 160 q=q.floor+1:=by
    unfold qdb;rw[if_neg hq]
    have:qcq 160 (qbz (q-(q.floor:Rat)) (1/2)) (!decide (((q.floor:Rat)/2).den=1))=true:=by
     unfold qcq;rw[if_neg (by decide),if_neg (by decide),if_pos rfl];exact decide_eq_true hh
    rw[this,if_pos rfl]
   have h3:=q28.1 hh
   rw[e,Rat.intCast_add]
   show -(1/2)<((q.floor:Int):Rat)+1-q∧((q.floor:Int):Rat)+1-q≤1/2
   generalize ((q.floor:Int):Rat)=F at *
   constructor<;>grind
  ·have e:qdb 160 q=q.floor:=by
    unfold qdb;rw[if_neg hq]
    have:qcq 160 (qbz (q-(q.floor:Rat)) (1/2)) (!decide (((q.floor:Rat)/2).den=1))=false:=by
     unfold qcq;rw[if_neg (by decide),if_neg (by decide),if_pos rfl];exact decide_eq_false hh
    rw[this];rfl
   have h3:¬1/2≤q-(q.floor:Rat):=fun h=>hh (q28.2 h)
   rw[e]
   generalize ((q.floor:Int):Rat)=F at *
   constructor<;>grind
theorem qmd(q:Rat) : -(1/2)≤(qdb 161 q:Rat)-q∧(qdb 161 q:Rat)-q≤1/2:=by
 obtain⟨h1,h2⟩:=qmc q
 by_cases hq:q.den=1
 ·have e:qdb 161 q=q.floor:=by unfold qdb;rw[if_pos hq]
  have e2:=qgw hq
  rw[e,e2]
  constructor<;>grind
 ·have hc:(qdb 161 q=q.floor+1∧1/2≤q-(q.floor:Rat))∨(qdb 161 q=q.floor∧q-(q.floor:Rat)≤1/2):=by
   unfold qdb
   rw[if_neg hq]
   unfold qcq
   rw[if_neg (show ¬161=158 by decide),if_neg (show ¬161=159 by decide),if_neg (show ¬161=160 by decide)]
   rcases qdz (q-(q.floor:Rat)) (1/2) with⟨h3,h4⟩|⟨h3,h4⟩|⟨h3,h4⟩
   ·refine .inr ⟨?_,Rat.le_of_lt h4⟩
    rw[h3];rfl
   ·rw[h3]
    split
    ·exact .inl ⟨rfl,by rw[h4];exact Rat.le_refl⟩
    ·exact .inr ⟨rfl,by rw[h4];exact Rat.le_refl⟩
   ·refine .inl ⟨?_,Rat.le_of_lt h4⟩
    rw[h3];rfl
  rcases hc with⟨e,h3⟩|⟨e,h3⟩
  ·rw[e,Rat.intCast_add]
   show -(1/2)≤((q.floor:Int):Rat)+1-q∧((q.floor:Int):Rat)+1-q≤1/2
   generalize ((q.floor:Int):Rat)=F at *
   constructor<;>grind
  ·rw[e]
   generalize ((q.floor:Int):Rat)=F at *
   constructor<;>grind
theorem qdk{w:World}(hg:GW w)(k s:ByteArray):Inv (qe8 w k s):=⟨fun _ _ h hb=>h.later hb,fun _ h=>hg.later h.1⟩
theorem qaa{w W:World}{k s:ByteArray}(h:qe8 w k s W):W.cell? ⟨w.heap.size,0,none⟩=some (.string k)∧W.cell? ⟨w.heap.size,1,none⟩=some (.string s):=⟨(h.2.2 0 (by omega)).1,(h.2.2 1 (by omega)).1⟩
theorem qnc(k:ByteArray):(k.toList=[100,111,119,110]∧qa8 k=some 158)∨(k.toList=[117,112]∧qa8 k=some 159)∨(k.toList=[104,97,108,102,45,117,112]∧qa8 k=some 160)∨(k.toList=[104,97,108,102,45,101,118,101,110]∧qa8 k=some 161) ∨
  (qa8 k=none∧k.toList≠[100,111,119,110]∧k.toList≠[117,112]∧k.toList≠[104,97,108,102,45,117,112]∧k.toList≠[104,97,108,102,45,101,118,101,110]):=by
 have key:∀c:ByteArray,(k==c)=true↔k.toList=c.toList:=fun c=>by
  show(k.data==c.data)=true↔_
  rw[beq_iff_eq,ByteArray.toList_eq,ByteArray.toList_eq]
  exact Array.toList_inj.symm
 have e1:qvp.toList=[100,111,119,110]:=by rw[ByteArray.toList_eq];rfl
 have e2:kUp.toList=[117,112]:=by rw[ByteArray.toList_eq];rfl
 have e3:qkw.toList=[104,97,108,102,45,117,112]:=by rw[ByteArray.toList_eq];rfl
 have e4:qgr.toList=[104,97,108,102,45,101,118,101,110]:=by rw[ByteArray.toList_eq];rfl
 unfold qa8
 by_cases h1:(k==qvp)=true
 ·exact .inl ⟨((key _).1 h1).trans e1,by rw[if_pos h1]⟩
 ·by_cases h2:(k==kUp)=true
  ·exact .inr (.inl ⟨((key _).1 h2).trans e2,by rw[if_neg h1,if_pos h2]⟩)
  ·by_cases h3:(k==qkw)=true
   ·exact .inr (.inr (.inl ⟨((key _).1 h3).trans e3,by rw[if_neg h1,if_neg h2,if_pos h3]⟩))
   ·by_cases h4:(k==qgr)=true
    ·exact .inr (.inr (.inr (.inl ⟨((key _).1 h4).trans e4,by rw[if_neg h1,if_neg h2,if_neg h3,if_pos h4]⟩)))
    ·refine .inr (.inr (.inr (.inr ⟨by rw[if_neg h1,if_neg h2,if_neg h3,if_neg h4],fun e=>h1 ((key _).2 (e.trans e1.symm)),fun e=>h2 ((key _).2 (e.trans e2.symm)),fun e=>h3 ((key _).2 (e.trans e3.symm)),fun e=>h4 ((key _).2 (e.trans e4.symm))⟩)))
theorem qup(k s:ByteArray)(w:World)(hk:qa8 k=none∧k.toList≠[100,111,119,110]∧k.toList≠[117,112]∧k.toList≠[104,97,108,102,45,117,112]∧k.toList≠[104,97,108,102,45,101,118,101,110]):Calls Tryz.prog 23 #[.agg #[.string k,.string s]] w fun e w'=>e = .returned (.int .i64 (qab k s.data.toList:Nat))∧qe8 w k s w':=by
 obtain⟨hn,n1,n2,n3,n4⟩:=hk
 have hr:qab k s.data.toList=20:=by unfold qab;rw[if_pos hn]
 rw[hr]
 have m1:(k.toList != [100,111,119,110])=true:=by rw[bne_iff_ne];exact n1
 have b1:(k.toList==[100,111,119,110])=false:=beq_eq_false_iff_ne.2 n1
 have m2:(k.toList != [117,112])=true:=by rw[bne_iff_ne];exact n2
 have b2:(k.toList==[117,112])=false:=beq_eq_false_iff_ne.2 n2
 have m3:(k.toList != [104,97,108,102,45,117,112])=true:=by rw[bne_iff_ne];exact n3
 have b3:(k.toList==[104,97,108,102,45,117,112])=false:=beq_eq_false_iff_ne.2 n3
 have m4:(k.toList != [104,97,108,102,45,101,118,101,110])=true:=by rw[bne_iff_ne];exact n4
 have b4:(k.toList==[104,97,108,102,45,101,118,101,110])=false:=beq_eq_false_iff_ne.2 n4
 have HW0:=hid (qbk w k s)
 obtain⟨c0,c1⟩:=qaa HW0.out
 clear n1 n2 n3 n4 hn hr
 go_enter Tryz.func23,Tryz.ntmps23
 go_wp2_with fail
 go_ret
 exact⟨rfl,HW0.out⟩
theorem qn6(k s:ByteArray)(w:World)(hg:GW w)(hs:s.size≤5000)(he:k.toList=[100,111,119,110])(hf:qa8 k=some 158)(hc:qac s.data.toList≠0):Calls Tryz.prog 23 #[.agg #[.string k,.string s]] w fun e w'=>e = .returned (.int .i64 (qab k s.data.toList:Nat))∧qe8 w k s w':=by
 have hr:qab k s.data.toList=qac s.data.toList:=by unfold qab;rw[hf,if_neg (by simp),if_pos hc]
 rw[hr]
 have J:=qdk hg k s
 have HW0:=hid (qbk w k s)
 obtain⟨c0,c1⟩:=qaa HW0.out
 have HC:=hid (qaq J s _ rfl hs)
 have hne:((qac s.data.toList:Int)==0)=false:=beq_eq_false_iff_ne.2 (by omega)
 clear hr hc hf J hg
 generalize qac s.data.toList=c at *
 go_enter Tryz.func23,Tryz.ntmps23
 go_wp2_with fail
 refine(HC.out _ HW0.out).mono ?_
 rintro e w1 ⟨rfl,hb⟩
 have HB:=hid hb
 clear hb c0 c1
 obtain⟨c0,c1⟩:=qaa HB.out
 go_wp2_with fail
 go_ret
 exact⟨rfl,HB.out⟩
theorem qme(k s:ByteArray)(w:World)(hg:GW w)(hs:s.size≤5000)(he:k.toList=[100,111,119,110])(hf:qa8 k=some 158)(hc:qac s.data.toList=0)(hn:(qad s.data.toList).num≤0):Calls Tryz.prog 23 #[.agg #[.string k,.string s]] w fun e w'=>e = .returned (.int .i64 (qab k s.data.toList:Nat))∧qe8 w k s w':=by
 have hr:qab k s.data.toList=3:=by unfold qab;rw[hf,if_neg (by simp),if_neg (by omega),if_pos hn]
 rw[hr]
 have J:=qdk hg k s
 have HW0:=hid (qbk w k s)
 obtain⟨c0,c1⟩:=qaa HW0.out
 have HC:=hid (qaq J s 0 hc hs)
 have hz:sgn (qad s.data.toList)≤0:=by unfold sgn;split<;>(try split)<;>omega
 have HS:Hid (∀W:World,Calls Tryz.prog 26 #[.string s] W fun e w'=>e = .returned (.int .i64 (sgn (qad s.data.toList)))∧w'=W):=hid fun W=>by
  have h:=qde (qad s.data.toList) _ rfl W
  rw[←(qcp hc).1] at h
  exact h
 clear hr hc hf hn J hg
 generalize sgn (qad s.data.toList)=z at *
 go_enter Tryz.func23,Tryz.ntmps23
 go_wp2_with fail
 refine(HC.out _ HW0.out).mono ?_
 rintro e w1 ⟨rfl,hb⟩
 have HB:=hid hb
 clear hb c0 c1
 obtain⟨c0,c1⟩:=qaa HB.out
 go_wp2_with fail
 refine(HS.out _).mono ?_
 rintro e w2 ⟨rfl,rfl⟩
 go_wp2_with fail
 go_ret
 exact⟨rfl,HB.out⟩
theorem qp6(k s:ByteArray)(w:World)(hg:GW w)(hs:s.size≤5000)(he:k.toList=[100,111,119,110])(hf:qa8 k=some 158)(hc:qac s.data.toList=0)(hn:¬(qad s.data.toList).num≤0):Calls Tryz.prog 23 #[.agg #[.string k,.string s]] w fun e w'=>e = .returned (.int .i64 (qab k s.data.toList:Nat))∧qe8 w k s w':=by
 have hr:qab k s.data.toList=0:=by unfold qab;rw[hf,if_neg (by simp),if_neg (by omega),if_neg hn]
 rw[hr]
 have J:=qdk hg k s
 have HW0:=hid (qbk w k s)
 obtain⟨c0,c1⟩:=qaa HW0.out
 have HC:=hid (qaq J s 0 hc hs)
 have hz:¬sgn (qad s.data.toList)≤0:=by rw[qff (by omega)];decide
 have HS:Hid (∀W:World,Calls Tryz.prog 26 #[.string s] W fun e w'=>e = .returned (.int .i64 (sgn (qad s.data.toList)))∧w'=W):=hid fun W=>by
  have h:=qde (qad s.data.toList) _ rfl W
  rw[←(qcp hc).1] at h
  exact h
 clear hr hc hf hn J hg
 generalize sgn (qad s.data.toList)=z at *
 go_enter Tryz.func23,Tryz.ntmps23
 go_wp2_with fail
 refine(HC.out _ HW0.out).mono ?_
 rintro e w1 ⟨rfl,hb⟩
 have HB:=hid hb
 clear hb c0 c1
 obtain⟨c0,c1⟩:=qaa HB.out
 go_wp2_with fail
 refine(HS.out _).mono ?_
 rintro e w2 ⟨rfl,rfl⟩
 go_wp2_with fail
 go_ret
 exact⟨rfl,HB.out⟩
theorem qqo(k s:ByteArray)(w:World)(hg:GW w)(hs:s.size≤5000)(he:k.toList=[117,112])(hf:qa8 k=some 159)(hc:qac s.data.toList≠0):Calls Tryz.prog 23 #[.agg #[.string k,.string s]] w fun e w'=>e = .returned (.int .i64 (qab k s.data.toList:Nat))∧qe8 w k s w':=by
 have hr:qab k s.data.toList=qac s.data.toList:=by unfold qab;rw[hf,if_neg (by simp),if_pos hc]
 rw[hr]
 have J:=qdk hg k s
 have HW0:=hid (qbk w k s)
 obtain⟨c0,c1⟩:=qaa HW0.out
 have HC:=hid (qaq J s _ rfl hs)
 have hne:((qac s.data.toList:Int)==0)=false:=beq_eq_false_iff_ne.2 (by omega)
 clear hr hc hf J hg
 generalize qac s.data.toList=c at *
 go_enter Tryz.func23,Tryz.ntmps23
 go_wp2_with fail
 refine(HC.out _ HW0.out).mono ?_
 rintro e w1 ⟨rfl,hb⟩
 have HB:=hid hb
 clear hb c0 c1
 obtain⟨c0,c1⟩:=qaa HB.out
 go_wp2_with fail
 go_ret
 exact⟨rfl,HB.out⟩
theorem qn7(k s:ByteArray)(w:World)(hg:GW w)(hs:s.size≤5000)(he:k.toList=[117,112])(hf:qa8 k=some 159)(hc:qac s.data.toList=0)(hn:(qad s.data.toList).num≤0):Calls Tryz.prog 23 #[.agg #[.string k,.string s]] w fun e w'=>e = .returned (.int .i64 (qab k s.data.toList:Nat))∧qe8 w k s w':=by
 have hr:qab k s.data.toList=3:=by unfold qab;rw[hf,if_neg (by simp),if_neg (by omega),if_pos hn]
 rw[hr]
 have J:=qdk hg k s
 have HW0:=hid (qbk w k s)
 obtain⟨c0,c1⟩:=qaa HW0.out
 have HC:=hid (qaq J s 0 hc hs)
 have hz:sgn (qad s.data.toList)≤0:=by unfold sgn;split<;>(try split)<;>omega
 have HS:Hid (∀W:World,Calls Tryz.prog 26 #[.string s] W fun e w'=>e = .returned (.int .i64 (sgn (qad s.data.toList)))∧w'=W):=hid fun W=>by
  have h:=qde (qad s.data.toList) _ rfl W
  rw[←(qcp hc).1] at h
  exact h
 clear hr hc hf hn J hg
 generalize sgn (qad s.data.toList)=z at *
 go_enter Tryz.func23,Tryz.ntmps23
 go_wp2_with fail
 refine(HC.out _ HW0.out).mono ?_
 rintro e w1 ⟨rfl,hb⟩
 have HB:=hid hb
 clear hb c0 c1
 obtain⟨c0,c1⟩:=qaa HB.out
 go_wp2_with fail
 refine(HS.out _).mono ?_
 rintro e w2 ⟨rfl,rfl⟩
 go_wp2_with fail
 go_ret
 exact⟨rfl,HB.out⟩
theorem qsi(k s:ByteArray)(w:World)(hg:GW w)(hs:s.size≤5000)(he:k.toList=[117,112])(hf:qa8 k=some 159)(hc:qac s.data.toList=0)(hn:¬(qad s.data.toList).num≤0):Calls Tryz.prog 23 #[.agg #[.string k,.string s]] w fun e w'=>e = .returned (.int .i64 (qab k s.data.toList:Nat))∧qe8 w k s w':=by
 have hr:qab k s.data.toList=0:=by unfold qab;rw[hf,if_neg (by simp),if_neg (by omega),if_neg hn]
 rw[hr]
 have J:=qdk hg k s
 have HW0:=hid (qbk w k s)
 obtain⟨c0,c1⟩:=qaa HW0.out
 have HC:=hid (qaq J s 0 hc hs)
 have hz:¬sgn (qad s.data.toList)≤0:=by rw[qff (by omega)];decide
 have HS:Hid (∀W:World,Calls Tryz.prog 26 #[.string s] W fun e w'=>e = .returned (.int .i64 (sgn (qad s.data.toList)))∧w'=W):=hid fun W=>by
  have h:=qde (qad s.data.toList) _ rfl W
  rw[←(qcp hc).1] at h
  exact h
 clear hr hc hf hn J hg
 generalize sgn (qad s.data.toList)=z at *
 go_enter Tryz.func23,Tryz.ntmps23
 go_wp2_with fail
 refine(HC.out _ HW0.out).mono ?_
 rintro e w1 ⟨rfl,hb⟩
 have HB:=hid hb
 clear hb c0 c1
 obtain⟨c0,c1⟩:=qaa HB.out
 go_wp2_with fail
 refine(HS.out _).mono ?_
 rintro e w2 ⟨rfl,rfl⟩
 go_wp2_with fail
 go_ret
 exact⟨rfl,HB.out⟩
theorem qmf(k s:ByteArray)(w:World)(hg:GW w)(hs:s.size≤5000)(he:k.toList=[104,97,108,102,45,117,112])(hf:qa8 k=some 160)(hc:qac s.data.toList≠0):Calls Tryz.prog 23 #[.agg #[.string k,.string s]] w fun e w'=>e = .returned (.int .i64 (qab k s.data.toList:Nat))∧qe8 w k s w':=by
 have hr:qab k s.data.toList=qac s.data.toList:=by unfold qab;rw[hf,if_neg (by simp),if_pos hc]
 rw[hr]
 have J:=qdk hg k s
 have HW0:=hid (qbk w k s)
 obtain⟨c0,c1⟩:=qaa HW0.out
 have HC:=hid (qaq J s _ rfl hs)
 have hne:((qac s.data.toList:Int)==0)=false:=beq_eq_false_iff_ne.2 (by omega)
 clear hr hc hf J hg
 generalize qac s.data.toList=c at *
 go_enter Tryz.func23,Tryz.ntmps23
 go_wp2_with fail
 refine(HC.out _ HW0.out).mono ?_
 rintro e w1 ⟨rfl,hb⟩
 have HB:=hid hb
 clear hb c0 c1
 obtain⟨c0,c1⟩:=qaa HB.out
 go_wp2_with fail
 go_ret
 exact⟨rfl,HB.out⟩
theorem qka(k s:ByteArray)(w:World)(hg:GW w)(hs:s.size≤5000)(he:k.toList=[104,97,108,102,45,117,112])(hf:qa8 k=some 160)(hc:qac s.data.toList=0)(hn:(qad s.data.toList).num≤0):Calls Tryz.prog 23 #[.agg #[.string k,.string s]] w fun e w'=>e = .returned (.int .i64 (qab k s.data.toList:Nat))∧qe8 w k s w':=by
 have hr:qab k s.data.toList=3:=by unfold qab;rw[hf,if_neg (by simp),if_neg (by omega),if_pos hn]
 rw[hr]
 have J:=qdk hg k s
 have HW0:=hid (qbk w k s)
 obtain⟨c0,c1⟩:=qaa HW0.out
 have HC:=hid (qaq J s 0 hc hs)
 have hz:sgn (qad s.data.toList)≤0:=by unfold sgn;split<;>(try split)<;>omega
 have HS:Hid (∀W:World,Calls Tryz.prog 26 #[.string s] W fun e w'=>e = .returned (.int .i64 (sgn (qad s.data.toList)))∧w'=W):=hid fun W=>by
  have h:=qde (qad s.data.toList) _ rfl W
  rw[←(qcp hc).1] at h
  exact h
 clear hr hc hf hn J hg
 generalize sgn (qad s.data.toList)=z at *
 go_enter Tryz.func23,Tryz.ntmps23
 go_wp2_with fail
 refine(HC.out _ HW0.out).mono ?_
 rintro e w1 ⟨rfl,hb⟩
 have HB:=hid hb
 clear hb c0 c1
 obtain⟨c0,c1⟩:=qaa HB.out
 go_wp2_with fail
 refine(HS.out _).mono ?_
 rintro e w2 ⟨rfl,rfl⟩
 go_wp2_with fail
 go_ret
 exact⟨rfl,HB.out⟩
theorem qnd(k s:ByteArray)(w:World)(hg:GW w)(hs:s.size≤5000)(he:k.toList=[104,97,108,102,45,117,112])(hf:qa8 k=some 160)(hc:qac s.data.toList=0)(hn:¬(qad s.data.toList).num≤0):Calls Tryz.prog 23 #[.agg #[.string k,.string s]] w fun e w'=>e = .returned (.int .i64 (qab k s.data.toList:Nat))∧qe8 w k s w':=by
 have hr:qab k s.data.toList=0:=by unfold qab;rw[hf,if_neg (by simp),if_neg (by omega),if_neg hn]
 rw[hr]
 have J:=qdk hg k s
 have HW0:=hid (qbk w k s)
 obtain⟨c0,c1⟩:=qaa HW0.out
 have HC:=hid (qaq J s 0 hc hs)
 have hz:¬sgn (qad s.data.toList)≤0:=by rw[qff (by omega)];decide
 have HS:Hid (∀W:World,Calls Tryz.prog 26 #[.string s] W fun e w'=>e = .returned (.int .i64 (sgn (qad s.data.toList)))∧w'=W):=hid fun W=>by
  have h:=qde (qad s.data.toList) _ rfl W
  rw[←(qcp hc).1] at h
  exact h
 clear hr hc hf hn J hg
 generalize sgn (qad s.data.toList)=z at *
 go_enter Tryz.func23,Tryz.ntmps23
 go_wp2_with fail
 refine(HC.out _ HW0.out).mono ?_
 rintro e w1 ⟨rfl,hb⟩
 have HB:=hid hb
 clear hb c0 c1
 obtain⟨c0,c1⟩:=qaa HB.out
 go_wp2_with fail
 refine(HS.out _).mono ?_
 rintro e w2 ⟨rfl,rfl⟩
 go_wp2_with fail
 go_ret
 exact⟨rfl,HB.out⟩
theorem qkb(k s:ByteArray)(w:World)(hg:GW w)(hs:s.size≤5000)(he:k.toList=[104,97,108,102,45,101,118,101,110])(hf:qa8 k=some 161)(hc:qac s.data.toList≠0):Calls Tryz.prog 23 #[.agg #[.string k,.string s]] w fun e w'=>e = .returned (.int .i64 (qab k s.data.toList:Nat))∧qe8 w k s w':=by
 have hr:qab k s.data.toList=qac s.data.toList:=by unfold qab;rw[hf,if_neg (by simp),if_pos hc]
 rw[hr]
 have J:=qdk hg k s
 have HW0:=hid (qbk w k s)
 obtain⟨c0,c1⟩:=qaa HW0.out
 have HC:=hid (qaq J s _ rfl hs)
 have hne:((qac s.data.toList:Int)==0)=false:=beq_eq_false_iff_ne.2 (by omega)
 clear hr hc hf J hg
 generalize qac s.data.toList=c at *
 go_enter Tryz.func23,Tryz.ntmps23
 go_wp2_with fail
 refine(HC.out _ HW0.out).mono ?_
 rintro e w1 ⟨rfl,hb⟩
 have HB:=hid hb
 clear hb c0 c1
 obtain⟨c0,c1⟩:=qaa HB.out
 go_wp2_with fail
 go_ret
 exact⟨rfl,HB.out⟩
theorem qix(k s:ByteArray)(w:World)(hg:GW w)(hs:s.size≤5000)(he:k.toList=[104,97,108,102,45,101,118,101,110])(hf:qa8 k=some 161)(hc:qac s.data.toList=0)(hn:(qad s.data.toList).num≤0):Calls Tryz.prog 23 #[.agg #[.string k,.string s]] w fun e w'=>e = .returned (.int .i64 (qab k s.data.toList:Nat))∧qe8 w k s w':=by
 have hr:qab k s.data.toList=3:=by unfold qab;rw[hf,if_neg (by simp),if_neg (by omega),if_pos hn]
 rw[hr]
 have J:=qdk hg k s
 have HW0:=hid (qbk w k s)
 obtain⟨c0,c1⟩:=qaa HW0.out
 have HC:=hid (qaq J s 0 hc hs)
 have hz:sgn (qad s.data.toList)≤0:=by unfold sgn;split<;>(try split)<;>omega
 have HS:Hid (∀W:World,Calls Tryz.prog 26 #[.string s] W fun e w'=>e = .returned (.int .i64 (sgn (qad s.data.toList)))∧w'=W):=hid fun W=>by
  have h:=qde (qad s.data.toList) _ rfl W
  rw[←(qcp hc).1] at h
  exact h
 clear hr hc hf hn J hg
 generalize sgn (qad s.data.toList)=z at *
 go_enter Tryz.func23,Tryz.ntmps23
 go_wp2_with fail
 refine(HC.out _ HW0.out).mono ?_
 rintro e w1 ⟨rfl,hb⟩
 have HB:=hid hb
 clear hb c0 c1
 obtain⟨c0,c1⟩:=qaa HB.out
 go_wp2_with fail
 refine(HS.out _).mono ?_
 rintro e w2 ⟨rfl,rfl⟩
 go_wp2_with fail
 go_ret
 exact⟨rfl,HB.out⟩
theorem qk2(k s:ByteArray)(w:World)(hg:GW w)(hs:s.size≤5000)(he:k.toList=[104,97,108,102,45,101,118,101,110])(hf:qa8 k=some 161)(hc:qac s.data.toList=0)(hn:¬(qad s.data.toList).num≤0):Calls Tryz.prog 23 #[.agg #[.string k,.string s]] w fun e w'=>e = .returned (.int .i64 (qab k s.data.toList:Nat))∧qe8 w k s w':=by
 have hr:qab k s.data.toList=0:=by unfold qab;rw[hf,if_neg (by simp),if_neg (by omega),if_neg hn]
 rw[hr]
 have J:=qdk hg k s
 have HW0:=hid (qbk w k s)
 obtain⟨c0,c1⟩:=qaa HW0.out
 have HC:=hid (qaq J s 0 hc hs)
 have hz:¬sgn (qad s.data.toList)≤0:=by rw[qff (by omega)];decide
 have HS:Hid (∀W:World,Calls Tryz.prog 26 #[.string s] W fun e w'=>e = .returned (.int .i64 (sgn (qad s.data.toList)))∧w'=W):=hid fun W=>by
  have h:=qde (qad s.data.toList) _ rfl W
  rw[←(qcp hc).1] at h
  exact h
 clear hr hc hf hn J hg
 generalize sgn (qad s.data.toList)=z at *
 go_enter Tryz.func23,Tryz.ntmps23
 go_wp2_with fail
 refine(HC.out _ HW0.out).mono ?_
 rintro e w1 ⟨rfl,hb⟩
 have HB:=hid hb
 clear hb c0 c1
 obtain⟨c0,c1⟩:=qaa HB.out
 go_wp2_with fail
 refine(HS.out _).mono ?_
 rintro e w2 ⟨rfl,rfl⟩
 go_wp2_with fail
 go_ret
 exact⟨rfl,HB.out⟩
theorem qwc(k s:ByteArray)(w:World)(hg:GW w)(hs:s.size≤5000):Calls Tryz.prog 23 #[.agg #[.string k,.string s]] w fun e w'=>e = .returned (.int .i64 (qab k s.data.toList:Nat))∧qe8 w k s w':=by
 rcases qnc k with⟨he,hf⟩|⟨he,hf⟩|⟨he,hf⟩|⟨he,hf⟩|hk
 ·by_cases hc:qac s.data.toList=0
  ·by_cases hn:(qad s.data.toList).num≤0
   ·exact qme k s w hg hs he hf hc hn
   ·exact qp6 k s w hg hs he hf hc hn
  ·exact qn6 k s w hg hs he hf hc
 ·by_cases hc:qac s.data.toList=0
  ·by_cases hn:(qad s.data.toList).num≤0
   ·exact qn7 k s w hg hs he hf hc hn
   ·exact qsi k s w hg hs he hf hc hn
  ·exact qqo k s w hg hs he hf hc
 ·by_cases hc:qac s.data.toList=0
  ·by_cases hn:(qad s.data.toList).num≤0
   ·exact qka k s w hg hs he hf hc hn
   ·exact qnd k s w hg hs he hf hc hn
  ·exact qmf k s w hg hs he hf hc
 ·by_cases hc:qac s.data.toList=0
  ·by_cases hn:(qad s.data.toList).num≤0
   ·exact qix k s w hg hs he hf hc hn
   ·exact qk2 k s w hg hs he hf hc hn
  ·exact qkb k s w hg hs he hf hc
 ·exact qup k s w hk
end Go.Proofs.YtfbjgppfpcgclaaGreatDoor
