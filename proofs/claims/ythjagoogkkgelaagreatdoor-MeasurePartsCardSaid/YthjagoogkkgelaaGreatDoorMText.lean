/- Text: the text of a rational number. -/
import Derived.Test.YthjagoogkkgelaaGreatDoorMWrite
import Derived.Test.YthjagoogkkgelaaGreatDoorMOrder
import Derived.Lib.SmallJoins
set_option linter.all false
namespace Go.Proofs.YthjagoogkkgelaaGreatDoor
open Go.RowKit
set_option maxRecDepth 100000
set_option maxHeartbeats 2000000
def qat(q:Rat):List UInt8:=(if q.num<0 then[45] else[])++qaw q.num.natAbs++(if q.den=1 then[] else 47::qaw q.den)
def qa4(q:Rat)(most:Nat):Bool:=decide ((qaw q.num.natAbs).length≤most)&&(decide (q.den=1)||decide ((qaw q.den).length≤most))
def qts(q:Rat)(most:Nat)(w:World)(e:Ending)(w':World):Prop:=
 e = .returned (.tuple #[.string (if qa4 q most then⟨(qat q).toArray⟩ else⟨#[]⟩),.bool (qa4 q most)])∧Below w.heap.size w w'
theorem qoe{q:Rat}{most:Nat}{w w':World}{e:Ending}{t:ByteArray}(h:qa4 q most=true)(ht:t.data.toList=qat q)(he:e = .returned (.tuple #[.string t,.bool true]))(hb:Below w.heap.size w w'):qts q most w e w':=by
 have e1:t=⟨(qat q).toArray⟩:=by rw[←ht]
 unfold qts;rw[h,if_pos rfl,←e1];exact⟨he,hb⟩
theorem q14{q:Rat}{most:Nat}{w w':World}{e:Ending}(h:qa4 q most=false)(he:e = .returned (.tuple #[.string ⟨#[]⟩,.bool false]))(hb:Below w.heap.size w w'):qts q most w e w':=by
 unfold qts;rw[h,if_neg (by simp)];exact⟨he,hb⟩
def qek(w:World)(na:Bool)(ta ba:Value)(W:World):Prop:=Below w.heap.size w W∧Own W w.heap.size 3 (qcm na ta ba)
theorem qek.later{w:World}{na:Bool}{ta ba:Value}{W W':World}(h:qek w na ta ba W)(hb:Below W.heap.size W W'):qek w na ta ba W':=by
 obtain⟨h1,h2⟩:=h;exact⟨h1.trans (hb.mono h1.size),h2.later (hb.mono h2.1)⟩
theorem qht(w:World)(na:Bool)(ta ba:Value):qek w na ta ba (w.alloc (.cells #[.bool na,ta,ba] 80)):=
 ⟨(Below.refl _ _).alloc (Nat.le_refl _) _,qq5 w na ta ba⟩
theorem qhu{w W:World}{na:Bool}{ta ba:Value}(h:qek w na ta ba W):W.cell? ⟨w.heap.size,0,none⟩=some (.bool na)∧W.cell? ⟨w.heap.size,1,none⟩=some ta∧W.cell? ⟨w.heap.size,2,none⟩=some ba:=
 ⟨(h.2.2 0 (by omega)).1,(h.2.2 1 (by omega)).1,(h.2.2 2 (by omega)).1⟩
theorem qtt{v:Value}{n most:Nat}{w:World}(h:qaq w v n)(hcap:wl n≤Cap)(hm:1≤most)(hm2:most≤1099511627776)(hl:(qaw n).length≤most):
  Calls Tryz.prog 154 #[v,.int .i64 most] w fun e w'=>e = .returned (.tuple #[.string ⟨(qaw n).toArray⟩,.bool true])∧Below w.heap.size w w':=
 (qja v n most w h hcap hm hm2).mono fun e w' h=>by
  unfold qmy at h;rw[if_pos hl,decide_eq_true hl] at h;exact h
theorem qtu{v:Value}{n most:Nat}{w:World}(h:qaq w v n)(hcap:wl n≤Cap)(hm:1≤most)(hm2:most≤1099511627776)(hl:¬(qaw n).length≤most):
  Calls Tryz.prog 154 #[v,.int .i64 most] w fun e w'=>e = .returned (.tuple #[.string ⟨#[]⟩,.bool false])∧Below w.heap.size w w':=
 (qja v n most w h hcap hm hm2).mono fun e w' h=>by
  unfold qmy at h;rw[if_neg hl,decide_eq_false hl] at h;exact h
theorem q5y(va:Value)(a:Rat)(most:Nat)(w:World)(ha:qaj w va a)(hcap:rs a≤Cap)(hm:1≤most)(hm2:most≤1099511627776):
  Calls Tryz.prog 97 #[va,.int .i64 most] w (qts a most w):=by
 obtain⟨pa1,ka1,ca1,pa2,ka2,ca2,rfl,ha1,ha2⟩:=ha.parts;obtain⟨_,_,_,he,hkb⟩:=qas ha2;cases he
 have HA1:=hid ha1;have HA2:=hid ha2;have HW0:=hid (qht w (decide (a.num<0)) (.slice pa1 ka1 ca1) (.slice pa2 ka2 ca2));have hc1:wl a.num.natAbs≤Cap:=by unfold rs at hcap;omega
 have hc2:wl a.den≤Cap:=by unfold rs at hcap;omega
 by_cases h1:(qaw a.num.natAbs).length≤most
 ·have HWR1:Hid (∀W,qek w (decide (a.num<0)) (.slice pa1 ka1 ca1) (.slice pa2 ka2 ca2) W→Calls Tryz.prog 154 #[.slice pa1 ka1 ca1,.int .i64 most] W fun e w'=>e = .returned (.tuple #[.string ⟨(qaw a.num.natAbs).toArray⟩,.bool true])∧qek w (decide (a.num<0)) (.slice pa1 ka1 ca1) (.slice pa2 ka2 ca2) w'):=hid fun W hW=>(qtt (ha1.later hW.1) hc1 hm hm2 h1).mono fun _ _ ⟨h2,h3⟩=>⟨h2,hW.later h3⟩
  obtain⟨t1,ht1⟩:∃t:ByteArray,t=⟨(qaw a.num.natAbs).toArray⟩:=⟨_,rfl⟩;have HT1:Hid (t1.data.toList=qaw a.num.natAbs):=hid (by rw[ht1]);rw[←ht1] at HWR1;clear ht1
  have hts1:t1.size≤1099511627776:=by
   have:=congrArg List.length HT1.out;simp at this;omega
  by_cases hd:a.den=1
  ·have HFIT:Hid (qa4 a most=true):=hid (by unfold qa4;rw[decide_eq_true h1,decide_eq_true hd];rfl)
   have hk0:ka2=0:=by rw[hkb,if_pos hd];exact qcp
   subst hk0;have HRT:Hid (qat a=(if a.num<0 then[45] else[])++qaw a.num.natAbs):=hid (by unfold qat;rw[if_pos hd];simp);clear ha ha1 ha2 hkb hc1 hc2 hcap h1 hd hm hm2;by_cases hs:a.num<0
   ·rw[if_pos hs] at HRT
    rw[decide_eq_true hs] at HWR1 HW0 ⊢;clear hs;go_enter Tryz.func97,Tryz.ntmps97;go_wp2_with fail;refine(HWR1.out _ HW0.out).mono ?_;rintro e w1 ⟨rfl,ht⟩;obtain⟨d0,d1,d2⟩:=qhu ht;have HB1:=hid ht.1;clear ht HW0 HWR1;go_wp2_with fail;go_ret2;exact qoe HFIT.out (by rw[HRT.out];simp[HT1.out]) rfl HB1.out
   ·rw[if_neg hs] at HRT
    rw[decide_eq_false hs] at HWR1 HW0 ⊢;clear hs;go_enter Tryz.func97,Tryz.ntmps97;go_wp2_with fail;refine(HWR1.out _ HW0.out).mono ?_;rintro e w1 ⟨rfl,ht⟩;obtain⟨d0,d1,d2⟩:=qhu ht;have HB1:=hid ht.1;clear ht HW0 HWR1;go_wp2_with fail;go_ret2;exact qoe HFIT.out (by rw[HRT.out];simp[HT1.out]) rfl HB1.out
  ·rw[if_neg hd] at ha2 hkb HA2
   have hk0:((ka2:Int)==0)=false:=beq_eq_false_iff_ne.2 (by have:=qq4 a.den_pos;omega);by_cases h2:(qaw a.den).length≤most
   ·have HFIT:Hid (qa4 a most=true):=hid (by unfold qa4;rw[decide_eq_true h1,decide_eq_true h2,Bool.or_true];rfl)
    have HWR2:Hid (∀W,qek w (decide (a.num<0)) (.slice pa1 ka1 ca1) (.slice pa2 ka2 ca2) W→Calls Tryz.prog 154 #[.slice pa2 ka2 ca2,.int .i64 most] W fun e w'=>e = .returned (.tuple #[.string ⟨(qaw a.den).toArray⟩,.bool true])∧qek w (decide (a.num<0)) (.slice pa1 ka1 ca1) (.slice pa2 ka2 ca2) w'):=hid fun W hW=>(qtt (ha2.later hW.1) hc2 hm hm2 h2).mono fun _ _ ⟨h2,h3⟩=>⟨h2,hW.later h3⟩;obtain⟨t2,ht2⟩:∃t:ByteArray,t=⟨(qaw a.den).toArray⟩:=⟨_,rfl⟩;have HT2:Hid (t2.data.toList=qaw a.den):=hid (by rw[ht2]);rw[←ht2] at HWR2;clear ht2
    have hts2:t2.size≤1099511627776:=by
     have:=congrArg List.length HT2.out;simp at this;omega
    have HRT:Hid (qat a=(if a.num<0 then[45] else[])++qaw a.num.natAbs++47::qaw a.den):=hid (by unfold qat;rw[if_neg hd]);clear ha ha1 ha2 hkb hc1 hc2 hcap h1 h2 hd hm hm2;by_cases hs:a.num<0
    ·rw[if_pos hs] at HRT
     rw[decide_eq_true hs] at HWR1 HWR2 HW0 ⊢;clear hs;go_enter Tryz.func97,Tryz.ntmps97;go_wp2_with fail;refine(HWR1.out _ HW0.out).mono ?_;rintro e w1 ⟨rfl,ht⟩;have HT:=hid ht;obtain⟨d0,d1,d2⟩:=qhu ht;clear ht HW0 HWR1;go_wp2_with fail;refine(HWR2.out _ HT.out).mono ?_;rintro e w2 ⟨rfl,ht⟩;have HB1:=hid ht.1;clear ht HT HWR2 d0 d1 d2;go_wp2_with fail;go_ret2;exact qoe HFIT.out (by rw[HRT.out];simp[HT1.out,HT2.out]) rfl HB1.out
    ·rw[if_neg hs] at HRT
     rw[decide_eq_false hs] at HWR1 HWR2 HW0 ⊢;clear hs;go_enter Tryz.func97,Tryz.ntmps97;go_wp2_with fail;refine(HWR1.out _ HW0.out).mono ?_;rintro e w1 ⟨rfl,ht⟩;have HT:=hid ht;obtain⟨d0,d1,d2⟩:=qhu ht;clear ht HW0 HWR1;go_wp2_with fail;refine(HWR2.out _ HT.out).mono ?_;rintro e w2 ⟨rfl,ht⟩;have HB1:=hid ht.1;clear ht HT HWR2 d0 d1 d2;go_wp2_with fail;go_ret2;exact qoe HFIT.out (by rw[HRT.out];simp[HT1.out,HT2.out]) rfl HB1.out
   ·have HFIT:Hid (qa4 a most=false):=hid (by unfold qa4;rw[decide_eq_false h2,decide_eq_false hd];simp)
    have HWR2:Hid (∀W,qek w (decide (a.num<0)) (.slice pa1 ka1 ca1) (.slice pa2 ka2 ca2) W→Calls Tryz.prog 154 #[.slice pa2 ka2 ca2,.int .i64 most] W fun e w'=>e = .returned (.tuple #[.string ⟨#[]⟩,.bool false])∧qek w (decide (a.num<0)) (.slice pa1 ka1 ca1) (.slice pa2 ka2 ca2) w'):=hid fun W hW=>(qtu (ha2.later hW.1) hc2 hm hm2 h2).mono fun _ _ ⟨h2,h3⟩=>⟨h2,hW.later h3⟩;clear ha ha1 ha2 hkb hc1 hc2 hcap h1 h2 hd hm hm2;generalize decide (a.num<0)=na at *;cases na
    all_goals
     go_enter Tryz.func97,Tryz.ntmps97;go_wp2_with fail;refine(HWR1.out _ HW0.out).mono ?_;rintro e w1 ⟨rfl,ht⟩;have HT:=hid ht;obtain⟨d0,d1,d2⟩:=qhu ht;clear ht HW0 HWR1;go_wp2_with fail;refine(HWR2.out _ HT.out).mono ?_;rintro e w2 ⟨rfl,ht⟩;have HB1:=hid ht.1;clear ht HT HWR2 d0 d1 d2;go_wp2_with fail;go_ret2;exact q14 HFIT.out rfl HB1.out
 ·have HFIT:Hid (qa4 a most=false):=hid (by unfold qa4;rw[decide_eq_false h1];rfl)
  have HWR1:Hid (∀W,qek w (decide (a.num<0)) (.slice pa1 ka1 ca1) (.slice pa2 ka2 ca2) W→Calls Tryz.prog 154 #[.slice pa1 ka1 ca1,.int .i64 most] W fun e w'=>e = .returned (.tuple #[.string ⟨#[]⟩,.bool false])∧qek w (decide (a.num<0)) (.slice pa1 ka1 ca1) (.slice pa2 ka2 ca2) w'):=hid fun W hW=>(qtu (ha1.later hW.1) hc1 hm hm2 h1).mono fun _ _ ⟨h2,h3⟩=>⟨h2,hW.later h3⟩;clear ha ha1 ha2 hkb hc1 hc2 hcap h1 hm hm2;generalize decide (a.num<0)=na at *;go_enter Tryz.func97,Tryz.ntmps97;go_wp2_with fail;refine(HWR1.out _ HW0.out).mono ?_;rintro e w1 ⟨rfl,ht⟩;have HB1:=hid ht.1;clear ht HW0 HWR1;go_wp2_with fail;go_ret2;exact q14 HFIT.out rfl HB1.out
theorem qcv{w W:World}{na:Bool}{ta ba:Value}(h:qek w na ta ba W):
  (W.cell? ⟨w.heap.size,0,none⟩=some (.bool na)∧W.frozen? ⟨w.heap.size,0,none⟩=false)∧
  (W.cell? ⟨w.heap.size,1,none⟩=some ta∧W.frozen? ⟨w.heap.size,1,none⟩=false)∧
  (W.cell? ⟨w.heap.size,2,none⟩=some ba∧W.frozen? ⟨w.heap.size,2,none⟩=false):=
 ⟨h.2.2 0 (by omega),h.2.2 1 (by omega),h.2.2 2 (by omega)⟩
theorem qj0(w:World)(n:Int)(b:Bool)(vt vb:Value)(hb:b=decide (n<0))(ht:qaq w vt n.natAbs)(hv:qaq w vb 0):qaj w (.agg #[.bool b,vt,vb]) (n:Rat):=
 ⟨vt,vb,by rw[hb];rfl,by simpa using ht,by simpa using hv⟩
theorem qe0(n:Int)(w:World)(h0 : -9223372036854775808≤n)(h1:n≤9223372036854775807):
  Calls Tryz.prog 38 #[.int .i64 n] w fun e w'=>(∃v',e = .returned v'∧qaj w' v' (n:Rat))∧Below w.heap.size w w':=by
 obtain⟨m,hm⟩:∃m,m=n.natAbs:=⟨_,rfl⟩;have hmB:m<B64:=by rw[qab];omega
 have HW0:=hid (qht w false (.slice none 0 0) (.slice none 0 0))
 have HTR:Hid (Calls Tryz.prog 78 #[.slice (some ⟨w.heap.size+1,0,none⟩) 1 1] ((w.alloc (.cells #[.bool false,.slice none 0 0,.slice none 0 0] 80)).alloc (.cells #[.int .u64 (m:Nat)] 136)) fun e w'=>(∃v',e = .returned v'∧qaq ((w.alloc (.cells #[.bool false,.slice none 0 0,.slice none 0 0] 80)).alloc (.cells #[.int .u64 (m:Nat)] 136)) v' m)∧(w.alloc (.cells #[.bool false,.slice none 0 0,.slice none 0 0] 80)).alloc (.cells #[.int .u64 (m:Nat)] 136)=w'):=hid (by
  have h:=qxv (w.alloc (.cells #[.bool false,.slice none 0 0,.slice none 0 0] 80)) m hmB;rw[World.size_alloc] at h
  exact h)
 have HNM:Hid (∀W v,qek w false (.slice none 0 0) (.slice none 0 0) W→qaq W v m→Calls Tryz.prog 77 #[.bool (decide (n<0)),v,.slice none 0 0] W fun e w'=>(∃v',e = .returned v'∧qaj w' v' (n:Rat))∧qek w false (.slice none 0 0) (.slice none 0 0) w'):=hid fun W v hW hv=>by
  refine(qfa (decide (n<0)) (decide (n<0)) v (.slice none 0 0) m 0 0 W hv (qaq.nil W) ?_ rfl).mono ?_
  ·by_cases h:n<0
   ·rw[decide_eq_true h,decide_eq_true (by omega:0<m)];rfl
   ·rw[decide_eq_false h];rfl
  ·rintro e w' ⟨⟨vb',rfl,h1,h2⟩,hb⟩
   exact⟨⟨_,rfl,qj0 w' n _ _ _ rfl (by rw[←hm];exact h1) h2⟩,hW.later hb⟩
 have HM:=hid hm;clear hm hmB;by_cases hn:n<0
 ·obtain⟨z,hz⟩:∃z,z=IntKind.u64.wrap n:=⟨_,rfl⟩
  have hz2:IntKind.u64.wrap (-z)=(m:Int):=by
   rw[hz,IntKind.wrap_u64,IntKind.wrap_u64,HM.out];omega
  have hz1:IntKind.u64.wrap n=z:=hz.symm;clear hz h0 h1;rw[decide_eq_true hn] at HNM;go_enter Tryz.func38,Tryz.ntmps38;go_wp2_with fail;refine HTR.out.mono ?_;rintro e w1 ⟨⟨v1,rfl,hn1⟩,hw1⟩;rw[←hw1];have HL1:Hid (qek w false (.slice none 0 0) (.slice none 0 0) ((w.alloc (.cells #[.bool false,.slice none 0 0,.slice none 0 0] 80)).alloc (.cells #[.int .u64 (m:Nat)] 136))):=hid (HW0.out.later ((Below.refl _ _).alloc (Nat.le_refl _) _));have HN1:=hid hn1;clear hw1 hn1 HTR;go_wp2_with fail;refine(HNM.out _ _ HL1.out HN1.out).mono ?_;rintro e w2 ⟨⟨v2,rfl,hv2⟩,hl2⟩;obtain⟨pt,kt,ct,pf,kf,cf,rfl,hp1,hp2⟩:=hv2.parts;generalize decide ((n:Rat).num<0)=sg at *;obtain⟨⟨r0,g0⟩,⟨r1,g1⟩,⟨r2,g2⟩⟩:=qcv hl2;have HFIN:=hid (qbd hv2 r0 r1 r2);have HBEL:=hid (qai hl2.1 (Nat.le_refl w.heap.size) (.bool sg) (.slice pt kt ct) (.slice pf kf cf));clear hp1 hp2 hv2 hl2 HL1 HN1 HNM HW0;go_wp2_with fail;refine bodyPost_ret (v := .agg #[.bool sg,.slice pt kt ct,.slice pf kf cf]) ?_ rfl ?_
  ·simp[results,Tryz.results38,go_sem,r0,r1,r2]
  ·exact⟨⟨_,rfl,HFIN.out⟩,HBEL.out⟩
 ·have hz1:IntKind.u64.wrap n=(m:Int):=by
   rw[IntKind.wrap_u64,HM.out];omega
  clear h0 h1;rw[decide_eq_false hn] at HNM;go_enter Tryz.func38,Tryz.ntmps38;go_wp2_with fail;refine HTR.out.mono ?_;rintro e w1 ⟨⟨v1,rfl,hn1⟩,hw1⟩;rw[←hw1];have HL1:Hid (qek w false (.slice none 0 0) (.slice none 0 0) ((w.alloc (.cells #[.bool false,.slice none 0 0,.slice none 0 0] 80)).alloc (.cells #[.int .u64 (m:Nat)] 136))):=hid (HW0.out.later ((Below.refl _ _).alloc (Nat.le_refl _) _));have HN1:=hid hn1;clear hw1 hn1 HTR;go_wp2_with fail;refine(HNM.out _ _ HL1.out HN1.out).mono ?_;rintro e w2 ⟨⟨v2,rfl,hv2⟩,hl2⟩;obtain⟨pt,kt,ct,pf,kf,cf,rfl,hp1,hp2⟩:=hv2.parts;generalize decide ((n:Rat).num<0)=sg at *;obtain⟨⟨r0,g0⟩,⟨r1,g1⟩,⟨r2,g2⟩⟩:=qcv hl2;have HFIN:=hid (qbd hv2 r0 r1 r2);have HBEL:=hid (qai hl2.1 (Nat.le_refl w.heap.size) (.bool sg) (.slice pt kt ct) (.slice pf kf cf));clear hp1 hp2 hv2 hl2 HL1 HN1 HNM HW0;go_wp2_with fail;refine bodyPost_ret (v := .agg #[.bool sg,.slice pt kt ct,.slice pf kf cf]) ?_ rfl ?_
  ·simp[results,Tryz.results38,go_sem,r0,r1,r2]
  ·exact⟨⟨_,rfl,HFIN.out⟩,HBEL.out⟩
end Go.Proofs.YthjagoogkkgelaaGreatDoor
