/- Text: the text of a rational number. -/
import Derived.Test.YtclimablgihlhaaGreatDoorMWrite
import Derived.Test.YtclimablgihlhaaGreatDoorMOrder
import Derived.Lib.SmallJoins
set_option linter.all false
namespace Go.Proofs.YtclimablgihlhaaGreatDoor
open Go.RowKit
set_option maxRecDepth 100000
set_option maxHeartbeats 2000000
def qat(q:Rat):List UInt8:=(if q.num<0 then[45] else[])++qaw q.num.natAbs++(if q.den=1 then[] else 47::qaw q.den)
def qa3(q:Rat)(most:Nat):Bool:=decide ((qaw q.num.natAbs).length≤most)&&(decide (q.den=1)||decide ((qaw q.den).length≤most))
def qsv(q:Rat)(most:Nat)(w:World)(e:Ending)(w':World):Prop:=
 e = .returned (.tuple #[.string (if qa3 q most then⟨(qat q).toArray⟩ else⟨#[]⟩),.bool (qa3 q most)])∧Below w.heap.size w w'
theorem qnk{q:Rat}{most:Nat}{w w':World}{e:Ending}{t:BA}(h:qa3 q most=true)(ht:t.data.toList=qat q)(he:e = .returned (.tuple #[.string t,.bool true]))(hb:Below w.heap.size w w'):qsv q most w e w':=by
 have e1:t=⟨(qat q).toArray⟩:=by rw[←ht]
 unfold qsv;rw[h,if_pos rfl,←e1];exact⟨he,hb⟩
theorem q0h{q:Rat}{most:Nat}{w w':World}{e:Ending}(h:qa3 q most=false)(he:e = .returned (.tuple #[.string ⟨#[]⟩,.bool false]))(hb:Below w.heap.size w w'):qsv q most w e w':=by
 unfold qsv;rw[h,if_neg (by simp)];exact⟨he,hb⟩
def qeb(w:World)(na:Bool)(ta ba:Value)(W:World):Prop:=Below w.heap.size w W∧Own W w.heap.size 3 (qci na ta ba)
theorem qeb.later{w:World}{na:Bool}{ta ba:Value}{W W':World}(h:qeb w na ta ba W)(hb:Below W.heap.size W W'):qeb w na ta ba W':=by
 obtain⟨h1,h2⟩:=h;exact⟨h1.trans (hb.mono h1.size),h2.later (hb.mono h2.1)⟩
theorem qhc(w:World)(na:Bool)(ta ba:Value):qeb w na ta ba (w.alloc (.cells #[.bool na,ta,ba] 74)):=
 ⟨zam _ _,qp7 w na ta ba⟩
theorem qhd{w W:World}{na:Bool}{ta ba:Value}(h:qeb w na ta ba W):W.cell? ⟨w.heap.size,0,none⟩=some (.bool na)∧W.cell? ⟨w.heap.size,1,none⟩=some ta∧W.cell? ⟨w.heap.size,2,none⟩=some ba:=
 ⟨(h.2.2 0 (by omega)).1,(h.2.2 1 (by omega)).1,(h.2.2 2 (by omega)).1⟩
theorem qsw{v:Value}{n most:Nat}{w:World}(h:qap w v n)(aP:wl n≤Cap)(hm:1≤most)(hU:most≤1099511627776)(hl:(qaw n).length≤most):
  Calls Tryz.prog 149 #[v,.int .i64 most] w fun e w'=>e = .returned (.tuple #[.string ⟨(qaw n).toArray⟩,.bool true])∧Below w.heap.size w w':=
 (qit v n most w h aP hm hU).mono fun e w' h=>by
  unfold ql7 at h;rw[if_pos hl,zas hl] at h;exact h
theorem qsx{v:Value}{n most:Nat}{w:World}(h:qap w v n)(aP:wl n≤Cap)(hm:1≤most)(hU:most≤1099511627776)(hl:¬(qaw n).length≤most):
  Calls Tryz.prog 149 #[v,.int .i64 most] w fun e w'=>e = .returned (.tuple #[.string ⟨#[]⟩,.bool false])∧Below w.heap.size w w':=
 (qit v n most w h aP hm hU).mono fun e w' h=>by
  unfold ql7 at h;rw[if_neg hl,zar hl] at h;exact h
theorem q4b(va:Value)(a:Rat)(most:Nat)(w:World)(ha:qaj w va a)(aP:rs a≤Cap)(hm:1≤most)(hU:most≤1099511627776):
  Calls Tryz.prog 92 #[va,.int .i64 most] w (qsv a most w):=by
 obtain⟨aI,aJ,aK,aM,aL,aN,rfl,dK,dX⟩:=ha.parts;obtain⟨_,_,_,he,oA⟩:=qar dX;cases he
 have eF:=hid dK;have lD:=hid dX;have aO:=hid (qhc w (decide (a.num<0)) (.slice aI aJ aK) (.slice aM aL aN));have bP:wl a.num.natAbs≤Cap:=by unfold rs at aP;omega
 have bK:wl a.den≤Cap:=by unfold rs at aP;omega
 by_cases h1:(qaw a.num.natAbs).length≤most
 ·have hX:Hid (∀W,qeb w (decide (a.num<0)) (.slice aI aJ aK) (.slice aM aL aN) W→Calls Tryz.prog 149 #[.slice aI aJ aK,.int .i64 most] W fun e w'=>e = .returned (.tuple #[.string ⟨(qaw a.num.natAbs).toArray⟩,.bool true])∧qeb w (decide (a.num<0)) (.slice aI aJ aK) (.slice aM aL aN) w'):=hid fun W hW=>(qsw (dK.later hW.1) bP hm hU h1).mono fun _ _ ⟨h2,h3⟩=>⟨h2,hW.later h3⟩
  obtain⟨t1,fB⟩:∃t:BA,t=⟨(qaw a.num.natAbs).toArray⟩:=⟨_,rfl⟩;have cE:Hid (t1.data.toList=qaw a.num.natAbs):=hid (by rw[fB]);rw[←fB] at hX;clear fB
  have hts1:t1.size≤1099511627776:=by
   have:=congrArg List.length cE.out;simp at this;omega
  by_cases hd:a.den=1
  ·have dQ:Hid (qa3 a most=true):=hid (by unfold qa3;rw[zas h1,zas hd];rfl)
   have oG:aL=0:=by rw[oA,if_pos hd];exact qck
   subst oG;have qD:Hid (qat a=(if a.num<0 then[45] else[])++qaw a.num.natAbs):=hid (by unfold qat;rw[if_pos hd];simp);clear ha dK dX oA bP bK aP h1 hd hm hU;by_cases hs:a.num<0
   ·rw[if_pos hs] at qD
    rw[zas hs] at hX aO ⊢;clear hs;go_enter Tryz.func92,Tryz.ntmps92;go_wp2_with fail;refine(hX.out _ aO.out).mono ?_;rintro e w1 ⟨rfl,ht⟩;obtain⟨d0,d1,d2⟩:=qhd ht;have aQ:=hid ht.1;clear ht aO hX;go_wp2_with fail;go_ret2;exact qnk dQ.out (by rw[qD.out];simp[cE.out]) rfl aQ.out
   ·rw[if_neg hs] at qD
    rw[zar hs] at hX aO ⊢;clear hs;go_enter Tryz.func92,Tryz.ntmps92;go_wp2_with fail;refine(hX.out _ aO.out).mono ?_;rintro e w1 ⟨rfl,ht⟩;obtain⟨d0,d1,d2⟩:=qhd ht;have aQ:=hid ht.1;clear ht aO hX;go_wp2_with fail;go_ret2;exact qnk dQ.out (by rw[qD.out];simp[cE.out]) rfl aQ.out
  ·rw[if_neg hd] at dX oA lD
   have oG:((aL:Int)==0)=false:=zat (by have:=qp6 a.den_pos;omega);by_cases h2:(qaw a.den).length≤most
   ·have dQ:Hid (qa3 a most=true):=hid (by unfold qa3;rw[zas h1,zas h2,Bool.or_true];rfl)
    have pH:Hid (∀W,qeb w (decide (a.num<0)) (.slice aI aJ aK) (.slice aM aL aN) W→Calls Tryz.prog 149 #[.slice aM aL aN,.int .i64 most] W fun e w'=>e = .returned (.tuple #[.string ⟨(qaw a.den).toArray⟩,.bool true])∧qeb w (decide (a.num<0)) (.slice aI aJ aK) (.slice aM aL aN) w'):=hid fun W hW=>(qsw (dX.later hW.1) bK hm hU h2).mono fun _ _ ⟨h2,h3⟩=>⟨h2,hW.later h3⟩;obtain⟨t2,iS⟩:∃t:BA,t=⟨(qaw a.den).toArray⟩:=⟨_,rfl⟩;have dW:Hid (t2.data.toList=qaw a.den):=hid (by rw[iS]);rw[←iS] at pH;clear iS
    have hts2:t2.size≤1099511627776:=by
     have:=congrArg List.length dW.out;simp at this;omega
    have qD:Hid (qat a=(if a.num<0 then[45] else[])++qaw a.num.natAbs++47::qaw a.den):=hid (by unfold qat;rw[if_neg hd]);clear ha dK dX oA bP bK aP h1 h2 hd hm hU;by_cases hs:a.num<0
    ·rw[if_pos hs] at qD
     rw[zas hs] at hX pH aO ⊢;clear hs;go_enter Tryz.func92,Tryz.ntmps92;go_wp2_with fail;refine(hX.out _ aO.out).mono ?_;rintro e w1 ⟨rfl,ht⟩;have HT:=hid ht;obtain⟨d0,d1,d2⟩:=qhd ht;clear ht aO hX;go_wp2_with fail;refine(pH.out _ HT.out).mono ?_;rintro e w2 ⟨rfl,ht⟩;have aQ:=hid ht.1;clear ht HT pH d0 d1 d2;go_wp2_with fail;go_ret2;exact qnk dQ.out (by rw[qD.out];simp[cE.out,dW.out]) rfl aQ.out
    ·rw[if_neg hs] at qD
     rw[zar hs] at hX pH aO ⊢;clear hs;go_enter Tryz.func92,Tryz.ntmps92;go_wp2_with fail;refine(hX.out _ aO.out).mono ?_;rintro e w1 ⟨rfl,ht⟩;have HT:=hid ht;obtain⟨d0,d1,d2⟩:=qhd ht;clear ht aO hX;go_wp2_with fail;refine(pH.out _ HT.out).mono ?_;rintro e w2 ⟨rfl,ht⟩;have aQ:=hid ht.1;clear ht HT pH d0 d1 d2;go_wp2_with fail;go_ret2;exact qnk dQ.out (by rw[qD.out];simp[cE.out,dW.out]) rfl aQ.out
   ·have dQ:Hid (qa3 a most=false):=hid (by unfold qa3;rw[zar h2,zar hd];simp)
    have pH:Hid (∀W,qeb w (decide (a.num<0)) (.slice aI aJ aK) (.slice aM aL aN) W→Calls Tryz.prog 149 #[.slice aM aL aN,.int .i64 most] W fun e w'=>e = .returned (.tuple #[.string ⟨#[]⟩,.bool false])∧qeb w (decide (a.num<0)) (.slice aI aJ aK) (.slice aM aL aN) w'):=hid fun W hW=>(qsx (dX.later hW.1) bK hm hU h2).mono fun _ _ ⟨h2,h3⟩=>⟨h2,hW.later h3⟩;clear ha dK dX oA bP bK aP h1 h2 hd hm hU;generalize decide (a.num<0)=na at *;cases na
    all_goals
     go_enter Tryz.func92,Tryz.ntmps92;go_wp2_with fail;refine(hX.out _ aO.out).mono ?_;rintro e w1 ⟨rfl,ht⟩;have HT:=hid ht;obtain⟨d0,d1,d2⟩:=qhd ht;clear ht aO hX;go_wp2_with fail;refine(pH.out _ HT.out).mono ?_;rintro e w2 ⟨rfl,ht⟩;have aQ:=hid ht.1;clear ht HT pH d0 d1 d2;go_wp2_with fail;go_ret2;exact q0h dQ.out rfl aQ.out
 ·have dQ:Hid (qa3 a most=false):=hid (by unfold qa3;rw[zar h1];rfl)
  have hX:Hid (∀W,qeb w (decide (a.num<0)) (.slice aI aJ aK) (.slice aM aL aN) W→Calls Tryz.prog 149 #[.slice aI aJ aK,.int .i64 most] W fun e w'=>e = .returned (.tuple #[.string ⟨#[]⟩,.bool false])∧qeb w (decide (a.num<0)) (.slice aI aJ aK) (.slice aM aL aN) w'):=hid fun W hW=>(qsx (dK.later hW.1) bP hm hU h1).mono fun _ _ ⟨h2,h3⟩=>⟨h2,hW.later h3⟩;clear ha dK dX oA bP bK aP h1 hm hU;generalize decide (a.num<0)=na at *;go_enter Tryz.func92,Tryz.ntmps92;go_wp2_with fail;refine(hX.out _ aO.out).mono ?_;rintro e w1 ⟨rfl,ht⟩;have aQ:=hid ht.1;clear ht aO hX;go_wp2_with fail;go_ret2;exact q0h dQ.out rfl aQ.out
theorem qcr{w W:World}{na:Bool}{ta ba:Value}(h:qeb w na ta ba W):
  (W.cell? ⟨w.heap.size,0,none⟩=some (.bool na)∧W.frozen? ⟨w.heap.size,0,none⟩=false)∧
  (W.cell? ⟨w.heap.size,1,none⟩=some ta∧W.frozen? ⟨w.heap.size,1,none⟩=false)∧
  (W.cell? ⟨w.heap.size,2,none⟩=some ba∧W.frozen? ⟨w.heap.size,2,none⟩=false):=
 ⟨h.2.2 0 (by omega),h.2.2 1 (by omega),h.2.2 2 (by omega)⟩
theorem qjf(w:World)(n:Int)(b:Bool)(vt vb:Value)(hb:b=decide (n<0))(ht:qap w vt n.natAbs)(hv:qap w vb 0):qaj w (.agg #[.bool b,vt,vb]) (n:Rat):=
 ⟨vt,vb,by rw[hb];rfl,by simpa using ht,by simpa using hv⟩
theorem qeq(n:Int)(w:World)(h0 : -9223372036854775808≤n)(h1:n≤9223372036854775807):
  Calls Tryz.prog 35 #[.int .i64 n] w fun e w'=>(∃v',e = .returned v'∧qaj w' v' (n:Rat))∧Below w.heap.size w w':=by
 obtain⟨m,hm⟩:∃m,m=n.natAbs:=⟨_,rfl⟩;have hmB:m<B64:=by rw[qab];omega
 have aO:=hid (qhc w false (.slice none 0 0) (.slice none 0 0))
 have Ko:Hid (Calls Tryz.prog 75 #[.slice (some ⟨w.heap.size+1,0,none⟩) 1 1] ((w.alloc (.cells #[.bool false,.slice none 0 0,.slice none 0 0] 74)).alloc (.cells #[.int .u64 (m:Nat)] 130)) fun e w'=>(∃v',e = .returned v'∧qap ((w.alloc (.cells #[.bool false,.slice none 0 0,.slice none 0 0] 74)).alloc (.cells #[.int .u64 (m:Nat)] 130)) v' m)∧(w.alloc (.cells #[.bool false,.slice none 0 0,.slice none 0 0] 74)).alloc (.cells #[.int .u64 (m:Nat)] 130)=w'):=hid (by
  have h:=qwi (w.alloc (.cells #[.bool false,.slice none 0 0,.slice none 0 0] 74)) m hmB;rw[zao] at h
  exact h)
 have xL:Hid (∀W v,qeb w false (.slice none 0 0) (.slice none 0 0) W→qap W v m→Calls Tryz.prog 74 #[.bool (decide (n<0)),v,.slice none 0 0] W fun e w'=>(∃v',e = .returned v'∧qaj w' v' (n:Rat))∧qeb w false (.slice none 0 0) (.slice none 0 0) w'):=hid fun W v hW hv=>by
  refine(qez (decide (n<0)) (decide (n<0)) v (.slice none 0 0) m 0 0 W hv (qap.nil W) ?_ rfl).mono ?_
  ·by_cases h:n<0
   ·rw[zas h,zas (by omega:0<m)];rfl
   ·rw[zar h];rfl
  ·rintro e w' ⟨⟨vb',rfl,h1,h2⟩,hb⟩
   exact⟨⟨_,rfl,qjf w' n _ _ _ rfl (by rw[←hm];exact h1) h2⟩,hW.later hb⟩
 have HM:=hid hm;clear hm hmB;by_cases hn:n<0
 ·obtain⟨z,hz⟩:∃z,z=IntKind.u64.wrap n:=⟨_,rfl⟩
  have dU:IntKind.u64.wrap (-z)=(m:Int):=by
   rw[hz,IntKind.wrap_u64,IntKind.wrap_u64,HM.out];omega
  have dT:IntKind.u64.wrap n=z:=hz.symm;clear hz h0 h1;rw[zas hn] at xL;go_enter Tryz.func35,Tryz.ntmps35;go_wp2_with fail;refine Ko.out.mono ?_;rintro e w1 ⟨⟨v1,rfl,dR⟩,dI⟩;rw[←dI];have Ei:Hid (qeb w false (.slice none 0 0) (.slice none 0 0) ((w.alloc (.cells #[.bool false,.slice none 0 0,.slice none 0 0] 74)).alloc (.cells #[.int .u64 (m:Nat)] 130))):=hid (aO.out.later (zam _ _));have cX:=hid dR;clear dI dR Ko;go_wp2_with fail;refine(xL.out _ _ Ei.out cX.out).mono ?_;rintro e w2 ⟨⟨v2,rfl,qN⟩,mL⟩;obtain⟨pt,kt,ct,pf,kf,cf,rfl,eR,dZ⟩:=qN.parts;generalize decide ((n:Rat).num<0)=sg at *;obtain⟨⟨r0,g0⟩,⟨r1,g1⟩,⟨r2,g2⟩⟩:=qcr mL;have aG:=hid (qbc qN r0 r1 r2);have aH:=hid (qai mL.1 (zap w.heap.size) (.bool sg) (.slice pt kt ct) (.slice pf kf cf));clear eR dZ qN mL Ei cX xL aO;go_wp2_with fail;refine bodyPost_ret (v := .agg #[.bool sg,.slice pt kt ct,.slice pf kf cf]) ?_ rfl ?_
  ·simp[results,Tryz.results35,go_sem,r0,r1,r2]
  ·exact⟨⟨_,rfl,aG.out⟩,aH.out⟩
 ·have dT:IntKind.u64.wrap n=(m:Int):=by
   rw[IntKind.wrap_u64,HM.out];omega
  clear h0 h1;rw[zar hn] at xL;go_enter Tryz.func35,Tryz.ntmps35;go_wp2_with fail;refine Ko.out.mono ?_;rintro e w1 ⟨⟨v1,rfl,dR⟩,dI⟩;rw[←dI];have Ei:Hid (qeb w false (.slice none 0 0) (.slice none 0 0) ((w.alloc (.cells #[.bool false,.slice none 0 0,.slice none 0 0] 74)).alloc (.cells #[.int .u64 (m:Nat)] 130))):=hid (aO.out.later (zam _ _));have cX:=hid dR;clear dI dR Ko;go_wp2_with fail;refine(xL.out _ _ Ei.out cX.out).mono ?_;rintro e w2 ⟨⟨v2,rfl,qN⟩,mL⟩;obtain⟨pt,kt,ct,pf,kf,cf,rfl,eR,dZ⟩:=qN.parts;generalize decide ((n:Rat).num<0)=sg at *;obtain⟨⟨r0,g0⟩,⟨r1,g1⟩,⟨r2,g2⟩⟩:=qcr mL;have aG:=hid (qbc qN r0 r1 r2);have aH:=hid (qai mL.1 (zap w.heap.size) (.bool sg) (.slice pt kt ct) (.slice pf kf cf));clear eR dZ qN mL Ei cX xL aO;go_wp2_with fail;refine bodyPost_ret (v := .agg #[.bool sg,.slice pt kt ct,.slice pf kf cf]) ?_ rfl ?_
  ·simp[results,Tryz.results35,go_sem,r0,r1,r2]
  ·exact⟨⟨_,rfl,aG.out⟩,aH.out⟩
end Go.Proofs.YtclimablgihlhaaGreatDoor
