/- Text: the text of a rational number. -/
import Derived.Test.YtmcfcpgglfimjaaGreatDoorMWrite
import Derived.Test.YtmcfcpgglfimjaaGreatDoorMOrder
import Derived.Lib.SmallJoins
set_option linter.all false
namespace Go.Proofs.YtmcfcpgglfimjaaGreatDoor
open Go.RowKit
set_option maxRecDepth 100000
set_option maxHeartbeats 2000000
def qa7(q:Rat):List UInt8:=(if q.num<0 then[45] else[])++qav q.num.natAbs++(if q.den=1 then[] else 47::qav q.den)
def qbr(q:Rat)(most:Nat):Bool:=decide ((qav q.num.natAbs).length≤most)&&(decide (q.den=1)||decide ((qav q.den).length≤most))
def qs7(q:Rat)(most:Nat)(w:World)(e:Ending)(w':World):Prop:=
 e = .returned (.tuple #[.string (if qbr q most then⟨(qa7 q).toArray⟩ else⟨#[]⟩),.bool (qbr q most)])∧Below w.heap.size w w'
theorem qnt{q:Rat}{most:Nat}{w w':World}{e:Ending}{t:BA}(h:qbr q most=true)(ht:t.data.toList=qa7 q)(he:e = .returned (.tuple #[.string t,.bool true]))(hb:Below w.heap.size w w'):qs7 q most w e w':=by
 have e1:t=⟨(qa7 q).toArray⟩:=by rw[←ht]
 unfold qs7;rw[h,if_pos rfl,←e1];exact⟨he,hb⟩
theorem q1e{q:Rat}{most:Nat}{w w':World}{e:Ending}(h:qbr q most=false)(he:e = .returned (.tuple #[.string ⟨#[]⟩,.bool false]))(hb:Below w.heap.size w w'):qs7 q most w e w':=by
 unfold qs7;rw[h,if_neg (by simp)];exact⟨he,hb⟩
def qei(w:World)(na:Bool)(ta ba:Value)(W:World):Prop:=Below w.heap.size w W∧Own W w.heap.size 3 (qcr na ta ba)
theorem qei.later{w:World}{na:Bool}{ta ba:Value}{W W':World}(h:qei w na ta ba W)(hb:Below W.heap.size W W'):qei w na ta ba W':=by
 obtain⟨h1,h2⟩:=h;exact⟨h1.trans (hb.mono h1.size),h2.later (hb.mono h2.1)⟩
theorem qhe(w:World)(na:Bool)(ta ba:Value):qei w na ta ba (w.alloc (.cells #[.bool na,ta,ba] 85)):=
 ⟨qad _ _,qqm w na ta ba⟩
theorem qhf{w W:World}{na:Bool}{ta ba:Value}(h:qei w na ta ba W):W.cell? ⟨w.heap.size,0,none⟩=some (.bool na)∧W.cell? ⟨w.heap.size,1,none⟩=some ta∧W.cell? ⟨w.heap.size,2,none⟩=some ba:=
 ⟨(h.2.2 0 (by omega)).1,(h.2.2 1 (by omega)).1,(h.2.2 2 (by omega)).1⟩
theorem qs8{v:Value}{n most:Nat}{w:World}(h:qa2 w v n)(aQ:wl n≤Cap)(hm:1≤most)(fP:most≤1099511627776)(hl:(qav n).length≤most):
  Calls Tryz.prog 136 #[v,.int .i64 most] w fun e w'=>e = .returned (.tuple #[.string ⟨(qav n).toArray⟩,.bool true])∧Below w.heap.size w w':=
 (qi4 v n most w h aQ hm fP).mono fun e w' h=>by
  unfold qmd at h;rw[if_pos hl,qag hl] at h;exact h
theorem qs9{v:Value}{n most:Nat}{w:World}(h:qa2 w v n)(aQ:wl n≤Cap)(hm:1≤most)(fP:most≤1099511627776)(hl:¬(qav n).length≤most):
  Calls Tryz.prog 136 #[v,.int .i64 most] w fun e w'=>e = .returned (.tuple #[.string ⟨#[]⟩,.bool false])∧Below w.heap.size w w':=
 (qi4 v n most w h aQ hm fP).mono fun e w' h=>by
  unfold qmd at h;rw[if_neg hl,qae hl] at h;exact h
theorem q5b(va:Value)(a:Rat)(most:Nat)(w:World)(ha:qaw w va a)(aQ:rs a≤Cap)(hm:1≤most)(fP:most≤1099511627776):
  Calls Tryz.prog 86 #[va,.int .i64 most] w (qs7 a most w):=by
 obtain⟨aH,aI,aJ,aM,aL,aN,rfl,dM,eO⟩:=ha.parts;obtain⟨_,_,_,he,oQ⟩:=qa4 eO;cases he
 have eM:=hid dM;have lD:=hid eO;have aO:=hid (qhe w (decide (a.num<0)) (.slice aH aI aJ) (.slice aM aL aN));have bO:wl a.num.natAbs≤Cap:=by unfold rs at aQ;omega
 have bJ:wl a.den≤Cap:=by unfold rs at aQ;omega
 by_cases h1:(qav a.num.natAbs).length≤most
 ·have gC:Hid (∀W,qei w (decide (a.num<0)) (.slice aH aI aJ) (.slice aM aL aN) W→Calls Tryz.prog 136 #[.slice aH aI aJ,.int .i64 most] W fun e w'=>e = .returned (.tuple #[.string ⟨(qav a.num.natAbs).toArray⟩,.bool true])∧qei w (decide (a.num<0)) (.slice aH aI aJ) (.slice aM aL aN) w'):=hid fun W hW=>(qs8 (dM.later hW.1) bO hm fP h1).mono fun _ _ ⟨h2,h3⟩=>⟨h2,hW.later h3⟩
  obtain⟨t1,fI⟩:∃t:BA,t=⟨(qav a.num.natAbs).toArray⟩:=⟨_,rfl⟩;have cW:Hid (t1.data.toList=qav a.num.natAbs):=hid (by rw[fI]);rw[←fI] at gC;clear fI
  have hts1:t1.size≤1099511627776:=by
   have:=congrArg List.length cW.out;simp at this;omega
  by_cases hd:a.den=1
  ·have dF:Hid (qbr a most=true):=hid (by unfold qbr;rw[qag h1,qag hd];rfl)
   have kF:aL=0:=by rw[oQ,if_pos hd];exact qcx
   subst kF;have oS:Hid (qa7 a=(if a.num<0 then[45] else[])++qav a.num.natAbs):=hid (by unfold qa7;rw[if_pos hd];simp);clear ha dM eO oQ bO bJ aQ h1 hd hm fP;by_cases hs:a.num<0
   ·rw[if_pos hs] at oS
    rw[qag hs] at gC aO ⊢;clear hs;go_enter Tryz.func86,Tryz.ntmps86;go_wp2_with fail;refine(gC.out _ aO.out).mono ?_;rintro e w1 ⟨rfl,ht⟩;obtain⟨d0,d1,d2⟩:=qhf ht;have aP:=hid ht.1;clear ht aO gC;go_wp2_with fail;go_ret2;exact qnt dF.out (by rw[oS.out];simp[cW.out]) rfl aP.out
   ·rw[if_neg hs] at oS
    rw[qae hs] at gC aO ⊢;clear hs;go_enter Tryz.func86,Tryz.ntmps86;go_wp2_with fail;refine(gC.out _ aO.out).mono ?_;rintro e w1 ⟨rfl,ht⟩;obtain⟨d0,d1,d2⟩:=qhf ht;have aP:=hid ht.1;clear ht aO gC;go_wp2_with fail;go_ret2;exact qnt dF.out (by rw[oS.out];simp[cW.out]) rfl aP.out
  ·rw[if_neg hd] at eO oQ lD
   have kF:((aL:Int)==0)=false:=qan (by have:=qql a.den_pos;omega);by_cases h2:(qav a.den).length≤most
   ·have dF:Hid (qbr a most=true):=hid (by unfold qbr;rw[qag h1,qag h2,Bool.or_true];rfl)
    have oA:Hid (∀W,qei w (decide (a.num<0)) (.slice aH aI aJ) (.slice aM aL aN) W→Calls Tryz.prog 136 #[.slice aM aL aN,.int .i64 most] W fun e w'=>e = .returned (.tuple #[.string ⟨(qav a.den).toArray⟩,.bool true])∧qei w (decide (a.num<0)) (.slice aH aI aJ) (.slice aM aL aN) w'):=hid fun W hW=>(qs8 (eO.later hW.1) bJ hm fP h2).mono fun _ _ ⟨h2,h3⟩=>⟨h2,hW.later h3⟩;obtain⟨t2,jM⟩:∃t:BA,t=⟨(qav a.den).toArray⟩:=⟨_,rfl⟩;have gF:Hid (t2.data.toList=qav a.den):=hid (by rw[jM]);rw[←jM] at oA;clear jM
    have hts2:t2.size≤1099511627776:=by
     have:=congrArg List.length gF.out;simp at this;omega
    have oS:Hid (qa7 a=(if a.num<0 then[45] else[])++qav a.num.natAbs++47::qav a.den):=hid (by unfold qa7;rw[if_neg hd]);clear ha dM eO oQ bO bJ aQ h1 h2 hd hm fP;by_cases hs:a.num<0
    ·rw[if_pos hs] at oS
     rw[qag hs] at gC oA aO ⊢;clear hs;go_enter Tryz.func86,Tryz.ntmps86;go_wp2_with fail;refine(gC.out _ aO.out).mono ?_;rintro e w1 ⟨rfl,ht⟩;have HT:=hid ht;obtain⟨d0,d1,d2⟩:=qhf ht;clear ht aO gC;go_wp2_with fail;refine(oA.out _ HT.out).mono ?_;rintro e w2 ⟨rfl,ht⟩;have aP:=hid ht.1;clear ht HT oA d0 d1 d2;go_wp2_with fail;go_ret2;exact qnt dF.out (by rw[oS.out];simp[cW.out,gF.out]) rfl aP.out
    ·rw[if_neg hs] at oS
     rw[qae hs] at gC oA aO ⊢;clear hs;go_enter Tryz.func86,Tryz.ntmps86;go_wp2_with fail;refine(gC.out _ aO.out).mono ?_;rintro e w1 ⟨rfl,ht⟩;have HT:=hid ht;obtain⟨d0,d1,d2⟩:=qhf ht;clear ht aO gC;go_wp2_with fail;refine(oA.out _ HT.out).mono ?_;rintro e w2 ⟨rfl,ht⟩;have aP:=hid ht.1;clear ht HT oA d0 d1 d2;go_wp2_with fail;go_ret2;exact qnt dF.out (by rw[oS.out];simp[cW.out,gF.out]) rfl aP.out
   ·have dF:Hid (qbr a most=false):=hid (by unfold qbr;rw[qae h2,qae hd];simp)
    have oA:Hid (∀W,qei w (decide (a.num<0)) (.slice aH aI aJ) (.slice aM aL aN) W→Calls Tryz.prog 136 #[.slice aM aL aN,.int .i64 most] W fun e w'=>e = .returned (.tuple #[.string ⟨#[]⟩,.bool false])∧qei w (decide (a.num<0)) (.slice aH aI aJ) (.slice aM aL aN) w'):=hid fun W hW=>(qs9 (eO.later hW.1) bJ hm fP h2).mono fun _ _ ⟨h2,h3⟩=>⟨h2,hW.later h3⟩;clear ha dM eO oQ bO bJ aQ h1 h2 hd hm fP;generalize decide (a.num<0)=na at *;cases na
    all_goals
     go_enter Tryz.func86,Tryz.ntmps86;go_wp2_with fail;refine(gC.out _ aO.out).mono ?_;rintro e w1 ⟨rfl,ht⟩;have HT:=hid ht;obtain⟨d0,d1,d2⟩:=qhf ht;clear ht aO gC;go_wp2_with fail;refine(oA.out _ HT.out).mono ?_;rintro e w2 ⟨rfl,ht⟩;have aP:=hid ht.1;clear ht HT oA d0 d1 d2;go_wp2_with fail;go_ret2;exact q1e dF.out rfl aP.out
 ·have dF:Hid (qbr a most=false):=hid (by unfold qbr;rw[qae h1];rfl)
  have gC:Hid (∀W,qei w (decide (a.num<0)) (.slice aH aI aJ) (.slice aM aL aN) W→Calls Tryz.prog 136 #[.slice aH aI aJ,.int .i64 most] W fun e w'=>e = .returned (.tuple #[.string ⟨#[]⟩,.bool false])∧qei w (decide (a.num<0)) (.slice aH aI aJ) (.slice aM aL aN) w'):=hid fun W hW=>(qs9 (dM.later hW.1) bO hm fP h1).mono fun _ _ ⟨h2,h3⟩=>⟨h2,hW.later h3⟩;clear ha dM eO oQ bO bJ aQ h1 hm fP;generalize decide (a.num<0)=na at *;go_enter Tryz.func86,Tryz.ntmps86;go_wp2_with fail;refine(gC.out _ aO.out).mono ?_;rintro e w1 ⟨rfl,ht⟩;have aP:=hid ht.1;clear ht aO gC;go_wp2_with fail;go_ret2;exact q1e dF.out rfl aP.out
theorem qc8{w W:World}{na:Bool}{ta ba:Value}(h:qei w na ta ba W):
  (W.cell? ⟨w.heap.size,0,none⟩=some (.bool na)∧W.frozen? ⟨w.heap.size,0,none⟩=false)∧
  (W.cell? ⟨w.heap.size,1,none⟩=some ta∧W.frozen? ⟨w.heap.size,1,none⟩=false)∧
  (W.cell? ⟨w.heap.size,2,none⟩=some ba∧W.frozen? ⟨w.heap.size,2,none⟩=false):=
 ⟨h.2.2 0 (by omega),h.2.2 1 (by omega),h.2.2 2 (by omega)⟩
theorem qjt(w:World)(n:Int)(b:Bool)(vt vb:Value)(hb:b=decide (n<0))(ht:qa2 w vt n.natAbs)(hv:qa2 w vb 0):qaw w (.agg #[.bool b,vt,vb]) (n:Rat):=
 ⟨vt,vb,by rw[hb];rfl,by simpa using ht,by simpa using hv⟩
theorem qet(n:Int)(w:World)(h0 : -9223372036854775808≤n)(h1:n≤9223372036854775807):
  Calls Tryz.prog 51 #[.int .i64 n] w fun e w'=>(∃v',e = .returned v'∧qaw w' v' (n:Rat))∧Below w.heap.size w w':=by
 obtain⟨m,hm⟩:∃m,m=n.natAbs:=⟨_,rfl⟩;have hmB:m<B64:=by rw[qaj];omega
 have aO:=hid (qhe w false (.slice none 0 0) (.slice none 0 0))
 have Hl:Hid (Calls Tryz.prog 101 #[.slice (some ⟨w.heap.size+1,0,none⟩) 1 1] ((w.alloc (.cells #[.bool false,.slice none 0 0,.slice none 0 0] 85)).alloc (.cells #[.int .u64 (m:Nat)] 155)) fun e w'=>(∃v',e = .returned v'∧qa2 ((w.alloc (.cells #[.bool false,.slice none 0 0,.slice none 0 0] 85)).alloc (.cells #[.int .u64 (m:Nat)] 155)) v' m)∧(w.alloc (.cells #[.bool false,.slice none 0 0,.slice none 0 0] 85)).alloc (.cells #[.int .u64 (m:Nat)] 155)=w'):=hid (by
  have h:=qw6 (w.alloc (.cells #[.bool false,.slice none 0 0,.slice none 0 0] 85)) m hmB;rw[qab] at h
  exact h)
 have tW:Hid (∀W v,qei w false (.slice none 0 0) (.slice none 0 0) W→qa2 W v m→Calls Tryz.prog 85 #[.bool (decide (n<0)),v,.slice none 0 0] W fun e w'=>(∃v',e = .returned v'∧qaw w' v' (n:Rat))∧qei w false (.slice none 0 0) (.slice none 0 0) w'):=hid fun W v hW hv=>by
  refine(qe3 (decide (n<0)) (decide (n<0)) v (.slice none 0 0) m 0 0 W hv (qa2.nil W) ?_ rfl).mono ?_
  ·by_cases h:n<0
   ·rw[qag h,qag (by omega:0<m)];rfl
   ·rw[qae h];rfl
  ·rintro e w' ⟨⟨vb',rfl,h1,h2⟩,hb⟩
   exact⟨⟨_,rfl,qjt w' n _ _ _ rfl (by rw[←hm];exact h1) h2⟩,hW.later hb⟩
 have HM:=hid hm;clear hm hmB;by_cases hn:n<0
 ·obtain⟨z,hz⟩:∃z,z=IntKind.u64.wrap n:=⟨_,rfl⟩
  have eF:IntKind.u64.wrap (-z)=(m:Int):=by
   rw[hz,IntKind.wrap_u64,IntKind.wrap_u64,HM.out];omega
  have dV:IntKind.u64.wrap n=z:=hz.symm;clear hz h0 h1;rw[qag hn] at tW;go_enter Tryz.func51,Tryz.ntmps51;go_wp2_with fail;refine Hl.out.mono ?_;rintro e w1 ⟨⟨v1,rfl,dT⟩,cU⟩;rw[←cU];have Bo:Hid (qei w false (.slice none 0 0) (.slice none 0 0) ((w.alloc (.cells #[.bool false,.slice none 0 0,.slice none 0 0] 85)).alloc (.cells #[.int .u64 (m:Nat)] 155))):=hid (aO.out.later (qad _ _));have dI:=hid dT;clear cU dT Hl;go_wp2_with fail;refine(tW.out _ _ Bo.out dI.out).mono ?_;rintro e w2 ⟨⟨v2,rfl,pJ⟩,oL⟩;obtain⟨pt,kt,ct,pf,kf,cf,rfl,eL,dO⟩:=pJ.parts;generalize decide ((n:Rat).num<0)=sg at *;obtain⟨⟨r0,g0⟩,⟨r1,g1⟩,⟨r2,g2⟩⟩:=qc8 oL;have aF:=hid (qb6 pJ r0 r1 r2);have aG:=hid (qax oL.1 (qac w.heap.size) (.bool sg) (.slice pt kt ct) (.slice pf kf cf));clear eL dO pJ oL Bo dI tW aO;go_wp2_with fail;refine bodyPost_ret (v := .agg #[.bool sg,.slice pt kt ct,.slice pf kf cf]) ?_ rfl ?_
  ·simp[results,Tryz.results51,go_sem,r0,r1,r2]
  ·exact⟨⟨_,rfl,aF.out⟩,aG.out⟩
 ·have dV:IntKind.u64.wrap n=(m:Int):=by
   rw[IntKind.wrap_u64,HM.out];omega
  clear h0 h1;rw[qae hn] at tW;go_enter Tryz.func51,Tryz.ntmps51;go_wp2_with fail;refine Hl.out.mono ?_;rintro e w1 ⟨⟨v1,rfl,dT⟩,cU⟩;rw[←cU];have Bo:Hid (qei w false (.slice none 0 0) (.slice none 0 0) ((w.alloc (.cells #[.bool false,.slice none 0 0,.slice none 0 0] 85)).alloc (.cells #[.int .u64 (m:Nat)] 155))):=hid (aO.out.later (qad _ _));have dI:=hid dT;clear cU dT Hl;go_wp2_with fail;refine(tW.out _ _ Bo.out dI.out).mono ?_;rintro e w2 ⟨⟨v2,rfl,pJ⟩,oL⟩;obtain⟨pt,kt,ct,pf,kf,cf,rfl,eL,dO⟩:=pJ.parts;generalize decide ((n:Rat).num<0)=sg at *;obtain⟨⟨r0,g0⟩,⟨r1,g1⟩,⟨r2,g2⟩⟩:=qc8 oL;have aF:=hid (qb6 pJ r0 r1 r2);have aG:=hid (qax oL.1 (qac w.heap.size) (.bool sg) (.slice pt kt ct) (.slice pf kf cf));clear eL dO pJ oL Bo dI tW aO;go_wp2_with fail;refine bodyPost_ret (v := .agg #[.bool sg,.slice pt kt ct,.slice pf kf cf]) ?_ rfl ?_
  ·simp[results,Tryz.results51,go_sem,r0,r1,r2]
  ·exact⟨⟨_,rfl,aF.out⟩,aG.out⟩
end Go.Proofs.YtmcfcpgglfimjaaGreatDoor
