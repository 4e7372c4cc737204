/- Text: the text of a rational number. -/
import Derived.Test.YtlkdlffhmakbgaaGreatDoorMWrite
import Derived.Test.YtlkdlffhmakbgaaGreatDoorMOrder
import Derived.Lib.SmallJoins
set_option linter.all false
namespace Go.Proofs.YtlkdlffhmakbgaaGreatDoor
open Go.RowKit
set_option maxRecDepth 100000
set_option maxHeartbeats 2000000
def qa2(q:Rat):List UInt8:=(if q.num<0 then[45] else[])++qax q.num.natAbs++(if q.den=1 then[] else 47::qax q.den)
def qby(q:Rat)(most:Nat):Bool:=decide ((qax q.num.natAbs).length≤most)&&(decide (q.den=1)||decide ((qax q.den).length≤most))
def qta(q:Rat)(most:Nat)(w:World)(e:Ending)(w':World):Prop:=
 e = .returned (.tuple #[.string (if qby q most then⟨(qa2 q).toArray⟩ else⟨#[]⟩),.bool (qby q most)])∧Below w.heap.size w w'
theorem qnz{q:Rat}{most:Nat}{w w':World}{e:Ending}{t:BA}(h:qby q most=true)(ht:t.data.toList=qa2 q)(he:e = .returned (.tuple #[.string t,.bool true]))(hb:Below w.heap.size w w'):qta q most w e w':=by
 have e1:t=⟨(qa2 q).toArray⟩:=by rw[←ht]
 unfold qta;rw[h,if_pos rfl,←e1];exact⟨he,hb⟩
theorem q1b{q:Rat}{most:Nat}{w w':World}{e:Ending}(h:qby q most=false)(he:e = .returned (.tuple #[.string ⟨#[]⟩,.bool false]))(hb:Below w.heap.size w w'):qta q most w e w':=by
 unfold qta;rw[h,if_neg (by simp)];exact⟨he,hb⟩
def qem(w:World)(na:Bool)(ta ba:Value)(W:World):Prop:=Below w.heap.size w W∧Own W w.heap.size 3 (qcs na ta ba)
theorem qem.later{w:World}{na:Bool}{ta ba:Value}{W W':World}(h:qem w na ta ba W)(hb:Below W.heap.size W W'):qem w na ta ba W':=by
 obtain⟨h1,h2⟩:=h;exact⟨h1.trans (hb.mono h1.size),h2.later (hb.mono h2.1)⟩
theorem qha(w:World)(na:Bool)(ta ba:Value):qem w na ta ba (w.alloc (.cells #[.bool na,ta,ba] 87)):=
 ⟨qad _ _,qqk w na ta ba⟩
theorem qhb{w W:World}{na:Bool}{ta ba:Value}(h:qem w na ta ba W):W.cell? ⟨w.heap.size,0,none⟩=some (.bool na)∧W.cell? ⟨w.heap.size,1,none⟩=some ta∧W.cell? ⟨w.heap.size,2,none⟩=some ba:=
 ⟨(h.2.2 0 (by omega)).1,(h.2.2 1 (by omega)).1,(h.2.2 2 (by omega)).1⟩
theorem qtb{v:Value}{n most:Nat}{w:World}(h:qa5 w v n)(aQ:wl n≤Cap)(hm:1≤most)(fL:most≤1099511627776)(hl:(qax n).length≤most):
  Calls Tryz.prog 144 #[v,.int .i64 most] w fun e w'=>e = .returned (.tuple #[.string ⟨(qax n).toArray⟩,.bool true])∧Below w.heap.size w w':=
 (qi4 v n most w h aQ hm fL).mono fun e w' h=>by
  unfold qmm at h;rw[if_pos hl,qag hl] at h;exact h
theorem qtc{v:Value}{n most:Nat}{w:World}(h:qa5 w v n)(aQ:wl n≤Cap)(hm:1≤most)(fL:most≤1099511627776)(hl:¬(qax n).length≤most):
  Calls Tryz.prog 144 #[v,.int .i64 most] w fun e w'=>e = .returned (.tuple #[.string ⟨#[]⟩,.bool false])∧Below w.heap.size w w':=
 (qi4 v n most w h aQ hm fL).mono fun e w' h=>by
  unfold qmm at h;rw[if_neg hl,qaf hl] at h;exact h
theorem q42(va:Value)(a:Rat)(most:Nat)(w:World)(ha:qau w va a)(aQ:rs a≤Cap)(hm:1≤most)(fL:most≤1099511627776):
  Calls Tryz.prog 95 #[va,.int .i64 most] w (qta a most w):=by
 obtain⟨aH,aI,aJ,aN,aL,aO,rfl,dQ,eR⟩:=ha.parts;obtain⟨_,_,_,he,nP⟩:=qa7 eR;cases he
 have eP:=hid dQ;have mC:=hid eR;have aM:=hid (qha w (decide (a.num<0)) (.slice aH aI aJ) (.slice aN aL aO));have bO:wl a.num.natAbs≤Cap:=by unfold rs at aQ;omega
 have bG:wl a.den≤Cap:=by unfold rs at aQ;omega
 by_cases h1:(qax a.num.natAbs).length≤most
 ·have gQ:Hid (∀W,qem w (decide (a.num<0)) (.slice aH aI aJ) (.slice aN aL aO) W→Calls Tryz.prog 144 #[.slice aH aI aJ,.int .i64 most] W fun e w'=>e = .returned (.tuple #[.string ⟨(qax a.num.natAbs).toArray⟩,.bool true])∧qem w (decide (a.num<0)) (.slice aH aI aJ) (.slice aN aL aO) w'):=hid fun W hW=>(qtb (dQ.later hW.1) bO hm fL h1).mono fun _ _ ⟨h2,h3⟩=>⟨h2,hW.later h3⟩
  obtain⟨t1,eW⟩:∃t:BA,t=⟨(qax a.num.natAbs).toArray⟩:=⟨_,rfl⟩;have cV:Hid (t1.data.toList=qax a.num.natAbs):=hid (by rw[eW]);rw[←eW] at gQ;clear eW
  have hts1:t1.size≤1099511627776:=by
   have:=congrArg List.length cV.out;simp at this;omega
  by_cases hd:a.den=1
  ·have dJ:Hid (qby a most=true):=hid (by unfold qby;rw[qag h1,qag hd];rfl)
   have kV:aL=0:=by rw[nP,if_pos hd];exact qcw
   subst kV;have pU:Hid (qa2 a=(if a.num<0 then[45] else[])++qax a.num.natAbs):=hid (by unfold qa2;rw[if_pos hd];simp);clear ha dQ eR nP bO bG aQ h1 hd hm fL;by_cases hs:a.num<0
   ·rw[if_pos hs] at pU
    rw[qag hs] at gQ aM ⊢;clear hs;go_enter Tryz.func95,Tryz.ntmps95;go_wp2_with fail;refine(gQ.out _ aM.out).mono ?_;rintro e w1 ⟨rfl,ht⟩;obtain⟨d0,d1,d2⟩:=qhb ht;have aP:=hid ht.1;clear ht aM gQ;go_wp2_with fail;go_ret2;exact qnz dJ.out (by rw[pU.out];simp[cV.out]) rfl aP.out
   ·rw[if_neg hs] at pU
    rw[qaf hs] at gQ aM ⊢;clear hs;go_enter Tryz.func95,Tryz.ntmps95;go_wp2_with fail;refine(gQ.out _ aM.out).mono ?_;rintro e w1 ⟨rfl,ht⟩;obtain⟨d0,d1,d2⟩:=qhb ht;have aP:=hid ht.1;clear ht aM gQ;go_wp2_with fail;go_ret2;exact qnz dJ.out (by rw[pU.out];simp[cV.out]) rfl aP.out
  ·rw[if_neg hd] at eR nP mC
   have kV:((aL:Int)==0)=false:=qam (by have:=qqj a.den_pos;omega);by_cases h2:(qax a.den).length≤most
   ·have dJ:Hid (qby a most=true):=hid (by unfold qby;rw[qag h1,qag h2,Bool.or_true];rfl)
    have oX:Hid (∀W,qem w (decide (a.num<0)) (.slice aH aI aJ) (.slice aN aL aO) W→Calls Tryz.prog 144 #[.slice aN aL aO,.int .i64 most] W fun e w'=>e = .returned (.tuple #[.string ⟨(qax a.den).toArray⟩,.bool true])∧qem w (decide (a.num<0)) (.slice aH aI aJ) (.slice aN aL aO) w'):=hid fun W hW=>(qtb (eR.later hW.1) bG hm fL h2).mono fun _ _ ⟨h2,h3⟩=>⟨h2,hW.later h3⟩;obtain⟨t2,gT⟩:∃t:BA,t=⟨(qax a.den).toArray⟩:=⟨_,rfl⟩;have fZ:Hid (t2.data.toList=qax a.den):=hid (by rw[gT]);rw[←gT] at oX;clear gT
    have hts2:t2.size≤1099511627776:=by
     have:=congrArg List.length fZ.out;simp at this;omega
    have pU:Hid (qa2 a=(if a.num<0 then[45] else[])++qax a.num.natAbs++47::qax a.den):=hid (by unfold qa2;rw[if_neg hd]);clear ha dQ eR nP bO bG aQ h1 h2 hd hm fL;by_cases hs:a.num<0
    ·rw[if_pos hs] at pU
     rw[qag hs] at gQ oX aM ⊢;clear hs;go_enter Tryz.func95,Tryz.ntmps95;go_wp2_with fail;refine(gQ.out _ aM.out).mono ?_;rintro e w1 ⟨rfl,ht⟩;have HT:=hid ht;obtain⟨d0,d1,d2⟩:=qhb ht;clear ht aM gQ;go_wp2_with fail;refine(oX.out _ HT.out).mono ?_;rintro e w2 ⟨rfl,ht⟩;have aP:=hid ht.1;clear ht HT oX d0 d1 d2;go_wp2_with fail;go_ret2;exact qnz dJ.out (by rw[pU.out];simp[cV.out,fZ.out]) rfl aP.out
    ·rw[if_neg hs] at pU
     rw[qaf hs] at gQ oX aM ⊢;clear hs;go_enter Tryz.func95,Tryz.ntmps95;go_wp2_with fail;refine(gQ.out _ aM.out).mono ?_;rintro e w1 ⟨rfl,ht⟩;have HT:=hid ht;obtain⟨d0,d1,d2⟩:=qhb ht;clear ht aM gQ;go_wp2_with fail;refine(oX.out _ HT.out).mono ?_;rintro e w2 ⟨rfl,ht⟩;have aP:=hid ht.1;clear ht HT oX d0 d1 d2;go_wp2_with fail;go_ret2;exact qnz dJ.out (by rw[pU.out];simp[cV.out,fZ.out]) rfl aP.out
   ·have dJ:Hid (qby a most=false):=hid (by unfold qby;rw[qaf h2,qaf hd];simp)
    have oX:Hid (∀W,qem w (decide (a.num<0)) (.slice aH aI aJ) (.slice aN aL aO) W→Calls Tryz.prog 144 #[.slice aN aL aO,.int .i64 most] W fun e w'=>e = .returned (.tuple #[.string ⟨#[]⟩,.bool false])∧qem w (decide (a.num<0)) (.slice aH aI aJ) (.slice aN aL aO) w'):=hid fun W hW=>(qtc (eR.later hW.1) bG hm fL h2).mono fun _ _ ⟨h2,h3⟩=>⟨h2,hW.later h3⟩;clear ha dQ eR nP bO bG aQ h1 h2 hd hm fL;generalize decide (a.num<0)=na at *;cases na
    all_goals
     go_enter Tryz.func95,Tryz.ntmps95;go_wp2_with fail;refine(gQ.out _ aM.out).mono ?_;rintro e w1 ⟨rfl,ht⟩;have HT:=hid ht;obtain⟨d0,d1,d2⟩:=qhb ht;clear ht aM gQ;go_wp2_with fail;refine(oX.out _ HT.out).mono ?_;rintro e w2 ⟨rfl,ht⟩;have aP:=hid ht.1;clear ht HT oX d0 d1 d2;go_wp2_with fail;go_ret2;exact q1b dJ.out rfl aP.out
 ·have dJ:Hid (qby a most=false):=hid (by unfold qby;rw[qaf h1];rfl)
  have gQ:Hid (∀W,qem w (decide (a.num<0)) (.slice aH aI aJ) (.slice aN aL aO) W→Calls Tryz.prog 144 #[.slice aH aI aJ,.int .i64 most] W fun e w'=>e = .returned (.tuple #[.string ⟨#[]⟩,.bool false])∧qem w (decide (a.num<0)) (.slice aH aI aJ) (.slice aN aL aO) w'):=hid fun W hW=>(qtc (dQ.later hW.1) bO hm fL h1).mono fun _ _ ⟨h2,h3⟩=>⟨h2,hW.later h3⟩;clear ha dQ eR nP bO bG aQ h1 hm fL;generalize decide (a.num<0)=na at *;go_enter Tryz.func95,Tryz.ntmps95;go_wp2_with fail;refine(gQ.out _ aM.out).mono ?_;rintro e w1 ⟨rfl,ht⟩;have aP:=hid ht.1;clear ht aM gQ;go_wp2_with fail;go_ret2;exact q1b dJ.out rfl aP.out
theorem qdd{w W:World}{na:Bool}{ta ba:Value}(h:qem w na ta ba W):
  (W.cell? ⟨w.heap.size,0,none⟩=some (.bool na)∧W.frozen? ⟨w.heap.size,0,none⟩=false)∧
  (W.cell? ⟨w.heap.size,1,none⟩=some ta∧W.frozen? ⟨w.heap.size,1,none⟩=false)∧
  (W.cell? ⟨w.heap.size,2,none⟩=some ba∧W.frozen? ⟨w.heap.size,2,none⟩=false):=
 ⟨h.2.2 0 (by omega),h.2.2 1 (by omega),h.2.2 2 (by omega)⟩
theorem qjp(w:World)(n:Int)(b:Bool)(vt vb:Value)(hb:b=decide (n<0))(ht:qa5 w vt n.natAbs)(hv:qa5 w vb 0):qau w (.agg #[.bool b,vt,vb]) (n:Rat):=
 ⟨vt,vb,by rw[hb];rfl,by simpa using ht,by simpa using hv⟩
theorem qe0(n:Int)(w:World)(h0 : -9223372036854775808≤n)(h1:n≤9223372036854775807):
  Calls Tryz.prog 53 #[.int .i64 n] w fun e w'=>(∃v',e = .returned v'∧qau w' v' (n:Rat))∧Below w.heap.size w w':=by
 obtain⟨m,hm⟩:∃m,m=n.natAbs:=⟨_,rfl⟩;have hmB:m<B64:=by rw[qai];omega
 have aM:=hid (qha w false (.slice none 0 0) (.slice none 0 0))
 have It:Hid (Calls Tryz.prog 110 #[.slice (some ⟨w.heap.size+1,0,none⟩) 1 1] ((w.alloc (.cells #[.bool false,.slice none 0 0,.slice none 0 0] 87)).alloc (.cells #[.int .u64 (m:Nat)] 160)) fun e w'=>(∃v',e = .returned v'∧qa5 ((w.alloc (.cells #[.bool false,.slice none 0 0,.slice none 0 0] 87)).alloc (.cells #[.int .u64 (m:Nat)] 160)) v' m)∧(w.alloc (.cells #[.bool false,.slice none 0 0,.slice none 0 0] 87)).alloc (.cells #[.int .u64 (m:Nat)] 160)=w'):=hid (by
  have h:=qw1 (w.alloc (.cells #[.bool false,.slice none 0 0,.slice none 0 0] 87)) m hmB;rw[qab] at h
  exact h)
 have uN:Hid (∀W v,qem w false (.slice none 0 0) (.slice none 0 0) W→qa5 W v m→Calls Tryz.prog 94 #[.bool (decide (n<0)),v,.slice none 0 0] W fun e w'=>(∃v',e = .returned v'∧qau w' v' (n:Rat))∧qem w false (.slice none 0 0) (.slice none 0 0) w'):=hid fun W v hW hv=>by
  refine(qe5 (decide (n<0)) (decide (n<0)) v (.slice none 0 0) m 0 0 W hv (qa5.nil W) ?_ rfl).mono ?_
  ·by_cases h:n<0
   ·rw[qag h,qag (by omega:0<m)];rfl
   ·rw[qaf h];rfl
  ·rintro e w' ⟨⟨vb',rfl,h1,h2⟩,hb⟩
   exact⟨⟨_,rfl,qjp w' n _ _ _ rfl (by rw[←hm];exact h1) h2⟩,hW.later hb⟩
 have HM:=hid hm;clear hm hmB;by_cases hn:n<0
 ·obtain⟨z,hz⟩:∃z,z=IntKind.u64.wrap n:=⟨_,rfl⟩
  have eK:IntKind.u64.wrap (-z)=(m:Int):=by
   rw[hz,IntKind.wrap_u64,IntKind.wrap_u64,HM.out];omega
  have eE:IntKind.u64.wrap n=z:=hz.symm;clear hz h0 h1;rw[qag hn] at uN;go_enter Tryz.func53,Tryz.ntmps53;go_wp2_with fail;refine It.out.mono ?_;rintro e w1 ⟨⟨v1,rfl,dZ⟩,cY⟩;rw[←cY];have Cv:Hid (qem w false (.slice none 0 0) (.slice none 0 0) ((w.alloc (.cells #[.bool false,.slice none 0 0,.slice none 0 0] 87)).alloc (.cells #[.int .u64 (m:Nat)] 160))):=hid (aM.out.later (qad _ _));have dH:=hid dZ;clear cY dZ It;go_wp2_with fail;refine(uN.out _ _ Cv.out dH.out).mono ?_;rintro e w2 ⟨⟨v2,rfl,qD⟩,pN⟩;obtain⟨pt,kt,ct,pf,kf,cf,rfl,dW,dP⟩:=qD.parts;generalize decide ((n:Rat).num<0)=sg at *;obtain⟨⟨r0,g0⟩,⟨r1,g1⟩,⟨r2,g2⟩⟩:=qdd pN;have aF:=hid (qb5 qD r0 r1 r2);have aG:=hid (qaw pN.1 (qac w.heap.size) (.bool sg) (.slice pt kt ct) (.slice pf kf cf));clear dW dP qD pN Cv dH uN aM;go_wp2_with fail;refine bodyPost_ret (v := .agg #[.bool sg,.slice pt kt ct,.slice pf kf cf]) ?_ rfl ?_
  ·simp[results,Tryz.results53,go_sem,r0,r1,r2]
  ·exact⟨⟨_,rfl,aF.out⟩,aG.out⟩
 ·have eE:IntKind.u64.wrap n=(m:Int):=by
   rw[IntKind.wrap_u64,HM.out];omega
  clear h0 h1;rw[qaf hn] at uN;go_enter Tryz.func53,Tryz.ntmps53;go_wp2_with fail;refine It.out.mono ?_;rintro e w1 ⟨⟨v1,rfl,dZ⟩,cY⟩;rw[←cY];have Cv:Hid (qem w false (.slice none 0 0) (.slice none 0 0) ((w.alloc (.cells #[.bool false,.slice none 0 0,.slice none 0 0] 87)).alloc (.cells #[.int .u64 (m:Nat)] 160))):=hid (aM.out.later (qad _ _));have dH:=hid dZ;clear cY dZ It;go_wp2_with fail;refine(uN.out _ _ Cv.out dH.out).mono ?_;rintro e w2 ⟨⟨v2,rfl,qD⟩,pN⟩;obtain⟨pt,kt,ct,pf,kf,cf,rfl,dW,dP⟩:=qD.parts;generalize decide ((n:Rat).num<0)=sg at *;obtain⟨⟨r0,g0⟩,⟨r1,g1⟩,⟨r2,g2⟩⟩:=qdd pN;have aF:=hid (qb5 qD r0 r1 r2);have aG:=hid (qaw pN.1 (qac w.heap.size) (.bool sg) (.slice pt kt ct) (.slice pf kf cf));clear dW dP qD pN Cv dH uN aM;go_wp2_with fail;refine bodyPost_ret (v := .agg #[.bool sg,.slice pt kt ct,.slice pf kf cf]) ?_ rfl ?_
  ·simp[results,Tryz.results53,go_sem,r0,r1,r2]
  ·exact⟨⟨_,rfl,aF.out⟩,aG.out⟩
end Go.Proofs.YtlkdlffhmakbgaaGreatDoor
