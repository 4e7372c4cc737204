/- The small functions of rational numbers: number, denominator, IsWhole, Sign, Negated, addSigned. -/
import Derived.Test.YtlkdlffhmakbgaaGreatDoorMGcd
import Derived.Test.YtlkdlffhmakbgaaGreatDoorMMaths
set_option linter.all false
namespace Go.Proofs.YtlkdlffhmakbgaaGreatDoor
open Go.RowKit
set_option maxRecDepth 100000
set_option maxHeartbeats 2000000
def qau(w:World)(v:Value)(q:Rat):Prop:=
 ∃top bot,v = .agg #[.bool (decide (q.num<0)),top,bot]∧qa5 w top q.num.natAbs∧qa5 w bot (if q.den=1 then 0 else q.den)
theorem qau.later{w w':World}{v:Value}{q:Rat}(h:qau w v q)(hb:Below w.heap.size w w'):qau w' v q:=by
 obtain⟨top,bot,h1,h2,h3⟩:=h;exact⟨top,bot,h1,h2.later hb,h3.later hb⟩
def sgn(q:Rat):Int:=if q.num<0 then -1 else if q.num=0 then 0 else 1
theorem qa7{w:World}{v:Value}{n:Nat}(h:qa5 w v n):∃(p:Option Addr) (k c:Nat),v = .slice p k c∧k=wl n:=by
 obtain⟨_,p,c,hv,_⟩:=h;exact⟨p,_,c,hv,rfl⟩
theorem qqj{n:Nat}(h:0<n):0<wl n:=by
 rcases qas (wl n) with e|e
 ·have:=qeu e;omega
 ·exact e
theorem qcw:wl 0=0:=by unfold wl;rw[qat];rfl
theorem qdu(v:Value)(q:Rat)(w:World)(h:qau w v q):
  Calls Tryz.prog 98 #[v] w fun e w'=>e = .returned (.int .i64 (sgn q))∧Below w.heap.size w w':=by
 obtain⟨top,bot,rfl,h1,_⟩:=h;obtain⟨p,k,c,rfl,hk⟩:=qa7 h1;have HB:∀o,Hid (Below w.heap.size w (w.alloc o)):=fun o=>hid (qad _ _);by_cases hn:q.num<0
 ·have HS:Hid (sgn q = -1):=hid (if_pos hn)
  have hd:decide (q.num<0)=true:=qag hn;rw[hd];clear hd hn h1 hk;go_enter Tryz.func98,Tryz.ntmps98;go_wp2_with fail;go_ret;exact⟨qa1 HS.out.symm,(HB _).out⟩
 ·have hd:decide (q.num<0)=false:=qaf hn
  rw[hd];by_cases h0:q.num=0
  ·have HS:Hid (sgn q=0):=hid (by unfold sgn;rw[if_neg hn,if_pos h0])
   have kV:k=0:=by rw[hk,h0];exact qcw
   subst kV;clear hd hn h1 hk h0;go_enter Tryz.func98,Tryz.ntmps98;go_wp2_with fail;go_ret;exact⟨qa1 HS.out.symm,(HB _).out⟩
  ·have HS:Hid (sgn q=1):=hid (by unfold sgn;rw[if_neg hn,if_neg h0])
   have kV:0<k:=by rw[hk];exact qqj (by omega)
   have nP:((k:Int)==0)=false:=qam (by omega);clear hd hn h1 hk h0 kV;go_enter Tryz.func98,Tryz.ntmps98;go_wp2_with fail;go_ret;exact⟨qa1 HS.out.symm,(HB _).out⟩
theorem qkk(v:Value)(q:Rat)(w:World)(h:qau w v q):
  Calls Tryz.prog 99 #[v] w fun e w'=>e = .returned (.bool (decide (q.den=1)))∧Below w.heap.size w w':=by
 obtain⟨top,bot,rfl,_,h1⟩:=h;obtain⟨p,k,c,rfl,hk⟩:=qa7 h1;have HB:∀o,Hid (Below w.heap.size w (w.alloc o)):=fun o=>hid (qad _ _);generalize decide (q.num<0)=neg
 have HK:Hid (((k:Int)==0)=decide (q.den=1)):=by
  refine hid ?_;by_cases hd:q.den=1
  ·rw[if_pos hd,qcw] at hk
   rw[hk,qag hd];rfl
  ·rw[if_neg hd] at hk
   have:=qqj q.den_pos;rw[qaf hd];exact qam (by omega)
 clear h1 hk;go_enter Tryz.func99,Tryz.ntmps99;go_wp2_with fail;go_ret;exact⟨qa9 HK.out,(HB _).out⟩
theorem qb8(v:Value)(q:Rat)(w:World)(h:qau w v q):
  Calls Tryz.prog 109 #[v] w fun e w'=>(∃v',e = .returned v'∧qa5 w' v' q.den)∧Below w.heap.size w w':=by
 obtain⟨top,bot,rfl,_,h1⟩:=h;obtain⟨p,k,c,rfl,hk⟩:=qa7 h1;generalize decide (q.num<0)=neg;have HH:=hid h1;have HB:∀o,Hid (Below w.heap.size w (w.alloc o)):=fun o=>hid (qad _ _);by_cases hd:q.den=1
 ·rw[if_pos hd,qcw] at hk
  subst hk;have HD:=hid hd;have Bn:Hid (∀W:World,qa5 (W.alloc (.cells #[.int .u64 ((1:Nat):Int)] 160)) (.slice (some ⟨W.heap.size,0,none⟩) 1 1) 1):=hid fun W=>qkj W 1 (by rw[qai];omega) (by omega);clear h1 hd;go_enter Tryz.func109,Tryz.ntmps109;go_wp2_with fail;go_ret;refine⟨⟨_,rfl, ?_⟩, ?_⟩
  ·rw[HD.out]
   have:=Bn.out (w.alloc (.cells #[.bool neg,top,.slice p 0 c] 87));rw[qab] at this;exact this
  ·exact(HB _).out.alloc (by rw[qab];omega) _
 ·rw[if_neg hd] at HH hk
  have nP:((k:Int)==0)=false:=qam (by have:=qqj q.den_pos;omega);clear h1 hd hk;go_enter Tryz.func109,Tryz.ntmps109;go_wp2_with fail;go_ret;exact⟨⟨_,rfl,HH.out.later (HB _).out⟩,(HB _).out⟩
theorem qe5(neg nb:Bool)(vt vb:Value)(p d dd:Nat)(w:World)(ht:qa5 w vt p)(hb:qa5 w vb d)(gO:nb=(neg&&decide (0<p)))(sN:dd=if d=1 then 0 else d):
  Calls Tryz.prog 94 #[.bool neg,vt,vb] w fun e w'=>(∃vb',e = .returned (.agg #[.bool nb,vt,vb'])∧qa5 w' vt p∧qa5 w' vb' dd)∧Below w.heap.size w w':=by
 have Cy:=fun(b:Bool) (hbb:b=decide (d=1)) (W:World) (h:Below w.heap.size w W)=>qcm vb d b hbb W (hb.later h);obtain⟨pt,k,c,rfl,hk⟩:=qa7 ht;obtain⟨pb,kb,cb,rfl,nP⟩:=qa7 hb;clear nP;have HT:=hid ht;have aW:=hid hb;have HB:∀o,Hid (Below w.heap.size w (w.alloc o)):=fun o=>hid (qad _ _)
 have HK:Hid (nb=(neg&&decide (0<k))):=by
  refine hid ?_;rw[gO,hk]
  congr 1
  refine decide_eq_decide.2 ?_;rcases qas p with e|e
  ·rw[e,qcw]
  ·have:=qqj e;omega
 by_cases hd:d=1
 ·have HO:=hid (Cy true (by simp[hd]))
  have HD:Hid (dd=0):=hid (by rw[sN,if_pos hd]);clear Cy ht hb hd hk gO sN;cases neg
  all_goals
   go_enter Tryz.func94,Tryz.ntmps94;go_wp2_with fail;refine(HO.out _ (HB _).out).mono ?_;rintro e w' ⟨rfl,hw⟩;subst hw;go_wp2_with fail;have hk:=HK.out;simp only[Bool.false_and,Bool.true_and] at hk;refine bodyPost_ret (v := .agg #[.bool nb,.slice pt k c,.slice none 0 0]) ?_ rfl ?_
   ·simp[results,Tryz.results94,go_sem,hk]
   ·exact⟨⟨_,rfl,HT.out.later (HB _).out,by rw[HD.out];exact qa5.nil _⟩,(HB _).out⟩
 ·have HO:=hid (Cy false (by simp[hd]))
  have HD:Hid (dd=d):=hid (by rw[sN,if_neg hd]);clear Cy ht hb hd hk gO sN;cases neg
  all_goals
   go_enter Tryz.func94,Tryz.ntmps94;go_wp2_with fail;refine(HO.out _ (HB _).out).mono ?_;rintro e w' ⟨rfl,hw⟩;subst hw;go_wp2_with fail;have hk:=HK.out;simp only[Bool.false_and,Bool.true_and] at hk;refine bodyPost_ret (v := .agg #[.bool nb,.slice pt k c,.slice pb kb cb]) ?_ rfl ?_
   ·simp[results,Tryz.results94,go_sem,hk]
   ·exact⟨⟨_,rfl,HT.out.later (HB _).out,by rw[HD.out];exact aW.out.later (HB _).out⟩,(HB _).out⟩
def qs1(z:Int)(w:World)(e:Ending)(w':World):Prop:=
 (∃(ns:Bool) (vs:Value) (s:Nat),e = .returned (.tuple #[.bool ns,vs])∧qa5 w' vs s∧(if ns then -(s:Int) else s)=z)∧Below w.heap.size w w'
theorem qi2{z:Int}{w w':World}{e:Ending}{ns:Bool}{vs:Value}{s:Nat}(h:e = .returned (.tuple #[.bool ns,vs]))(h1:qa5 w' vs s)(h2:(if ns then -(s:Int) else s)=z)(h3:Below w.heap.size w w'):qs1 z w e w':=
 ⟨⟨ns,vs,s,h,h1,h2⟩,h3⟩
theorem qri(na nb:Bool)(va vb:Value)(p q:Nat)(w:World)(ha:qa5 w va p)(hb:qa5 w vb q)(hp:wl p≤Cap)(hq:wl q≤Cap):
  Calls Tryz.prog 116 #[.bool na,va,.bool nb,vb] w (qs1 ((if na then -(p:Int) else p)+(if nb then -(q:Int) else q)) w):=by
 by_cases hs:na=nb
 ·subst hs
  have zS:=hid (q0q va vb p q w ha hb hp hq);have HV:Hid ((if na then -((p+q:Nat):Int) else((p+q:Nat):Int))=(if na then -(p:Int) else p)+(if na then -(q:Int) else q)):=hid (by cases na<;>simp<;>omega);clear ha hb;cases na
  all_goals
   go_enter Tryz.func116,Tryz.ntmps116;go_wp2_with fail;refine zS.out.mono ?_;rintro e w' ⟨⟨v',rfl,hn⟩,hb'⟩;have HN:=hid hn;have HB':=hid hb';clear hn hb';go_wp2_with fail;go_ret2;exact qi2 rfl HN.out HV.out HB'.out
 ·have eM:=hid (qei va vb p q w ha hb)
  have HA:=hid ha;have aW:=hid hb;rcases Nat.lt_or_ge p q with h|h
  ·have qU:qex p q<0:=by unfold qex;rw[qdf (by omega)];omega
   have Ib:Hid (∀W,Below w.heap.size w W→Calls Tryz.prog 167 #[vb,va] W fun e w'=>(∃v',e = .returned v'∧qa5 w' v' (q-p))∧Below W.heap.size W w'):=hid fun W hW=>qm8 vb va q p W (aW.out.later hW) (HA.out.later hW) (by omega) hq;have HV:Hid ((if nb then -((q-p:Nat):Int) else((q-p:Nat):Int))=(if na then -(p:Int) else p)+(if nb then -(q:Int) else q)):=hid (by cases na<;>cases nb<;>simp at * <;> omega);generalize qex p q=cv at *;clear ha hb h;cases na<;>cases nb
   all_goals first|exact absurd rfl hs|skip
   all_goals
    clear hs;go_enter Tryz.func116,Tryz.ntmps116;go_wp2_with fail;refine eM.out.mono ?_;rintro e w1 ⟨rfl,k1,cY⟩;have aZ:Below w.heap.size w w1:=by rw[cY];exact below_drewN (qaa _ _) k1
    have aP:=hid aZ;clear cY aZ;go_wp2_with fail;refine(Ib.out _ aP.out).mono ?_;rintro e w' ⟨⟨v',rfl,hn⟩,hb'⟩;have HN:=hid hn;have HB':=hid (aP.out.trans (hb'.mono aP.out.size));clear hn hb';go_wp2_with fail;go_ret2;exact qi2 rfl HN.out HV.out HB'.out
  ·have qU:¬qex p q<0:=by
    unfold qex;rcases Nat.lt_or_ge q p with h'|h'
    ·rw[qcr (by omega)];omega
    ·rw[qet (by omega)];omega
   have Ib:Hid (∀W,Below w.heap.size w W→Calls Tryz.prog 167 #[va,vb] W fun e w'=>(∃v',e = .returned v'∧qa5 w' v' (p-q))∧Below W.heap.size W w'):=hid fun W hW=>qm8 va vb p q W (HA.out.later hW) (aW.out.later hW) h hp;have HV:Hid ((if na then -((p-q:Nat):Int) else((p-q:Nat):Int))=(if na then -(p:Int) else p)+(if nb then -(q:Int) else q)):=hid (by cases na<;>cases nb<;>simp at * <;> omega);generalize qex p q=cv at *;clear ha hb h;cases na<;>cases nb
   all_goals first|exact absurd rfl hs|skip
   all_goals
    clear hs;go_enter Tryz.func116,Tryz.ntmps116;go_wp2_with fail;refine eM.out.mono ?_;rintro e w1 ⟨rfl,k1,cY⟩;have aZ:Below w.heap.size w w1:=by rw[cY];exact below_drewN (qaa _ _) k1
    have aP:=hid aZ;clear cY aZ;go_wp2_with fail;refine(Ib.out _ aP.out).mono ?_;rintro e w' ⟨⟨v',rfl,hn⟩,hb'⟩;have HN:=hid hn;have HB':=hid (aP.out.trans (hb'.mono aP.out.size));clear hn hb';go_wp2_with fail;go_ret2;exact qi2 rfl HN.out HV.out HB'.out
theorem qgd{n k:Nat}(h:n<B64^k):wl n≤k:=qce qal h
theorem qny(n:Nat):n<B64^wl n:=qch B64 n qal
theorem qdp{m n:Nat}(h:m≤n):wl m≤wl n:=qak qal h
theorem qoo(m n:Nat):wl (m*n)≤wl m+wl n:=by
 apply qgd;rw[Nat.pow_add];exact Nat.mul_lt_mul'' (qny m) (qny n)
theorem q9d(m n:Nat):wl (m+n)≤wl m+wl n+1:=by
 apply qgd;have h1:=qny m;have h2:=qny n;have h3:B64^wl m≤B64^(wl m+wl n):=Nat.pow_le_pow_right (by rw[qai];omega) (by omega);have h4:B64^wl n≤B64^(wl m+wl n):=Nat.pow_le_pow_right (by rw[qai];omega) (by omega);rw[Nat.pow_succ,qai] at *;omega
theorem qa5.setOther{W:World}{v:Value}{n:Nat}{p:Addr}{x u:Value}(h:qa5 W v n)(hp:W.cell? p=some u)(hu:∀k z,u ≠ .int k z):qa5 (W.setCell p x) v n:=by
 obtain⟨h1,q,c,h2,h3,h4,h5⟩:=h;refine⟨h1,q,c,h2,h3,h4, ?_⟩;rcases h5 with h5|⟨b,o,h6,h7⟩
 ·exact .inl h5
 ·refine .inr ⟨b,o,h6,fun i hi => ?_⟩
  have hc:=h7 i hi;by_cases e:p=⟨b,o+i,none⟩
  ·rw[e,hc] at hp
   injection hp with hp
   exact absurd hp.symm (by unfold wd;exact hu _ _)
  ·rw[World.cell?_setCell_other _ _ _ _ e];exact hc
def rs(q:Rat):Nat:=wl q.num.natAbs+wl q.den
def qcs(neg:Bool)(top bot:Value)(i:Nat):Value:=if i=0 then .bool neg else if i=1 then top else bot
def qbz(w:World)(na:Bool)(ta ba:Value)(nb:Bool)(tb bb:Value)(W:World):Prop:=
 Below w.heap.size w W∧Own W w.heap.size 3 (qcs na ta ba)∧Own W (w.heap.size+1) 3 (qcs nb tb bb)∧Own W (w.heap.size+2) 3 (qcs false (.slice none 0 0) (.slice none 0 0))
theorem qbz.later{w:World}{na nb:Bool}{ta ba tb bb:Value}{W W':World}(h:qbz w na ta ba nb tb bb W)(hb:Below W.heap.size W W'):qbz w na ta ba nb tb bb W':=by
 obtain⟨h1,h2,h3,h4⟩:=h;have:=h4.1;exact⟨h1.trans (hb.mono h1.size),h2.later (hb.mono (by omega)),h3.later (hb.mono (by omega)),h4.later (hb.mono (by omega))⟩
theorem qbz.drew{w:World}{na nb:Bool}{ta ba tb bb:Value}{W:World}(h:qbz w na ta ba nb tb bb W):qbz w na ta ba nb tb bb W.drew:=h.later ((qaa _ _).drew)
theorem qcd{w W:World}{na nb:Bool}{ta ba tb bb:Value}{f:FuncId}{args:Array Value}{P:Ending→World→Prop}(hW:qbz w na ta ba nb tb bb W)
  (h:Calls Tryz.prog f args W fun e w'=>P e w'∧Below W.heap.size W w'):Calls Tryz.prog f args W fun e w'=>P e w'∧qbz w na ta ba nb tb bb w'∧Below W.heap.size W w':=
 h.mono fun _ _ ⟨h1,h2⟩=>⟨h1,hW.later h2,h2⟩
theorem qlc(w:World)(na:Bool)(ta ba:Value)(nb:Bool)(tb bb:Value):
  qbz w na ta ba nb tb bb (((w.alloc (.cells #[.bool na,ta,ba] 87)).alloc (.cells #[.bool nb,tb,bb] 87)).alloc (.cells #[.bool false,.slice none 0 0,.slice none 0 0] 87)):=by
 have qqk:∀(V:World) (n:Bool) (t b:Value),Own (V.alloc (.cells #[.bool n,t,b] 87)) V.heap.size 3 (qcs n t b):=fun V n t b=>by
  refine⟨by rw[qab];omega,fun i hi => ?_⟩;rw[World.cell?_alloc_at _ _ _ _ rfl,World.frozen?_alloc_at _ _ _ _ rfl]
  match i,hi with
  | 0,_=>exact⟨rfl,rfl⟩
  | 1,_=>exact⟨rfl,rfl⟩
  | 2,_=>exact⟨rfl,rfl⟩
 have h1:=qqk w na ta ba;have h2:=qqk (w.alloc (.cells #[.bool na,ta,ba] 87)) nb tb bb;have h3:=qqk ((w.alloc (.cells #[.bool na,ta,ba] 87)).alloc (.cells #[.bool nb,tb,bb] 87)) false (.slice none 0 0) (.slice none 0 0);simp only[qab] at h2 h3;have al:∀(V:World) (o:Obj),Below V.heap.size V (V.alloc o):=fun V o=>qad _ _;refine⟨((al w _).trans ((al _ _).mono (by rw[qab];omega))).trans ((al _ _).mono (by rw[qab,qab];omega)), ?_, ?_,h3⟩
 ·exact(h1.later ((al _ _).mono (by rw[qab];omega))).later ((al _ _).mono (by rw[qab,qab];omega))
 ·exact h2.later ((al _ _).mono (by rw[qab,qab];omega))
theorem qa3{w:World}{na nb:Bool}{ta ba tb bb:Value}{W:World}(h:qbz w na ta ba nb tb bb W):
  W.cell? ⟨w.heap.size,0,none⟩=some (.bool na)∧W.cell? ⟨w.heap.size,1,none⟩=some ta∧W.cell? ⟨w.heap.size,2,none⟩=some ba∧
  W.cell? ⟨w.heap.size+1,0,none⟩=some (.bool nb)∧W.cell? ⟨w.heap.size+1,1,none⟩=some tb∧W.cell? ⟨w.heap.size+1,2,none⟩=some bb:=
 ⟨(h.2.1.2 0 (by omega)).1,(h.2.1.2 1 (by omega)).1,(h.2.1.2 2 (by omega)).1,(h.2.2.1.2 0 (by omega)).1,(h.2.2.1.2 1 (by omega)).1,(h.2.2.1.2 2 (by omega)).1⟩
theorem qhw(va vb:Value)(a b:Rat)(w:World)(ha:qau w va a)(hb:qau w vb b)(aQ:rs a+rs b+2≤Cap):
  Calls Tryz.prog 67 #[va,vb] w fun e w'=>(∃v',e = .returned v'∧qau w' v' (a+b))∧Below w.heap.size w w':=by
 have HA:=hid ha;have HB:=hid hb;obtain⟨ta,ba,rfl,dQ,eR⟩:=ha;obtain⟨tb,bb,rfl,aZ,aR⟩:=hb;obtain⟨aH,aI,aJ,rfl,hx⟩:=qa7 dQ;clear hx;obtain⟨aN,aL,aO,rfl,hx⟩:=qa7 eR;clear hx;obtain⟨bB,bC,bE,rfl,hx⟩:=qa7 aZ;clear hx;obtain⟨bH,bI,bJ,rfl,hx⟩:=qa7 aR;clear hx;have eP:=hid dQ;have aP:=hid aZ;have cQ:=hid aQ;generalize hna:decide (a.num<0)=na at *;generalize gO:decide (b.num<0)=nb at *;have dR:=hid hna;have kA:=hid gO;have aM:=hid (qlc w na (.slice aH aI aJ) (.slice aN aL aO) nb (.slice bB bC bE) (.slice bH bI bJ));have gF:Hid (∀W,qbz w na (.slice aH aI aJ) (.slice aN aL aO) nb (.slice bB bC bE) (.slice bH bI bJ) W→Calls Tryz.prog 109 #[.agg #[.bool na,.slice aH aI aJ,.slice aN aL aO]] W fun e w'=>(∃v',e = .returned v'∧qa5 w' v' a.den)∧qbz w na (.slice aH aI aJ) (.slice aN aL aO) nb (.slice bB bC bE) (.slice bH bI bJ) w'∧Below W.heap.size W w'):=hid fun W hW=>qcd hW (qb8 _ a W (HA.out.later hW.1));have fV:Hid (∀W,qbz w na (.slice aH aI aJ) (.slice aN aL aO) nb (.slice bB bC bE) (.slice bH bI bJ) W→Calls Tryz.prog 109 #[.agg #[.bool nb,.slice bB bC bE,.slice bH bI bJ]] W fun e w'=>(∃v',e = .returned v'∧qa5 w' v' b.den)∧qbz w na (.slice aH aI aJ) (.slice aN aL aO) nb (.slice bB bC bE) (.slice bH bI bJ) w'∧Below W.heap.size W w'):=hid fun W hW=>qcd hW (qb8 _ b W (HB.out.later hW.1))
 have Ot:Hid (∀W v1 v2,qbz w na (.slice aH aI aJ) (.slice aN aL aO) nb (.slice bB bC bE) (.slice bH bI bJ) W→qa5 W v1 a.den→qa5 W v2 b.den→Calls Tryz.prog 111 #[v1,v2] W fun e w'=>(∃v',e = .returned v'∧qa5 w' v' (a.den.gcd b.den))∧qbz w na (.slice aH aI aJ) (.slice aN aL aO) nb (.slice bB bC bE) (.slice bH bI bJ) w'∧Below W.heap.size W w'):=
  hid fun W v1 v2 hW h1 h2=>qcd hW (qdt v1 v2 _ _ W h1 h2 (by unfold rs at aQ;omega) (by unfold rs at aQ;omega))
 have Ll:wl a.num.natAbs+wl a.den+(wl b.num.natAbs+wl b.den)+2≤Cap:=aQ;have dU:=hid Ll;have xE:Hid (0<a.den.gcd b.den):=hid (Nat.gcd_pos_of_pos_left _ a.den_pos)
 have cW:Hid (∀W v1 v2 m n,qbz w na (.slice aH aI aJ) (.slice aN aL aO) nb (.slice bB bC bE) (.slice bH bI bJ) W→qa5 W v1 m→qa5 W v2 n→0<n→wl m≤Cap→Calls Tryz.prog 112 #[v1,v2] W fun e w'=>(∃vq vr,e = .returned (.tuple #[vq,vr])∧qa5 w' vq (m/n)∧qa5 w' vr (m % n))∧qbz w na (.slice aH aI aJ) (.slice aN aL aO) nb (.slice bB bC bE) (.slice bH bI bJ) w'∧Below W.heap.size W w'):=
  hid fun W v1 v2 m n hW h1 h2 h3 h4=>qcd hW (qmi v1 v2 m n W h1 h2 h3 h4)
 have oC:Hid (∀W v1 v2 m n,qbz w na (.slice aH aI aJ) (.slice aN aL aO) nb (.slice bB bC bE) (.slice bH bI bJ) W→qa5 W v1 m→qa5 W v2 n→wl m≤Cap→wl n≤Cap→Calls Tryz.prog 108 #[v1,v2] W fun e w'=>(∃v',e = .returned v'∧qa5 w' v' (m*n))∧qbz w na (.slice aH aI aJ) (.slice aN aL aO) nb (.slice bB bC bE) (.slice bH bI bJ) w'∧Below W.heap.size W w'):=
  hid fun W v1 v2 m n hW h1 h2 h3 h4=>qcd hW (qgo v1 v2 m n W h1 h2 h3 h4)
 have zS:Hid (∀W v1 v2 p q,qbz w na (.slice aH aI aJ) (.slice aN aL aO) nb (.slice bB bC bE) (.slice bH bI bJ) W→qa5 W v1 p→qa5 W v2 q→wl p≤Cap→wl q≤Cap→Calls Tryz.prog 116 #[.bool na,v1,.bool nb,v2] W fun e w'=>((∃(ns:Bool) (vs:Value) (s:Nat),e = .returned (.tuple #[.bool ns,vs])∧qa5 w' vs s∧(if ns then -(s:Int) else s)=(if na then -(p:Int) else p)+(if nb then -(q:Int) else q))∧Below W.heap.size W w')):=
  hid fun W v1 v2 p q _ h1 h2 h3 h4=>qri na nb v1 v2 p q W h1 h2 h3 h4
 have qV:Hid (wl (a.den/a.den.gcd b.den)≤wl a.den):=hid (qdp (Nat.div_le_self _ _));have Kx:Hid (wl (b.den/a.den.gcd b.den)≤wl b.den):=hid (qdp (Nat.div_le_self _ _));have rS:=hid (qyc a b)
 have HGZ:Hid (∀W v1 v2 z,qbz w na (.slice aH aI aJ) (.slice aN aL aO) nb (.slice bB bC bE) (.slice bH bI bJ) W→qa5 W v1 z→qa5 W v2 (a.den.gcd b.den)→wl z≤Cap→Calls Tryz.prog 111 #[v1,v2] W fun e w'=>(∃v',e = .returned v'∧qa5 w' v' (z.gcd (a.den.gcd b.den)))∧qbz w na (.slice aH aI aJ) (.slice aN aL aO) nb (.slice bB bC bE) (.slice bH bI bJ) w'∧Below W.heap.size W w'):=
  hid fun W v1 v2 z hW h1 h2 h3=>qcd hW (qdt v1 v2 _ _ W h1 h2 h3 (Nat.le_trans (qdp (Nat.gcd_le_left _ a.den_pos)) (by omega)))
 clear dQ eR aZ aR aQ hna gO Ll;go_enter Tryz.func67,Tryz.ntmps67;go_wp2_with fail;generalize ((w.alloc (.cells #[.bool na,.slice aH aI aJ,.slice aN aL aO] 87)).alloc (.cells #[.bool nb,.slice bB bC bE,.slice bH bI bJ] 87)).alloc (.cells #[.bool false,.slice none 0 0,.slice none 0 0] 87)=w0 at *;have bX:=hid aM.out.drew
 go_region_held3 (fun W=>W.cell? ⟨w.heap.size,0,none⟩=some (.bool na)∧W.cell? ⟨w.heap.size,1,none⟩=some (.slice aH aI aJ)∧W.cell? ⟨w.heap.size,2,none⟩=some (.slice aN aL aO)∧W.cell? ⟨w.heap.size+1,0,none⟩=some (.bool nb)∧W.cell? ⟨w.heap.size+1,1,none⟩=some (.slice bB bC bE)∧W.cell? ⟨w.heap.size+1,2,none⟩=some (.slice bH bI bJ)) (first|exact qa3 Ic.out|exact qa3 Fi.out|exact qa3 uI.out|exact qa3 bX.out)
  (first
   | (go_at_call 109;first
     | ((with_reducible refine(gF.out _ ?qa).mono ?_);(case qa=>first|exact uI.out|exact bX.out);rintro e wA ⟨⟨vA,rfl,hn⟩,ht,hb⟩;have mF:=hid hn;have Fi:=hid ht;have dI:=hid hb;clear hn ht hb)
     | ((with_reducible refine(fV.out _ ?qb).mono ?_);(case qb=>first|exact Fi.out|exact bX.out);rintro e wB ⟨⟨vB,rfl,hn⟩,ht,hb⟩;have qW:=hid hn;have uI:=hid ht;have aW:=hid hb;clear hn ht hb))
   | (go_at_call 111;(refine(Ot.out _ _ _ ?q1 ?q2 ?q3).mono ?_);(case q1=>first|exact uI.out|exact Fi.out);(case q2=>first|exact mF.out|exact mF.out.later aW.out);(case q3=>first|exact qW.out|exact qW.out.later dI.out);rintro e wG ⟨⟨vG,rfl,hn⟩,ht,hb⟩;have HVG:=hid hn;have Ic:=hid ht;clear hn ht hb))
 have HBG:Hid (Below w.heap.size w wG):=hid Ic.out.1;clear bX aM mF qW Fi uI;go_wp2_with fail;refine(gF.out _ Ic.out).mono ?_;rintro e w1 ⟨⟨v1,rfl,hn⟩,ht,hb⟩;have gS:=hid hn;have cV:=hid ht;have Ou:=hid (HVG.out.later hb);clear hn ht hb;go_wp2_with fail;refine(cW.out _ _ _ _ _ cV.out gS.out Ou.out xE.out (by have:=dU.out;omega)).mono ?_;rintro e w2 ⟨⟨vL,vx,rfl,hn,_⟩,ht,hb⟩;have iT:=hid hn;have fZ:=hid ht;have HVG2:=hid (Ou.out.later hb);clear hn ht hb;obtain⟨d10,d11,d12,d20,d21,d22⟩:=qa3 fZ.out;go_wp2_with fail;clear d10 d11 d12 d20 d21 d22;refine(fV.out _ fZ.out).mono ?_;rintro e w3 ⟨⟨v3,rfl,hn⟩,ht,hb⟩;have jH:=hid hn;have pT:=hid ht;have Ov:=hid (HVG2.out.later hb);have HVL3:=hid (iT.out.later hb);clear hn ht hb;go_wp2_with fail;refine(cW.out _ _ _ _ _ pT.out jH.out Ov.out xE.out (by have:=dU.out;omega)).mono ?_;rintro e w4 ⟨⟨vR,vy,rfl,hn,_⟩,ht,hb⟩;have HVR4:=hid hn;have Cz:=hid ht;have HVG4:=hid (Ov.out.later hb);have Ow:=hid (HVL3.out.later hb);have tG:=hid ht.drew;have Ie:=hid (eP.out.later ht.1);have eL:=hid (aP.out.later ht.1);clear hn ht hb;have Ig:Below w4.heap.size w4 w4.drew:=(qaa _ _).drew
 have fY:Hid (∀W,qbz w na (.slice aH aI aJ) (.slice aN aL aO) nb (.slice bB bC bE) (.slice bH bI bJ) W→Below w4.heap.size w4 W→Calls Tryz.prog 108 #[.slice aH aI aJ,vR] W fun e w'=>(∃v',e = .returned v'∧qa5 w' v' (a.num.natAbs*(b.den/a.den.gcd b.den)))∧qbz w na (.slice aH aI aJ) (.slice aN aL aO) nb (.slice bB bC bE) (.slice bH bI bJ) w'∧Below w4.heap.size w4 w'∧Below W.heap.size W w'):=
  hid fun W hW hB=>(oC.out W _ _ _ _ hW (Ie.out.later hB) (HVR4.out.later hB) (by have:=dU.out;omega) (by have:=dU.out;have:=Kx.out;have:=qV.out;omega)).mono fun _ _ ⟨h1,h2,h3⟩=>⟨h1,h2,hB.trans (h3.mono hB.size),h3⟩
 have eV:Hid (∀W,qbz w na (.slice aH aI aJ) (.slice aN aL aO) nb (.slice bB bC bE) (.slice bH bI bJ) W→Below w4.heap.size w4 W→Calls Tryz.prog 108 #[.slice bB bC bE,vL] W fun e w'=>(∃v',e = .returned v'∧qa5 w' v' (b.num.natAbs*(a.den/a.den.gcd b.den)))∧qbz w na (.slice aH aI aJ) (.slice aN aL aO) nb (.slice bB bC bE) (.slice bH bI bJ) w'∧Below w4.heap.size w4 w'∧Below W.heap.size W w'):=
  hid fun W hW hB=>(oC.out W _ _ _ _ hW (eL.out.later hB) (Ow.out.later hB) (by have:=dU.out;omega) (by have:=dU.out;have:=Kx.out;have:=qV.out;omega)).mono fun _ _ ⟨h1,h2,h3⟩=>⟨h1,h2,hB.trans (h3.mono hB.size),h3⟩
 have HAS:Hid (∀W v1 v2 p q,qbz w na (.slice aH aI aJ) (.slice aN aL aO) nb (.slice bB bC bE) (.slice bH bI bJ) W→Below w4.heap.size w4 W→qa5 W v1 p→qa5 W v2 q→wl p≤Cap→wl q≤Cap→Calls Tryz.prog 116 #[.bool na,v1,.bool nb,v2] W fun e w'=>(∃(ns:Bool) (vs:Value) (s:Nat),e = .returned (.tuple #[.bool ns,vs])∧qa5 w' vs s∧(if ns then -(s:Int) else s)=(if na then -(p:Int) else p)+(if nb then -(q:Int) else q))∧qbz w na (.slice aH aI aJ) (.slice aN aL aO) nb (.slice bB bC bE) (.slice bH bI bJ) w'∧Below w4.heap.size w4 w'):=
  hid fun W v1 v2 p q hW hB h1 h2 h3 h4=>(zS.out W v1 v2 p q hW h1 h2 h3 h4).mono fun _ _ ⟨h5,h6⟩=>⟨h5,hW.later h6,hB.trans (h6.mono hB.size)⟩
 have Ox:=hid Ig;clear Ig;have dN:Hid (wl (a.num.natAbs*(b.den/a.den.gcd b.den))≤wl a.num.natAbs+wl b.den):=hid (Nat.le_trans (qoo _ _) (by have:=Kx.out;omega));have cL:Hid (wl (b.num.natAbs*(a.den/a.den.gcd b.den))≤wl b.num.natAbs+wl a.den):=hid (Nat.le_trans (qoo _ _) (by have:=qV.out;omega));go_wp2_with fail
 go_region_held3 (fun W=>W.cell? ⟨w.heap.size,0,none⟩=some (.bool na)∧W.cell? ⟨w.heap.size,1,none⟩=some (.slice aH aI aJ)∧W.cell? ⟨w.heap.size,2,none⟩=some (.slice aN aL aO)∧W.cell? ⟨w.heap.size+1,0,none⟩=some (.bool nb)∧W.cell? ⟨w.heap.size+1,1,none⟩=some (.slice bB bC bE)∧W.cell? ⟨w.heap.size+1,2,none⟩=some (.slice bH bI bJ)) (first|exact qa3 dG.out|exact qa3 iI.out|exact qa3 oP.out|exact qa3 tG.out)
  (first
   | (go_at_call 108;first
     | ((with_reducible refine(fY.out _ ?qa ?qc).mono ?_);(case qa=>first|exact oP.out|exact tG.out);(case qc=>first|exact qE.out|exact Ox.out);rintro e wX ⟨⟨vX,rfl,hn⟩,ht,lL,hb⟩;have gG:=hid hn;have iI:=hid ht;have HBX0:=hid hb;have fM:=hid lL;clear hn ht hb lL)
     | ((with_reducible refine(eV.out _ ?qb ?qd).mono ?_);(case qb=>first|exact iI.out|exact tG.out);(case qd=>first|exact fM.out|exact Ox.out);rintro e wY ⟨⟨vY,rfl,hn⟩,ht,lL,hb⟩;have oQ:=hid hn;have oP:=hid ht;have HBY0:=hid hb;have qE:=hid lL;clear hn ht hb lL))
   | (go_at_call 116;(first|refine(HAS.out _ _ _ _ _ oP.out qE.out (gG.out.later HBY0.out) oQ.out ?q4 ?q5).mono ?_|refine(HAS.out _ _ _ _ _ iI.out fM.out gG.out (oQ.out.later HBX0.out) ?q4 ?q5).mono ?_);(case q4=>have h1:=dU.out;have h2:=dN.out;omega);(case q5=>have h1:=dU.out;have h2:=cL.out;omega);rintro e wZ ⟨⟨ns,vZ,z,rfl,hn,hz⟩,ht,lL⟩;have Bo:=hid hn;have Ih:=hid hz;have dG:=hid ht;have kO:=hid lL;clear hn hz ht lL))
 have HVG5:=hid (HVG4.out.later kO.out);have HVL5:=hid (Ow.out.later kO.out);obtain⟨Z,hZ⟩:∃Z:Int,Z=a.num*((b.den/a.den.gcd b.den:Nat):Int)+b.num*((a.den/a.den.gcd b.den:Nat):Int):=⟨_,rfl⟩;have qF:=rS.out Z hZ
 have sO:(if ns then -(z:Int) else z)=Z:=by
  rw[hZ];have h1:=Ih.out
  have ea:a.num=if na then -(a.num.natAbs:Int) else a.num.natAbs:=by
   rw[←dR.out];by_cases h:a.num<0
   ·rw[qag h];simp;omega
   ·rw[qaf h];simp;omega
  have eb:b.num=if nb then -(b.num.natAbs:Int) else b.num.natAbs:=by
   rw[←kA.out];by_cases h:b.num<0
   ·rw[qag h];simp;omega
   ·rw[qaf h];simp;omega
  rw[h1,Int.natCast_mul,Int.natCast_mul];generalize (b.den/a.den.gcd b.den)=R at *;generalize (a.den/a.den.gcd b.den)=L at *;generalize a.num.natAbs=x at *;generalize b.num.natAbs=y at *;rw[ea,eb];cases na<;>cases nb<;>simp<;>grind
 have Ln:z=Z.natAbs:=by cases ns<;>simp at sO<;>omega
 have Ii:wl z≤Cap:=by
  have h1:=Ih.out
  have h2:z≤a.num.natAbs*(b.den/a.den.gcd b.den)+b.num.natAbs*(a.den/a.den.gcd b.den):=by
   generalize a.num.natAbs*(b.den/a.den.gcd b.den)=x at *;generalize b.num.natAbs*(a.den/a.den.gcd b.den)=y at *;cases ns<;>cases na<;>cases nb<;>simp at h1<;>omega
  have h3:=qdp h2;have h4:=q9d (a.num.natAbs*(b.den/a.den.gcd b.den)) (b.num.natAbs*(a.den/a.den.gcd b.den));have h5:=dN.out;have h6:=cL.out;have h7:=dU.out;omega
 rw[←Ln] at qF;have eY:0<z.gcd (a.den.gcd b.den):=Nat.gcd_pos_of_pos_right _ xE.out;have lI:=hid eY
 have dV:Hid ((ns&&decide (0<z/z.gcd (a.den.gcd b.den)))=decide ((a+b).num<0)):=by
  refine hid ?_
  have h0:0<z/z.gcd (a.den.gcd b.den)↔0<z:=by
   constructor
   ·intro h
    rcases qas z with e|e
    ·rw[e,Nat.zero_div] at h;omega
    ·exact e
   ·intro h
    exact Nat.div_pos (Nat.le_of_dvd h (Nat.gcd_dvd_left _ _)) eY
  have h1:(a+b).num<0↔Z<0:=qF.2.1;cases ns
  ·rw[Bool.false_and];symm;apply qaf;rw[h1];simp at sO;omega
  ·rw[Bool.true_and];apply decide_eq_decide.2;rw[h1,h0];simp at sO;omega
 have zT:=hid qF;have HZC:=hid Ii;have HGC6:=hid (HGZ.out _ _ _ _ dG.out Bo.out HVG5.out Ii);clear qF sO Ln Ii eY hZ Ih rS dN cL;go_wp2_with fail;refine HGC6.out.mono ?_;rintro e w6 ⟨⟨vC,rfl,hn⟩,ht,hb⟩;have Oy:=hid hn;have HT6:=hid ht;have HVZ6:=hid (Bo.out.later hb);have HVL6:=hid (HVL5.out.later hb);clear hn ht hb;go_wp2_with fail;refine(cW.out _ _ _ _ _ HT6.out HVZ6.out Oy.out lI.out HZC.out).mono ?_;rintro e w7 ⟨⟨vT,vt2,rfl,hn,_⟩,ht,hb⟩;have HVT7:=hid hn;have Lo:=hid ht;have HVC7:=hid (Oy.out.later hb);have HVL7:=hid (HVL6.out.later hb);clear hn ht hb;obtain⟨d10,d11,d12,d20,d21,d22⟩:=qa3 Lo.out;go_wp2_with fail;clear d10 d11 d12 d20 d21 d22;refine(fV.out _ Lo.out).mono ?_;rintro e w8 ⟨⟨v8,rfl,hn⟩,ht,hb⟩;have zI:=hid hn;have HT8:=hid ht;have HVC8:=hid (HVC7.out.later hb);have HVL8:=hid (HVL7.out.later hb);have HVT8:=hid (HVT7.out.later hb);clear hn ht hb;go_wp2_with fail;refine(cW.out _ _ _ _ _ HT8.out zI.out HVC8.out lI.out (by have:=dU.out;omega)).mono ?_;rintro e w9 ⟨⟨vB9,vb9,rfl,hn,_⟩,ht,hb⟩;have HVB9:=hid hn;have HT9:=hid ht;have HVL9:=hid (HVL8.out.later hb);have HVT9:=hid (HVT8.out.later hb);clear hn ht hb;go_wp2_with fail;refine(oC.out _ _ _ _ _ HT9.out HVL9.out HVB9.out (by have:=dU.out;have:=qV.out;omega) (Nat.le_trans (qdp (Nat.div_le_self _ _)) (by have:=dU.out;omega))).mono ?_;rintro e w10 ⟨⟨vP,rfl,hn⟩,ht,hb⟩;have Oz:=hid hn;have HT10:=hid ht;have Pa:=hid (HVT9.out.later hb);clear hn ht hb;have fT:=hid (qe5 ns _ vT vP _ _ _ w10 Pa.out Oz.out dV.out.symm rfl);go_wp2_with fail;refine fT.out.mono ?_;rintro e w11 ⟨⟨vF,rfl,dZ,lW⟩,hb⟩;have Da:=hid (HT10.out.later hb);have gV:=hid dZ;have kH:=hid lW;clear dZ lW hb;obtain⟨pt,kt,ct,rfl,hx⟩:=qa7 gV.out;clear hx;obtain⟨pf,kf,cf,rfl,hx⟩:=qa7 kH.out;clear hx
 obtain⟨r0,g0⟩:w11.cell? ⟨w.heap.size+1+1,0,none⟩=_∧w11.frozen? ⟨w.heap.size+1+1,0,none⟩=false:=Da.out.2.2.2.2 0 (by omega);obtain⟨r1,g1⟩:w11.cell? ⟨w.heap.size+1+1,1,none⟩=_∧w11.frozen? ⟨w.heap.size+1+1,1,none⟩=false:=Da.out.2.2.2.2 1 (by omega);obtain⟨r2,g2⟩:w11.cell? ⟨w.heap.size+1+1,2,none⟩=_∧w11.frozen? ⟨w.heap.size+1+1,2,none⟩=false:=Da.out.2.2.2.2 2 (by omega);simp only[qcs] at r0 r1 r2
 have aF:Hid (∀W,Below w.heap.size w11 W→(∀v n,qa5 w11 v n→qa5 W v n)→qau W (.agg #[.bool (decide ((a+b).num<0)),.slice pt kt ct,.slice pf kf cf]) (a+b)):=by
  refine hid fun W _ hN=>⟨_,_,rfl, ?_, ?_⟩
  ·rw[zT.out.1];exact hN _ _ gV.out
  ·rw[zT.out.2.2];exact hN _ _ kH.out
 generalize decide ((a+b).num<0)=sg at *;go_wp2_with fail;refine bodyPost_ret (v := .agg #[.bool sg,.slice pt kt ct,.slice pf kf cf]) ?_ rfl ?_
 ·simp[results,Tryz.results67,go_sem,r0,r1,r2]
 ·have hb:Below w.heap.size w11 (((w11.setCell ⟨w.heap.size+1+1,0,none⟩ (.bool sg)).setCell ⟨w.heap.size+1+1,1,none⟩ (.slice pt kt ct)).setCell ⟨w.heap.size+1+1,2,none⟩ (.slice pf kf cf)):=
   (((qaa _ _).setCell (by show w.heap.size≤w.heap.size+1+1;omega) _).setCell (by show w.heap.size≤w.heap.size+1+1;omega) _).setCell (by show w.heap.size≤w.heap.size+1+1;omega) _
  refine⟨⟨_,rfl,aF.out _ hb ?_⟩,Da.out.1.trans hb⟩;intro v n hN;refine((hN.setOther r0 (by intro k z h;cases h)).setOther (u := .slice none 0 0) ?_ (by intro k z h;cases h)).setOther (u := .slice none 0 0) ?_ (by intro k z h;cases h)
  ·rw[World.cell?_setCell_other _ _ _ _ (by intro h;injection h with _ h;cases h)];exact r1
  ·rw[World.cell?_setCell_other _ _ _ _ (by intro h;injection h with _ h;cases h),World.cell?_setCell_other _ _ _ _ (by intro h;injection h with _ h;cases h)];exact r2
end Go.Proofs.YtlkdlffhmakbgaaGreatDoor
