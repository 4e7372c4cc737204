/- The small functions of rational numbers: number, denominator, IsWhole, Sign, Negated, addSigned. -/
import Derived.Test.YtmcfcpgglfimjaaGreatDoorMGcd
import Derived.Test.YtmcfcpgglfimjaaGreatDoorMMaths
set_option linter.all false
namespace Go.Proofs.YtmcfcpgglfimjaaGreatDoor
open Go.RowKit
set_option maxRecDepth 100000
set_option maxHeartbeats 2000000
def qaw(w:World)(v:Value)(q:Rat):Prop:=
 ∃top bot,v = .agg #[.bool (decide (q.num<0)),top,bot]∧qa2 w top q.num.natAbs∧qa2 w bot (if q.den=1 then 0 else q.den)
theorem qaw.later{w w':World}{v:Value}{q:Rat}(h:qaw w v q)(hb:Below w.heap.size w w'):qaw w' v q:=by
 obtain⟨top,bot,h1,h2,h3⟩:=h;exact⟨top,bot,h1,h2.later hb,h3.later hb⟩
def sgn(q:Rat):Int:=if q.num<0 then -1 else if q.num=0 then 0 else 1
theorem qa4{w:World}{v:Value}{n:Nat}(h:qa2 w v n):∃(p:Option Addr) (k c:Nat),v = .slice p k c∧k=wl n:=by
 obtain⟨_,p,c,hv,_⟩:=h;exact⟨p,_,c,hv,rfl⟩
theorem qql{n:Nat}(h:0<n):0<wl n:=by
 rcases qas (wl n) with e|e
 ·have:=qen e;omega
 ·exact e
theorem qcx:wl 0=0:=by unfold wl;rw[qau];rfl
theorem qdv(v:Value)(q:Rat)(w:World)(h:qaw w v q):
  Calls Tryz.prog 89 #[v] w fun e w'=>e = .returned (.int .i64 (sgn q))∧Below w.heap.size w w':=by
 obtain⟨top,bot,rfl,h1,_⟩:=h;obtain⟨p,k,c,rfl,hk⟩:=qa4 h1;have HB:∀o,Hid (Below w.heap.size w (w.alloc o)):=fun o=>hid (qad _ _);by_cases hn:q.num<0
 ·have HS:Hid (sgn q = -1):=hid (if_pos hn)
  have hd:decide (q.num<0)=true:=qag hn;rw[hd];clear hd hn h1 hk;go_enter Tryz.func89,Tryz.ntmps89;go_wp2_with fail;go_ret;exact⟨qa6 HS.out.symm,(HB _).out⟩
 ·have hd:decide (q.num<0)=false:=qae hn
  rw[hd];by_cases h0:q.num=0
  ·have HS:Hid (sgn q=0):=hid (by unfold sgn;rw[if_neg hn,if_pos h0])
   have kF:k=0:=by rw[hk,h0];exact qcx
   subst kF;clear hd hn h1 hk h0;go_enter Tryz.func89,Tryz.ntmps89;go_wp2_with fail;go_ret;exact⟨qa6 HS.out.symm,(HB _).out⟩
  ·have HS:Hid (sgn q=1):=hid (by unfold sgn;rw[if_neg hn,if_neg h0])
   have kF:0<k:=by rw[hk];exact qql (by omega)
   have oQ:((k:Int)==0)=false:=qan (by omega);clear hd hn h1 hk h0 kF;go_enter Tryz.func89,Tryz.ntmps89;go_wp2_with fail;go_ret;exact⟨qa6 HS.out.symm,(HB _).out⟩
theorem qkk(v:Value)(q:Rat)(w:World)(h:qaw w v q):
  Calls Tryz.prog 90 #[v] w fun e w'=>e = .returned (.bool (decide (q.den=1)))∧Below w.heap.size w w':=by
 obtain⟨top,bot,rfl,_,h1⟩:=h;obtain⟨p,k,c,rfl,hk⟩:=qa4 h1;have HB:∀o,Hid (Below w.heap.size w (w.alloc o)):=fun o=>hid (qad _ _);generalize decide (q.num<0)=neg
 have HK:Hid (((k:Int)==0)=decide (q.den=1)):=by
  refine hid ?_;by_cases hd:q.den=1
  ·rw[if_pos hd,qcx] at hk
   rw[hk,qag hd];rfl
  ·rw[if_neg hd] at hk
   have:=qql q.den_pos;rw[qae hd];exact qan (by omega)
 clear h1 hk;go_enter Tryz.func90,Tryz.ntmps90;go_wp2_with fail;go_ret;exact⟨qa8 HK.out,(HB _).out⟩
theorem qb9(v:Value)(q:Rat)(w:World)(h:qaw w v q):
  Calls Tryz.prog 100 #[v] w fun e w'=>(∃v',e = .returned v'∧qa2 w' v' q.den)∧Below w.heap.size w w':=by
 obtain⟨top,bot,rfl,_,h1⟩:=h;obtain⟨p,k,c,rfl,hk⟩:=qa4 h1;generalize decide (q.num<0)=neg;have HH:=hid h1;have HB:∀o,Hid (Below w.heap.size w (w.alloc o)):=fun o=>hid (qad _ _);by_cases hd:q.den=1
 ·rw[if_pos hd,qcx] at hk
  subst hk;have HD:=hid hd;have Ah:Hid (∀W:World,qa2 (W.alloc (.cells #[.int .u64 ((1:Nat):Int)] 155)) (.slice (some ⟨W.heap.size,0,none⟩) 1 1) 1):=hid fun W=>qkj W 1 (by rw[qaj];omega) (by omega);clear h1 hd;go_enter Tryz.func100,Tryz.ntmps100;go_wp2_with fail;go_ret;refine⟨⟨_,rfl, ?_⟩, ?_⟩
  ·rw[HD.out]
   have:=Ah.out (w.alloc (.cells #[.bool neg,top,.slice p 0 c] 85));rw[qab] at this;exact this
  ·exact(HB _).out.alloc (by rw[qab];omega) _
 ·rw[if_neg hd] at HH hk
  have oQ:((k:Int)==0)=false:=qan (by have:=qql q.den_pos;omega);clear h1 hd hk;go_enter Tryz.func100,Tryz.ntmps100;go_wp2_with fail;go_ret;exact⟨⟨_,rfl,HH.out.later (HB _).out⟩,(HB _).out⟩
theorem qe3(neg nb:Bool)(vt vb:Value)(p d dd:Nat)(w:World)(ht:qa2 w vt p)(hb:qa2 w vb d)(iD:nb=(neg&&decide (0<p)))(rX:dd=if d=1 then 0 else d):
  Calls Tryz.prog 85 #[.bool neg,vt,vb] w fun e w'=>(∃vb',e = .returned (.agg #[.bool nb,vt,vb'])∧qa2 w' vt p∧qa2 w' vb' dd)∧Below w.heap.size w w':=by
 have Br:=fun(b:Bool) (hbb:b=decide (d=1)) (W:World) (h:Below w.heap.size w W)=>qcl vb d b hbb W (hb.later h);obtain⟨pt,k,c,rfl,hk⟩:=qa4 ht;obtain⟨pb,kb,cb,rfl,oQ⟩:=qa4 hb;clear oQ;have HT:=hid ht;have aV:=hid hb;have HB:∀o,Hid (Below w.heap.size w (w.alloc o)):=fun o=>hid (qad _ _)
 have HK:Hid (nb=(neg&&decide (0<k))):=by
  refine hid ?_;rw[iD,hk]
  congr 1
  refine decide_eq_decide.2 ?_;rcases qas p with e|e
  ·rw[e,qcx]
  ·have:=qql e;omega
 by_cases hd:d=1
 ·have HO:=hid (Br true (by simp[hd]))
  have HD:Hid (dd=0):=hid (by rw[rX,if_pos hd]);clear Br ht hb hd hk iD rX;cases neg
  all_goals
   go_enter Tryz.func85,Tryz.ntmps85;go_wp2_with fail;refine(HO.out _ (HB _).out).mono ?_;rintro e w' ⟨rfl,hw⟩;subst hw;go_wp2_with fail;have hk:=HK.out;simp only[Bool.false_and,Bool.true_and] at hk;refine bodyPost_ret (v := .agg #[.bool nb,.slice pt k c,.slice none 0 0]) ?_ rfl ?_
   ·simp[results,Tryz.results85,go_sem,hk]
   ·exact⟨⟨_,rfl,HT.out.later (HB _).out,by rw[HD.out];exact qa2.nil _⟩,(HB _).out⟩
 ·have HO:=hid (Br false (by simp[hd]))
  have HD:Hid (dd=d):=hid (by rw[rX,if_neg hd]);clear Br ht hb hd hk iD rX;cases neg
  all_goals
   go_enter Tryz.func85,Tryz.ntmps85;go_wp2_with fail;refine(HO.out _ (HB _).out).mono ?_;rintro e w' ⟨rfl,hw⟩;subst hw;go_wp2_with fail;have hk:=HK.out;simp only[Bool.false_and,Bool.true_and] at hk;refine bodyPost_ret (v := .agg #[.bool nb,.slice pt k c,.slice pb kb cb]) ?_ rfl ?_
   ·simp[results,Tryz.results85,go_sem,hk]
   ·exact⟨⟨_,rfl,HT.out.later (HB _).out,by rw[HD.out];exact aV.out.later (HB _).out⟩,(HB _).out⟩
def qs5(z:Int)(w:World)(e:Ending)(w':World):Prop:=
 (∃(ns:Bool) (vs:Value) (s:Nat),e = .returned (.tuple #[.bool ns,vs])∧qa2 w' vs s∧(if ns then -(s:Int) else s)=z)∧Below w.heap.size w w'
theorem qi5{z:Int}{w w':World}{e:Ending}{ns:Bool}{vs:Value}{s:Nat}(h:e = .returned (.tuple #[.bool ns,vs]))(h1:qa2 w' vs s)(h2:(if ns then -(s:Int) else s)=z)(h3:Below w.heap.size w w'):qs5 z w e w':=
 ⟨⟨ns,vs,s,h,h1,h2⟩,h3⟩
theorem qre(na nb:Bool)(va vb:Value)(p q:Nat)(w:World)(ha:qa2 w va p)(hb:qa2 w vb q)(hp:wl p≤Cap)(hq:wl q≤Cap):
  Calls Tryz.prog 116 #[.bool na,va,.bool nb,vb] w (qs5 ((if na then -(p:Int) else p)+(if nb then -(q:Int) else q)) w):=by
 by_cases hs:na=nb
 ·subst hs
  have yV:=hid (q0t va vb p q w ha hb hp hq);have HV:Hid ((if na then -((p+q:Nat):Int) else((p+q:Nat):Int))=(if na then -(p:Int) else p)+(if na then -(q:Int) else q)):=hid (by cases na<;>simp<;>omega);clear ha hb;cases na
  all_goals
   go_enter Tryz.func116,Tryz.ntmps116;go_wp2_with fail;refine yV.out.mono ?_;rintro e w' ⟨⟨v',rfl,hn⟩,hb'⟩;have HN:=hid hn;have HB':=hid hb';clear hn hb';go_wp2_with fail;go_ret2;exact qi5 rfl HN.out HV.out HB'.out
 ·have eH:=hid (qee va vb p q w ha hb)
  have HA:=hid ha;have aV:=hid hb;rcases Nat.lt_or_ge p q with h|h
  ·have pY:qer p q<0:=by unfold qer;rw[qde (by omega)];omega
   have Hb:Hid (∀W,Below w.heap.size w W→Calls Tryz.prog 166 #[vb,va] W fun e w'=>(∃v',e = .returned v'∧qa2 w' v' (q-p))∧Below W.heap.size W w'):=hid fun W hW=>qm5 vb va q p W (aV.out.later hW) (HA.out.later hW) (by omega) hq;have HV:Hid ((if nb then -((q-p:Nat):Int) else((q-p:Nat):Int))=(if na then -(p:Int) else p)+(if nb then -(q:Int) else q)):=hid (by cases na<;>cases nb<;>simp at * <;> omega);generalize qer p q=cv at *;clear ha hb h;cases na<;>cases nb
   all_goals first|exact absurd rfl hs|skip
   all_goals
    clear hs;go_enter Tryz.func116,Tryz.ntmps116;go_wp2_with fail;refine eH.out.mono ?_;rintro e w1 ⟨rfl,k1,cU⟩;have aY:Below w.heap.size w w1:=by rw[cU];exact below_drewN (qaa _ _) k1
    have aP:=hid aY;clear cU aY;go_wp2_with fail;refine(Hb.out _ aP.out).mono ?_;rintro e w' ⟨⟨v',rfl,hn⟩,hb'⟩;have HN:=hid hn;have HB':=hid (aP.out.trans (hb'.mono aP.out.size));clear hn hb';go_wp2_with fail;go_ret2;exact qi5 rfl HN.out HV.out HB'.out
  ·have pY:¬qer p q<0:=by
    unfold qer;rcases Nat.lt_or_ge q p with h'|h'
    ·rw[qcq (by omega)];omega
    ·rw[qem (by omega)];omega
   have Hb:Hid (∀W,Below w.heap.size w W→Calls Tryz.prog 166 #[va,vb] W fun e w'=>(∃v',e = .returned v'∧qa2 w' v' (p-q))∧Below W.heap.size W w'):=hid fun W hW=>qm5 va vb p q W (HA.out.later hW) (aV.out.later hW) h hp;have HV:Hid ((if na then -((p-q:Nat):Int) else((p-q:Nat):Int))=(if na then -(p:Int) else p)+(if nb then -(q:Int) else q)):=hid (by cases na<;>cases nb<;>simp at * <;> omega);generalize qer p q=cv at *;clear ha hb h;cases na<;>cases nb
   all_goals first|exact absurd rfl hs|skip
   all_goals
    clear hs;go_enter Tryz.func116,Tryz.ntmps116;go_wp2_with fail;refine eH.out.mono ?_;rintro e w1 ⟨rfl,k1,cU⟩;have aY:Below w.heap.size w w1:=by rw[cU];exact below_drewN (qaa _ _) k1
    have aP:=hid aY;clear cU aY;go_wp2_with fail;refine(Hb.out _ aP.out).mono ?_;rintro e w' ⟨⟨v',rfl,hn⟩,hb'⟩;have HN:=hid hn;have HB':=hid (aP.out.trans (hb'.mono aP.out.size));clear hn hb';go_wp2_with fail;go_ret2;exact qi5 rfl HN.out HV.out HB'.out
theorem qgf{n k:Nat}(h:n<B64^k):wl n≤k:=qcf qam h
theorem qns(n:Nat):n<B64^wl n:=qcj B64 n qam
theorem qdo{m n:Nat}(h:m≤n):wl m≤wl n:=qal qam h
theorem qoj(m n:Nat):wl (m*n)≤wl m+wl n:=by
 apply qgf;rw[Nat.pow_add];exact Nat.mul_lt_mul'' (qns m) (qns n)
theorem q9p(m n:Nat):wl (m+n)≤wl m+wl n+1:=by
 apply qgf;have h1:=qns m;have h2:=qns n;have h3:B64^wl m≤B64^(wl m+wl n):=Nat.pow_le_pow_right (by rw[qaj];omega) (by omega);have h4:B64^wl n≤B64^(wl m+wl n):=Nat.pow_le_pow_right (by rw[qaj];omega) (by omega);rw[Nat.pow_succ,qaj] at *;omega
theorem qa2.setOther{W:World}{v:Value}{n:Nat}{p:Addr}{x u:Value}(h:qa2 W v n)(hp:W.cell? p=some u)(hu:∀k z,u ≠ .int k z):qa2 (W.setCell p x) v n:=by
 obtain⟨h1,q,c,h2,h3,h4,h5⟩:=h;refine⟨h1,q,c,h2,h3,h4, ?_⟩;rcases h5 with h5|⟨b,o,h6,h7⟩
 ·exact .inl h5
 ·refine .inr ⟨b,o,h6,fun i hi => ?_⟩
  have hc:=h7 i hi;by_cases e:p=⟨b,o+i,none⟩
  ·rw[e,hc] at hp
   injection hp with hp
   exact absurd hp.symm (by unfold wd;exact hu _ _)
  ·rw[World.cell?_setCell_other _ _ _ _ e];exact hc
def rs(q:Rat):Nat:=wl q.num.natAbs+wl q.den
def qcr(neg:Bool)(top bot:Value)(i:Nat):Value:=if i=0 then .bool neg else if i=1 then top else bot
def qby(w:World)(na:Bool)(ta ba:Value)(nb:Bool)(tb bb:Value)(W:World):Prop:=
 Below w.heap.size w W∧Own W w.heap.size 3 (qcr na ta ba)∧Own W (w.heap.size+1) 3 (qcr nb tb bb)∧Own W (w.heap.size+2) 3 (qcr false (.slice none 0 0) (.slice none 0 0))
theorem qby.later{w:World}{na nb:Bool}{ta ba tb bb:Value}{W W':World}(h:qby w na ta ba nb tb bb W)(hb:Below W.heap.size W W'):qby w na ta ba nb tb bb W':=by
 obtain⟨h1,h2,h3,h4⟩:=h;have:=h4.1;exact⟨h1.trans (hb.mono h1.size),h2.later (hb.mono (by omega)),h3.later (hb.mono (by omega)),h4.later (hb.mono (by omega))⟩
theorem qby.drew{w:World}{na nb:Bool}{ta ba tb bb:Value}{W:World}(h:qby w na ta ba nb tb bb W):qby w na ta ba nb tb bb W.drew:=h.later ((qaa _ _).drew)
theorem qce{w W:World}{na nb:Bool}{ta ba tb bb:Value}{f:FuncId}{args:Array Value}{P:Ending→World→Prop}(hW:qby w na ta ba nb tb bb W)
  (h:Calls Tryz.prog f args W fun e w'=>P e w'∧Below W.heap.size W w'):Calls Tryz.prog f args W fun e w'=>P e w'∧qby w na ta ba nb tb bb w'∧Below W.heap.size W w':=
 h.mono fun _ _ ⟨h1,h2⟩=>⟨h1,hW.later h2,h2⟩
theorem qld(w:World)(na:Bool)(ta ba:Value)(nb:Bool)(tb bb:Value):
  qby w na ta ba nb tb bb (((w.alloc (.cells #[.bool na,ta,ba] 85)).alloc (.cells #[.bool nb,tb,bb] 85)).alloc (.cells #[.bool false,.slice none 0 0,.slice none 0 0] 85)):=by
 have qqm:∀(V:World) (n:Bool) (t b:Value),Own (V.alloc (.cells #[.bool n,t,b] 85)) V.heap.size 3 (qcr n t b):=fun V n t b=>by
  refine⟨by rw[qab];omega,fun i hi => ?_⟩;rw[World.cell?_alloc_at _ _ _ _ rfl,World.frozen?_alloc_at _ _ _ _ rfl]
  match i,hi with
  | 0,_=>exact⟨rfl,rfl⟩
  | 1,_=>exact⟨rfl,rfl⟩
  | 2,_=>exact⟨rfl,rfl⟩
 have h1:=qqm w na ta ba;have h2:=qqm (w.alloc (.cells #[.bool na,ta,ba] 85)) nb tb bb;have h3:=qqm ((w.alloc (.cells #[.bool na,ta,ba] 85)).alloc (.cells #[.bool nb,tb,bb] 85)) false (.slice none 0 0) (.slice none 0 0);simp only[qab] at h2 h3;have al:∀(V:World) (o:Obj),Below V.heap.size V (V.alloc o):=fun V o=>qad _ _;refine⟨((al w _).trans ((al _ _).mono (by rw[qab];omega))).trans ((al _ _).mono (by rw[qab,qab];omega)), ?_, ?_,h3⟩
 ·exact(h1.later ((al _ _).mono (by rw[qab];omega))).later ((al _ _).mono (by rw[qab,qab];omega))
 ·exact h2.later ((al _ _).mono (by rw[qab,qab];omega))
theorem qa1{w:World}{na nb:Bool}{ta ba tb bb:Value}{W:World}(h:qby w na ta ba nb tb bb W):
  W.cell? ⟨w.heap.size,0,none⟩=some (.bool na)∧W.cell? ⟨w.heap.size,1,none⟩=some ta∧W.cell? ⟨w.heap.size,2,none⟩=some ba∧
  W.cell? ⟨w.heap.size+1,0,none⟩=some (.bool nb)∧W.cell? ⟨w.heap.size+1,1,none⟩=some tb∧W.cell? ⟨w.heap.size+1,2,none⟩=some bb:=
 ⟨(h.2.1.2 0 (by omega)).1,(h.2.1.2 1 (by omega)).1,(h.2.1.2 2 (by omega)).1,(h.2.2.1.2 0 (by omega)).1,(h.2.2.1.2 1 (by omega)).1,(h.2.2.1.2 2 (by omega)).1⟩
theorem qhy(va vb:Value)(a b:Rat)(w:World)(ha:qaw w va a)(hb:qaw w vb b)(aQ:rs a+rs b+2≤Cap):
  Calls Tryz.prog 72 #[va,vb] w fun e w'=>(∃v',e = .returned v'∧qaw w' v' (a+b))∧Below w.heap.size w w':=by
 have HA:=hid ha;have HB:=hid hb;obtain⟨ta,ba,rfl,dM,eO⟩:=ha;obtain⟨tb,bb,rfl,aY,aR⟩:=hb;obtain⟨aH,aI,aJ,rfl,hx⟩:=qa4 dM;clear hx;obtain⟨aM,aL,aN,rfl,hx⟩:=qa4 eO;clear hx;obtain⟨aZ,bA,bB,rfl,hx⟩:=qa4 aY;clear hx;obtain⟨bF,bG,bH,rfl,hx⟩:=qa4 aR;clear hx;have eM:=hid dM;have aP:=hid aY;have cM:=hid aQ;generalize hna:decide (a.num<0)=na at *;generalize iD:decide (b.num<0)=nb at *;have dN:=hid hna;have jL:=hid iD;have aO:=hid (qld w na (.slice aH aI aJ) (.slice aM aL aN) nb (.slice aZ bA bB) (.slice bF bG bH));have gD:Hid (∀W,qby w na (.slice aH aI aJ) (.slice aM aL aN) nb (.slice aZ bA bB) (.slice bF bG bH) W→Calls Tryz.prog 100 #[.agg #[.bool na,.slice aH aI aJ,.slice aM aL aN]] W fun e w'=>(∃v',e = .returned v'∧qa2 w' v' a.den)∧qby w na (.slice aH aI aJ) (.slice aM aL aN) nb (.slice aZ bA bB) (.slice bF bG bH) w'∧Below W.heap.size W w'):=hid fun W hW=>qce hW (qb9 _ a W (HA.out.later hW.1));have fQ:Hid (∀W,qby w na (.slice aH aI aJ) (.slice aM aL aN) nb (.slice aZ bA bB) (.slice bF bG bH) W→Calls Tryz.prog 100 #[.agg #[.bool nb,.slice aZ bA bB,.slice bF bG bH]] W fun e w'=>(∃v',e = .returned v'∧qa2 w' v' b.den)∧qby w na (.slice aH aI aJ) (.slice aM aL aN) nb (.slice aZ bA bB) (.slice bF bG bH) w'∧Below W.heap.size W w'):=hid fun W hW=>qce hW (qb9 _ b W (HB.out.later hW.1))
 have Nx:Hid (∀W v1 v2,qby w na (.slice aH aI aJ) (.slice aM aL aN) nb (.slice aZ bA bB) (.slice bF bG bH) W→qa2 W v1 a.den→qa2 W v2 b.den→Calls Tryz.prog 102 #[v1,v2] W fun e w'=>(∃v',e = .returned v'∧qa2 w' v' (a.den.gcd b.den))∧qby w na (.slice aH aI aJ) (.slice aM aL aN) nb (.slice aZ bA bB) (.slice bF bG bH) w'∧Below W.heap.size W w'):=
  hid fun W v1 v2 hW h1 h2=>qce hW (qdu v1 v2 _ _ W h1 h2 (by unfold rs at aQ;omega) (by unfold rs at aQ;omega))
 have Kl:wl a.num.natAbs+wl a.den+(wl b.num.natAbs+wl b.den)+2≤Cap:=aQ;have dQ:=hid Kl;have yU:Hid (0<a.den.gcd b.den):=hid (Nat.gcd_pos_of_pos_left _ a.den_pos)
 have cT:Hid (∀W v1 v2 m n,qby w na (.slice aH aI aJ) (.slice aM aL aN) nb (.slice aZ bA bB) (.slice bF bG bH) W→qa2 W v1 m→qa2 W v2 n→0<n→wl m≤Cap→Calls Tryz.prog 103 #[v1,v2] W fun e w'=>(∃vq vr,e = .returned (.tuple #[vq,vr])∧qa2 w' vq (m/n)∧qa2 w' vr (m % n))∧qby w na (.slice aH aI aJ) (.slice aM aL aN) nb (.slice aZ bA bB) (.slice bF bG bH) w'∧Below W.heap.size W w'):=
  hid fun W v1 v2 m n hW h1 h2 h3 h4=>qce hW (qme v1 v2 m n W h1 h2 h3 h4)
 have nP:Hid (∀W v1 v2 m n,qby w na (.slice aH aI aJ) (.slice aM aL aN) nb (.slice aZ bA bB) (.slice bF bG bH) W→qa2 W v1 m→qa2 W v2 n→wl m≤Cap→wl n≤Cap→Calls Tryz.prog 99 #[v1,v2] W fun e w'=>(∃v',e = .returned v'∧qa2 w' v' (m*n))∧qby w na (.slice aH aI aJ) (.slice aM aL aN) nb (.slice aZ bA bB) (.slice bF bG bH) w'∧Below W.heap.size W w'):=
  hid fun W v1 v2 m n hW h1 h2 h3 h4=>qce hW (qgs v1 v2 m n W h1 h2 h3 h4)
 have yV:Hid (∀W v1 v2 p q,qby w na (.slice aH aI aJ) (.slice aM aL aN) nb (.slice aZ bA bB) (.slice bF bG bH) W→qa2 W v1 p→qa2 W v2 q→wl p≤Cap→wl q≤Cap→Calls Tryz.prog 116 #[.bool na,v1,.bool nb,v2] W fun e w'=>((∃(ns:Bool) (vs:Value) (s:Nat),e = .returned (.tuple #[.bool ns,vs])∧qa2 w' vs s∧(if ns then -(s:Int) else s)=(if na then -(p:Int) else p)+(if nb then -(q:Int) else q))∧Below W.heap.size W w')):=
  hid fun W v1 v2 p q _ h1 h2 h3 h4=>qre na nb v1 v2 p q W h1 h2 h3 h4
 have qB:Hid (wl (a.den/a.den.gcd b.den)≤wl a.den):=hid (qdo (Nat.div_le_self _ _));have Jy:Hid (wl (b.den/a.den.gcd b.den)≤wl b.den):=hid (qdo (Nat.div_le_self _ _));have tT:=hid (qyc a b)
 have HGZ:Hid (∀W v1 v2 z,qby w na (.slice aH aI aJ) (.slice aM aL aN) nb (.slice aZ bA bB) (.slice bF bG bH) W→qa2 W v1 z→qa2 W v2 (a.den.gcd b.den)→wl z≤Cap→Calls Tryz.prog 102 #[v1,v2] W fun e w'=>(∃v',e = .returned v'∧qa2 w' v' (z.gcd (a.den.gcd b.den)))∧qby w na (.slice aH aI aJ) (.slice aM aL aN) nb (.slice aZ bA bB) (.slice bF bG bH) w'∧Below W.heap.size W w'):=
  hid fun W v1 v2 z hW h1 h2 h3=>qce hW (qdu v1 v2 _ _ W h1 h2 h3 (Nat.le_trans (qdo (Nat.gcd_le_left _ a.den_pos)) (by omega)))
 clear dM eO aY aR aQ hna iD Kl;go_enter Tryz.func72,Tryz.ntmps72;go_wp2_with fail;generalize ((w.alloc (.cells #[.bool na,.slice aH aI aJ,.slice aM aL aN] 85)).alloc (.cells #[.bool nb,.slice aZ bA bB,.slice bF bG bH] 85)).alloc (.cells #[.bool false,.slice none 0 0,.slice none 0 0] 85)=w0 at *;have cF:=hid aO.out.drew
 go_region_held3 (fun W=>W.cell? ⟨w.heap.size,0,none⟩=some (.bool na)∧W.cell? ⟨w.heap.size,1,none⟩=some (.slice aH aI aJ)∧W.cell? ⟨w.heap.size,2,none⟩=some (.slice aM aL aN)∧W.cell? ⟨w.heap.size+1,0,none⟩=some (.bool nb)∧W.cell? ⟨w.heap.size+1,1,none⟩=some (.slice aZ bA bB)∧W.cell? ⟨w.heap.size+1,2,none⟩=some (.slice bF bG bH)) (first|exact qa1 Hc.out|exact qa1 Ee.out|exact qa1 tR.out|exact qa1 cF.out)
  (first
   | (go_at_call 100;first
     | ((with_reducible refine(gD.out _ ?qa).mono ?_);(case qa=>first|exact tR.out|exact cF.out);rintro e wA ⟨⟨vA,rfl,hn⟩,ht,hb⟩;have lJ:=hid hn;have Ee:=hid ht;have dE:=hid hb;clear hn ht hb)
     | ((with_reducible refine(fQ.out _ ?qb).mono ?_);(case qb=>first|exact Ee.out|exact cF.out);rintro e wB ⟨⟨vB,rfl,hn⟩,ht,hb⟩;have qD:=hid hn;have tR:=hid ht;have aV:=hid hb;clear hn ht hb))
   | (go_at_call 102;(refine(Nx.out _ _ _ ?q1 ?q2 ?q3).mono ?_);(case q1=>first|exact tR.out|exact Ee.out);(case q2=>first|exact lJ.out|exact lJ.out.later aV.out);(case q3=>first|exact qD.out|exact qD.out.later dE.out);rintro e wG ⟨⟨vG,rfl,hn⟩,ht,hb⟩;have HVG:=hid hn;have Hc:=hid ht;clear hn ht hb))
 have HBG:Hid (Below w.heap.size w wG):=hid Hc.out.1;clear cF aO lJ qD Ee tR;go_wp2_with fail;refine(gD.out _ Hc.out).mono ?_;rintro e w1 ⟨⟨v1,rfl,hn⟩,ht,hb⟩;have gE:=hid hn;have cW:=hid ht;have Ny:=hid (HVG.out.later hb);clear hn ht hb;go_wp2_with fail;refine(cT.out _ _ _ _ _ cW.out gE.out Ny.out yU.out (by have:=dQ.out;omega)).mono ?_;rintro e w2 ⟨⟨vL,vx,rfl,hn,_⟩,ht,hb⟩;have iH:=hid hn;have gF:=hid ht;have HVG2:=hid (Ny.out.later hb);clear hn ht hb;obtain⟨d10,d11,d12,d20,d21,d22⟩:=qa1 gF.out;go_wp2_with fail;clear d10 d11 d12 d20 d21 d22;refine(fQ.out _ gF.out).mono ?_;rintro e w3 ⟨⟨v3,rfl,hn⟩,ht,hb⟩;have iU:=hid hn;have oR:=hid ht;have Nz:=hid (HVG2.out.later hb);have HVL3:=hid (iH.out.later hb);clear hn ht hb;go_wp2_with fail;refine(cT.out _ _ _ _ _ oR.out iU.out Nz.out yU.out (by have:=dQ.out;omega)).mono ?_;rintro e w4 ⟨⟨vR,vy,rfl,hn,_⟩,ht,hb⟩;have HVR4:=hid hn;have Bs:=hid ht;have HVG4:=hid (Nz.out.later hb);have Oa:=hid (HVL3.out.later hb);have sT:=hid ht.drew;have Hd:=hid (eM.out.later ht.1);have eG:=hid (aP.out.later ht.1);clear hn ht hb;have He:Below w4.heap.size w4 w4.drew:=(qaa _ _).drew
 have gK:Hid (∀W,qby w na (.slice aH aI aJ) (.slice aM aL aN) nb (.slice aZ bA bB) (.slice bF bG bH) W→Below w4.heap.size w4 W→Calls Tryz.prog 99 #[.slice aH aI aJ,vR] W fun e w'=>(∃v',e = .returned v'∧qa2 w' v' (a.num.natAbs*(b.den/a.den.gcd b.den)))∧qby w na (.slice aH aI aJ) (.slice aM aL aN) nb (.slice aZ bA bB) (.slice bF bG bH) w'∧Below w4.heap.size w4 w'∧Below W.heap.size W w'):=
  hid fun W hW hB=>(nP.out W _ _ _ _ hW (Hd.out.later hB) (HVR4.out.later hB) (by have:=dQ.out;omega) (by have:=dQ.out;have:=Jy.out;have:=qB.out;omega)).mono fun _ _ ⟨h1,h2,h3⟩=>⟨h1,h2,hB.trans (h3.mono hB.size),h3⟩
 have fF:Hid (∀W,qby w na (.slice aH aI aJ) (.slice aM aL aN) nb (.slice aZ bA bB) (.slice bF bG bH) W→Below w4.heap.size w4 W→Calls Tryz.prog 99 #[.slice aZ bA bB,vL] W fun e w'=>(∃v',e = .returned v'∧qa2 w' v' (b.num.natAbs*(a.den/a.den.gcd b.den)))∧qby w na (.slice aH aI aJ) (.slice aM aL aN) nb (.slice aZ bA bB) (.slice bF bG bH) w'∧Below w4.heap.size w4 w'∧Below W.heap.size W w'):=
  hid fun W hW hB=>(nP.out W _ _ _ _ hW (eG.out.later hB) (Oa.out.later hB) (by have:=dQ.out;omega) (by have:=dQ.out;have:=Jy.out;have:=qB.out;omega)).mono fun _ _ ⟨h1,h2,h3⟩=>⟨h1,h2,hB.trans (h3.mono hB.size),h3⟩
 have HAS:Hid (∀W v1 v2 p q,qby w na (.slice aH aI aJ) (.slice aM aL aN) nb (.slice aZ bA bB) (.slice bF bG bH) W→Below w4.heap.size w4 W→qa2 W v1 p→qa2 W v2 q→wl p≤Cap→wl q≤Cap→Calls Tryz.prog 116 #[.bool na,v1,.bool nb,v2] W fun e w'=>(∃(ns:Bool) (vs:Value) (s:Nat),e = .returned (.tuple #[.bool ns,vs])∧qa2 w' vs s∧(if ns then -(s:Int) else s)=(if na then -(p:Int) else p)+(if nb then -(q:Int) else q))∧qby w na (.slice aH aI aJ) (.slice aM aL aN) nb (.slice aZ bA bB) (.slice bF bG bH) w'∧Below w4.heap.size w4 w'):=
  hid fun W v1 v2 p q hW hB h1 h2 h3 h4=>(yV.out W v1 v2 p q hW h1 h2 h3 h4).mono fun _ _ ⟨h5,h6⟩=>⟨h5,hW.later h6,hB.trans (h6.mono hB.size)⟩
 have Ob:=hid He;clear He;have eJ:Hid (wl (a.num.natAbs*(b.den/a.den.gcd b.den))≤wl a.num.natAbs+wl b.den):=hid (Nat.le_trans (qoj _ _) (by have:=Jy.out;omega));have cO:Hid (wl (b.num.natAbs*(a.den/a.den.gcd b.den))≤wl b.num.natAbs+wl a.den):=hid (Nat.le_trans (qoj _ _) (by have:=qB.out;omega));go_wp2_with fail
 go_region_held3 (fun W=>W.cell? ⟨w.heap.size,0,none⟩=some (.bool na)∧W.cell? ⟨w.heap.size,1,none⟩=some (.slice aH aI aJ)∧W.cell? ⟨w.heap.size,2,none⟩=some (.slice aM aL aN)∧W.cell? ⟨w.heap.size+1,0,none⟩=some (.bool nb)∧W.cell? ⟨w.heap.size+1,1,none⟩=some (.slice aZ bA bB)∧W.cell? ⟨w.heap.size+1,2,none⟩=some (.slice bF bG bH)) (first|exact qa1 cY.out|exact qa1 iV.out|exact qa1 nV.out|exact qa1 sT.out)
  (first
   | (go_at_call 99;first
     | ((with_reducible refine(gK.out _ ?qa ?qc).mono ?_);(case qa=>first|exact nV.out|exact sT.out);(case qc=>first|exact tU.out|exact Ob.out);rintro e wX ⟨⟨vX,rfl,hn⟩,ht,kV,hb⟩;have fW:=hid hn;have iV:=hid ht;have HBX0:=hid hb;have fT:=hid kV;clear hn ht hb kV)
     | ((with_reducible refine(fF.out _ ?qb ?qd).mono ?_);(case qb=>first|exact iV.out|exact sT.out);(case qd=>first|exact fT.out|exact Ob.out);rintro e wY ⟨⟨vY,rfl,hn⟩,ht,kV,hb⟩;have nW:=hid hn;have nV:=hid ht;have HBY0:=hid hb;have tU:=hid kV;clear hn ht hb kV))
   | (go_at_call 116;(first|refine(HAS.out _ _ _ _ _ nV.out tU.out (fW.out.later HBY0.out) nW.out ?q4 ?q5).mono ?_|refine(HAS.out _ _ _ _ _ iV.out fT.out fW.out (nW.out.later HBX0.out) ?q4 ?q5).mono ?_);(case q4=>have h1:=dQ.out;have h2:=eJ.out;omega);(case q5=>have h1:=dQ.out;have h2:=cO.out;omega);rintro e wZ ⟨⟨ns,vZ,z,rfl,hn,hz⟩,ht,kV⟩;have Ai:=hid hn;have Hf:=hid hz;have cY:=hid ht;have qH:=hid kV;clear hn hz ht kV))
 have HVG5:=hid (HVG4.out.later qH.out);have HVL5:=hid (Oa.out.later qH.out);obtain⟨Z,hZ⟩:∃Z:Int,Z=a.num*((b.den/a.den.gcd b.den:Nat):Int)+b.num*((a.den/a.den.gcd b.den:Nat):Int):=⟨_,rfl⟩;have pK:=tT.out Z hZ
 have rY:(if ns then -(z:Int) else z)=Z:=by
  rw[hZ];have h1:=Hf.out
  have ea:a.num=if na then -(a.num.natAbs:Int) else a.num.natAbs:=by
   rw[←dN.out];by_cases h:a.num<0
   ·rw[qag h];simp;omega
   ·rw[qae h];simp;omega
  have eb:b.num=if nb then -(b.num.natAbs:Int) else b.num.natAbs:=by
   rw[←jL.out];by_cases h:b.num<0
   ·rw[qag h];simp;omega
   ·rw[qae h];simp;omega
  rw[h1,Int.natCast_mul,Int.natCast_mul];generalize (b.den/a.den.gcd b.den)=R at *;generalize (a.den/a.den.gcd b.den)=L at *;generalize a.num.natAbs=x at *;generalize b.num.natAbs=y at *;rw[ea,eb];cases na<;>cases nb<;>simp<;>grind
 have Km:z=Z.natAbs:=by cases ns<;>simp at rY<;>omega
 have Hg:wl z≤Cap:=by
  have h1:=Hf.out
  have h2:z≤a.num.natAbs*(b.den/a.den.gcd b.den)+b.num.natAbs*(a.den/a.den.gcd b.den):=by
   generalize a.num.natAbs*(b.den/a.den.gcd b.den)=x at *;generalize b.num.natAbs*(a.den/a.den.gcd b.den)=y at *;cases ns<;>cases na<;>cases nb<;>simp at h1<;>omega
  have h3:=qdo h2;have h4:=q9p (a.num.natAbs*(b.den/a.den.gcd b.den)) (b.num.natAbs*(a.den/a.den.gcd b.den));have h5:=eJ.out;have h6:=cO.out;have h7:=dQ.out;omega
 rw[←Km] at pK;have fA:0<z.gcd (a.den.gcd b.den):=Nat.gcd_pos_of_pos_right _ yU.out;have kS:=hid fA
 have eK:Hid ((ns&&decide (0<z/z.gcd (a.den.gcd b.den)))=decide ((a+b).num<0)):=by
  refine hid ?_
  have h0:0<z/z.gcd (a.den.gcd b.den)↔0<z:=by
   constructor
   ·intro h
    rcases qas z with e|e
    ·rw[e,Nat.zero_div] at h;omega
    ·exact e
   ·intro h
    exact Nat.div_pos (Nat.le_of_dvd h (Nat.gcd_dvd_left _ _)) fA
  have h1:(a+b).num<0↔Z<0:=pK.2.1;cases ns
  ·rw[Bool.false_and];symm;apply qae;rw[h1];simp at rY;omega
  ·rw[Bool.true_and];apply decide_eq_decide.2;rw[h1,h0];simp at rY;omega
 have Hh:=hid pK;have HZC:=hid Hg;have HGC6:=hid (HGZ.out _ _ _ _ cY.out Ai.out HVG5.out Hg);clear pK rY Km Hg fA hZ Hf tT eJ cO;go_wp2_with fail;refine HGC6.out.mono ?_;rintro e w6 ⟨⟨vC,rfl,hn⟩,ht,hb⟩;have Oc:=hid hn;have HT6:=hid ht;have HVZ6:=hid (Ai.out.later hb);have HVL6:=hid (HVL5.out.later hb);clear hn ht hb;go_wp2_with fail;refine(cT.out _ _ _ _ _ HT6.out HVZ6.out Oc.out kS.out HZC.out).mono ?_;rintro e w7 ⟨⟨vT,vt2,rfl,hn,_⟩,ht,hb⟩;have HVT7:=hid hn;have Kn:=hid ht;have HVC7:=hid (Oc.out.later hb);have HVL7:=hid (HVL6.out.later hb);clear hn ht hb;obtain⟨d10,d11,d12,d20,d21,d22⟩:=qa1 Kn.out;go_wp2_with fail;clear d10 d11 d12 d20 d21 d22;refine(fQ.out _ Kn.out).mono ?_;rintro e w8 ⟨⟨v8,rfl,hn⟩,ht,hb⟩;have yK:=hid hn;have HT8:=hid ht;have HVC8:=hid (HVC7.out.later hb);have HVL8:=hid (HVL7.out.later hb);have HVT8:=hid (HVT7.out.later hb);clear hn ht hb;go_wp2_with fail;refine(cT.out _ _ _ _ _ HT8.out yK.out HVC8.out kS.out (by have:=dQ.out;omega)).mono ?_;rintro e w9 ⟨⟨vB9,vb9,rfl,hn,_⟩,ht,hb⟩;have HVB9:=hid hn;have HT9:=hid ht;have HVL9:=hid (HVL8.out.later hb);have HVT9:=hid (HVT8.out.later hb);clear hn ht hb;go_wp2_with fail;refine(nP.out _ _ _ _ _ HT9.out HVL9.out HVB9.out (by have:=dQ.out;have:=qB.out;omega) (Nat.le_trans (qdo (Nat.div_le_self _ _)) (by have:=dQ.out;omega))).mono ?_;rintro e w10 ⟨⟨vP,rfl,hn⟩,ht,hb⟩;have Od:=hid hn;have HT10:=hid ht;have Oe:=hid (HVT9.out.later hb);clear hn ht hb;have gW:=hid (qe3 ns _ vT vP _ _ _ w10 Oe.out Od.out eK.out.symm rfl);go_wp2_with fail;refine gW.out.mono ?_;rintro e w11 ⟨⟨vF,rfl,dT,lC⟩,hb⟩;have Bt:=hid (HT10.out.later hb);have gI:=hid dT;have jT:=hid lC;clear dT lC hb;obtain⟨pt,kt,ct,rfl,hx⟩:=qa4 gI.out;clear hx;obtain⟨pf,kf,cf,rfl,hx⟩:=qa4 jT.out;clear hx
 obtain⟨r0,g0⟩:w11.cell? ⟨w.heap.size+1+1,0,none⟩=_∧w11.frozen? ⟨w.heap.size+1+1,0,none⟩=false:=Bt.out.2.2.2.2 0 (by omega);obtain⟨r1,g1⟩:w11.cell? ⟨w.heap.size+1+1,1,none⟩=_∧w11.frozen? ⟨w.heap.size+1+1,1,none⟩=false:=Bt.out.2.2.2.2 1 (by omega);obtain⟨r2,g2⟩:w11.cell? ⟨w.heap.size+1+1,2,none⟩=_∧w11.frozen? ⟨w.heap.size+1+1,2,none⟩=false:=Bt.out.2.2.2.2 2 (by omega);simp only[qcr] at r0 r1 r2
 have aF:Hid (∀W,Below w.heap.size w11 W→(∀v n,qa2 w11 v n→qa2 W v n)→qaw W (.agg #[.bool (decide ((a+b).num<0)),.slice pt kt ct,.slice pf kf cf]) (a+b)):=by
  refine hid fun W _ hN=>⟨_,_,rfl, ?_, ?_⟩
  ·rw[Hh.out.1];exact hN _ _ gI.out
  ·rw[Hh.out.2.2];exact hN _ _ jT.out
 generalize decide ((a+b).num<0)=sg at *;go_wp2_with fail;refine bodyPost_ret (v := .agg #[.bool sg,.slice pt kt ct,.slice pf kf cf]) ?_ rfl ?_
 ·simp[results,Tryz.results72,go_sem,r0,r1,r2]
 ·have hb:Below w.heap.size w11 (((w11.setCell ⟨w.heap.size+1+1,0,none⟩ (.bool sg)).setCell ⟨w.heap.size+1+1,1,none⟩ (.slice pt kt ct)).setCell ⟨w.heap.size+1+1,2,none⟩ (.slice pf kf cf)):=
   (((qaa _ _).setCell (by show w.heap.size≤w.heap.size+1+1;omega) _).setCell (by show w.heap.size≤w.heap.size+1+1;omega) _).setCell (by show w.heap.size≤w.heap.size+1+1;omega) _
  refine⟨⟨_,rfl,aF.out _ hb ?_⟩,Bt.out.1.trans hb⟩;intro v n hN;refine((hN.setOther r0 (by intro k z h;cases h)).setOther (u := .slice none 0 0) ?_ (by intro k z h;cases h)).setOther (u := .slice none 0 0) ?_ (by intro k z h;cases h)
  ·rw[World.cell?_setCell_other _ _ _ _ (by intro h;injection h with _ h;cases h)];exact r1
  ·rw[World.cell?_setCell_other _ _ _ _ (by intro h;injection h with _ h;cases h),World.cell?_setCell_other _ _ _ _ (by intro h;injection h with _ h;cases h)];exact r2
end Go.Proofs.YtmcfcpgglfimjaaGreatDoor
