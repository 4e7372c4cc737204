/- The small functions of rational numbers: number, denominator, IsWhole, Sign, Negated, addSigned. -/
import Derived.Test.YtclimablgihlhaaGreatDoorMGcd
import Derived.Test.YtclimablgihlhaaGreatDoorMMaths
set_option linter.all false
namespace Go.Proofs.YtclimablgihlhaaGreatDoor
open Go.RowKit
set_option maxRecDepth 100000
set_option maxHeartbeats 2000000
def qaj(w:World)(v:Value)(q:Rat):Prop:=
 ∃top bot,v = .agg #[.bool (decide (q.num<0)),top,bot]∧qap w top q.num.natAbs∧qap w bot (if q.den=1 then 0 else q.den)
theorem qaj.later{w w':World}{v:Value}{q:Rat}(h:qaj w v q)(hb:Below w.heap.size w w'):qaj w' v q:=by
 obtain⟨top,bot,h1,h2,h3⟩:=h;exact⟨top,bot,h1,h2.later hb,h3.later hb⟩
def sgn(q:Rat):Int:=if q.num<0 then -1 else if q.num=0 then 0 else 1
theorem qar{w:World}{v:Value}{n:Nat}(h:qap w v n):∃(p:Option Addr) (k c:Nat),v = .slice p k c∧k=wl n:=by
 obtain⟨_,p,c,hv,_⟩:=h;exact⟨p,_,c,hv,rfl⟩
theorem qp6{n:Nat}(h:0<n):0<wl n:=by
 rcases zav (wl n) with e|e
 ·have:=qek e;omega
 ·exact e
theorem qck:wl 0=0:=by unfold wl;rw[qal];rfl
theorem qdl(v:Value)(q:Rat)(w:World)(h:qaj w v q):
  Calls Tryz.prog 70 #[v] w fun e w'=>e = .returned (.int .i64 (sgn q))∧Below w.heap.size w w':=by
 obtain⟨top,bot,rfl,h1,_⟩:=h;obtain⟨p,k,c,rfl,hk⟩:=qar h1;have HB:∀o,Hid (Below w.heap.size w (w.alloc o)):=fun o=>hid (zam _ _);by_cases hn:q.num<0
 ·have HS:Hid (sgn q = -1):=hid (if_pos hn)
  have hd:decide (q.num<0)=true:=zas hn;rw[hd];clear hd hn h1 hk;go_enter Tryz.func70,Tryz.ntmps70;go_wp2_with fail;go_ret;exact⟨qa0 HS.out.symm,(HB _).out⟩
 ·have hd:decide (q.num<0)=false:=zar hn
  rw[hd];by_cases h0:q.num=0
  ·have HS:Hid (sgn q=0):=hid (by unfold sgn;rw[if_neg hn,if_pos h0])
   have oG:k=0:=by rw[hk,h0];exact qck
   subst oG;clear hd hn h1 hk h0;go_enter Tryz.func70,Tryz.ntmps70;go_wp2_with fail;go_ret;exact⟨qa0 HS.out.symm,(HB _).out⟩
  ·have HS:Hid (sgn q=1):=hid (by unfold sgn;rw[if_neg hn,if_neg h0])
   have oG:0<k:=by rw[hk];exact qp6 (by omega)
   have oA:((k:Int)==0)=false:=zat (by omega);clear hd hn h1 hk h0 oG;go_enter Tryz.func70,Tryz.ntmps70;go_wp2_with fail;go_ret;exact⟨qa0 HS.out.symm,(HB _).out⟩
theorem qj7(v:Value)(q:Rat)(w:World)(h:qaj w v q):
  Calls Tryz.prog 95 #[v] w fun e w'=>e = .returned (.bool (decide (q.den=1)))∧Below w.heap.size w w':=by
 obtain⟨top,bot,rfl,_,h1⟩:=h;obtain⟨p,k,c,rfl,hk⟩:=qar h1;have HB:∀o,Hid (Below w.heap.size w (w.alloc o)):=fun o=>hid (zam _ _);generalize decide (q.num<0)=neg
 have HK:Hid (((k:Int)==0)=decide (q.den=1)):=by
  refine hid ?_;by_cases hd:q.den=1
  ·rw[if_pos hd,qck] at hk
   rw[hk,zas hd];rfl
  ·rw[if_neg hd] at hk
   have:=qp6 q.den_pos;rw[zar hd];exact zat (by omega)
 clear h1 hk;go_enter Tryz.func95,Tryz.ntmps95;go_wp2_with fail;go_ret;exact⟨qbb HK.out,(HB _).out⟩
theorem qbx(v:Value)(q:Rat)(w:World)(h:qaj w v q):
  Calls Tryz.prog 73 #[v] w fun e w'=>(∃v',e = .returned v'∧qap w' v' q.den)∧Below w.heap.size w w':=by
 obtain⟨top,bot,rfl,_,h1⟩:=h;obtain⟨p,k,c,rfl,hk⟩:=qar h1;generalize decide (q.num<0)=neg;have HH:=hid h1;have HB:∀o,Hid (Below w.heap.size w (w.alloc o)):=fun o=>hid (zam _ _);by_cases hd:q.den=1
 ·rw[if_pos hd,qck] at hk
  subst hk;have HD:=hid hd;have Dc:Hid (∀W:World,qap (W.alloc (.cells #[.int .u64 ((1:Nat):Int)] 130)) (.slice (some ⟨W.heap.size,0,none⟩) 1 1) 1):=hid fun W=>qj6 W 1 (by rw[qab];omega) (by omega);clear h1 hd;go_enter Tryz.func73,Tryz.ntmps73;go_wp2_with fail;go_ret;refine⟨⟨_,rfl, ?_⟩, ?_⟩
  ·rw[HD.out]
   have:=Dc.out (w.alloc (.cells #[.bool neg,top,.slice p 0 c] 74));rw[zao] at this;exact this
  ·exact(HB _).out.alloc (by rw[zao];omega) _
 ·rw[if_neg hd] at HH hk
  have oA:((k:Int)==0)=false:=zat (by have:=qp6 q.den_pos;omega);clear h1 hd hk;go_enter Tryz.func73,Tryz.ntmps73;go_wp2_with fail;go_ret;exact⟨⟨_,rfl,HH.out.later (HB _).out⟩,(HB _).out⟩
theorem qez(neg nb:Bool)(vt vb:Value)(p d dd:Nat)(w:World)(ht:qap w vt p)(hb:qap w vb d)(jI:nb=(neg&&decide (0<p)))(tM:dd=if d=1 then 0 else d):
  Calls Tryz.prog 74 #[.bool neg,vt,vb] w fun e w'=>(∃vb',e = .returned (.agg #[.bool nb,vt,vb'])∧qap w' vt p∧qap w' vb' dd)∧Below w.heap.size w w':=by
 have Ek:=fun(b:Bool) (hbb:b=decide (d=1)) (W:World) (h:Below w.heap.size w W)=>qca vb d b hbb W (hb.later h);obtain⟨pt,k,c,rfl,hk⟩:=qar ht;obtain⟨pb,kb,cb,rfl,oA⟩:=qar hb;clear oA;have HT:=hid ht;have aX:=hid hb;have HB:∀o,Hid (Below w.heap.size w (w.alloc o)):=fun o=>hid (zam _ _)
 have HK:Hid (nb=(neg&&decide (0<k))):=by
  refine hid ?_;rw[jI,hk]
  congr 1
  refine decide_eq_decide.2 ?_;rcases zav p with e|e
  ·rw[e,qck]
  ·have:=qp6 e;omega
 by_cases hd:d=1
 ·have HO:=hid (Ek true (by simp[hd]))
  have HD:Hid (dd=0):=hid (by rw[tM,if_pos hd]);clear Ek ht hb hd hk jI tM;cases neg
  all_goals
   go_enter Tryz.func74,Tryz.ntmps74;go_wp2_with fail;refine(HO.out _ (HB _).out).mono ?_;rintro e w' ⟨rfl,hw⟩;subst hw;go_wp2_with fail;have hk:=HK.out;simp only[Bool.false_and,Bool.true_and] at hk;refine bodyPost_ret (v := .agg #[.bool nb,.slice pt k c,.slice none 0 0]) ?_ rfl ?_
   ·simp[results,Tryz.results74,go_sem,hk]
   ·exact⟨⟨_,rfl,HT.out.later (HB _).out,by rw[HD.out];exact qap.nil _⟩,(HB _).out⟩
 ·have HO:=hid (Ek false (by simp[hd]))
  have HD:Hid (dd=d):=hid (by rw[tM,if_neg hd]);clear Ek ht hb hd hk jI tM;cases neg
  all_goals
   go_enter Tryz.func74,Tryz.ntmps74;go_wp2_with fail;refine(HO.out _ (HB _).out).mono ?_;rintro e w' ⟨rfl,hw⟩;subst hw;go_wp2_with fail;have hk:=HK.out;simp only[Bool.false_and,Bool.true_and] at hk;refine bodyPost_ret (v := .agg #[.bool nb,.slice pt k c,.slice pb kb cb]) ?_ rfl ?_
   ·simp[results,Tryz.results74,go_sem,hk]
   ·exact⟨⟨_,rfl,HT.out.later (HB _).out,by rw[HD.out];exact aX.out.later (HB _).out⟩,(HB _).out⟩
def qsl(z:Int)(w:World)(e:Ending)(w':World):Prop:=
 (∃(ns:Bool) (vs:Value) (s:Nat),e = .returned (.tuple #[.bool ns,vs])∧qap w' vs s∧(if ns then -(s:Int) else s)=z)∧Below w.heap.size w w'
theorem qir{z:Int}{w w':World}{e:Ending}{ns:Bool}{vs:Value}{s:Nat}(h:e = .returned (.tuple #[.bool ns,vs]))(h1:qap w' vs s)(h2:(if ns then -(s:Int) else s)=z)(h3:Below w.heap.size w w'):qsl z w e w':=
 ⟨⟨ns,vs,s,h,h1,h2⟩,h3⟩
theorem qq4(na nb:Bool)(va vb:Value)(p q:Nat)(w:World)(ha:qap w va p)(hb:qap w vb q)(hp:wl p≤Cap)(hq:wl q≤Cap):
  Calls Tryz.prog 112 #[.bool na,va,.bool nb,vb] w (qsl ((if na then -(p:Int) else p)+(if nb then -(q:Int) else q)) w):=by
 by_cases hs:na=nb
 ·subst hs
  have Bd:=hid (qzx va vb p q w ha hb hp hq);have HV:Hid ((if na then -((p+q:Nat):Int) else((p+q:Nat):Int))=(if na then -(p:Int) else p)+(if na then -(q:Int) else q)):=hid (by cases na<;>simp<;>omega);clear ha hb;cases na
  all_goals
   go_enter Tryz.func112,Tryz.ntmps112;go_wp2_with fail;refine Bd.out.mono ?_;rintro e w' ⟨⟨v',rfl,hn⟩,hb'⟩;have HN:=hid hn;have HB':=hid hb';clear hn hb';go_wp2_with fail;go_ret2;exact qir rfl HN.out HV.out HB'.out
 ·have eM:=hid (qd7 va vb p q w ha hb)
  have HA:=hid ha;have aX:=hid hb;rcases Nat.lt_or_ge p q with h|h
  ·have rJ:qen p q<0:=by unfold qen;rw[qcy (by omega)];omega
   have Jz:Hid (∀W,Below w.heap.size w W→Calls Tryz.prog 166 #[vb,va] W fun e w'=>(∃v',e = .returned v'∧qap w' v' (q-p))∧Below W.heap.size W w'):=hid fun W hW=>qmt vb va q p W (aX.out.later hW) (HA.out.later hW) (by omega) hq;have HV:Hid ((if nb then -((q-p:Nat):Int) else((q-p:Nat):Int))=(if na then -(p:Int) else p)+(if nb then -(q:Int) else q)):=hid (by cases na<;>cases nb<;>simp at * <;> omega);generalize qen p q=cv at *;clear ha hb h;cases na<;>cases nb
   all_goals first|exact absurd rfl hs|skip
   all_goals
    clear hs;go_enter Tryz.func112,Tryz.ntmps112;go_wp2_with fail;refine eM.out.mono ?_;rintro e w1 ⟨rfl,k1,dI⟩;have bB:Below w.heap.size w w1:=by rw[dI];exact below_drewN (zan _ _) k1
    have aQ:=hid bB;clear dI bB;go_wp2_with fail;refine(Jz.out _ aQ.out).mono ?_;rintro e w' ⟨⟨v',rfl,hn⟩,hb'⟩;have HN:=hid hn;have HB':=hid (aQ.out.trans (hb'.mono aQ.out.size));clear hn hb';go_wp2_with fail;go_ret2;exact qir rfl HN.out HV.out HB'.out
  ·have rJ:¬qen p q<0:=by
    unfold qen;rcases Nat.lt_or_ge q p with h'|h'
    ·rw[qch (by omega)];omega
    ·rw[qei (by omega)];omega
   have Jz:Hid (∀W,Below w.heap.size w W→Calls Tryz.prog 166 #[va,vb] W fun e w'=>(∃v',e = .returned v'∧qap w' v' (p-q))∧Below W.heap.size W w'):=hid fun W hW=>qmt va vb p q W (HA.out.later hW) (aX.out.later hW) h hp;have HV:Hid ((if na then -((p-q:Nat):Int) else((p-q:Nat):Int))=(if na then -(p:Int) else p)+(if nb then -(q:Int) else q)):=hid (by cases na<;>cases nb<;>simp at * <;> omega);generalize qen p q=cv at *;clear ha hb h;cases na<;>cases nb
   all_goals first|exact absurd rfl hs|skip
   all_goals
    clear hs;go_enter Tryz.func112,Tryz.ntmps112;go_wp2_with fail;refine eM.out.mono ?_;rintro e w1 ⟨rfl,k1,dI⟩;have bB:Below w.heap.size w w1:=by rw[dI];exact below_drewN (zan _ _) k1
    have aQ:=hid bB;clear dI bB;go_wp2_with fail;refine(Jz.out _ aQ.out).mono ?_;rintro e w' ⟨⟨v',rfl,hn⟩,hb'⟩;have HN:=hid hn;have HB':=hid (aQ.out.trans (hb'.mono aQ.out.size));clear hn hb';go_wp2_with fail;go_ret2;exact qir rfl HN.out HV.out HB'.out
theorem qgd{n k:Nat}(h:n<B64^k):wl n≤k:=qb2 qae h
theorem qnj(n:Nat):n<B64^wl n:=qb6 B64 n qae
theorem qde{m n:Nat}(h:m≤n):wl m≤wl n:=qad qae h
theorem qoc(m n:Nat):wl (m*n)≤wl m+wl n:=by
 apply qgd;rw[Nat.pow_add];exact Nat.mul_lt_mul'' (qnj m) (qnj n)
theorem q8v(m n:Nat):wl (m+n)≤wl m+wl n+1:=by
 apply qgd;have h1:=qnj m;have h2:=qnj n;have h3:B64^wl m≤B64^(wl m+wl n):=Nat.pow_le_pow_right (by rw[qab];omega) (by omega);have h4:B64^wl n≤B64^(wl m+wl n):=Nat.pow_le_pow_right (by rw[qab];omega) (by omega);rw[Nat.pow_succ,qab] at *;omega
theorem qap.setOther{W:World}{v:Value}{n:Nat}{p:Addr}{x u:Value}(h:qap W v n)(hp:W.cell? p=some u)(hu:∀k z,u ≠ .int k z):qap (W.setCell p x) v n:=by
 obtain⟨h1,q,c,h2,h3,h4,h5⟩:=h;refine⟨h1,q,c,h2,h3,h4, ?_⟩;rcases h5 with h5|⟨b,o,h6,h7⟩
 ·exact .inl h5
 ·refine .inr ⟨b,o,h6,fun i hi => ?_⟩
  have hc:=h7 i hi;by_cases e:p=⟨b,o+i,none⟩
  ·rw[e,hc] at hp
   injection hp with hp
   exact absurd hp.symm (by unfold wd;exact hu _ _)
  ·rw[World.cell?_setCell_other _ _ _ _ e];exact hc
def rs(q:Rat):Nat:=wl q.num.natAbs+wl q.den
def qci(neg:Bool)(top bot:Value)(i:Nat):Value:=if i=0 then .bool neg else if i=1 then top else bot
def qbh(w:World)(na:Bool)(ta ba:Value)(nb:Bool)(tb bb:Value)(W:World):Prop:=
 Below w.heap.size w W∧Own W w.heap.size 3 (qci na ta ba)∧Own W (w.heap.size+1) 3 (qci nb tb bb)∧Own W (w.heap.size+2) 3 (qci false (.slice none 0 0) (.slice none 0 0))
theorem qbh.later{w:World}{na nb:Bool}{ta ba tb bb:Value}{W W':World}(h:qbh w na ta ba nb tb bb W)(hb:Below W.heap.size W W'):qbh w na ta ba nb tb bb W':=by
 obtain⟨h1,h2,h3,h4⟩:=h;have:=h4.1;exact⟨h1.trans (hb.mono h1.size),h2.later (hb.mono (by omega)),h3.later (hb.mono (by omega)),h4.later (hb.mono (by omega))⟩
theorem qbh.drew{w:World}{na nb:Bool}{ta ba tb bb:Value}{W:World}(h:qbh w na ta ba nb tb bb W):qbh w na ta ba nb tb bb W.drew:=h.later ((zan _ _).drew)
theorem qbv{w W:World}{na nb:Bool}{ta ba tb bb:Value}{f:FuncId}{args:Array Value}{P:Ending→World→Prop}(hW:qbh w na ta ba nb tb bb W)
  (h:Calls Tryz.prog f args W fun e w'=>P e w'∧Below W.heap.size W w'):Calls Tryz.prog f args W fun e w'=>P e w'∧qbh w na ta ba nb tb bb w'∧Below W.heap.size W w':=
 h.mono fun _ _ ⟨h1,h2⟩=>⟨h1,hW.later h2,h2⟩
theorem qg9(w:World)(na:Bool)(ta ba:Value)(nb:Bool)(tb bb:Value):
  qbh w na ta ba nb tb bb (((w.alloc (.cells #[.bool na,ta,ba] 74)).alloc (.cells #[.bool nb,tb,bb] 74)).alloc (.cells #[.bool false,.slice none 0 0,.slice none 0 0] 74)):=by
 have qp7:∀(V:World) (n:Bool) (t b:Value),Own (V.alloc (.cells #[.bool n,t,b] 74)) V.heap.size 3 (qci n t b):=fun V n t b=>by
  refine⟨by rw[zao];omega,fun i hi => ?_⟩;rw[World.cell?_alloc_at _ _ _ _ rfl,World.frozen?_alloc_at _ _ _ _ rfl]
  match i,hi with
  | 0,_=>exact⟨rfl,rfl⟩
  | 1,_=>exact⟨rfl,rfl⟩
  | 2,_=>exact⟨rfl,rfl⟩
 have h1:=qp7 w na ta ba;have h2:=qp7 (w.alloc (.cells #[.bool na,ta,ba] 74)) nb tb bb;have h3:=qp7 ((w.alloc (.cells #[.bool na,ta,ba] 74)).alloc (.cells #[.bool nb,tb,bb] 74)) false (.slice none 0 0) (.slice none 0 0);simp only[zao] at h2 h3;have al:∀(V:World) (o:Obj),Below V.heap.size V (V.alloc o):=fun V o=>zam _ _;refine⟨((al w _).trans ((al _ _).mono (by rw[zao];omega))).trans ((al _ _).mono (by rw[zao,zao];omega)), ?_, ?_,h3⟩
 ·exact(h1.later ((al _ _).mono (by rw[zao];omega))).later ((al _ _).mono (by rw[zao,zao];omega))
 ·exact h2.later ((al _ _).mono (by rw[zao,zao];omega))
theorem qam{w:World}{na nb:Bool}{ta ba tb bb:Value}{W:World}(h:qbh w na ta ba nb tb bb W):
  W.cell? ⟨w.heap.size,0,none⟩=some (.bool na)∧W.cell? ⟨w.heap.size,1,none⟩=some ta∧W.cell? ⟨w.heap.size,2,none⟩=some ba∧
  W.cell? ⟨w.heap.size+1,0,none⟩=some (.bool nb)∧W.cell? ⟨w.heap.size+1,1,none⟩=some tb∧W.cell? ⟨w.heap.size+1,2,none⟩=some bb:=
 ⟨(h.2.1.2 0 (by omega)).1,(h.2.1.2 1 (by omega)).1,(h.2.1.2 2 (by omega)).1,(h.2.2.1.2 0 (by omega)).1,(h.2.2.1.2 1 (by omega)).1,(h.2.2.1.2 2 (by omega)).1⟩
theorem qht(va vb:Value)(a b:Rat)(w:World)(ha:qaj w va a)(hb:qaj w vb b)(aP:rs a+rs b+2≤Cap):
  Calls Tryz.prog 76 #[va,vb] w fun e w'=>(∃v',e = .returned v'∧qaj w' v' (a+b))∧Below w.heap.size w w':=by
 have HA:=hid ha;have HB:=hid hb;obtain⟨ta,ba,rfl,dK,dX⟩:=ha;obtain⟨tb,bb,rfl,bB,aT⟩:=hb;obtain⟨aI,aJ,aK,rfl,hx⟩:=qar dK;clear hx;obtain⟨aM,aL,aN,rfl,hx⟩:=qar dX;clear hx;obtain⟨aY,aZ,bA,rfl,hx⟩:=qar bB;clear hx;obtain⟨bC,bE,bF,rfl,hx⟩:=qar aT;clear hx;have eF:=hid dK;have aQ:=hid bB;have cS:=hid aP;generalize hna:decide (a.num<0)=na at *;generalize jI:decide (b.num<0)=nb at *;have gC:=hid hna;have kU:=hid jI;have aO:=hid (qg9 w na (.slice aI aJ aK) (.slice aM aL aN) nb (.slice aY aZ bA) (.slice bC bE bF));have gR:Hid (∀W,qbh w na (.slice aI aJ aK) (.slice aM aL aN) nb (.slice aY aZ bA) (.slice bC bE bF) W→Calls Tryz.prog 73 #[.agg #[.bool na,.slice aI aJ aK,.slice aM aL aN]] W fun e w'=>(∃v',e = .returned v'∧qap w' v' a.den)∧qbh w na (.slice aI aJ aK) (.slice aM aL aN) nb (.slice aY aZ bA) (.slice bC bE bF) w'∧Below W.heap.size W w'):=hid fun W hW=>qbv hW (qbx _ a W (HA.out.later hW.1));have gH:Hid (∀W,qbh w na (.slice aI aJ aK) (.slice aM aL aN) nb (.slice aY aZ bA) (.slice bC bE bF) W→Calls Tryz.prog 73 #[.agg #[.bool nb,.slice aY aZ bA,.slice bC bE bF]] W fun e w'=>(∃v',e = .returned v'∧qap w' v' b.den)∧qbh w na (.slice aI aJ aK) (.slice aM aL aN) nb (.slice aY aZ bA) (.slice bC bE bF) w'∧Below W.heap.size W w'):=hid fun W hW=>qbv hW (qbx _ b W (HB.out.later hW.1))
 have Qy:Hid (∀W v1 v2,qbh w na (.slice aI aJ aK) (.slice aM aL aN) nb (.slice aY aZ bA) (.slice bC bE bF) W→qap W v1 a.den→qap W v2 b.den→Calls Tryz.prog 77 #[v1,v2] W fun e w'=>(∃v',e = .returned v'∧qap w' v' (a.den.gcd b.den))∧qbh w na (.slice aI aJ aK) (.slice aM aL aN) nb (.slice aY aZ bA) (.slice bC bE bF) w'∧Below W.heap.size W w'):=
  hid fun W v1 v2 hW h1 h2=>qbv hW (qdk v1 v2 _ _ W h1 h2 (by unfold rs at aP;omega) (by unfold rs at aP;omega))
 have Ns:wl a.num.natAbs+wl a.den+(wl b.num.natAbs+wl b.den)+2≤Cap:=aP;have cU:=hid Ns;have oW:Hid (0<a.den.gcd b.den):=hid (Nat.gcd_pos_of_pos_left _ a.den_pos)
 have dH:Hid (∀W v1 v2 m n,qbh w na (.slice aI aJ aK) (.slice aM aL aN) nb (.slice aY aZ bA) (.slice bC bE bF) W→qap W v1 m→qap W v2 n→0<n→wl m≤Cap→Calls Tryz.prog 78 #[v1,v2] W fun e w'=>(∃vq vr,e = .returned (.tuple #[vq,vr])∧qap w' vq (m/n)∧qap w' vr (m % n))∧qbh w na (.slice aI aJ aK) (.slice aM aL aN) nb (.slice aY aZ bA) (.slice bC bE bF) w'∧Below W.heap.size W w'):=
  hid fun W v1 v2 m n hW h1 h2 h3 h4=>qbv hW (ql2 v1 v2 m n W h1 h2 h3 h4)
 have oQ:Hid (∀W v1 v2 m n,qbh w na (.slice aI aJ aK) (.slice aM aL aN) nb (.slice aY aZ bA) (.slice bC bE bF) W→qap W v1 m→qap W v2 n→wl m≤Cap→wl n≤Cap→Calls Tryz.prog 72 #[v1,v2] W fun e w'=>(∃v',e = .returned v'∧qap w' v' (m*n))∧qbh w na (.slice aI aJ aK) (.slice aM aL aN) nb (.slice aY aZ bA) (.slice bC bE bF) w'∧Below W.heap.size W w'):=
  hid fun W v1 v2 m n hW h1 h2 h3 h4=>qbv hW (qgo v1 v2 m n W h1 h2 h3 h4)
 have Bd:Hid (∀W v1 v2 p q,qbh w na (.slice aI aJ aK) (.slice aM aL aN) nb (.slice aY aZ bA) (.slice bC bE bF) W→qap W v1 p→qap W v2 q→wl p≤Cap→wl q≤Cap→Calls Tryz.prog 112 #[.bool na,v1,.bool nb,v2] W fun e w'=>((∃(ns:Bool) (vs:Value) (s:Nat),e = .returned (.tuple #[.bool ns,vs])∧qap w' vs s∧(if ns then -(s:Int) else s)=(if na then -(p:Int) else p)+(if nb then -(q:Int) else q))∧Below W.heap.size W w')):=
  hid fun W v1 v2 p q _ h1 h2 h3 h4=>qq4 na nb v1 v2 p q W h1 h2 h3 h4
 have rK:Hid (wl (a.den/a.den.gcd b.den)≤wl a.den):=hid (qde (Nat.div_le_self _ _));have Nf:Hid (wl (b.den/a.den.gcd b.den)≤wl b.den):=hid (qde (Nat.div_le_self _ _));have sM:=hid (qxh a b)
 have HGZ:Hid (∀W v1 v2 z,qbh w na (.slice aI aJ aK) (.slice aM aL aN) nb (.slice aY aZ bA) (.slice bC bE bF) W→qap W v1 z→qap W v2 (a.den.gcd b.den)→wl z≤Cap→Calls Tryz.prog 77 #[v1,v2] W fun e w'=>(∃v',e = .returned v'∧qap w' v' (z.gcd (a.den.gcd b.den)))∧qbh w na (.slice aI aJ aK) (.slice aM aL aN) nb (.slice aY aZ bA) (.slice bC bE bF) w'∧Below W.heap.size W w'):=
  hid fun W v1 v2 z hW h1 h2 h3=>qbv hW (qdk v1 v2 _ _ W h1 h2 h3 (Nat.le_trans (qde (Nat.gcd_le_left _ a.den_pos)) (by omega)))
 clear dK dX bB aT aP hna jI Ns;go_enter Tryz.func76,Tryz.ntmps76;go_wp2_with fail;generalize ((w.alloc (.cells #[.bool na,.slice aI aJ aK,.slice aM aL aN] 74)).alloc (.cells #[.bool nb,.slice aY aZ bA,.slice bC bE bF] 74)).alloc (.cells #[.bool false,.slice none 0 0,.slice none 0 0] 74)=w0 at *;have cG:=hid aO.out.drew
 go_region_held3 (fun W=>W.cell? ⟨w.heap.size,0,none⟩=some (.bool na)∧W.cell? ⟨w.heap.size,1,none⟩=some (.slice aI aJ aK)∧W.cell? ⟨w.heap.size,2,none⟩=some (.slice aM aL aN)∧W.cell? ⟨w.heap.size+1,0,none⟩=some (.bool nb)∧W.cell? ⟨w.heap.size+1,1,none⟩=some (.slice aY aZ bA)∧W.cell? ⟨w.heap.size+1,2,none⟩=some (.slice bC bE bF)) (first|exact qam Ka.out|exact qam zO.out|exact qam pT.out|exact qam cG.out)
  (first
   | (go_at_call 73;first
     | ((with_reducible refine(gR.out _ ?qa).mono ?_);(case qa=>first|exact pT.out|exact cG.out);rintro e wA ⟨⟨vA,rfl,hn⟩,ht,hb⟩;have mN:=hid hn;have zO:=hid ht;have bQ:=hid hb;clear hn ht hb)
     | ((with_reducible refine(gH.out _ ?qb).mono ?_);(case qb=>first|exact zO.out|exact cG.out);rintro e wB ⟨⟨vB,rfl,hn⟩,ht,hb⟩;have rL:=hid hn;have pT:=hid ht;have aX:=hid hb;clear hn ht hb))
   | (go_at_call 77;(refine(Qy.out _ _ _ ?q1 ?q2 ?q3).mono ?_);(case q1=>first|exact pT.out|exact zO.out);(case q2=>first|exact mN.out|exact mN.out.later aX.out);(case q3=>first|exact rL.out|exact rL.out.later bQ.out);rintro e wG ⟨⟨vG,rfl,hn⟩,ht,hb⟩;have HVG:=hid hn;have Ka:=hid ht;clear hn ht hb))
 have HBG:Hid (Below w.heap.size w wG):=hid Ka.out.1;clear cG aO mN rL zO pT;go_wp2_with fail;refine(gR.out _ Ka.out).mono ?_;rintro e w1 ⟨⟨v1,rfl,hn⟩,ht,hb⟩;have eQ:=hid hn;have cE:=hid ht;have Qz:=hid (HVG.out.later hb);clear hn ht hb;go_wp2_with fail;refine(dH.out _ _ _ _ _ cE.out eQ.out Qz.out oW.out (by have:=cU.out;omega)).mono ?_;rintro e w2 ⟨⟨vL,vx,rfl,hn,_⟩,ht,hb⟩;have jO:=hid hn;have dW:=hid ht;have HVG2:=hid (Qz.out.later hb);clear hn ht hb;obtain⟨d10,d11,d12,d20,d21,d22⟩:=qam dW.out;go_wp2_with fail;clear d10 d11 d12 d20 d21 d22;refine(gH.out _ dW.out).mono ?_;rintro e w3 ⟨⟨v3,rfl,hn⟩,ht,hb⟩;have kC:=hid hn;have qB:=hid ht;have Ra:=hid (HVG2.out.later hb);have HVL3:=hid (jO.out.later hb);clear hn ht hb;go_wp2_with fail;refine(dH.out _ _ _ _ _ qB.out kC.out Ra.out oW.out (by have:=cU.out;omega)).mono ?_;rintro e w4 ⟨⟨vR,vy,rfl,hn,_⟩,ht,hb⟩;have HVR4:=hid hn;have El:=hid ht;have HVG4:=hid (Ra.out.later hb);have Rd:=hid (HVL3.out.later hb);have uL:=hid ht.drew;have Kb:=hid (eF.out.later ht.1);have fA:=hid (aQ.out.later ht.1);clear hn ht hb;have Kc:Below w4.heap.size w4 w4.drew:=(zan _ _).drew
 have hJ:Hid (∀W,qbh w na (.slice aI aJ aK) (.slice aM aL aN) nb (.slice aY aZ bA) (.slice bC bE bF) W→Below w4.heap.size w4 W→Calls Tryz.prog 72 #[.slice aI aJ aK,vR] W fun e w'=>(∃v',e = .returned v'∧qap w' v' (a.num.natAbs*(b.den/a.den.gcd b.den)))∧qbh w na (.slice aI aJ aK) (.slice aM aL aN) nb (.slice aY aZ bA) (.slice bC bE bF) w'∧Below w4.heap.size w4 w'∧Below W.heap.size W w'):=
  hid fun W hW hB=>(oQ.out W _ _ _ _ hW (Kb.out.later hB) (HVR4.out.later hB) (by have:=cU.out;omega) (by have:=cU.out;have:=Nf.out;have:=rK.out;omega)).mono fun _ _ ⟨h1,h2,h3⟩=>⟨h1,h2,hB.trans (h3.mono hB.size),h3⟩
 have fE:Hid (∀W,qbh w na (.slice aI aJ aK) (.slice aM aL aN) nb (.slice aY aZ bA) (.slice bC bE bF) W→Below w4.heap.size w4 W→Calls Tryz.prog 72 #[.slice aY aZ bA,vL] W fun e w'=>(∃v',e = .returned v'∧qap w' v' (b.num.natAbs*(a.den/a.den.gcd b.den)))∧qbh w na (.slice aI aJ aK) (.slice aM aL aN) nb (.slice aY aZ bA) (.slice bC bE bF) w'∧Below w4.heap.size w4 w'∧Below W.heap.size W w'):=
  hid fun W hW hB=>(oQ.out W _ _ _ _ hW (fA.out.later hB) (Rd.out.later hB) (by have:=cU.out;omega) (by have:=cU.out;have:=Nf.out;have:=rK.out;omega)).mono fun _ _ ⟨h1,h2,h3⟩=>⟨h1,h2,hB.trans (h3.mono hB.size),h3⟩
 have HAS:Hid (∀W v1 v2 p q,qbh w na (.slice aI aJ aK) (.slice aM aL aN) nb (.slice aY aZ bA) (.slice bC bE bF) W→Below w4.heap.size w4 W→qap W v1 p→qap W v2 q→wl p≤Cap→wl q≤Cap→Calls Tryz.prog 112 #[.bool na,v1,.bool nb,v2] W fun e w'=>(∃(ns:Bool) (vs:Value) (s:Nat),e = .returned (.tuple #[.bool ns,vs])∧qap w' vs s∧(if ns then -(s:Int) else s)=(if na then -(p:Int) else p)+(if nb then -(q:Int) else q))∧qbh w na (.slice aI aJ aK) (.slice aM aL aN) nb (.slice aY aZ bA) (.slice bC bE bF) w'∧Below w4.heap.size w4 w'):=
  hid fun W v1 v2 p q hW hB h1 h2 h3 h4=>(Bd.out W v1 v2 p q hW h1 h2 h3 h4).mono fun _ _ ⟨h5,h6⟩=>⟨h5,hW.later h6,hB.trans (h6.mono hB.size)⟩
 have Re:=hid Kc;clear Kc;have eH:Hid (wl (a.num.natAbs*(b.den/a.den.gcd b.den))≤wl a.num.natAbs+wl b.den):=hid (Nat.le_trans (qoc _ _) (by have:=Nf.out;omega));have dE:Hid (wl (b.num.natAbs*(a.den/a.den.gcd b.den))≤wl b.num.natAbs+wl a.den):=hid (Nat.le_trans (qoc _ _) (by have:=rK.out;omega));go_wp2_with fail
 go_region_held3 (fun W=>W.cell? ⟨w.heap.size,0,none⟩=some (.bool na)∧W.cell? ⟨w.heap.size,1,none⟩=some (.slice aI aJ aK)∧W.cell? ⟨w.heap.size,2,none⟩=some (.slice aM aL aN)∧W.cell? ⟨w.heap.size+1,0,none⟩=some (.bool nb)∧W.cell? ⟨w.heap.size+1,1,none⟩=some (.slice aY aZ bA)∧W.cell? ⟨w.heap.size+1,2,none⟩=some (.slice bC bE bF)) (first|exact qam dN.out|exact qam iW.out|exact qam oX.out|exact qam uL.out)
  (first
   | (go_at_call 72;first
     | ((with_reducible refine(hJ.out _ ?qa ?qc).mono ?_);(case qa=>first|exact oX.out|exact uL.out);(case qc=>first|exact tN.out|exact Re.out);rintro e wX ⟨⟨vX,rfl,hn⟩,ht,qC,hb⟩;have gS:=hid hn;have iW:=hid ht;have HBX0:=hid hb;have dO:=hid qC;clear hn ht hb qC)
     | ((with_reducible refine(fE.out _ ?qb ?qd).mono ?_);(case qb=>first|exact iW.out|exact uL.out);(case qd=>first|exact dO.out|exact Re.out);rintro e wY ⟨⟨vY,rfl,hn⟩,ht,qC,hb⟩;have oY:=hid hn;have oX:=hid ht;have HBY0:=hid hb;have tN:=hid qC;clear hn ht hb qC))
   | (go_at_call 112;(first|refine(HAS.out _ _ _ _ _ oX.out tN.out (gS.out.later HBY0.out) oY.out ?q4 ?q5).mono ?_|refine(HAS.out _ _ _ _ _ iW.out dO.out gS.out (oY.out.later HBX0.out) ?q4 ?q5).mono ?_);(case q4=>have h1:=cU.out;have h2:=eH.out;omega);(case q5=>have h1:=cU.out;have h2:=dE.out;omega);rintro e wZ ⟨⟨ns,vZ,z,rfl,hn,hz⟩,ht,qC⟩;have Dd:=hid hn;have Kd:=hid hz;have dN:=hid ht;have mD:=hid qC;clear hn hz ht qC))
 have HVG5:=hid (HVG4.out.later mD.out);have HVL5:=hid (Rd.out.later mD.out);obtain⟨Z,hZ⟩:∃Z:Int,Z=a.num*((b.den/a.den.gcd b.den:Nat):Int)+b.num*((a.den/a.den.gcd b.den:Nat):Int):=⟨_,rfl⟩;have qO:=sM.out Z hZ
 have tO:(if ns then -(z:Int) else z)=Z:=by
  rw[hZ];have h1:=Kd.out
  have ea:a.num=if na then -(a.num.natAbs:Int) else a.num.natAbs:=by
   rw[←gC.out];by_cases h:a.num<0
   ·rw[zas h];simp;omega
   ·rw[zar h];simp;omega
  have eb:b.num=if nb then -(b.num.natAbs:Int) else b.num.natAbs:=by
   rw[←kU.out];by_cases h:b.num<0
   ·rw[zas h];simp;omega
   ·rw[zar h];simp;omega
  rw[h1,Int.natCast_mul,Int.natCast_mul];generalize (b.den/a.den.gcd b.den)=R at *;generalize (a.den/a.den.gcd b.den)=L at *;generalize a.num.natAbs=x at *;generalize b.num.natAbs=y at *;rw[ea,eb];cases na<;>cases nb<;>simp<;>grind
 have Nt:z=Z.natAbs:=by cases ns<;>simp at tO<;>omega
 have Ke:wl z≤Cap:=by
  have h1:=Kd.out
  have h2:z≤a.num.natAbs*(b.den/a.den.gcd b.den)+b.num.natAbs*(a.den/a.den.gcd b.den):=by
   generalize a.num.natAbs*(b.den/a.den.gcd b.den)=x at *;generalize b.num.natAbs*(a.den/a.den.gcd b.den)=y at *;cases ns<;>cases na<;>cases nb<;>simp at h1<;>omega
  have h3:=qde h2;have h4:=q8v (a.num.natAbs*(b.den/a.den.gcd b.den)) (b.num.natAbs*(a.den/a.den.gcd b.den));have h5:=eH.out;have h6:=dE.out;have h7:=cU.out;omega
 rw[←Nt] at qO;have fC:0<z.gcd (a.den.gcd b.den):=Nat.gcd_pos_of_pos_right _ oW.out;have lL:=hid fC
 have fS:Hid ((ns&&decide (0<z/z.gcd (a.den.gcd b.den)))=decide ((a+b).num<0)):=by
  refine hid ?_
  have h0:0<z/z.gcd (a.den.gcd b.den)↔0<z:=by
   constructor
   ·intro h
    rcases zav z with e|e
    ·rw[e,Nat.zero_div] at h;omega
    ·exact e
   ·intro h
    exact Nat.div_pos (Nat.le_of_dvd h (Nat.gcd_dvd_left _ _)) fC
  have h1:(a+b).num<0↔Z<0:=qO.2.1;cases ns
  ·rw[Bool.false_and];symm;apply zar;rw[h1];simp at tO;omega
  ·rw[Bool.true_and];apply decide_eq_decide.2;rw[h1,h0];simp at tO;omega
 have oB:=hid qO;have HZC:=hid Ke;have HGC6:=hid (HGZ.out _ _ _ _ dN.out Dd.out HVG5.out Ke);clear qO tO Nt Ke fC hZ Kd sM eH dE;go_wp2_with fail;refine HGC6.out.mono ?_;rintro e w6 ⟨⟨vC,rfl,hn⟩,ht,hb⟩;have Rf:=hid hn;have HT6:=hid ht;have HVZ6:=hid (Dd.out.later hb);have HVL6:=hid (HVL5.out.later hb);clear hn ht hb;go_wp2_with fail;refine(dH.out _ _ _ _ _ HT6.out HVZ6.out Rf.out lL.out HZC.out).mono ?_;rintro e w7 ⟨⟨vT,vt2,rfl,hn,_⟩,ht,hb⟩;have HVT7:=hid hn;have Nu:=hid ht;have HVC7:=hid (Rf.out.later hb);have HVL7:=hid (HVL6.out.later hb);clear hn ht hb;obtain⟨d10,d11,d12,d20,d21,d22⟩:=qam Nu.out;go_wp2_with fail;clear d10 d11 d12 d20 d21 d22;refine(gH.out _ Nu.out).mono ?_;rintro e w8 ⟨⟨v8,rfl,hn⟩,ht,hb⟩;have Au:=hid hn;have HT8:=hid ht;have HVC8:=hid (HVC7.out.later hb);have HVL8:=hid (HVL7.out.later hb);have HVT8:=hid (HVT7.out.later hb);clear hn ht hb;go_wp2_with fail;refine(dH.out _ _ _ _ _ HT8.out Au.out HVC8.out lL.out (by have:=cU.out;omega)).mono ?_;rintro e w9 ⟨⟨vB9,vb9,rfl,hn,_⟩,ht,hb⟩;have HVB9:=hid hn;have HT9:=hid ht;have HVL9:=hid (HVL8.out.later hb);have HVT9:=hid (HVT8.out.later hb);clear hn ht hb;go_wp2_with fail;refine(oQ.out _ _ _ _ _ HT9.out HVL9.out HVB9.out (by have:=cU.out;have:=rK.out;omega) (Nat.le_trans (qde (Nat.div_le_self _ _)) (by have:=cU.out;omega))).mono ?_;rintro e w10 ⟨⟨vP,rfl,hn⟩,ht,hb⟩;have Rg:=hid hn;have HT10:=hid ht;have Rh:=hid (HVT9.out.later hb);clear hn ht hb;have gD:=hid (qez ns _ vT vP _ _ _ w10 Rh.out Rg.out fS.out.symm rfl);go_wp2_with fail;refine gD.out.mono ?_;rintro e w11 ⟨⟨vF,rfl,dR,jC⟩,hb⟩;have Em:=hid (HT10.out.later hb);have rH:=hid dR;have mH:=hid jC;clear dR jC hb;obtain⟨pt,kt,ct,rfl,hx⟩:=qar rH.out;clear hx;obtain⟨pf,kf,cf,rfl,hx⟩:=qar mH.out;clear hx
 obtain⟨r0,g0⟩:w11.cell? ⟨w.heap.size+1+1,0,none⟩=_∧w11.frozen? ⟨w.heap.size+1+1,0,none⟩=false:=Em.out.2.2.2.2 0 (by omega);obtain⟨r1,g1⟩:w11.cell? ⟨w.heap.size+1+1,1,none⟩=_∧w11.frozen? ⟨w.heap.size+1+1,1,none⟩=false:=Em.out.2.2.2.2 1 (by omega);obtain⟨r2,g2⟩:w11.cell? ⟨w.heap.size+1+1,2,none⟩=_∧w11.frozen? ⟨w.heap.size+1+1,2,none⟩=false:=Em.out.2.2.2.2 2 (by omega);simp only[qci] at r0 r1 r2
 have aG:Hid (∀W,Below w.heap.size w11 W→(∀v n,qap w11 v n→qap W v n)→qaj W (.agg #[.bool (decide ((a+b).num<0)),.slice pt kt ct,.slice pf kf cf]) (a+b)):=by
  refine hid fun W _ hN=>⟨_,_,rfl, ?_, ?_⟩
  ·rw[oB.out.1];exact hN _ _ rH.out
  ·rw[oB.out.2.2];exact hN _ _ mH.out
 generalize decide ((a+b).num<0)=sg at *;go_wp2_with fail;refine bodyPost_ret (v := .agg #[.bool sg,.slice pt kt ct,.slice pf kf cf]) ?_ rfl ?_
 ·simp[results,Tryz.results76,go_sem,r0,r1,r2]
 ·have hb:Below w.heap.size w11 (((w11.setCell ⟨w.heap.size+1+1,0,none⟩ (.bool sg)).setCell ⟨w.heap.size+1+1,1,none⟩ (.slice pt kt ct)).setCell ⟨w.heap.size+1+1,2,none⟩ (.slice pf kf cf)):=
   (((zan _ _).setCell (by show w.heap.size≤w.heap.size+1+1;omega) _).setCell (by show w.heap.size≤w.heap.size+1+1;omega) _).setCell (by show w.heap.size≤w.heap.size+1+1;omega) _
  refine⟨⟨_,rfl,aG.out _ hb ?_⟩,Em.out.1.trans hb⟩;intro v n hN;refine((hN.setOther r0 (by intro k z h;cases h)).setOther (u := .slice none 0 0) ?_ (by intro k z h;cases h)).setOther (u := .slice none 0 0) ?_ (by intro k z h;cases h)
  ·rw[World.cell?_setCell_other _ _ _ _ (by intro h;injection h with _ h;cases h)];exact r1
  ·rw[World.cell?_setCell_other _ _ _ _ (by intro h;injection h with _ h;cases h),World.cell?_setCell_other _ _ _ _ (by intro h;injection h with _ h;cases h)];exact r2
end Go.Proofs.YtclimablgihlhaaGreatDoor
