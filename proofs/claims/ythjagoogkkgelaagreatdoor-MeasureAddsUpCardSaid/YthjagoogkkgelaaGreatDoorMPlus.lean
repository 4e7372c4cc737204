/- The small functions of rational numbers: number, denominator, IsWhole, Sign, Negated, addSigned. -/
import Derived.Test.YthjagoogkkgelaaGreatDoorMGcd
import Derived.Test.YthjagoogkkgelaaGreatDoorMMaths
set_option linter.all false
namespace Go.Proofs.YthjagoogkkgelaaGreatDoor
open Go.RowKit
set_option maxRecDepth 100000
set_option maxHeartbeats 2000000
def qaj(w:World)(v:Value)(q:Rat):Prop:=
 ∃top bot,v = .agg #[.bool (decide (q.num<0)),top,bot]∧qaq w top q.num.natAbs∧qaq w bot (if q.den=1 then 0 else q.den)
theorem qaj.later{w w':World}{v:Value}{q:Rat}(h:qaj w v q)(hb:Below w.heap.size w w'):qaj w' v q:=by
 obtain⟨top,bot,h1,h2,h3⟩:=h;exact⟨top,bot,h1,h2.later hb,h3.later hb⟩
def sgn(q:Rat):Int:=if q.num<0 then -1 else if q.num=0 then 0 else 1
theorem qas{w:World}{v:Value}{n:Nat}(h:qaq w v n):∃(p:Option Addr) (k c:Nat),v = .slice p k c∧k=wl n:=by
 obtain⟨_,p,c,hv,_⟩:=h;exact⟨p,_,c,hv,rfl⟩
theorem qq4{n:Nat}(h:0<n):0<wl n:=by
 rcases Nat.eq_zero_or_pos (wl n) with e|e
 ·have:=qeu e;omega
 ·exact e
theorem qcp:wl 0=0:=by unfold wl;rw[qam];rfl
theorem qdq(v:Value)(q:Rat)(w:World)(h:qaj w v q):
  Calls Tryz.prog 73 #[v] w fun e w'=>e = .returned (.int .i64 (sgn q))∧Below w.heap.size w w':=by
 obtain⟨top,bot,rfl,h1,_⟩:=h;obtain⟨p,k,c,rfl,hk⟩:=qas h1;have HB:∀o,Hid (Below w.heap.size w (w.alloc o)):=fun o=>hid ((Below.refl _ _).alloc (Nat.le_refl _) _);by_cases hn:q.num<0
 ·have HS:Hid (sgn q = -1):=hid (if_pos hn)
  have hd:decide (q.num<0)=true:=decide_eq_true hn;rw[hd];clear hd hn h1 hk;go_enter Tryz.func73,Tryz.ntmps73;go_wp2_with fail;go_ret;exact⟨qa1 HS.out.symm,(HB _).out⟩
 ·have hd:decide (q.num<0)=false:=decide_eq_false hn
  rw[hd];by_cases h0:q.num=0
  ·have HS:Hid (sgn q=0):=hid (by unfold sgn;rw[if_neg hn,if_pos h0])
   have hk0:k=0:=by rw[hk,h0];exact qcp
   subst hk0;clear hd hn h1 hk h0;go_enter Tryz.func73,Tryz.ntmps73;go_wp2_with fail;go_ret;exact⟨qa1 HS.out.symm,(HB _).out⟩
  ·have HS:Hid (sgn q=1):=hid (by unfold sgn;rw[if_neg hn,if_neg h0])
   have hk0:0<k:=by rw[hk];exact qq4 (by omega)
   have hkb:((k:Int)==0)=false:=beq_eq_false_iff_ne.2 (by omega);clear hd hn h1 hk h0 hk0;go_enter Tryz.func73,Tryz.ntmps73;go_wp2_with fail;go_ret;exact⟨qa1 HS.out.symm,(HB _).out⟩
theorem qkt(v:Value)(q:Rat)(w:World)(h:qaj w v q):
  Calls Tryz.prog 100 #[v] w fun e w'=>e = .returned (.bool (decide (q.den=1)))∧Below w.heap.size w w':=by
 obtain⟨top,bot,rfl,_,h1⟩:=h;obtain⟨p,k,c,rfl,hk⟩:=qas h1;have HB:∀o,Hid (Below w.heap.size w (w.alloc o)):=fun o=>hid ((Below.refl _ _).alloc (Nat.le_refl _) _);generalize decide (q.num<0)=neg
 have HK:Hid (((k:Int)==0)=decide (q.den=1)):=by
  refine hid ?_;by_cases hd:q.den=1
  ·rw[if_pos hd,qcp] at hk
   rw[hk,decide_eq_true hd];rfl
  ·rw[if_neg hd] at hk
   have:=qq4 q.den_pos;rw[decide_eq_false hd];exact beq_eq_false_iff_ne.2 (by omega)
 clear h1 hk;go_enter Tryz.func100,Tryz.ntmps100;go_wp2_with fail;go_ret;exact⟨qbc HK.out,(HB _).out⟩
theorem qbx(v:Value)(q:Rat)(w:World)(h:qaj w v q):
  Calls Tryz.prog 76 #[v] w fun e w'=>(∃v',e = .returned v'∧qaq w' v' q.den)∧Below w.heap.size w w':=by
 obtain⟨top,bot,rfl,_,h1⟩:=h;obtain⟨p,k,c,rfl,hk⟩:=qas h1;generalize decide (q.num<0)=neg;have HH:=hid h1;have HB:∀o,Hid (Below w.heap.size w (w.alloc o)):=fun o=>hid ((Below.refl _ _).alloc (Nat.le_refl _) _);by_cases hd:q.den=1
 ·rw[if_pos hd,qcp] at hk
  subst hk;have HD:=hid hd;have HON:Hid (∀W:World,qaq (W.alloc (.cells #[.int .u64 ((1:Nat):Int)] 136)) (.slice (some ⟨W.heap.size,0,none⟩) 1 1) 1):=hid fun W=>qks W 1 (by rw[qab];omega) (by omega);clear h1 hd;go_enter Tryz.func76,Tryz.ntmps76;go_wp2_with fail;go_ret;refine⟨⟨_,rfl, ?_⟩, ?_⟩
  ·rw[HD.out]
   have:=HON.out (w.alloc (.cells #[.bool neg,top,.slice p 0 c] 80));rw[World.size_alloc] at this;exact this
  ·exact(HB _).out.alloc (by rw[World.size_alloc];omega) _
 ·rw[if_neg hd] at HH hk
  have hkb:((k:Int)==0)=false:=beq_eq_false_iff_ne.2 (by have:=qq4 q.den_pos;omega);clear h1 hd hk;go_enter Tryz.func76,Tryz.ntmps76;go_wp2_with fail;go_ret;exact⟨⟨_,rfl,HH.out.later (HB _).out⟩,(HB _).out⟩
theorem qfa(neg nb:Bool)(vt vb:Value)(p d dd:Nat)(w:World)(ht:qaq w vt p)(hb:qaq w vb d)(hnb:nb=(neg&&decide (0<p)))(hdd:dd=if d=1 then 0 else d):
  Calls Tryz.prog 77 #[.bool neg,vt,vb] w fun e w'=>(∃vb',e = .returned (.agg #[.bool nb,vt,vb'])∧qaq w' vt p∧qaq w' vb' dd)∧Below w.heap.size w w':=by
 have hone:=fun(b:Bool) (hbb:b=decide (d=1)) (W:World) (h:Below w.heap.size w W)=>qce vb d b hbb W (hb.later h);obtain⟨pt,k,c,rfl,hk⟩:=qas ht;obtain⟨pb,kb,cb,rfl,hkb⟩:=qas hb;clear hkb;have HT:=hid ht;have HBB:=hid hb;have HB:∀o,Hid (Below w.heap.size w (w.alloc o)):=fun o=>hid ((Below.refl _ _).alloc (Nat.le_refl _) _)
 have HK:Hid (nb=(neg&&decide (0<k))):=by
  refine hid ?_;rw[hnb,hk]
  congr 1
  refine decide_eq_decide.2 ?_;rcases Nat.eq_zero_or_pos p with e|e
  ·rw[e,qcp]
  ·have:=qq4 e;omega
 by_cases hd:d=1
 ·have HO:=hid (hone true (by simp[hd]))
  have HD:Hid (dd=0):=hid (by rw[hdd,if_pos hd]);clear hone ht hb hd hk hnb hdd;cases neg
  all_goals
   go_enter Tryz.func77,Tryz.ntmps77;go_wp2_with fail;refine(HO.out _ (HB _).out).mono ?_;rintro e w' ⟨rfl,hw⟩;subst hw;go_wp2_with fail;have hk:=HK.out;simp only[Bool.false_and,Bool.true_and] at hk;refine bodyPost_ret (v := .agg #[.bool nb,.slice pt k c,.slice none 0 0]) ?_ rfl ?_
   ·simp[results,Tryz.results77,go_sem,hk]
   ·exact⟨⟨_,rfl,HT.out.later (HB _).out,by rw[HD.out];exact qaq.nil _⟩,(HB _).out⟩
 ·have HO:=hid (hone false (by simp[hd]))
  have HD:Hid (dd=d):=hid (by rw[hdd,if_neg hd]);clear hone ht hb hd hk hnb hdd;cases neg
  all_goals
   go_enter Tryz.func77,Tryz.ntmps77;go_wp2_with fail;refine(HO.out _ (HB _).out).mono ?_;rintro e w' ⟨rfl,hw⟩;subst hw;go_wp2_with fail;have hk:=HK.out;simp only[Bool.false_and,Bool.true_and] at hk;refine bodyPost_ret (v := .agg #[.bool nb,.slice pt k c,.slice pb kb cb]) ?_ rfl ?_
   ·simp[results,Tryz.results77,go_sem,hk]
   ·exact⟨⟨_,rfl,HT.out.later (HB _).out,by rw[HD.out];exact HBB.out.later (HB _).out⟩,(HB _).out⟩
def qti(z:Int)(w:World)(e:Ending)(w':World):Prop:=
 (∃(ns:Bool) (vs:Value) (s:Nat),e = .returned (.tuple #[.bool ns,vs])∧qaq w' vs s∧(if ns then -(s:Int) else s)=z)∧Below w.heap.size w w'
theorem qi8{z:Int}{w w':World}{e:Ending}{ns:Bool}{vs:Value}{s:Nat}(h:e = .returned (.tuple #[.bool ns,vs]))(h1:qaq w' vs s)(h2:(if ns then -(s:Int) else s)=z)(h3:Below w.heap.size w w'):qti z w e w':=
 ⟨⟨ns,vs,s,h,h1,h2⟩,h3⟩
theorem qr2(na nb:Bool)(va vb:Value)(p q:Nat)(w:World)(ha:qaq w va p)(hb:qaq w vb q)(hp:wl p≤Cap)(hq:wl q≤Cap):
  Calls Tryz.prog 115 #[.bool na,va,.bool nb,vb] w (qti ((if na then -(p:Int) else p)+(if nb then -(q:Int) else q)) w):=by
 by_cases hs:na=nb
 ·subst hs
  have HADD:=hid (q1i va vb p q w ha hb hp hq);have HV:Hid ((if na then -((p+q:Nat):Int) else((p+q:Nat):Int))=(if na then -(p:Int) else p)+(if na then -(q:Int) else q)):=hid (by cases na<;>simp<;>omega);clear ha hb;cases na
  all_goals
   go_enter Tryz.func115,Tryz.ntmps115;go_wp2_with fail;refine HADD.out.mono ?_;rintro e w' ⟨⟨v',rfl,hn⟩,hb'⟩;have HN:=hid hn;have HB':=hid hb';clear hn hb';go_wp2_with fail;go_ret2;exact qi8 rfl HN.out HV.out HB'.out
 ·have HCMP:=hid (qef va vb p q w ha hb)
  have HA:=hid ha;have HBB:=hid hb;rcases Nat.lt_or_ge p q with h|h
  ·have hcv:qex p q<0:=by unfold qex;rw[qda (by omega)];omega
   have HSUB:Hid (∀W,Below w.heap.size w W→Calls Tryz.prog 169 #[vb,va] W fun e w'=>(∃v',e = .returned v'∧qaq w' v' (q-p))∧Below W.heap.size W w'):=hid fun W hW=>qnn vb va q p W (HBB.out.later hW) (HA.out.later hW) (by omega) hq;have HV:Hid ((if nb then -((q-p:Nat):Int) else((q-p:Nat):Int))=(if na then -(p:Int) else p)+(if nb then -(q:Int) else q)):=hid (by cases na<;>cases nb<;>simp at * <;> omega);generalize qex p q=cv at *;clear ha hb h;cases na<;>cases nb
   all_goals first|exact absurd rfl hs|skip
   all_goals
    clear hs;go_enter Tryz.func115,Tryz.ntmps115;go_wp2_with fail;refine HCMP.out.mono ?_;rintro e w1 ⟨rfl,k1,hw1⟩;have hb1:Below w.heap.size w w1:=by rw[hw1];exact below_drewN (Below.refl _ _) k1
    have HB1:=hid hb1;clear hw1 hb1;go_wp2_with fail;refine(HSUB.out _ HB1.out).mono ?_;rintro e w' ⟨⟨v',rfl,hn⟩,hb'⟩;have HN:=hid hn;have HB':=hid (HB1.out.trans (hb'.mono HB1.out.size));clear hn hb';go_wp2_with fail;go_ret2;exact qi8 rfl HN.out HV.out HB'.out
  ·have hcv:¬qex p q<0:=by
    unfold qex;rcases Nat.lt_or_ge q p with h'|h'
    ·rw[qcl (by omega)];omega
    ·rw[qet (by omega)];omega
   have HSUB:Hid (∀W,Below w.heap.size w W→Calls Tryz.prog 169 #[va,vb] W fun e w'=>(∃v',e = .returned v'∧qaq w' v' (p-q))∧Below W.heap.size W w'):=hid fun W hW=>qnn va vb p q W (HA.out.later hW) (HBB.out.later hW) h hp;have HV:Hid ((if na then -((p-q:Nat):Int) else((p-q:Nat):Int))=(if na then -(p:Int) else p)+(if nb then -(q:Int) else q)):=hid (by cases na<;>cases nb<;>simp at * <;> omega);generalize qex p q=cv at *;clear ha hb h;cases na<;>cases nb
   all_goals first|exact absurd rfl hs|skip
   all_goals
    clear hs;go_enter Tryz.func115,Tryz.ntmps115;go_wp2_with fail;refine HCMP.out.mono ?_;rintro e w1 ⟨rfl,k1,hw1⟩;have hb1:Below w.heap.size w w1:=by rw[hw1];exact below_drewN (Below.refl _ _) k1
    have HB1:=hid hb1;clear hw1 hb1;go_wp2_with fail;refine(HSUB.out _ HB1.out).mono ?_;rintro e w' ⟨⟨v',rfl,hn⟩,hb'⟩;have HN:=hid hn;have HB':=hid (HB1.out.trans (hb'.mono HB1.out.size));clear hn hb';go_wp2_with fail;go_ret2;exact qi8 rfl HN.out HV.out HB'.out
theorem qgr{n k:Nat}(h:n<B64^k):wl n≤k:=qb4 qae h
theorem qod(n:Nat):n<B64^wl n:=qb8 B64 n qae
theorem qdj{m n:Nat}(h:m≤n):wl m≤wl n:=qad qae h
theorem qo4(m n:Nat):wl (m*n)≤wl m+wl n:=by
 apply qgr;rw[Nat.pow_add];exact Nat.mul_lt_mul'' (qod m) (qod n)
theorem zas(m n:Nat):wl (m+n)≤wl m+wl n+1:=by
 apply qgr;have h1:=qod m;have h2:=qod n;have h3:B64^wl m≤B64^(wl m+wl n):=Nat.pow_le_pow_right (by rw[qab];omega) (by omega);have h4:B64^wl n≤B64^(wl m+wl n):=Nat.pow_le_pow_right (by rw[qab];omega) (by omega);rw[Nat.pow_succ,qab] at *;omega
theorem qaq.setOther{W:World}{v:Value}{n:Nat}{p:Addr}{x u:Value}(h:qaq W v n)(hp:W.cell? p=some u)(hu:∀k z,u ≠ .int k z):qaq (W.setCell p x) v n:=by
 obtain⟨h1,q,c,h2,h3,h4,h5⟩:=h;refine⟨h1,q,c,h2,h3,h4, ?_⟩;rcases h5 with h5|⟨b,o,h6,h7⟩
 ·exact .inl h5
 ·refine .inr ⟨b,o,h6,fun i hi => ?_⟩
  have hc:=h7 i hi;by_cases e:p=⟨b,o+i,none⟩
  ·rw[e,hc] at hp
   injection hp with hp
   exact absurd hp.symm (by unfold wd;exact hu _ _)
  ·rw[World.cell?_setCell_other _ _ _ _ e];exact hc
def rs(q:Rat):Nat:=wl q.num.natAbs+wl q.den
def qcm(neg:Bool)(top bot:Value)(i:Nat):Value:=if i=0 then .bool neg else if i=1 then top else bot
def qbh(w:World)(na:Bool)(ta ba:Value)(nb:Bool)(tb bb:Value)(W:World):Prop:=
 Below w.heap.size w W∧Own W w.heap.size 3 (qcm na ta ba)∧Own W (w.heap.size+1) 3 (qcm nb tb bb)∧Own W (w.heap.size+2) 3 (qcm false (.slice none 0 0) (.slice none 0 0))
theorem qbh.later{w:World}{na nb:Bool}{ta ba tb bb:Value}{W W':World}(h:qbh w na ta ba nb tb bb W)(hb:Below W.heap.size W W'):qbh w na ta ba nb tb bb W':=by
 obtain⟨h1,h2,h3,h4⟩:=h;have:=h4.1;exact⟨h1.trans (hb.mono h1.size),h2.later (hb.mono (by omega)),h3.later (hb.mono (by omega)),h4.later (hb.mono (by omega))⟩
theorem qbh.drew{w:World}{na nb:Bool}{ta ba tb bb:Value}{W:World}(h:qbh w na ta ba nb tb bb W):qbh w na ta ba nb tb bb W.drew:=h.later ((Below.refl _ _).drew)
theorem qbv{w W:World}{na nb:Bool}{ta ba tb bb:Value}{f:FuncId}{args:Array Value}{P:Ending→World→Prop}(hW:qbh w na ta ba nb tb bb W)
  (h:Calls Tryz.prog f args W fun e w'=>P e w'∧Below W.heap.size W w'):Calls Tryz.prog f args W fun e w'=>P e w'∧qbh w na ta ba nb tb bb w'∧Below W.heap.size W w':=
 h.mono fun _ _ ⟨h1,h2⟩=>⟨h1,hW.later h2,h2⟩
theorem qhq(w:World)(na:Bool)(ta ba:Value)(nb:Bool)(tb bb:Value):
  qbh w na ta ba nb tb bb (((w.alloc (.cells #[.bool na,ta,ba] 80)).alloc (.cells #[.bool nb,tb,bb] 80)).alloc (.cells #[.bool false,.slice none 0 0,.slice none 0 0] 80)):=by
 have qq5:∀(V:World) (n:Bool) (t b:Value),Own (V.alloc (.cells #[.bool n,t,b] 80)) V.heap.size 3 (qcm n t b):=fun V n t b=>by
  refine⟨by rw[World.size_alloc];omega,fun i hi => ?_⟩;rw[World.cell?_alloc_at _ _ _ _ rfl,World.frozen?_alloc_at _ _ _ _ rfl]
  match i,hi with
  | 0,_=>exact⟨rfl,rfl⟩
  | 1,_=>exact⟨rfl,rfl⟩
  | 2,_=>exact⟨rfl,rfl⟩
 have h1:=qq5 w na ta ba;have h2:=qq5 (w.alloc (.cells #[.bool na,ta,ba] 80)) nb tb bb;have h3:=qq5 ((w.alloc (.cells #[.bool na,ta,ba] 80)).alloc (.cells #[.bool nb,tb,bb] 80)) false (.slice none 0 0) (.slice none 0 0);simp only[World.size_alloc] at h2 h3;have al:∀(V:World) (o:Obj),Below V.heap.size V (V.alloc o):=fun V o=>(Below.refl _ _).alloc (Nat.le_refl _) _;refine⟨((al w _).trans ((al _ _).mono (by rw[World.size_alloc];omega))).trans ((al _ _).mono (by rw[World.size_alloc,World.size_alloc];omega)), ?_, ?_,h3⟩
 ·exact(h1.later ((al _ _).mono (by rw[World.size_alloc];omega))).later ((al _ _).mono (by rw[World.size_alloc,World.size_alloc];omega))
 ·exact h2.later ((al _ _).mono (by rw[World.size_alloc,World.size_alloc];omega))
theorem qan{w:World}{na nb:Bool}{ta ba tb bb:Value}{W:World}(h:qbh w na ta ba nb tb bb W):
  W.cell? ⟨w.heap.size,0,none⟩=some (.bool na)∧W.cell? ⟨w.heap.size,1,none⟩=some ta∧W.cell? ⟨w.heap.size,2,none⟩=some ba∧
  W.cell? ⟨w.heap.size+1,0,none⟩=some (.bool nb)∧W.cell? ⟨w.heap.size+1,1,none⟩=some tb∧W.cell? ⟨w.heap.size+1,2,none⟩=some bb:=
 ⟨(h.2.1.2 0 (by omega)).1,(h.2.1.2 1 (by omega)).1,(h.2.1.2 2 (by omega)).1,(h.2.2.1.2 0 (by omega)).1,(h.2.2.1.2 1 (by omega)).1,(h.2.2.1.2 2 (by omega)).1⟩
theorem qia(va vb:Value)(a b:Rat)(w:World)(ha:qaj w va a)(hb:qaj w vb b)(hcap:rs a+rs b+2≤Cap):
  Calls Tryz.prog 79 #[va,vb] w fun e w'=>(∃v',e = .returned v'∧qaj w' v' (a+b))∧Below w.heap.size w w':=by
 have HA:=hid ha;have HB:=hid hb;obtain⟨ta,ba,rfl,ha1,ha2⟩:=ha;obtain⟨tb,bb,rfl,hb1,hb2⟩:=hb;obtain⟨pa1,ka1,ca1,rfl,hx⟩:=qas ha1;clear hx;obtain⟨pa2,ka2,ca2,rfl,hx⟩:=qas ha2;clear hx;obtain⟨pb1,kb1,cb1,rfl,hx⟩:=qas hb1;clear hx;obtain⟨pb2,kb2,cb2,rfl,hx⟩:=qas hb2;clear hx;have HA1:=hid ha1;have HB1:=hid hb1;have HCAP:=hid hcap;generalize hna:decide (a.num<0)=na at *;generalize hnb:decide (b.num<0)=nb at *;have HNA:=hid hna;have HNB:=hid hnb;have HW0:=hid (qhq w na (.slice pa1 ka1 ca1) (.slice pa2 ka2 ca2) nb (.slice pb1 kb1 cb1) (.slice pb2 kb2 cb2));have HDA:Hid (∀W,qbh w na (.slice pa1 ka1 ca1) (.slice pa2 ka2 ca2) nb (.slice pb1 kb1 cb1) (.slice pb2 kb2 cb2) W→Calls Tryz.prog 76 #[.agg #[.bool na,.slice pa1 ka1 ca1,.slice pa2 ka2 ca2]] W fun e w'=>(∃v',e = .returned v'∧qaq w' v' a.den)∧qbh w na (.slice pa1 ka1 ca1) (.slice pa2 ka2 ca2) nb (.slice pb1 kb1 cb1) (.slice pb2 kb2 cb2) w'∧Below W.heap.size W w'):=hid fun W hW=>qbv hW (qbx _ a W (HA.out.later hW.1));have HDB:Hid (∀W,qbh w na (.slice pa1 ka1 ca1) (.slice pa2 ka2 ca2) nb (.slice pb1 kb1 cb1) (.slice pb2 kb2 cb2) W→Calls Tryz.prog 76 #[.agg #[.bool nb,.slice pb1 kb1 cb1,.slice pb2 kb2 cb2]] W fun e w'=>(∃v',e = .returned v'∧qaq w' v' b.den)∧qbh w na (.slice pa1 ka1 ca1) (.slice pa2 ka2 ca2) nb (.slice pb1 kb1 cb1) (.slice pb2 kb2 cb2) w'∧Below W.heap.size W w'):=hid fun W hW=>qbv hW (qbx _ b W (HB.out.later hW.1))
 have HGC:Hid (∀W v1 v2,qbh w na (.slice pa1 ka1 ca1) (.slice pa2 ka2 ca2) nb (.slice pb1 kb1 cb1) (.slice pb2 kb2 cb2) W→qaq W v1 a.den→qaq W v2 b.den→Calls Tryz.prog 80 #[v1,v2] W fun e w'=>(∃v',e = .returned v'∧qaq w' v' (a.den.gcd b.den))∧qbh w na (.slice pa1 ka1 ca1) (.slice pa2 ka2 ca2) nb (.slice pb1 kb1 cb1) (.slice pb2 kb2 cb2) w'∧Below W.heap.size W w'):=
  hid fun W v1 v2 hW h1 h2=>qbv hW (qdp v1 v2 _ _ W h1 h2 (by unfold rs at hcap;omega) (by unfold rs at hcap;omega))
 have hrs:wl a.num.natAbs+wl a.den+(wl b.num.natAbs+wl b.den)+2≤Cap:=hcap;have HRS:=hid hrs;have HG0:Hid (0<a.den.gcd b.den):=hid (Nat.gcd_pos_of_pos_left _ a.den_pos)
 have HDIV:Hid (∀W v1 v2 m n,qbh w na (.slice pa1 ka1 ca1) (.slice pa2 ka2 ca2) nb (.slice pb1 kb1 cb1) (.slice pb2 kb2 cb2) W→qaq W v1 m→qaq W v2 n→0<n→wl m≤Cap→Calls Tryz.prog 81 #[v1,v2] W fun e w'=>(∃vq vr,e = .returned (.tuple #[vq,vr])∧qaq w' vq (m/n)∧qaq w' vr (m % n))∧qbh w na (.slice pa1 ka1 ca1) (.slice pa2 ka2 ca2) nb (.slice pb1 kb1 cb1) (.slice pb2 kb2 cb2) w'∧Below W.heap.size W w'):=
  hid fun W v1 v2 m n hW h1 h2 h3 h4=>qbv hW (qmt v1 v2 m n W h1 h2 h3 h4)
 have HMUL:Hid (∀W v1 v2 m n,qbh w na (.slice pa1 ka1 ca1) (.slice pa2 ka2 ca2) nb (.slice pb1 kb1 cb1) (.slice pb2 kb2 cb2) W→qaq W v1 m→qaq W v2 n→wl m≤Cap→wl n≤Cap→Calls Tryz.prog 75 #[v1,v2] W fun e w'=>(∃v',e = .returned v'∧qaq w' v' (m*n))∧qbh w na (.slice pa1 ka1 ca1) (.slice pa2 ka2 ca2) nb (.slice pb1 kb1 cb1) (.slice pb2 kb2 cb2) w'∧Below W.heap.size W w'):=
  hid fun W v1 v2 m n hW h1 h2 h3 h4=>qbv hW (qg4 v1 v2 m n W h1 h2 h3 h4)
 have HADD:Hid (∀W v1 v2 p q,qbh w na (.slice pa1 ka1 ca1) (.slice pa2 ka2 ca2) nb (.slice pb1 kb1 cb1) (.slice pb2 kb2 cb2) W→qaq W v1 p→qaq W v2 q→wl p≤Cap→wl q≤Cap→Calls Tryz.prog 115 #[.bool na,v1,.bool nb,v2] W fun e w'=>((∃(ns:Bool) (vs:Value) (s:Nat),e = .returned (.tuple #[.bool ns,vs])∧qaq w' vs s∧(if ns then -(s:Int) else s)=(if na then -(p:Int) else p)+(if nb then -(q:Int) else q))∧Below W.heap.size W w')):=
  hid fun W v1 v2 p q _ h1 h2 h3 h4=>qr2 na nb v1 v2 p q W h1 h2 h3 h4
 have HLL:Hid (wl (a.den/a.den.gcd b.den)≤wl a.den):=hid (qdj (Nat.div_le_self _ _));have HLR:Hid (wl (b.den/a.den.gcd b.den)≤wl b.den):=hid (qdj (Nat.div_le_self _ _));have HPP:=hid (qyx a b)
 have HGZ:Hid (∀W v1 v2 z,qbh w na (.slice pa1 ka1 ca1) (.slice pa2 ka2 ca2) nb (.slice pb1 kb1 cb1) (.slice pb2 kb2 cb2) W→qaq W v1 z→qaq W v2 (a.den.gcd b.den)→wl z≤Cap→Calls Tryz.prog 80 #[v1,v2] W fun e w'=>(∃v',e = .returned v'∧qaq w' v' (z.gcd (a.den.gcd b.den)))∧qbh w na (.slice pa1 ka1 ca1) (.slice pa2 ka2 ca2) nb (.slice pb1 kb1 cb1) (.slice pb2 kb2 cb2) w'∧Below W.heap.size W w'):=
  hid fun W v1 v2 z hW h1 h2 h3=>qbv hW (qdp v1 v2 _ _ W h1 h2 h3 (Nat.le_trans (qdj (Nat.gcd_le_left _ a.den_pos)) (by omega)))
 clear ha1 ha2 hb1 hb2 hcap hna hnb hrs;go_enter Tryz.func79,Tryz.ntmps79;go_wp2_with fail;generalize ((w.alloc (.cells #[.bool na,.slice pa1 ka1 ca1,.slice pa2 ka2 ca2] 80)).alloc (.cells #[.bool nb,.slice pb1 kb1 cb1,.slice pb2 kb2 cb2] 80)).alloc (.cells #[.bool false,.slice none 0 0,.slice none 0 0] 80)=w0 at *;have HT0:=hid HW0.out.drew
 go_region_held3 (fun W=>W.cell? ⟨w.heap.size,0,none⟩=some (.bool na)∧W.cell? ⟨w.heap.size,1,none⟩=some (.slice pa1 ka1 ca1)∧W.cell? ⟨w.heap.size,2,none⟩=some (.slice pa2 ka2 ca2)∧W.cell? ⟨w.heap.size+1,0,none⟩=some (.bool nb)∧W.cell? ⟨w.heap.size+1,1,none⟩=some (.slice pb1 kb1 cb1)∧W.cell? ⟨w.heap.size+1,2,none⟩=some (.slice pb2 kb2 cb2)) (first|exact qan HTG.out|exact qan HTA.out|exact qan HTB.out|exact qan HT0.out)
  (first
   | (go_at_call 76;first
     | ((with_reducible refine(HDA.out _ ?qa).mono ?_);(case qa=>first|exact HTB.out|exact HT0.out);rintro e wA ⟨⟨vA,rfl,hn⟩,ht,hb⟩;have HVA:=hid hn;have HTA:=hid ht;have HBA:=hid hb;clear hn ht hb)
     | ((with_reducible refine(HDB.out _ ?qb).mono ?_);(case qb=>first|exact HTA.out|exact HT0.out);rintro e wB ⟨⟨vB,rfl,hn⟩,ht,hb⟩;have HVB:=hid hn;have HTB:=hid ht;have HBB:=hid hb;clear hn ht hb))
   | (go_at_call 80;(refine(HGC.out _ _ _ ?q1 ?q2 ?q3).mono ?_);(case q1=>first|exact HTB.out|exact HTA.out);(case q2=>first|exact HVA.out|exact HVA.out.later HBB.out);(case q3=>first|exact HVB.out|exact HVB.out.later HBA.out);rintro e wG ⟨⟨vG,rfl,hn⟩,ht,hb⟩;have HVG:=hid hn;have HTG:=hid ht;clear hn ht hb))
 have HBG:Hid (Below w.heap.size w wG):=hid HTG.out.1;clear HT0 HW0 HVA HVB HTA HTB;go_wp2_with fail;refine(HDA.out _ HTG.out).mono ?_;rintro e w1 ⟨⟨v1,rfl,hn⟩,ht,hb⟩;have HV1:=hid hn;have HT1:=hid ht;have HVG1:=hid (HVG.out.later hb);clear hn ht hb;go_wp2_with fail;refine(HDIV.out _ _ _ _ _ HT1.out HV1.out HVG1.out HG0.out (by have:=HRS.out;omega)).mono ?_;rintro e w2 ⟨⟨vL,vx,rfl,hn,_⟩,ht,hb⟩;have HVL:=hid hn;have HT2:=hid ht;have HVG2:=hid (HVG1.out.later hb);clear hn ht hb;obtain⟨d10,d11,d12,d20,d21,d22⟩:=qan HT2.out;go_wp2_with fail;clear d10 d11 d12 d20 d21 d22;refine(HDB.out _ HT2.out).mono ?_;rintro e w3 ⟨⟨v3,rfl,hn⟩,ht,hb⟩;have HV3:=hid hn;have HT3:=hid ht;have HVG3:=hid (HVG2.out.later hb);have HVL3:=hid (HVL.out.later hb);clear hn ht hb;go_wp2_with fail;refine(HDIV.out _ _ _ _ _ HT3.out HV3.out HVG3.out HG0.out (by have:=HRS.out;omega)).mono ?_;rintro e w4 ⟨⟨vR,vy,rfl,hn,_⟩,ht,hb⟩;have HVR4:=hid hn;have HT4:=hid ht;have HVG4:=hid (HVG3.out.later hb);have HVL4:=hid (HVL3.out.later hb);have HT4D:=hid ht.drew;have HA4:=hid (HA1.out.later ht.1);have HB4:=hid (HB1.out.later ht.1);clear hn ht hb;have hdr:Below w4.heap.size w4 w4.drew:=(Below.refl _ _).drew
 have HM1:Hid (∀W,qbh w na (.slice pa1 ka1 ca1) (.slice pa2 ka2 ca2) nb (.slice pb1 kb1 cb1) (.slice pb2 kb2 cb2) W→Below w4.heap.size w4 W→Calls Tryz.prog 75 #[.slice pa1 ka1 ca1,vR] W fun e w'=>(∃v',e = .returned v'∧qaq w' v' (a.num.natAbs*(b.den/a.den.gcd b.den)))∧qbh w na (.slice pa1 ka1 ca1) (.slice pa2 ka2 ca2) nb (.slice pb1 kb1 cb1) (.slice pb2 kb2 cb2) w'∧Below w4.heap.size w4 w'∧Below W.heap.size W w'):=
  hid fun W hW hB=>(HMUL.out W _ _ _ _ hW (HA4.out.later hB) (HVR4.out.later hB) (by have:=HRS.out;omega) (by have:=HRS.out;have:=HLR.out;have:=HLL.out;omega)).mono fun _ _ ⟨h1,h2,h3⟩=>⟨h1,h2,hB.trans (h3.mono hB.size),h3⟩
 have HM2:Hid (∀W,qbh w na (.slice pa1 ka1 ca1) (.slice pa2 ka2 ca2) nb (.slice pb1 kb1 cb1) (.slice pb2 kb2 cb2) W→Below w4.heap.size w4 W→Calls Tryz.prog 75 #[.slice pb1 kb1 cb1,vL] W fun e w'=>(∃v',e = .returned v'∧qaq w' v' (b.num.natAbs*(a.den/a.den.gcd b.den)))∧qbh w na (.slice pa1 ka1 ca1) (.slice pa2 ka2 ca2) nb (.slice pb1 kb1 cb1) (.slice pb2 kb2 cb2) w'∧Below w4.heap.size w4 w'∧Below W.heap.size W w'):=
  hid fun W hW hB=>(HMUL.out W _ _ _ _ hW (HB4.out.later hB) (HVL4.out.later hB) (by have:=HRS.out;omega) (by have:=HRS.out;have:=HLR.out;have:=HLL.out;omega)).mono fun _ _ ⟨h1,h2,h3⟩=>⟨h1,h2,hB.trans (h3.mono hB.size),h3⟩
 have HAS:Hid (∀W v1 v2 p q,qbh w na (.slice pa1 ka1 ca1) (.slice pa2 ka2 ca2) nb (.slice pb1 kb1 cb1) (.slice pb2 kb2 cb2) W→Below w4.heap.size w4 W→qaq W v1 p→qaq W v2 q→wl p≤Cap→wl q≤Cap→Calls Tryz.prog 115 #[.bool na,v1,.bool nb,v2] W fun e w'=>(∃(ns:Bool) (vs:Value) (s:Nat),e = .returned (.tuple #[.bool ns,vs])∧qaq w' vs s∧(if ns then -(s:Int) else s)=(if na then -(p:Int) else p)+(if nb then -(q:Int) else q))∧qbh w na (.slice pa1 ka1 ca1) (.slice pa2 ka2 ca2) nb (.slice pb1 kb1 cb1) (.slice pb2 kb2 cb2) w'∧Below w4.heap.size w4 w'):=
  hid fun W v1 v2 p q hW hB h1 h2 h3 h4=>(HADD.out W v1 v2 p q hW h1 h2 h3 h4).mono fun _ _ ⟨h5,h6⟩=>⟨h5,hW.later h6,hB.trans (h6.mono hB.size)⟩
 have HDR:=hid hdr;clear hdr;have HS1:Hid (wl (a.num.natAbs*(b.den/a.den.gcd b.den))≤wl a.num.natAbs+wl b.den):=hid (Nat.le_trans (qo4 _ _) (by have:=HLR.out;omega));have HS2:Hid (wl (b.num.natAbs*(a.den/a.den.gcd b.den))≤wl b.num.natAbs+wl a.den):=hid (Nat.le_trans (qo4 _ _) (by have:=HLL.out;omega));go_wp2_with fail
 go_region_held3 (fun W=>W.cell? ⟨w.heap.size,0,none⟩=some (.bool na)∧W.cell? ⟨w.heap.size,1,none⟩=some (.slice pa1 ka1 ca1)∧W.cell? ⟨w.heap.size,2,none⟩=some (.slice pa2 ka2 ca2)∧W.cell? ⟨w.heap.size+1,0,none⟩=some (.bool nb)∧W.cell? ⟨w.heap.size+1,1,none⟩=some (.slice pb1 kb1 cb1)∧W.cell? ⟨w.heap.size+1,2,none⟩=some (.slice pb2 kb2 cb2)) (first|exact qan HTZ.out|exact qan HTX.out|exact qan HTY.out|exact qan HT4D.out)
  (first
   | (go_at_call 75;first
     | ((with_reducible refine(HM1.out _ ?qa ?qc).mono ?_);(case qa=>first|exact HTY.out|exact HT4D.out);(case qc=>first|exact HBY.out|exact HDR.out);rintro e wX ⟨⟨vX,rfl,hn⟩,ht,hb4,hb⟩;have HVX:=hid hn;have HTX:=hid ht;have HBX0:=hid hb;have HBX:=hid hb4;clear hn ht hb hb4)
     | ((with_reducible refine(HM2.out _ ?qb ?qd).mono ?_);(case qb=>first|exact HTX.out|exact HT4D.out);(case qd=>first|exact HBX.out|exact HDR.out);rintro e wY ⟨⟨vY,rfl,hn⟩,ht,hb4,hb⟩;have HVY:=hid hn;have HTY:=hid ht;have HBY0:=hid hb;have HBY:=hid hb4;clear hn ht hb hb4))
   | (go_at_call 115;(first|refine(HAS.out _ _ _ _ _ HTY.out HBY.out (HVX.out.later HBY0.out) HVY.out ?q4 ?q5).mono ?_|refine(HAS.out _ _ _ _ _ HTX.out HBX.out HVX.out (HVY.out.later HBX0.out) ?q4 ?q5).mono ?_);(case q4=>have h1:=HRS.out;have h2:=HS1.out;omega);(case q5=>have h1:=HRS.out;have h2:=HS2.out;omega);rintro e wZ ⟨⟨ns,vZ,z,rfl,hn,hz⟩,ht,hb4⟩;have HVZ:=hid hn;have HZV:=hid hz;have HTZ:=hid ht;have HBZ:=hid hb4;clear hn hz ht hb4))
 have HVG5:=hid (HVG4.out.later HBZ.out);have HVL5:=hid (HVL4.out.later HBZ.out);obtain⟨Z,hZ⟩:∃Z:Int,Z=a.num*((b.den/a.den.gcd b.den:Nat):Int)+b.num*((a.den/a.den.gcd b.den:Nat):Int):=⟨_,rfl⟩;have hparts:=HPP.out Z hZ
 have hzz:(if ns then -(z:Int) else z)=Z:=by
  rw[hZ];have h1:=HZV.out
  have ea:a.num=if na then -(a.num.natAbs:Int) else a.num.natAbs:=by
   rw[←HNA.out];by_cases h:a.num<0
   ·rw[decide_eq_true h];simp;omega
   ·rw[decide_eq_false h];simp;omega
  have eb:b.num=if nb then -(b.num.natAbs:Int) else b.num.natAbs:=by
   rw[←HNB.out];by_cases h:b.num<0
   ·rw[decide_eq_true h];simp;omega
   ·rw[decide_eq_false h];simp;omega
  rw[h1,Int.natCast_mul,Int.natCast_mul];generalize (b.den/a.den.gcd b.den)=R at *;generalize (a.den/a.den.gcd b.den)=L at *;generalize a.num.natAbs=x at *;generalize b.num.natAbs=y at *;rw[ea,eb];cases na<;>cases nb<;>simp<;>grind
 have hzn:z=Z.natAbs:=by cases ns<;>simp at hzz<;>omega
 have hzle:wl z≤Cap:=by
  have h1:=HZV.out
  have h2:z≤a.num.natAbs*(b.den/a.den.gcd b.den)+b.num.natAbs*(a.den/a.den.gcd b.den):=by
   generalize a.num.natAbs*(b.den/a.den.gcd b.den)=x at *;generalize b.num.natAbs*(a.den/a.den.gcd b.den)=y at *;cases ns<;>cases na<;>cases nb<;>simp at h1<;>omega
  have h3:=qdj h2;have h4:=zas (a.num.natAbs*(b.den/a.den.gcd b.den)) (b.num.natAbs*(a.den/a.den.gcd b.den));have h5:=HS1.out;have h6:=HS2.out;have h7:=HRS.out;omega
 rw[←hzn] at hparts;have hc0:0<z.gcd (a.den.gcd b.den):=Nat.gcd_pos_of_pos_right _ HG0.out;have HC0:=hid hc0
 have HSG:Hid ((ns&&decide (0<z/z.gcd (a.den.gcd b.den)))=decide ((a+b).num<0)):=by
  refine hid ?_
  have h0:0<z/z.gcd (a.den.gcd b.den)↔0<z:=by
   constructor
   ·intro h
    rcases Nat.eq_zero_or_pos z with e|e
    ·rw[e,Nat.zero_div] at h;omega
    ·exact e
   ·intro h
    exact Nat.div_pos (Nat.le_of_dvd h (Nat.gcd_dvd_left _ _)) hc0
  have h1:(a+b).num<0↔Z<0:=hparts.2.1;cases ns
  ·rw[Bool.false_and];symm;apply decide_eq_false;rw[h1];simp at hzz;omega
  ·rw[Bool.true_and];apply decide_eq_decide.2;rw[h1,h0];simp at hzz;omega
 have HPT:=hid hparts;have HZC:=hid hzle;have HGC6:=hid (HGZ.out _ _ _ _ HTZ.out HVZ.out HVG5.out hzle);clear hparts hzz hzn hzle hc0 hZ HZV HPP HS1 HS2;go_wp2_with fail;refine HGC6.out.mono ?_;rintro e w6 ⟨⟨vC,rfl,hn⟩,ht,hb⟩;have HVC6:=hid hn;have HT6:=hid ht;have HVZ6:=hid (HVZ.out.later hb);have HVL6:=hid (HVL5.out.later hb);clear hn ht hb;go_wp2_with fail;refine(HDIV.out _ _ _ _ _ HT6.out HVZ6.out HVC6.out HC0.out HZC.out).mono ?_;rintro e w7 ⟨⟨vT,vt2,rfl,hn,_⟩,ht,hb⟩;have HVT7:=hid hn;have HT7:=hid ht;have HVC7:=hid (HVC6.out.later hb);have HVL7:=hid (HVL6.out.later hb);clear hn ht hb;obtain⟨d10,d11,d12,d20,d21,d22⟩:=qan HT7.out;go_wp2_with fail;clear d10 d11 d12 d20 d21 d22;refine(HDB.out _ HT7.out).mono ?_;rintro e w8 ⟨⟨v8,rfl,hn⟩,ht,hb⟩;have HV8:=hid hn;have HT8:=hid ht;have HVC8:=hid (HVC7.out.later hb);have HVL8:=hid (HVL7.out.later hb);have HVT8:=hid (HVT7.out.later hb);clear hn ht hb;go_wp2_with fail;refine(HDIV.out _ _ _ _ _ HT8.out HV8.out HVC8.out HC0.out (by have:=HRS.out;omega)).mono ?_;rintro e w9 ⟨⟨vB9,vb9,rfl,hn,_⟩,ht,hb⟩;have HVB9:=hid hn;have HT9:=hid ht;have HVL9:=hid (HVL8.out.later hb);have HVT9:=hid (HVT8.out.later hb);clear hn ht hb;go_wp2_with fail;refine(HMUL.out _ _ _ _ _ HT9.out HVL9.out HVB9.out (by have:=HRS.out;have:=HLL.out;omega) (Nat.le_trans (qdj (Nat.div_le_self _ _)) (by have:=HRS.out;omega))).mono ?_;rintro e w10 ⟨⟨vP,rfl,hn⟩,ht,hb⟩;have HVP10:=hid hn;have HT10:=hid ht;have HVT10:=hid (HVT9.out.later hb);clear hn ht hb;have HNUM:=hid (qfa ns _ vT vP _ _ _ w10 HVT10.out HVP10.out HSG.out.symm rfl);go_wp2_with fail;refine HNUM.out.mono ?_;rintro e w11 ⟨⟨vF,rfl,hn1,hn2⟩,hb⟩;have HT11:=hid (HT10.out.later hb);have HF1:=hid hn1;have HF2:=hid hn2;clear hn1 hn2 hb;obtain⟨pt,kt,ct,rfl,hx⟩:=qas HF1.out;clear hx
 obtain⟨pf,kf,cf,rfl,hx⟩:=qas HF2.out;clear hx;obtain⟨r0,g0⟩:w11.cell? ⟨w.heap.size+1+1,0,none⟩=_∧w11.frozen? ⟨w.heap.size+1+1,0,none⟩=false:=HT11.out.2.2.2.2 0 (by omega);obtain⟨r1,g1⟩:w11.cell? ⟨w.heap.size+1+1,1,none⟩=_∧w11.frozen? ⟨w.heap.size+1+1,1,none⟩=false:=HT11.out.2.2.2.2 1 (by omega);obtain⟨r2,g2⟩:w11.cell? ⟨w.heap.size+1+1,2,none⟩=_∧w11.frozen? ⟨w.heap.size+1+1,2,none⟩=false:=HT11.out.2.2.2.2 2 (by omega);simp only[qcm] at r0 r1 r2
 have HFIN:Hid (∀W,Below w.heap.size w11 W→(∀v n,qaq w11 v n→qaq W v n)→qaj W (.agg #[.bool (decide ((a+b).num<0)),.slice pt kt ct,.slice pf kf cf]) (a+b)):=by
  refine hid fun W _ hN=>⟨_,_,rfl, ?_, ?_⟩
  ·rw[HPT.out.1];exact hN _ _ HF1.out
  ·rw[HPT.out.2.2];exact hN _ _ HF2.out
 generalize decide ((a+b).num<0)=sg at *;go_wp2_with fail;refine bodyPost_ret (v := .agg #[.bool sg,.slice pt kt ct,.slice pf kf cf]) ?_ rfl ?_
 ·simp[results,Tryz.results79,go_sem,r0,r1,r2]
 ·have hb:Below w.heap.size w11 (((w11.setCell ⟨w.heap.size+1+1,0,none⟩ (.bool sg)).setCell ⟨w.heap.size+1+1,1,none⟩ (.slice pt kt ct)).setCell ⟨w.heap.size+1+1,2,none⟩ (.slice pf kf cf)):=
   (((Below.refl _ _).setCell (by show w.heap.size≤w.heap.size+1+1;omega) _).setCell (by show w.heap.size≤w.heap.size+1+1;omega) _).setCell (by show w.heap.size≤w.heap.size+1+1;omega) _
  refine⟨⟨_,rfl,HFIN.out _ hb ?_⟩,HT11.out.1.trans hb⟩;intro v n hN;refine((hN.setOther r0 (by intro k z h;cases h)).setOther (u := .slice none 0 0) ?_ (by intro k z h;cases h)).setOther (u := .slice none 0 0) ?_ (by intro k z h;cases h)
  ·rw[World.cell?_setCell_other _ _ _ _ (by intro h;injection h with _ h;cases h)];exact r1
  ·rw[World.cell?_setCell_other _ _ _ _ (by intro h;injection h with _ h;cases h),World.cell?_setCell_other _ _ _ _ (by intro h;injection h with _ h;cases h)];exact r2
end Go.Proofs.YthjagoogkkgelaaGreatDoor
