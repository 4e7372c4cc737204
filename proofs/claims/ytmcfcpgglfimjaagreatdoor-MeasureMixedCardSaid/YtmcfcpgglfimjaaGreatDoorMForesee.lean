/- window and foresee: several steps of Euclid's division, out of the highest bits. -/
import Derived.Test.YtmcfcpgglfimjaaGreatDoorMMine
import Derived.Test.YtmcfcpgglfimjaaGreatDoorMMaths
set_option linter.all false
namespace Go.Proofs.YtmcfcpgglfimjaaGreatDoor
open Go.RowKit
set_option maxRecDepth 100000
set_option maxHeartbeats 2000000
def top(l:List Nat)(k s:Nat):Nat:=l.getD (k+1) 0*2^s % B64+l.getD k 0/2^(64-s)
theorem q9o(l:List Nat)(k s:Nat)(hl:∀d ∈ l,d<B64)(hs:s<64):top l k s<B64:=by
 have h1:l.getD k 0/2^(64-s)<2^s:=by
  rw[Nat.div_lt_iff_lt_mul (Nat.two_pow_pos _),Nat.mul_comm,←qdm (by omega)];exact qaz (by rw[qaj];omega) hl k
 exact(q07 (l.getD (k+1) 0) s _ hs h1).2
theorem qs2(l:List Nat)(k s:Nat)(hl:∀d ∈ l,d<B64)(hs:s<64)(aE:l.length≤k+2)(Bj:l.getD (k+1) 0*2^s<B64):
  ∃al,val B64 l=top l k s*(B64^k*2^(64-s))+al∧al<B64^k*2^(64-s):=by
 have h1:=qa0 B64 l k;have h2:=qa0 B64 l (k+1);rw[qbf B64 l (k+1+1) aE,h1,Nat.pow_succ] at h2;have h3:=qm3 B64 l k (by rw[qaj];omega) hl;have h4:=Nat.div_add_mod (l.getD k 0) (2^(64-s));have h5:=Nat.mod_lt (l.getD k 0) (Nat.two_pow_pos (64-s));unfold top;rw[Nat.mod_eq_of_lt Bj,h2];generalize l.getD (k+1) 0=x at *;generalize l.getD k 0/2^(64-s)=q at *;generalize l.getD k 0 % 2^(64-s)=r at *;rw[←h4];refine⟨low B64 l k+B64^k*r, ?_, ?_⟩
 ·have hB:=qdm (s:=s) (by omega)
  have e1:B64^k*B64*x=x*2^s*(B64^k*2^(64-s)):=by
   conv=>lhs;rw[show B64^k*B64*x=B64^k*x*B64 from by grind,hB]
   grind
  rw[Nat.add_mul,e1,Nat.mul_add];have e2:B64^k*(2^(64-s)*q)=q*(B64^k*2^(64-s)):=by grind
  omega
 ·have:B64^k*(r+1)≤B64^k*2^(64-s):=Nat.mul_le_mul_left _ h5
  rw[Nat.mul_add] at this;omega
theorem qqk(v:Value)(l:List Nat)(k s:Nat)(w:World)(h:Wds w v l)(hs:s<64)(hk:k<4611686018427387904):
  Calls Tryz.prog 183 #[v,.int .i64 ((k:Int)+2),.int .i64 (s:Nat)] w fun e w'=>e = .returned (.int .u64 (top l k s:Nat))∧∃n,w'=w.drewN n:=by
 have hx:l.getD k 0/2^(64-s)<2^s:=by
  rw[Nat.div_lt_iff_lt_mul (Nat.two_pow_pos _),Nat.mul_comm,←qdm (by omega)];exact qaz (by rw[qaj];omega) h.1 k
 obtain⟨xU,_⟩:=q07 (l.getD (k+1) 0) s _ hs hx
 have sL:Hid (bits .or .u64 (IntKind.u64.wrap (((l.getD (k+1) 0:Nat):Int)*2^s)) (((l.getD k 0:Nat):Int)/2^(64-s))=((top l k s:Nat):Int)):=by
  refine hid ?_;rw[show((l.getD k 0:Nat):Int)/2^(64-s)=((l.getD k 0/2^(64-s):Nat):Int) from by simp];exact xU
 have Bh:Hid (∀q,Calls Tryz.prog 214 #[v,.int .i64 ((k:Int)+1)] (w.drewN q) fun e w'=>e = .returned (.int .u64 (l.getD (k+1) 0:Nat))∧w'=w.drewN q):=hid fun q=>by
  have:=qw0 v l ((k:Int)+1) (w.drewN q) (h.later (below_drewN (qaa _ _) q)) (by omega)
  rwa [show((k:Int)+1).toNat=k+1 from by omega] at this
 have HW2:Hid (∀q,Calls Tryz.prog 214 #[v,.int .i64 (k:Int)] (w.drewN q) fun e w'=>e = .returned (.int .u64 (l.getD k 0:Nat))∧w'=w.drewN q):=hid fun q=>by
  have:=qw0 v l (k:Int) (w.drewN q) (h.later (below_drewN (qaa _ _) q)) (by omega)
  rwa [Int.toNat_natCast] at this
 clear xU hx h;have e1:(k:Int)+2-1=(k:Int)+1:=by omega
 have e2:(k:Int)+2-2=(k:Int):=by omega
 generalize top l k s=t at *;generalize l.getD (k+1) 0=x at *;generalize l.getD k 0=y at *;go_enter Tryz.func183,Tryz.ntmps183;go_wp2_with fail
 go_quiet ((go_at_call 214;first|(with_reducible exact Calls.quiet_of_same (Bh.out _))|(with_reducible exact Calls.quiet_of_same (HW2.out _))))
 go_wp2_with fail;go_ret;exact⟨(qa6 sL.out:Ending.returned (.int .u64 _)=_),_,rfl⟩
def qcm(u0 u1 v0 v1:Nat)(e:Bool)(i:Nat):Value:=
 if i=0 then .int .u64 (u0:Nat) else if i=1 then .int .u64 (u1:Nat) else if i=2 then .int .u64 (v0:Nat) else if i=3 then .int .u64 (v1:Nat) else .bool e
theorem q1b{w:World}{g u0 u1 v0 v1 x0 x1 x2 x3:Nat}{e e':Bool}(h:Own w g 5 (qcm u0 u1 v0 v1 e)):
  Own (((((w.setCell ⟨g,0,none⟩ (.int .u64 (x0:Nat))).setCell ⟨g,1,none⟩ (.int .u64 (x1:Nat))).setCell ⟨g,2,none⟩ (.int .u64 (x2:Nat))).setCell ⟨g,3,none⟩ (.int .u64 (x3:Nat))).setCell ⟨g,4,none⟩ (.bool e')) g 5 (qcm x0 x1 x2 x3 e'):=by
 refine(((((h.set 0 (by omega) _).set 1 (by omega) _).set 2 (by omega) _).set 3 (by omega) _).set 4 (by omega) _).congr fun i hi => ?_
 match i,hi with
 | 0,_=>rfl
 | 1,_=>rfl
 | 2,_=>rfl
 | 3,_=>rfl
 | 4,_=>rfl
theorem qhx(va vb:Value)(a b:Nat)(w:World)(ha:qa2 w va a)(hb:qa2 w vb b)(mH:b≤a)(h2:2≤wl b)(hm:wl a≤Cap):
  Calls Tryz.prog 146 #[va,vb] w fun e w'=>(∃(u0 u1 v0 v1:Nat) (ev:Bool),e = .returned (.agg #[.int .u64 u0,.int .u64 u1,.int .u64 v0,.int .u64 v1,.bool ev])∧u0<B64∧u1<B64∧v0<B64∧v1<B64∧Rec a b u0 u1 v0 v1 ev)∧Below w.heap.size w w':=by
 obtain⟨l,pa,ca,rfl,kJ,sE,cX,Ac⟩:=qgd ha;obtain⟨r,pb,cb,rfl,hU,Aa,cS,wR⟩:=qgd hb;have aE:r.length≤l.length:=by rw[cX,cS];exact qal qam mH
 rw[←cS] at h2;rw[←cX] at hm;obtain⟨k,hk⟩:∃k,l.length=k+2:=⟨l.length-2,by omega⟩
 have qX:l.getD (k+1) 0≠0:=by
  rcases List.eq_nil_or_concat l with e|⟨z,x,e⟩
  ·rw[e] at hk;simp at hk
  ·rw[List.concat_eq_append] at e
   have hz:z.length=k+1:=by rw[e] at hk;simpa using hk
   rw[e,←hz];have:=qix qam (Ac.symm.trans e)
   simpa using this
 obtain⟨s,hs,uF,xO,Fx⟩:=q0v (l.getD (k+1) 0) (by omega) (qaz (by rw[qaj];omega) kJ.1 _);obtain⟨al,nS,bL⟩:=qs2 l k s kJ.1 hs (by omega) uF
 have Ea:r.getD (k+1) 0≤l.getD (k+1) 0:=by
  have h1:=qa0 B64 l (k+1);have h3:=qa0 B64 r (k+1);rw[qbf B64 l (k+1+1) (by omega),sE] at h1;rw[qbf B64 r (k+1+1) (by omega),Aa] at h3;have h4:=qm3 B64 l (k+1) (by rw[qaj];omega) kJ.1;rcases Nat.lt_or_ge (l.getD (k+1) 0) (r.getD (k+1) 0) with h|h
  ·have:B64^(k+1)*(l.getD (k+1) 0+1)≤B64^(k+1)*r.getD (k+1) 0:=Nat.mul_le_mul_left _ h
   rw[Nat.mul_add] at this;omega
  ·exact h
 have hry:r.getD (k+1) 0*2^s<B64:=Nat.lt_of_le_of_lt (Nat.mul_le_mul_right _ Ea) uF;obtain⟨bl,Gv,Nl⟩:=qs2 r k s hU.1 hs (by omega) hry;rw[sE] at nS;rw[Aa] at Gv
 have hh0:0<top l k s:=by
  unfold top;rw[Nat.mod_eq_of_lt uF];exact Nat.lt_of_lt_of_le (Nat.mul_pos (Nat.pos_of_ne_zero qX) (Nat.two_pow_pos s)) (Nat.le_add_right _ _)
 have pX:top r k s≤top l k s:=by
  rcases Nat.lt_or_ge (top l k s) (top r k s) with h|h
  ·have:(top l k s+1)*(B64^k*2^(64-s))≤top r k s*(B64^k*2^(64-s)):=Nat.mul_le_mul_right _ h
   rw[Nat.add_mul] at this;omega
  ·exact h
 have HHB:=hid (q9o l k s kJ.1 hs);have HA:=hid nS;have HB':=hid Gv;have dK:=hid bL;have dW:=hid Nl;have HH0:=hid hh0;have HHL:=hid pX;have Nm:l.getD (k+1) 0<B64:=qaz (by rw[qaj];omega) kJ.1 _;have HWA:=hid kJ;have xZ:=hid hU;have sF:=hid Fx;have Nn:k<4611686018427387904:=by unfold Cap at hm;omega
 have yN:Hid (∀w',Below w.heap.size w w'→Calls Tryz.prog 183 #[.slice pa l.length ca,.int .i64 ((k:Int)+2),.int .i64 (s:Nat)] w' fun e w''=>e = .returned (.int .u64 (top l k s:Nat))∧∃n,w''=w'.drewN n):=hid fun w' hb'=>qqk _ l k s w' (HWA.out.later hb') hs Nn;have Eb:Hid (∀w',Below w.heap.size w w'→Calls Tryz.prog 183 #[.slice pb r.length cb,.int .i64 ((k:Int)+2),.int .i64 (s:Nat)] w' fun e w''=>e = .returned (.int .u64 (top r k s:Nat))∧∃n,w''=w'.drewN n):=hid fun w' hb'=>qqk _ r k s w' (xZ.out.later hb') hs Nn;obtain⟨_,p',c',he,jQ,fC,aA⟩:=kJ;cases he
 rcases aA with h0|⟨ba,oa,rfl,aB⟩
 ·omega
 have aC:=aB (k+1) (by omega);unfold wd at aC
 have bT:Hid (∀w',Below w.heap.size w w'→w'.cell? ⟨ba,oa+(k+1),none⟩=some (.int .u64 (l.getD (k+1) 0:Nat))):=hid fun w' hb'=>by
  rw[hb'.cell (p:=⟨ba,oa+(k+1),none⟩) (qaf w _ aC)];exact aC
 rw[hk] at yN;rw[hk];generalize l.getD (k+1) 0=y at *;generalize top l k s=h at *;generalize top r k s=Kh at *;clear hk qX hs uF xO Fx nS bL Gv Nl Ea hry hh0 pX Nm hU aE h2 hm sE Aa cX cS Ac wR ha hb mH aC aB jQ fC;generalize r.length=rl at *;go_enter Tryz.func146,Tryz.ntmps146;have hcw:∀o,(w.alloc o).cell? ⟨ba,oa+(k+1),none⟩=some (.int .u64 y):=fun o=>bT.out _ (qad _ _);go_wp2_with fail;refine(sF.out _).mono ?_;rintro e w' ⟨rfl,hw'⟩;rw[hw'];clear hw';go_wp2_with fail
 have Du:Hid (Own (w.alloc (.cells #[.int .u64 0,.int .u64 0,.int .u64 0,.int .u64 0,.bool false] 200)) w.heap.size 5 (qcm 0 0 0 0 false)):=by
  refine hid ⟨by rw[qab];omega,fun i hi => ?_⟩;rw[World.cell?_alloc_at _ _ _ _ rfl,World.frozen?_alloc_at _ _ _ _ rfl]
  match i,hi with
  | 0,_=>exact⟨rfl,rfl⟩
  | 1,_=>exact⟨rfl,rfl⟩
  | 2,_=>exact⟨rfl,rfl⟩
  | 3,_=>exact⟨rfl,rfl⟩
  | 4,_=>exact⟨rfl,rfl⟩
 have dE:Hid (Below w.heap.size w (w.alloc (.cells #[.int .u64 0,.int .u64 0,.int .u64 0,.int .u64 0,.bool false] 200))):=hid (qad _ _);have nT:Hid ((w.alloc (.cells #[.int .u64 0,.int .u64 0,.int .u64 0,.int .u64 0,.bool false] 200)).heap.size=w.heap.size+1):=hid (qab _ _);generalize w.alloc (.cells #[.int .u64 0,.int .u64 0,.int .u64 0,.int .u64 0,.bool false] 200)=w0 at *;clear hcw;refine(yN.out _ dE.out).mono ?_;rintro e w1 ⟨rfl,n1,cU⟩;have aP:Hid (Below w.heap.size w w1):=hid (by rw[cU];exact below_drewN dE.out n1);have iI:Hid (Own w1 w.heap.size 5 (qcm 0 0 0 0 false)):=hid (by rw[cU];exact Du.out.drewN n1);have eJ:Hid (w1.heap.size=w.heap.size+1):=hid (by rw[cU];exact nT.out);clear cU Du dE nT;go_wp2_with fail;refine(Eb.out _ aP.out).mono ?_;rintro e w2 ⟨rfl,n2,kZ⟩;have aK:Hid (Below w.heap.size w w2):=hid (by rw[kZ];exact below_drewN aP.out n2);have jH:Hid (Own w2 w.heap.size 5 (qcm 0 0 0 0 false)):=hid (by rw[kZ];exact iI.out.drewN n2);have cO:Hid (w2.heap.size=w.heap.size+1):=hid (by rw[kZ];exact eJ.out);clear kZ iI aP eJ yN Eb sF bT;go_wp2_with fail
 have Np:Hid (Own (w2.alloc (.cells #[.int .u64 0,.int .u64 1,.int .u64 0,.int .u64 0,.bool false] 200)) w2.heap.size 5 (qcm 0 1 0 0 false)):=by
  refine hid ⟨by rw[qab];omega,fun i hi => ?_⟩;rw[World.cell?_alloc_at _ _ _ _ rfl,World.frozen?_alloc_at _ _ _ _ rfl]
  match i,hi with
  | 0,_=>exact⟨rfl,rfl⟩
  | 1,_=>exact⟨rfl,rfl⟩
  | 2,_=>exact⟨rfl,rfl⟩
  | 3,_=>exact⟨rfl,rfl⟩
  | 4,_=>exact⟨rfl,rfl⟩
 have kB:Below w2.heap.size w2 (w2.alloc (.cells #[.int .u64 0,.int .u64 1,.int .u64 0,.int .u64 0,.bool false] 200)):=qad _ _;have lF:Hid (Own (w2.alloc (.cells #[.int .u64 0,.int .u64 1,.int .u64 0,.int .u64 0,.bool false] 200)) w.heap.size 5 (qcm 0 0 0 0 false)):=hid (jH.out.later (kB.mono (by have:=cO.out;omega)));have bR:Hid (Below w.heap.size w (w2.alloc (.cells #[.int .u64 0,.int .u64 1,.int .u64 0,.int .u64 0,.bool false] 200))):=hid (aK.out.trans (kB.mono (by have:=cO.out;omega)));clear kB jH aK;generalize w2.alloc (.cells #[.int .u64 0,.int .u64 1,.int .u64 0,.int .u64 0,.bool false] 200)=w3 at *;have Ab:Hid (q9d a b h Kh h Kh 0 1 0 0 0 1 false):=hid (qyb a b h Kh HHL.out);have iQ:Hid (Kh<B64):=hid (Nat.lt_of_le_of_lt HHL.out HHB.out);have HZ:Hid (0<B64∧1<B64):=hid (by rw[qaj];omega)
 go_loopw [6,7,9,10] (fun sh sl su sv wr=>∃(hi lo u0 u1 v0 v1 u v:Nat) (ev:Bool),sh = .int .u64 hi∧sl = .int .u64 lo∧su = .int .u64 u∧sv = .int .u64 v∧Hid (q9d a b h Kh hi lo u0 u1 v0 v1 u v ev)∧Hid (hi<B64∧lo<B64∧u0<B64∧u1<B64∧v0<B64∧v1<B64∧u<B64∧v<B64)∧Hid (Own wr w2.heap.size 5 (qcm u0 u1 v0 v1 ev))∧Hid (Own wr w.heap.size 5 (qcm 0 0 0 0 false))∧Hid (Below w.heap.size w wr)) (fun _ sl _ _ _=>(intOf sl).toNat)
 case atStart=>exact⟨h,Kh,0,1,0,0,0,1,false,rfl,rfl,rfl,rfl,Ab,hid ⟨HHB.out,iQ.out,HZ.out.1,HZ.out.2,HZ.out.1,HZ.out.1,HZ.out.1,HZ.out.2⟩,Np,lF,bR⟩
 case round=>
  obtain⟨hi,lo,u0,u1,v0,v1,u,v,ev,rfl,rfl,rfl,rfl,HI,fB,nO,sL,HB⟩:=hrel;clear Ab Np lF bR;have c0:=(nO.out.2 0 (by omega)).1;have c1:=(nO.out.2 1 (by omega)).1;have c2:=(nO.out.2 2 (by omega)).1;have c3:=(nO.out.2 3 (by omega)).1;have c4:=(nO.out.2 4 (by omega)).1;have Nq:(v≤lo∧v1+v≤hi-lo)∨(v≤lo∧¬v1+v≤hi-lo)∨¬v≤lo:=by omega
  rcases Nq with⟨bO,bJ⟩|Nr
  ·obtain⟨bs1,bs2,bs3,bs4,bs5⟩:=qoc HI.out HHB.out HHL.out HH0.out bO
   have Ec:=q0k HI.out HA.out HB'.out dK.out dW.out bO bJ;have Ns:=HI.out.v1';have hlopos:0<(lo:Int):=by omega
   have pX:=HI.out.hl;have Nt:=fB.out.1
   have E1:IntKind.u64.wrap ((hi:Int)-(lo:Int))=((hi-lo:Nat):Int):=by
    rw[show(hi:Int)-(lo:Int)=((hi-lo:Nat):Int) from by omega];exact qbn _ (by omega)
   have E2:IntKind.u64.wrap ((v1:Int)+(v:Int))=((v1+v:Nat):Int):=by rw[qww];exact qbn _ bs1
   have E3:IntKind.u64.wrap ((hi:Int)/(lo:Int))=((hi/lo:Nat):Int):=by
    rw[←Int.natCast_ediv];exact qbn _ (Nat.lt_of_le_of_lt (Nat.div_le_self _ _) Nt)
   have E4:(hi:Int) % (lo:Int)=((hi % lo:Nat):Int):=by rw[Int.natCast_emod]
   have E5:IntKind.u64.wrap (((hi/lo:Nat):Int)*(u:Int))=((hi/lo*u:Nat):Int):=by rw[q6z];exact qbn _ bs4
   have E6:IntKind.u64.wrap ((u1:Int)+((hi/lo*u:Nat):Int))=((u1+hi/lo*u:Nat):Int):=by rw[qww];exact qbn _ bs2
   have E7:IntKind.u64.wrap (((hi/lo:Nat):Int)*(v:Int))=((hi/lo*v:Nat):Int):=by rw[q6z];exact qbn _ bs5
   have E8:IntKind.u64.wrap ((v1:Int)+((hi/lo*v:Nat):Int))=((v1+hi/lo*v:Nat):Int):=by rw[qww];exact qbn _ bs3
   have Ki:=hid E4;clear E4;have gL:Hid (hi % lo<lo):=hid (Nat.mod_lt _ (by omega));have HNX:=hid Ec;have HBD2:Hid (lo<B64∧hi % lo<B64∧u1<B64∧u<B64∧v1<B64∧v<B64∧u1+hi/lo*u<B64∧v1+hi/lo*v<B64):=hid ⟨fB.out.2.1,Nat.lt_trans gL.out fB.out.2.1,fB.out.2.2.2.1,fB.out.2.2.2.2.2.2.1,fB.out.2.2.2.2.2.1,fB.out.2.2.2.2.2.2.2,bs2,bs3⟩;clear bs1 bs2 bs3 bs4 bs5 Ec Ns pX Nt HI fB;generalize u1+hi/lo*u=un at *;generalize v1+hi/lo*v=vn at *;generalize hi/lo*u=qu at *;generalize hi/lo*v=qv at *;generalize hi/lo=q at *;generalize hi % lo=rm at *;generalize hi-lo=dd at *;generalize v1+v=ss at *;simp only[qcm] at c0 c1 c2 c3 c4;go_wp2_with fail
   go_quiet (fail)
   have uU:Hid (Own (wr.drewN nq) w2.heap.size 5 (qcm u0 u1 v0 v1 ev)):=hid (nO.out.drewN nq);have HOR7:Hid (Own (wr.drewN nq) w.heap.size 5 (qcm 0 0 0 0 false)):=hid (sL.out.drewN nq);have nR:Hid (Below w.heap.size w (wr.drewN nq)):=hid (below_drewN HB.out nq);clear nO sL HB c0 c1 c2 c3 c4;generalize wr.drewN nq=w7 at *;obtain⟨c0,f0⟩:=uU.out.2 0 (by omega);obtain⟨c1,f1⟩:=uU.out.2 1 (by omega);obtain⟨c2,f2⟩:=uU.out.2 2 (by omega);obtain⟨c3,f3⟩:=uU.out.2 3 (by omega);obtain⟨c4,f4⟩:=uU.out.2 4 (by omega);simp only[qcm] at c0 c1 c2 c3 c4;go_wp2_with fail;go_roundw
   case rel=>
    refine⟨lo,rm,u1,u,v1,v,un,vn,!ev,rfl,by rw[Ki.out],rfl,rfl,HNX,HBD2,hid (q1b uU.out), ?_, ?_⟩
    ·exact hid ((((((qfb.refl _ _).set _ _).set _ _).set _ _).set _ _).set _ _ |>.own HOR7.out (by have:=cO.out;omega))
    ·exact hid (((((nR.out.setCell (by have:=cO.out;show w.heap.size≤w2.heap.size;omega) _).setCell (by have:=cO.out;show w.heap.size≤w2.heap.size;omega) _).setCell (by have:=cO.out;show w.heap.size≤w2.heap.size;omega) _).setCell (by have:=cO.out;show w.heap.size≤w2.heap.size;omega) _).setCell (by have:=cO.out;show w.heap.size≤w2.heap.size;omega) _)
   case measure=>
    have h1:=gL.out;have h2:=Ki.out;simp only[intOf];omega
  ·have aX:Hid (u0<B64∧u1<B64∧v0<B64∧v1<B64∧Rec a b u0 u1 v0 v1 ev):=hid ⟨fB.out.2.2.1,fB.out.2.2.2.1,fB.out.2.2.2.2.1,fB.out.2.2.2.2.2.1,HI.out.rec'⟩
   obtain⟨r0,g0⟩:=sL.out.2 0 (by omega);obtain⟨r1,g1⟩:=sL.out.2 1 (by omega);obtain⟨r2,g2⟩:=sL.out.2 2 (by omega);obtain⟨r3,g3⟩:=sL.out.2 3 (by omega);obtain⟨r4,g4⟩:=sL.out.2 4 (by omega);simp only[qcm] at c0 c1 c2 c3 c4 r0 r1 r2 r3 r4;have pX:=HI.out.hl;have Di:=hid fB.out.1;have rU:Hid (v≤lo→v1+v<B64):=hid fun sE=>(qoc HI.out HHB.out HHL.out HH0.out sE).1
   have E1:IntKind.u64.wrap ((hi:Int)-(lo:Int))=((hi-lo:Nat):Int):=by
    rw[show(hi:Int)-(lo:Int)=((hi-lo:Nat):Int) from by omega];exact qbn _ (by have:=Di.out;omega)
   clear HI fB pX;rcases Nr with⟨bO,bJ⟩|hc
   ·have E2:IntKind.u64.wrap ((v1:Int)+(v:Int))=((v1+v:Nat):Int):=by rw[qww];exact qbn _ (rU.out bO)
    generalize hi-lo=dd at *;generalize v1+v=ss at *;go_wp2_with fail;refine bodyPost_ret (v := .agg #[.int .u64 u0,.int .u64 u1,.int .u64 v0,.int .u64 v1,.bool ev]) ?_ rfl ?_
    ·simp[results,Tryz.results146,go_sem,r0,r1,r2,r3,r4]
    ·exact⟨⟨u0,u1,v0,v1,ev,rfl,aX.out⟩,((((HB.out.setCell (qac _) _).setCell (qac _) _).setCell (qac _) _).setCell (qac _) _).setCell (qac _) _⟩
   ·clear E1
    go_wp2_with fail;refine bodyPost_ret (v := .agg #[.int .u64 u0,.int .u64 u1,.int .u64 v0,.int .u64 v1,.bool ev]) ?_ rfl ?_
    ·simp[results,Tryz.results146,go_sem,r0,r1,r2,r3,r4]
    ·exact⟨⟨u0,u1,v0,v1,ev,rfl,aX.out⟩,((((HB.out.setCell (qac _) _).setCell (qac _) _).setCell (qac _) _).setCell (qac _) _).setCell (qac _) _⟩
end Go.Proofs.YtmcfcpgglfimjaaGreatDoor
