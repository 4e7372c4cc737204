/- window and foresee: several steps of Euclid's division, out of the highest bits. -/
import Derived.Test.YtclimablgihlhaaGreatDoorMMine
import Derived.Test.YtclimablgihlhaaGreatDoorMMaths
set_option linter.all false
namespace Go.Proofs.YtclimablgihlhaaGreatDoor
open Go.RowKit
set_option maxRecDepth 100000
set_option maxHeartbeats 2000000
def top(l:List Nat)(k s:Nat):Nat:=l.getD (k+1) 0*2^s % B64+l.getD k 0/2^(64-s)
theorem q8u(l:List Nat)(k s:Nat)(hl:∀d ∈ l,d<B64)(hs:s<64):top l k s<B64:=by
 have h1:l.getD k 0/2^(64-s)<2^s:=by
  rw[Nat.div_lt_iff_lt_mul (Nat.two_pow_pos _),Nat.mul_comm,←qdc (by omega)];exact qan (by rw[qab];omega) hl k
 exact(qz4 (l.getD (k+1) 0) s _ hs h1).2
theorem qsi(l:List Nat)(k s:Nat)(hl:∀d ∈ l,d<B64)(hs:s<64)(aF:l.length≤k+2)(Cy:l.getD (k+1) 0*2^s<B64):
  ∃al,val B64 l=top l k s*(B64^k*2^(64-s))+al∧al<B64^k*2^(64-s):=by
 have h1:=qao B64 l k;have h2:=qao B64 l (k+1);rw[qa4 B64 l (k+1+1) aF,h1,Nat.pow_succ] at h2;have h3:=qmr B64 l k (by rw[qab];omega) hl;have h4:=Nat.div_add_mod (l.getD k 0) (2^(64-s));have h5:=Nat.mod_lt (l.getD k 0) (Nat.two_pow_pos (64-s));unfold top;rw[Nat.mod_eq_of_lt Cy,h2];generalize l.getD (k+1) 0=x at *;generalize l.getD k 0/2^(64-s)=q at *;generalize l.getD k 0 % 2^(64-s)=r at *;rw[←h4];refine⟨low B64 l k+B64^k*r, ?_, ?_⟩
 ·have hB:=qdc (s:=s) (by omega)
  have e1:B64^k*B64*x=x*2^s*(B64^k*2^(64-s)):=by
   conv=>lhs;rw[show B64^k*B64*x=B64^k*x*B64 from by grind,hB]
   grind
  rw[Nat.add_mul,e1,Nat.mul_add];have e2:B64^k*(2^(64-s)*q)=q*(B64^k*2^(64-s)):=by grind
  omega
 ·have:B64^k*(r+1)≤B64^k*2^(64-s):=Nat.mul_le_mul_left _ h5
  rw[Nat.mul_add] at this;omega
theorem qp5(v:Value)(l:List Nat)(k s:Nat)(w:World)(h:Wds w v l)(hs:s<64)(hk:k<4611686018427387904):
  Calls Tryz.prog 167 #[v,.int .i64 ((k:Int)+2),.int .i64 (s:Nat)] w fun e w'=>e = .returned (.int .u64 (top l k s:Nat))∧∃n,w'=w.drewN n:=by
 have hx:l.getD k 0/2^(64-s)<2^s:=by
  rw[Nat.div_lt_iff_lt_mul (Nat.two_pow_pos _),Nat.mul_comm,←qdc (by omega)];exact qan (by rw[qab];omega) h.1 k
 obtain⟨Ag,_⟩:=qz4 (l.getD (k+1) 0) s _ hs hx
 have uD:Hid (bits .or .u64 (IntKind.u64.wrap (((l.getD (k+1) 0:Nat):Int)*2^s)) (((l.getD k 0:Nat):Int)/2^(64-s))=((top l k s:Nat):Int)):=by
  refine hid ?_;rw[show((l.getD k 0:Nat):Int)/2^(64-s)=((l.getD k 0/2^(64-s):Nat):Int) from by simp];exact Ag
 have sF:Hid (∀q,Calls Tryz.prog 203 #[v,.int .i64 ((k:Int)+1)] (w.drewN q) fun e w'=>e = .returned (.int .u64 (l.getD (k+1) 0:Nat))∧w'=w.drewN q):=hid fun q=>by
  have:=qwe v l ((k:Int)+1) (w.drewN q) (h.later (below_drewN (zan _ _) q)) (by omega)
  rwa [show((k:Int)+1).toNat=k+1 from by omega] at this
 have zK:Hid (∀q,Calls Tryz.prog 203 #[v,.int .i64 (k:Int)] (w.drewN q) fun e w'=>e = .returned (.int .u64 (l.getD k 0:Nat))∧w'=w.drewN q):=hid fun q=>by
  have:=qwe v l (k:Int) (w.drewN q) (h.later (below_drewN (zan _ _) q)) (by omega)
  rwa [Int.toNat_natCast] at this
 clear Ag hx h;have e1:(k:Int)+2-1=(k:Int)+1:=by omega
 have e2:(k:Int)+2-2=(k:Int):=by omega
 generalize top l k s=t at *;generalize l.getD (k+1) 0=x at *;generalize l.getD k 0=y at *;go_enter Tryz.func167,Tryz.ntmps167;go_wp2_with fail
 go_quiet ((go_at_call 203;first|(with_reducible exact Calls.quiet_of_same (sF.out _))|(with_reducible exact Calls.quiet_of_same (zK.out _))))
 go_wp2_with fail;go_ret;exact⟨(qa0 uD.out:Ending.returned (.int .u64 _)=_),_,rfl⟩
def qcb(u0 u1 v0 v1:Nat)(e:Bool)(i:Nat):Value:=
 if i=0 then .int .u64 (u0:Nat) else if i=1 then .int .u64 (u1:Nat) else if i=2 then .int .u64 (v0:Nat) else if i=3 then .int .u64 (v1:Nat) else .bool e
theorem qz8{w:World}{g u0 u1 v0 v1 x0 x1 x2 x3:Nat}{e e':Bool}(h:Own w g 5 (qcb u0 u1 v0 v1 e)):
  Own (((((w.setCell ⟨g,0,none⟩ (.int .u64 (x0:Nat))).setCell ⟨g,1,none⟩ (.int .u64 (x1:Nat))).setCell ⟨g,2,none⟩ (.int .u64 (x2:Nat))).setCell ⟨g,3,none⟩ (.int .u64 (x3:Nat))).setCell ⟨g,4,none⟩ (.bool e')) g 5 (qcb x0 x1 x2 x3 e'):=by
 refine(((((h.set 0 (by omega) _).set 1 (by omega) _).set 2 (by omega) _).set 3 (by omega) _).set 4 (by omega) _).congr fun i hi => ?_
 match i,hi with
 | 0,_=>rfl
 | 1,_=>rfl
 | 2,_=>rfl
 | 3,_=>rfl
 | 4,_=>rfl
theorem qhs(va vb:Value)(a b:Nat)(w:World)(ha:qap w va a)(hb:qap w vb b)(iV:b≤a)(h2:2≤wl b)(hm:wl a≤Cap):
  Calls Tryz.prog 114 #[va,vb] w fun e w'=>(∃(u0 u1 v0 v1:Nat) (ev:Bool),e = .returned (.agg #[.int .u64 u0,.int .u64 u1,.int .u64 v0,.int .u64 v1,.bool ev])∧u0<B64∧u1<B64∧v0<B64∧v1<B64∧Rec a b u0 u1 v0 v1 ev)∧Below w.heap.size w w':=by
 obtain⟨l,pa,ca,rfl,lF,tV,dJ,Cz⟩:=qgb ha;obtain⟨r,pb,cb,rfl,jD,Cw,dG,zL⟩:=qgb hb;have aF:r.length≤l.length:=by rw[dJ,dG];exact qad qae iV
 rw[←dG] at h2;rw[←dJ] at hm;obtain⟨k,hk⟩:∃k,l.length=k+2:=⟨l.length-2,by omega⟩
 have sI:l.getD (k+1) 0≠0:=by
  rcases List.eq_nil_or_concat l with e|⟨z,x,e⟩
  ·rw[e] at hk;simp at hk
  ·rw[List.concat_eq_append] at e
   have hz:z.length=k+1:=by rw[e] at hk;simpa using hk
   rw[e,←hz];have:=qil qae (Cz.symm.trans e)
   simpa using this
 obtain⟨s,hs,rT,tU,Fz⟩:=qzz (l.getD (k+1) 0) (by omega) (qan (by rw[qab];omega) lF.1 _);obtain⟨al,gB,bT⟩:=qsi l k s lF.1 hs (by omega) rT
 have Gq:r.getD (k+1) 0≤l.getD (k+1) 0:=by
  have h1:=qao B64 l (k+1);have h3:=qao B64 r (k+1);rw[qa4 B64 l (k+1+1) (by omega),tV] at h1;rw[qa4 B64 r (k+1+1) (by omega),Cw] at h3;have h4:=qmr B64 l (k+1) (by rw[qab];omega) lF.1;rcases Nat.lt_or_ge (l.getD (k+1) 0) (r.getD (k+1) 0) with h|h
  ·have:B64^(k+1)*(l.getD (k+1) 0+1)≤B64^(k+1)*r.getD (k+1) 0:=Nat.mul_le_mul_left _ h
   rw[Nat.mul_add] at this;omega
  ·exact h
 have hry:r.getD (k+1) 0*2^s<B64:=Nat.lt_of_le_of_lt (Nat.mul_le_mul_right _ Gq) rT;obtain⟨bl,Jr,Qm⟩:=qsi r k s jD.1 hs (by omega) hry;rw[tV] at gB;rw[Cw] at Jr
 have hh0:0<top l k s:=by
  unfold top;rw[Nat.mod_eq_of_lt rT];exact Nat.lt_of_lt_of_le (Nat.mul_pos (Nat.pos_of_ne_zero sI) (Nat.two_pow_pos s)) (Nat.le_add_right _ _)
 have rG:top r k s≤top l k s:=by
  rcases Nat.lt_or_ge (top l k s) (top r k s) with h|h
  ·have:(top l k s+1)*(B64^k*2^(64-s))≤top r k s*(B64^k*2^(64-s)):=Nat.mul_le_mul_right _ h
   rw[Nat.add_mul] at this;omega
  ·exact h
 have HHB:=hid (q8u l k s lF.1 hs);have HA:=hid gB;have HB':=hid Jr;have eI:=hid bT;have dV:=hid Qm;have HH0:=hid hh0;have HHL:=hid rG;have Qn:l.getD (k+1) 0<B64:=qan (by rw[qab];omega) lF.1 _;have HWA:=hid lF;have Ao:=hid jD;have tX:=hid Fz;have Qo:k<4611686018427387904:=by unfold Cap at hm;omega
 have Ax:Hid (∀w',Below w.heap.size w w'→Calls Tryz.prog 167 #[.slice pa l.length ca,.int .i64 ((k:Int)+2),.int .i64 (s:Nat)] w' fun e w''=>e = .returned (.int .u64 (top l k s:Nat))∧∃n,w''=w'.drewN n):=hid fun w' hb'=>qp5 _ l k s w' (HWA.out.later hb') hs Qo;have Gr:Hid (∀w',Below w.heap.size w w'→Calls Tryz.prog 167 #[.slice pb r.length cb,.int .i64 ((k:Int)+2),.int .i64 (s:Nat)] w' fun e w''=>e = .returned (.int .u64 (top r k s:Nat))∧∃n,w''=w'.drewN n):=hid fun w' hb'=>qp5 _ r k s w' (Ao.out.later hb') hs Qo;obtain⟨_,p',c',he,kW,fP,aA⟩:=lF;cases he
 rcases aA with h0|⟨ba,oa,rfl,aB⟩
 ·omega
 have aC:=aB (k+1) (by omega);unfold wd at aC
 have aV:Hid (∀w',Below w.heap.size w w'→w'.cell? ⟨ba,oa+(k+1),none⟩=some (.int .u64 (l.getD (k+1) 0:Nat))):=hid fun w' hb'=>by
  rw[hb'.cell (p:=⟨ba,oa+(k+1),none⟩) (zaq w _ aC)];exact aC
 rw[hk] at Ax;rw[hk];generalize l.getD (k+1) 0=y at *;generalize top l k s=h at *;generalize top r k s=Np at *;clear hk sI hs rT tU Fz gB bT Jr Qm Gq hry hh0 rG Qn jD aF h2 hm tV Cw dJ dG Cz zL ha hb iV aC aB kW fP;generalize r.length=rl at *;go_enter Tryz.func114,Tryz.ntmps114;have hcw:∀o,(w.alloc o).cell? ⟨ba,oa+(k+1),none⟩=some (.int .u64 y):=fun o=>aV.out _ (zam _ _);go_wp2_with fail;refine(tX.out _).mono ?_;rintro e w' ⟨rfl,hw'⟩;rw[hw'];clear hw';go_wp2_with fail
 have Gl:Hid (Own (w.alloc (.cells #[.int .u64 0,.int .u64 0,.int .u64 0,.int .u64 0,.bool false] 167)) w.heap.size 5 (qcb 0 0 0 0 false)):=by
  refine hid ⟨by rw[zao];omega,fun i hi => ?_⟩;rw[World.cell?_alloc_at _ _ _ _ rfl,World.frozen?_alloc_at _ _ _ _ rfl]
  match i,hi with
  | 0,_=>exact⟨rfl,rfl⟩
  | 1,_=>exact⟨rfl,rfl⟩
  | 2,_=>exact⟨rfl,rfl⟩
  | 3,_=>exact⟨rfl,rfl⟩
  | 4,_=>exact⟨rfl,rfl⟩
 have bQ:Hid (Below w.heap.size w (w.alloc (.cells #[.int .u64 0,.int .u64 0,.int .u64 0,.int .u64 0,.bool false] 167))):=hid (zam _ _);have oU:Hid ((w.alloc (.cells #[.int .u64 0,.int .u64 0,.int .u64 0,.int .u64 0,.bool false] 167)).heap.size=w.heap.size+1):=hid (zao _ _);generalize w.alloc (.cells #[.int .u64 0,.int .u64 0,.int .u64 0,.int .u64 0,.bool false] 167)=w0 at *;clear hcw;refine(Ax.out _ bQ.out).mono ?_;rintro e w1 ⟨rfl,n1,dI⟩;have aQ:Hid (Below w.heap.size w w1):=hid (by rw[dI];exact below_drewN bQ.out n1);have jS:Hid (Own w1 w.heap.size 5 (qcb 0 0 0 0 false)):=hid (by rw[dI];exact Gl.out.drewN n1);have eH:Hid (w1.heap.size=w.heap.size+1):=hid (by rw[dI];exact oU.out);clear dI Gl bQ oU;go_wp2_with fail;refine(Gr.out _ aQ.out).mono ?_;rintro e w2 ⟨rfl,n2,mI⟩;have aR:Hid (Below w.heap.size w w2):=hid (by rw[mI];exact below_drewN aQ.out n2);have kQ:Hid (Own w2 w.heap.size 5 (qcb 0 0 0 0 false)):=hid (by rw[mI];exact jS.out.drewN n2);have dE:Hid (w2.heap.size=w.heap.size+1):=hid (by rw[mI];exact eH.out);clear mI jS aQ eH Ax Gr tX aV;go_wp2_with fail
 have Qp:Hid (Own (w2.alloc (.cells #[.int .u64 0,.int .u64 1,.int .u64 0,.int .u64 0,.bool false] 167)) w2.heap.size 5 (qcb 0 1 0 0 false)):=by
  refine hid ⟨by rw[zao];omega,fun i hi => ?_⟩;rw[World.cell?_alloc_at _ _ _ _ rfl,World.frozen?_alloc_at _ _ _ _ rfl]
  match i,hi with
  | 0,_=>exact⟨rfl,rfl⟩
  | 1,_=>exact⟨rfl,rfl⟩
  | 2,_=>exact⟨rfl,rfl⟩
  | 3,_=>exact⟨rfl,rfl⟩
  | 4,_=>exact⟨rfl,rfl⟩
 have kJ:Below w2.heap.size w2 (w2.alloc (.cells #[.int .u64 0,.int .u64 1,.int .u64 0,.int .u64 0,.bool false] 167)):=zam _ _;have mJ:Hid (Own (w2.alloc (.cells #[.int .u64 0,.int .u64 1,.int .u64 0,.int .u64 0,.bool false] 167)) w.heap.size 5 (qcb 0 0 0 0 false)):=hid (kQ.out.later (kJ.mono (by have:=dE.out;omega)));have bY:Hid (Below w.heap.size w (w2.alloc (.cells #[.int .u64 0,.int .u64 1,.int .u64 0,.int .u64 0,.bool false] 167))):=hid (aR.out.trans (kJ.mono (by have:=dE.out;omega)));clear kJ kQ aR;generalize w2.alloc (.cells #[.int .u64 0,.int .u64 1,.int .u64 0,.int .u64 0,.bool false] 167)=w3 at *;have Cx:Hid (q8n a b h Np h Np 0 1 0 0 0 1 false):=hid (qxg a b h Np HHL.out);have jE:Hid (Np<B64):=hid (Nat.lt_of_le_of_lt HHL.out HHB.out);have HZ:Hid (0<B64∧1<B64):=hid (by rw[qab];omega)
 go_loopw [6,7,9,10] (fun sh sl su sv wr=>∃(hi lo u0 u1 v0 v1 u v:Nat) (ev:Bool),sh = .int .u64 hi∧sl = .int .u64 lo∧su = .int .u64 u∧sv = .int .u64 v∧Hid (q8n a b h Np hi lo u0 u1 v0 v1 u v ev)∧Hid (hi<B64∧lo<B64∧u0<B64∧u1<B64∧v0<B64∧v1<B64∧u<B64∧v<B64)∧Hid (Own wr w2.heap.size 5 (qcb u0 u1 v0 v1 ev))∧Hid (Own wr w.heap.size 5 (qcb 0 0 0 0 false))∧Hid (Below w.heap.size w wr)) (fun _ sl _ _ _=>(intOf sl).toNat)
 case atStart=>exact⟨h,Np,0,1,0,0,0,1,false,rfl,rfl,rfl,rfl,Cx,hid ⟨HHB.out,jE.out,HZ.out.1,HZ.out.2,HZ.out.1,HZ.out.1,HZ.out.1,HZ.out.2⟩,Qp,mJ,bY⟩
 case round=>
  obtain⟨hi,lo,u0,u1,v0,v1,u,v,ev,rfl,rfl,rfl,rfl,HI,eE,oP,uD,HB⟩:=hrel;clear Cx Qp mJ bY;have c0:=(oP.out.2 0 (by omega)).1;have c1:=(oP.out.2 1 (by omega)).1;have c2:=(oP.out.2 2 (by omega)).1;have c3:=(oP.out.2 3 (by omega)).1;have c4:=(oP.out.2 4 (by omega)).1;have Qq:(v≤lo∧v1+v≤hi-lo)∨(v≤lo∧¬v1+v≤hi-lo)∨¬v≤lo:=by omega
  rcases Qq with⟨bP,bK⟩|Qt
  ·obtain⟨bs1,bs2,bs3,bs4,bs5⟩:=qn3 HI.out HHB.out HHL.out HH0.out bP
   have Gs:=qzo HI.out HA.out HB'.out eI.out dV.out bP bK;have Qu:=HI.out.v1';have hlopos:0<(lo:Int):=by omega
   have rG:=HI.out.hl;have Qv:=eE.out.1
   have E1:IntKind.u64.wrap ((hi:Int)-(lo:Int))=((hi-lo:Nat):Int):=by
    rw[show(hi:Int)-(lo:Int)=((hi-lo:Nat):Int) from by omega];exact qa9 _ (by omega)
   have E2:IntKind.u64.wrap ((v1:Int)+(v:Int))=((v1+v:Nat):Int):=by rw[qwd];exact qa9 _ bs1
   have E3:IntKind.u64.wrap ((hi:Int)/(lo:Int))=((hi/lo:Nat):Int):=by
    rw[←Int.natCast_ediv];exact qa9 _ (Nat.lt_of_le_of_lt (Nat.div_le_self _ _) Qv)
   have E4:(hi:Int) % (lo:Int)=((hi % lo:Nat):Int):=by rw[Int.natCast_emod]
   have E5:IntKind.u64.wrap (((hi/lo:Nat):Int)*(u:Int))=((hi/lo*u:Nat):Int):=by rw[q59];exact qa9 _ bs4
   have E6:IntKind.u64.wrap ((u1:Int)+((hi/lo*u:Nat):Int))=((u1+hi/lo*u:Nat):Int):=by rw[qwd];exact qa9 _ bs2
   have E7:IntKind.u64.wrap (((hi/lo:Nat):Int)*(v:Int))=((hi/lo*v:Nat):Int):=by rw[q59];exact qa9 _ bs5
   have E8:IntKind.u64.wrap ((v1:Int)+((hi/lo*v:Nat):Int))=((v1+hi/lo*v:Nat):Int):=by rw[qwd];exact qa9 _ bs3
   have Nq:=hid E4;clear E4;have iE:Hid (hi % lo<lo):=hid (Nat.mod_lt _ (by omega));have Js:=hid Gs;have HBD2:Hid (lo<B64∧hi % lo<B64∧u1<B64∧u<B64∧v1<B64∧v<B64∧u1+hi/lo*u<B64∧v1+hi/lo*v<B64):=hid ⟨eE.out.2.1,Nat.lt_trans iE.out eE.out.2.1,eE.out.2.2.2.1,eE.out.2.2.2.2.2.2.1,eE.out.2.2.2.2.2.1,eE.out.2.2.2.2.2.2.2,bs2,bs3⟩;clear bs1 bs2 bs3 bs4 bs5 Gs Qu rG Qv HI eE;generalize u1+hi/lo*u=un at *;generalize v1+hi/lo*v=vn at *;generalize hi/lo*u=qu at *;generalize hi/lo*v=qv at *;generalize hi/lo=q at *;generalize hi % lo=rm at *;generalize hi-lo=dd at *;generalize v1+v=ss at *;simp only[qcb] at c0 c1 c2 c3 c4;go_wp2_with fail
   go_quiet (fail)
   have yJ:Hid (Own (wr.drewN nq) w2.heap.size 5 (qcb u0 u1 v0 v1 ev)):=hid (oP.out.drewN nq);have HOR7:Hid (Own (wr.drewN nq) w.heap.size 5 (qcb 0 0 0 0 false)):=hid (uD.out.drewN nq);have kX:Hid (Below w.heap.size w (wr.drewN nq)):=hid (below_drewN HB.out nq);clear oP uD HB c0 c1 c2 c3 c4;generalize wr.drewN nq=w7 at *;obtain⟨c0,f0⟩:=yJ.out.2 0 (by omega);obtain⟨c1,f1⟩:=yJ.out.2 1 (by omega);obtain⟨c2,f2⟩:=yJ.out.2 2 (by omega);obtain⟨c3,f3⟩:=yJ.out.2 3 (by omega);obtain⟨c4,f4⟩:=yJ.out.2 4 (by omega);simp only[qcb] at c0 c1 c2 c3 c4;go_wp2_with fail;go_roundw
   case rel=>
    refine⟨lo,rm,u1,u,v1,v,un,vn,!ev,rfl,by rw[Nq.out],rfl,rfl,Js,HBD2,hid (qz8 yJ.out), ?_, ?_⟩
    ·exact hid ((((((qe6.refl _ _).set _ _).set _ _).set _ _).set _ _).set _ _ |>.own HOR7.out (by have:=dE.out;omega))
    ·exact hid (((((kX.out.setCell (by have:=dE.out;show w.heap.size≤w2.heap.size;omega) _).setCell (by have:=dE.out;show w.heap.size≤w2.heap.size;omega) _).setCell (by have:=dE.out;show w.heap.size≤w2.heap.size;omega) _).setCell (by have:=dE.out;show w.heap.size≤w2.heap.size;omega) _).setCell (by have:=dE.out;show w.heap.size≤w2.heap.size;omega) _)
   case measure=>
    have h1:=iE.out;have h2:=Nq.out;simp only[intOf];omega
  ·have aS:Hid (u0<B64∧u1<B64∧v0<B64∧v1<B64∧Rec a b u0 u1 v0 v1 ev):=hid ⟨eE.out.2.2.1,eE.out.2.2.2.1,eE.out.2.2.2.2.1,eE.out.2.2.2.2.2.1,HI.out.rec'⟩
   obtain⟨r0,g0⟩:=uD.out.2 0 (by omega);obtain⟨r1,g1⟩:=uD.out.2 1 (by omega);obtain⟨r2,g2⟩:=uD.out.2 2 (by omega);obtain⟨r3,g3⟩:=uD.out.2 3 (by omega);obtain⟨r4,g4⟩:=uD.out.2 4 (by omega);simp only[qcb] at c0 c1 c2 c3 c4 r0 r1 r2 r3 r4;have rG:=HI.out.hl;have Ga:=hid eE.out.1;have tL:Hid (v≤lo→v1+v<B64):=hid fun tV=>(qn3 HI.out HHB.out HHL.out HH0.out tV).1
   have E1:IntKind.u64.wrap ((hi:Int)-(lo:Int))=((hi-lo:Nat):Int):=by
    rw[show(hi:Int)-(lo:Int)=((hi-lo:Nat):Int) from by omega];exact qa9 _ (by have:=Ga.out;omega)
   clear HI eE rG;rcases Qt with⟨bP,bK⟩|hc
   ·have E2:IntKind.u64.wrap ((v1:Int)+(v:Int))=((v1+v:Nat):Int):=by rw[qwd];exact qa9 _ (tL.out bP)
    generalize hi-lo=dd at *;generalize v1+v=ss at *;go_wp2_with fail;refine bodyPost_ret (v := .agg #[.int .u64 u0,.int .u64 u1,.int .u64 v0,.int .u64 v1,.bool ev]) ?_ rfl ?_
    ·simp[results,Tryz.results114,go_sem,r0,r1,r2,r3,r4]
    ·exact⟨⟨u0,u1,v0,v1,ev,rfl,aS.out⟩,((((HB.out.setCell (zap _) _).setCell (zap _) _).setCell (zap _) _).setCell (zap _) _).setCell (zap _) _⟩
   ·clear E1
    go_wp2_with fail;refine bodyPost_ret (v := .agg #[.int .u64 u0,.int .u64 u1,.int .u64 v0,.int .u64 v1,.bool ev]) ?_ rfl ?_
    ·simp[results,Tryz.results114,go_sem,r0,r1,r2,r3,r4]
    ·exact⟨⟨u0,u1,v0,v1,ev,rfl,aS.out⟩,((((HB.out.setCell (zap _) _).setCell (zap _) _).setCell (zap _) _).setCell (zap _) _).setCell (zap _) _⟩
end Go.Proofs.YtclimablgihlhaaGreatDoor
