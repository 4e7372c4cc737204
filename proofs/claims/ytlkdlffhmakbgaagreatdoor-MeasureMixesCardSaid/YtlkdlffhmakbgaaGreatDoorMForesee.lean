/- window and foresee: several steps of Euclid's division, out of the highest bits. -/
import Derived.Test.YtlkdlffhmakbgaaGreatDoorMMine
import Derived.Test.YtlkdlffhmakbgaaGreatDoorMMaths
set_option linter.all false
namespace Go.Proofs.YtlkdlffhmakbgaaGreatDoor
open Go.RowKit
set_option maxRecDepth 100000
set_option maxHeartbeats 2000000
def top(l:List Nat)(k s:Nat):Nat:=l.getD (k+1) 0*2^s % B64+l.getD k 0/2^(64-s)
theorem q9c(l:List Nat)(k s:Nat)(hl:∀d ∈ l,d<B64)(hs:s<64):top l k s<B64:=by
 have h1:l.getD k 0/2^(64-s)<2^s:=by
  rw[Nat.div_lt_iff_lt_mul (Nat.two_pow_pos _),Nat.mul_comm,←qdn (by omega)];exact qaz (by rw[qai];omega) hl k
 exact(q0x (l.getD (k+1) 0) s _ hs h1).2
theorem qsy(l:List Nat)(k s:Nat)(hl:∀d ∈ l,d<B64)(hs:s<64)(aE:l.length≤k+2)(Cr:l.getD (k+1) 0*2^s<B64):
  ∃al,val B64 l=top l k s*(B64^k*2^(64-s))+al∧al<B64^k*2^(64-s):=by
 have h1:=qa0 B64 l k;have h2:=qa0 B64 l (k+1);rw[qbi B64 l (k+1+1) aE,h1,Nat.pow_succ] at h2;have h3:=qm6 B64 l k (by rw[qai];omega) hl;have h4:=Nat.div_add_mod (l.getD k 0) (2^(64-s));have h5:=Nat.mod_lt (l.getD k 0) (Nat.two_pow_pos (64-s));unfold top;rw[Nat.mod_eq_of_lt Cr,h2];generalize l.getD (k+1) 0=x at *;generalize l.getD k 0/2^(64-s)=q at *;generalize l.getD k 0 % 2^(64-s)=r at *;rw[←h4];refine⟨low B64 l k+B64^k*r, ?_, ?_⟩
 ·have hB:=qdn (s:=s) (by omega)
  have e1:B64^k*B64*x=x*2^s*(B64^k*2^(64-s)):=by
   conv=>lhs;rw[show B64^k*B64*x=B64^k*x*B64 from by grind,hB]
   grind
  rw[Nat.add_mul,e1,Nat.mul_add];have e2:B64^k*(2^(64-s)*q)=q*(B64^k*2^(64-s)):=by grind
  omega
 ·have:B64^k*(r+1)≤B64^k*2^(64-s):=Nat.mul_le_mul_left _ h5
  rw[Nat.mul_add] at this;omega
theorem qqi(v:Value)(l:List Nat)(k s:Nat)(w:World)(h:Wds w v l)(hs:s<64)(hk:k<4611686018427387904):
  Calls Tryz.prog 189 #[v,.int .i64 ((k:Int)+2),.int .i64 (s:Nat)] w fun e w'=>e = .returned (.int .u64 (top l k s:Nat))∧∃n,w'=w.drewN n:=by
 have hx:l.getD k 0/2^(64-s)<2^s:=by
  rw[Nat.div_lt_iff_lt_mul (Nat.two_pow_pos _),Nat.mul_comm,←qdn (by omega)];exact qaz (by rw[qai];omega) h.1 k
 obtain⟨yS,_⟩:=q0x (l.getD (k+1) 0) s _ hs hx
 have sZ:Hid (bits .or .u64 (IntKind.u64.wrap (((l.getD (k+1) 0:Nat):Int)*2^s)) (((l.getD k 0:Nat):Int)/2^(64-s))=((top l k s:Nat):Int)):=by
  refine hid ?_;rw[show((l.getD k 0:Nat):Int)/2^(64-s)=((l.getD k 0/2^(64-s):Nat):Int) from by simp];exact yS
 have Cp:Hid (∀q,Calls Tryz.prog 219 #[v,.int .i64 ((k:Int)+1)] (w.drewN q) fun e w'=>e = .returned (.int .u64 (l.getD (k+1) 0:Nat))∧w'=w.drewN q):=hid fun q=>by
  have:=qwx v l ((k:Int)+1) (w.drewN q) (h.later (below_drewN (qaa _ _) q)) (by omega)
  rwa [show((k:Int)+1).toNat=k+1 from by omega] at this
 have HW2:Hid (∀q,Calls Tryz.prog 219 #[v,.int .i64 (k:Int)] (w.drewN q) fun e w'=>e = .returned (.int .u64 (l.getD k 0:Nat))∧w'=w.drewN q):=hid fun q=>by
  have:=qwx v l (k:Int) (w.drewN q) (h.later (below_drewN (qaa _ _) q)) (by omega)
  rwa [Int.toNat_natCast] at this
 clear yS hx h;have e1:(k:Int)+2-1=(k:Int)+1:=by omega
 have e2:(k:Int)+2-2=(k:Int):=by omega
 generalize top l k s=t at *;generalize l.getD (k+1) 0=x at *;generalize l.getD k 0=y at *;go_enter Tryz.func189,Tryz.ntmps189;go_wp2_with fail
 go_quiet ((go_at_call 219;first|(with_reducible exact Calls.quiet_of_same (Cp.out _))|(with_reducible exact Calls.quiet_of_same (HW2.out _))))
 go_wp2_with fail;go_ret;exact⟨(qa1 sZ.out:Ending.returned (.int .u64 _)=_),_,rfl⟩
def qcn(u0 u1 v0 v1:Nat)(e:Bool)(i:Nat):Value:=
 if i=0 then .int .u64 (u0:Nat) else if i=1 then .int .u64 (u1:Nat) else if i=2 then .int .u64 (v0:Nat) else if i=3 then .int .u64 (v1:Nat) else .bool e
theorem q01{w:World}{g u0 u1 v0 v1 x0 x1 x2 x3:Nat}{e e':Bool}(h:Own w g 5 (qcn u0 u1 v0 v1 e)):
  Own (((((w.setCell ⟨g,0,none⟩ (.int .u64 (x0:Nat))).setCell ⟨g,1,none⟩ (.int .u64 (x1:Nat))).setCell ⟨g,2,none⟩ (.int .u64 (x2:Nat))).setCell ⟨g,3,none⟩ (.int .u64 (x3:Nat))).setCell ⟨g,4,none⟩ (.bool e')) g 5 (qcn x0 x1 x2 x3 e'):=by
 refine(((((h.set 0 (by omega) _).set 1 (by omega) _).set 2 (by omega) _).set 3 (by omega) _).set 4 (by omega) _).congr fun i hi => ?_
 match i,hi with
 | 0,_=>rfl
 | 1,_=>rfl
 | 2,_=>rfl
 | 3,_=>rfl
 | 4,_=>rfl
theorem qhv(va vb:Value)(a b:Nat)(w:World)(ha:qa5 w va a)(hb:qa5 w vb b)(oJ:b≤a)(h2:2≤wl b)(hm:wl a≤Cap):
  Calls Tryz.prog 154 #[va,vb] w fun e w'=>(∃(u0 u1 v0 v1:Nat) (ev:Bool),e = .returned (.agg #[.int .u64 u0,.int .u64 u1,.int .u64 v0,.int .u64 v1,.bool ev])∧u0<B64∧u1<B64∧v0<B64∧v1<B64∧Rec a b u0 u1 v0 v1 ev)∧Below w.heap.size w w':=by
 obtain⟨l,pa,ca,rfl,kZ,sU,dF,Bk⟩:=qgb ha;obtain⟨r,pb,cb,rfl,iK,Bi,cS,yA⟩:=qgb hb;have aE:r.length≤l.length:=by rw[dF,cS];exact qak qal oJ
 rw[←cS] at h2;rw[←dF] at hm;obtain⟨k,hk⟩:∃k,l.length=k+2:=⟨l.length-2,by omega⟩
 have rP:l.getD (k+1) 0≠0:=by
  rcases List.eq_nil_or_concat l with e|⟨z,x,e⟩
  ·rw[e] at hk;simp at hk
  ·rw[List.concat_eq_append] at e
   have hz:z.length=k+1:=by rw[e] at hk;simpa using hk
   rw[e,←hz];have:=qiw qal (Bk.symm.trans e)
   simpa using this
 obtain⟨s,hs,uY,yN,Hb⟩:=q0s (l.getD (k+1) 0) (by omega) (qaz (by rw[qai];omega) kZ.1 _);obtain⟨al,oK,bP⟩:=qsy l k s kZ.1 hs (by omega) uY
 have Fe:r.getD (k+1) 0≤l.getD (k+1) 0:=by
  have h1:=qa0 B64 l (k+1);have h3:=qa0 B64 r (k+1);rw[qbi B64 l (k+1+1) (by omega),sU] at h1;rw[qbi B64 r (k+1+1) (by omega),Bi] at h3;have h4:=qm6 B64 l (k+1) (by rw[qai];omega) kZ.1;rcases Nat.lt_or_ge (l.getD (k+1) 0) (r.getD (k+1) 0) with h|h
  ·have:B64^(k+1)*(l.getD (k+1) 0+1)≤B64^(k+1)*r.getD (k+1) 0:=Nat.mul_le_mul_left _ h
   rw[Nat.mul_add] at this;omega
  ·exact h
 have hry:r.getD (k+1) 0*2^s<B64:=Nat.lt_of_le_of_lt (Nat.mul_le_mul_right _ Fe) uY;obtain⟨bl,Hv,Of⟩:=qsy r k s iK.1 hs (by omega) hry;rw[sU] at oK;rw[Bi] at Hv
 have hh0:0<top l k s:=by
  unfold top;rw[Nat.mod_eq_of_lt uY];exact Nat.lt_of_lt_of_le (Nat.mul_pos (Nat.pos_of_ne_zero rP) (Nat.two_pow_pos s)) (Nat.le_add_right _ _)
 have qS:top r k s≤top l k s:=by
  rcases Nat.lt_or_ge (top l k s) (top r k s) with h|h
  ·have:(top l k s+1)*(B64^k*2^(64-s))≤top r k s*(B64^k*2^(64-s)):=Nat.mul_le_mul_right _ h
   rw[Nat.add_mul] at this;omega
  ·exact h
 have HHB:=hid (q9c l k s kZ.1 hs);have HA:=hid oK;have HB':=hid Hv;have cX:=hid bP;have eG:=hid Of;have HH0:=hid hh0;have HHL:=hid qS;have Og:l.getD (k+1) 0<B64:=qaz (by rw[qai];omega) kZ.1 _;have HWA:=hid kZ;have zC:=hid iK;have sG:=hid Hb;have Oh:k<4611686018427387904:=by unfold Cap at hm;omega
 have zM:Hid (∀w',Below w.heap.size w w'→Calls Tryz.prog 189 #[.slice pa l.length ca,.int .i64 ((k:Int)+2),.int .i64 (s:Nat)] w' fun e w''=>e = .returned (.int .u64 (top l k s:Nat))∧∃n,w''=w'.drewN n):=hid fun w' hb'=>qqi _ l k s w' (HWA.out.later hb') hs Oh;have Ff:Hid (∀w',Below w.heap.size w w'→Calls Tryz.prog 189 #[.slice pb r.length cb,.int .i64 ((k:Int)+2),.int .i64 (s:Nat)] w' fun e w''=>e = .returned (.int .u64 (top r k s:Nat))∧∃n,w''=w'.drewN n):=hid fun w' hb'=>qqi _ r k s w' (zC.out.later hb') hs Oh;obtain⟨_,p',c',he,kB,fI,aA⟩:=kZ;cases he
 rcases aA with h0|⟨ba,oa,rfl,aB⟩
 ·omega
 have aC:=aB (k+1) (by omega);unfold wd at aC
 have bA:Hid (∀w',Below w.heap.size w w'→w'.cell? ⟨ba,oa+(k+1),none⟩=some (.int .u64 (l.getD (k+1) 0:Nat))):=hid fun w' hb'=>by
  rw[hb'.cell (p:=⟨ba,oa+(k+1),none⟩) (qae w _ aC)];exact aC
 rw[hk] at zM;rw[hk];generalize l.getD (k+1) 0=y at *;generalize top l k s=h at *;generalize top r k s=Lf at *;clear hk rP hs uY yN Hb oK bP Hv Of Fe hry hh0 qS Og iK aE h2 hm sU Bi dF cS Bk yA ha hb oJ aC aB kB fI;generalize r.length=rl at *;go_enter Tryz.func154,Tryz.ntmps154;have hcw:∀o,(w.alloc o).cell? ⟨ba,oa+(k+1),none⟩=some (.int .u64 y):=fun o=>bA.out _ (qad _ _);go_wp2_with fail;refine(sG.out _).mono ?_;rintro e w' ⟨rfl,hw'⟩;rw[hw'];clear hw';go_wp2_with fail
 have Fa:Hid (Own (w.alloc (.cells #[.int .u64 0,.int .u64 0,.int .u64 0,.int .u64 0,.bool false] 203)) w.heap.size 5 (qcn 0 0 0 0 false)):=by
  refine hid ⟨by rw[qab];omega,fun i hi => ?_⟩;rw[World.cell?_alloc_at _ _ _ _ rfl,World.frozen?_alloc_at _ _ _ _ rfl]
  match i,hi with
  | 0,_=>exact⟨rfl,rfl⟩
  | 1,_=>exact⟨rfl,rfl⟩
  | 2,_=>exact⟨rfl,rfl⟩
  | 3,_=>exact⟨rfl,rfl⟩
  | 4,_=>exact⟨rfl,rfl⟩
 have dI:Hid (Below w.heap.size w (w.alloc (.cells #[.int .u64 0,.int .u64 0,.int .u64 0,.int .u64 0,.bool false] 203))):=hid (qad _ _);have oL:Hid ((w.alloc (.cells #[.int .u64 0,.int .u64 0,.int .u64 0,.int .u64 0,.bool false] 203)).heap.size=w.heap.size+1):=hid (qab _ _);generalize w.alloc (.cells #[.int .u64 0,.int .u64 0,.int .u64 0,.int .u64 0,.bool false] 203)=w0 at *;clear hcw;refine(zM.out _ dI.out).mono ?_;rintro e w1 ⟨rfl,n1,cY⟩;have aP:Hid (Below w.heap.size w w1):=hid (by rw[cY];exact below_drewN dI.out n1);have fB:Hid (Own w1 w.heap.size 5 (qcn 0 0 0 0 false)):=hid (by rw[cY];exact Fa.out.drewN n1);have dN:Hid (w1.heap.size=w.heap.size+1):=hid (by rw[cY];exact oL.out);clear cY Fa dI oL;go_wp2_with fail;refine(Ff.out _ aP.out).mono ?_;rintro e w2 ⟨rfl,n2,mD⟩;have aK:Hid (Below w.heap.size w w2):=hid (by rw[mD];exact below_drewN aP.out n2);have iL:Hid (Own w2 w.heap.size 5 (qcn 0 0 0 0 false)):=hid (by rw[mD];exact fB.out.drewN n2);have cL:Hid (w2.heap.size=w.heap.size+1):=hid (by rw[mD];exact dN.out);clear mD fB aP dN zM Ff sG bA;go_wp2_with fail
 have Oi:Hid (Own (w2.alloc (.cells #[.int .u64 0,.int .u64 1,.int .u64 0,.int .u64 0,.bool false] 203)) w2.heap.size 5 (qcn 0 1 0 0 false)):=by
  refine hid ⟨by rw[qab];omega,fun i hi => ?_⟩;rw[World.cell?_alloc_at _ _ _ _ rfl,World.frozen?_alloc_at _ _ _ _ rfl]
  match i,hi with
  | 0,_=>exact⟨rfl,rfl⟩
  | 1,_=>exact⟨rfl,rfl⟩
  | 2,_=>exact⟨rfl,rfl⟩
  | 3,_=>exact⟨rfl,rfl⟩
  | 4,_=>exact⟨rfl,rfl⟩
 have kM:Below w2.heap.size w2 (w2.alloc (.cells #[.int .u64 0,.int .u64 1,.int .u64 0,.int .u64 0,.bool false] 203)):=qad _ _;have lD:Hid (Own (w2.alloc (.cells #[.int .u64 0,.int .u64 1,.int .u64 0,.int .u64 0,.bool false] 203)) w.heap.size 5 (qcn 0 0 0 0 false)):=hid (iL.out.later (kM.mono (by have:=cL.out;omega)));have bR:Hid (Below w.heap.size w (w2.alloc (.cells #[.int .u64 0,.int .u64 1,.int .u64 0,.int .u64 0,.bool false] 203))):=hid (aK.out.trans (kM.mono (by have:=cL.out;omega)));clear kM iL aK;generalize w2.alloc (.cells #[.int .u64 0,.int .u64 1,.int .u64 0,.int .u64 0,.bool false] 203)=w3 at *;have vW:Hid (q85 a b h Lf h Lf 0 1 0 0 0 1 false):=hid (qyb a b h Lf HHL.out);have jE:Hid (Lf<B64):=hid (Nat.lt_of_le_of_lt HHL.out HHB.out);have HZ:Hid (0<B64∧1<B64):=hid (by rw[qai];omega)
 go_loopw [6,7,9,10] (fun sh sl su sv wr=>∃(hi lo u0 u1 v0 v1 u v:Nat) (ev:Bool),sh = .int .u64 hi∧sl = .int .u64 lo∧su = .int .u64 u∧sv = .int .u64 v∧Hid (q85 a b h Lf hi lo u0 u1 v0 v1 u v ev)∧Hid (hi<B64∧lo<B64∧u0<B64∧u1<B64∧v0<B64∧v1<B64∧u<B64∧v<B64)∧Hid (Own wr w2.heap.size 5 (qcn u0 u1 v0 v1 ev))∧Hid (Own wr w.heap.size 5 (qcn 0 0 0 0 false))∧Hid (Below w.heap.size w wr)) (fun _ sl _ _ _=>(intOf sl).toNat)
 case atStart=>exact⟨h,Lf,0,1,0,0,0,1,false,rfl,rfl,rfl,rfl,vW,hid ⟨HHB.out,jE.out,HZ.out.1,HZ.out.2,HZ.out.1,HZ.out.1,HZ.out.1,HZ.out.2⟩,Oi,lD,bR⟩
 case round=>
  obtain⟨hi,lo,u0,u1,v0,v1,u,v,ev,rfl,rfl,rfl,rfl,HI,eO,oB,sZ,HB⟩:=hrel;clear vW Oi lD bR;have c0:=(oB.out.2 0 (by omega)).1;have c1:=(oB.out.2 1 (by omega)).1;have c2:=(oB.out.2 2 (by omega)).1;have c3:=(oB.out.2 3 (by omega)).1;have c4:=(oB.out.2 4 (by omega)).1;have Oj:(v≤lo∧v1+v≤hi-lo)∨(v≤lo∧¬v1+v≤hi-lo)∨¬v≤lo:=by omega
  rcases Oj with⟨bO,bG⟩|Ok
  ·obtain⟨bs1,bs2,bs3,bs4,bs5⟩:=qoi HI.out HHB.out HHL.out HH0.out bO
   have Fg:=q0h HI.out HA.out HB'.out cX.out eG.out bO bG;have Ol:=HI.out.v1';have hlopos:0<(lo:Int):=by omega
   have qS:=HI.out.hl;have Om:=eO.out.1
   have E1:IntKind.u64.wrap ((hi:Int)-(lo:Int))=((hi-lo:Nat):Int):=by
    rw[show(hi:Int)-(lo:Int)=((hi-lo:Nat):Int) from by omega];exact qbr _ (by omega)
   have E2:IntKind.u64.wrap ((v1:Int)+(v:Int))=((v1+v:Nat):Int):=by rw[qwt];exact qbr _ bs1
   have E3:IntKind.u64.wrap ((hi:Int)/(lo:Int))=((hi/lo:Nat):Int):=by
    rw[←Int.natCast_ediv];exact qbr _ (Nat.lt_of_le_of_lt (Nat.div_le_self _ _) Om)
   have E4:(hi:Int) % (lo:Int)=((hi % lo:Nat):Int):=by rw[Int.natCast_emod]
   have E5:IntKind.u64.wrap (((hi/lo:Nat):Int)*(u:Int))=((hi/lo*u:Nat):Int):=by rw[q6o];exact qbr _ bs4
   have E6:IntKind.u64.wrap ((u1:Int)+((hi/lo*u:Nat):Int))=((u1+hi/lo*u:Nat):Int):=by rw[qwt];exact qbr _ bs2
   have E7:IntKind.u64.wrap (((hi/lo:Nat):Int)*(v:Int))=((hi/lo*v:Nat):Int):=by rw[q6o];exact qbr _ bs5
   have E8:IntKind.u64.wrap ((v1:Int)+((hi/lo*v:Nat):Int))=((v1+hi/lo*v:Nat):Int):=by rw[qwt];exact qbr _ bs3
   have Lg:=hid E4;clear E4;have gW:Hid (hi % lo<lo):=hid (Nat.mod_lt _ (by omega));have HNX:=hid Fg;have HBD2:Hid (lo<B64∧hi % lo<B64∧u1<B64∧u<B64∧v1<B64∧v<B64∧u1+hi/lo*u<B64∧v1+hi/lo*v<B64):=hid ⟨eO.out.2.1,Nat.lt_trans gW.out eO.out.2.1,eO.out.2.2.2.1,eO.out.2.2.2.2.2.2.1,eO.out.2.2.2.2.2.1,eO.out.2.2.2.2.2.2.2,bs2,bs3⟩;clear bs1 bs2 bs3 bs4 bs5 Fg Ol qS Om HI eO;generalize u1+hi/lo*u=un at *;generalize v1+hi/lo*v=vn at *;generalize hi/lo*u=qu at *;generalize hi/lo*v=qv at *;generalize hi/lo=q at *;generalize hi % lo=rm at *;generalize hi-lo=dd at *;generalize v1+v=ss at *;simp only[qcn] at c0 c1 c2 c3 c4;go_wp2_with fail
   go_quiet (fail)
   have xD:Hid (Own (wr.drewN nq) w2.heap.size 5 (qcn u0 u1 v0 v1 ev)):=hid (oB.out.drewN nq);have HOR7:Hid (Own (wr.drewN nq) w.heap.size 5 (qcn 0 0 0 0 false)):=hid (sZ.out.drewN nq);have kK:Hid (Below w.heap.size w (wr.drewN nq)):=hid (below_drewN HB.out nq);clear oB sZ HB c0 c1 c2 c3 c4;generalize wr.drewN nq=w7 at *;obtain⟨c0,f0⟩:=xD.out.2 0 (by omega);obtain⟨c1,f1⟩:=xD.out.2 1 (by omega);obtain⟨c2,f2⟩:=xD.out.2 2 (by omega);obtain⟨c3,f3⟩:=xD.out.2 3 (by omega);obtain⟨c4,f4⟩:=xD.out.2 4 (by omega);simp only[qcn] at c0 c1 c2 c3 c4;go_wp2_with fail;go_roundw
   case rel=>
    refine⟨lo,rm,u1,u,v1,v,un,vn,!ev,rfl,by rw[Lg.out],rfl,rfl,HNX,HBD2,hid (q01 xD.out), ?_, ?_⟩
    ·exact hid ((((((qfd.refl _ _).set _ _).set _ _).set _ _).set _ _).set _ _ |>.own HOR7.out (by have:=cL.out;omega))
    ·exact hid (((((kK.out.setCell (by have:=cL.out;show w.heap.size≤w2.heap.size;omega) _).setCell (by have:=cL.out;show w.heap.size≤w2.heap.size;omega) _).setCell (by have:=cL.out;show w.heap.size≤w2.heap.size;omega) _).setCell (by have:=cL.out;show w.heap.size≤w2.heap.size;omega) _).setCell (by have:=cL.out;show w.heap.size≤w2.heap.size;omega) _)
   case measure=>
    have h1:=gW.out;have h2:=Lg.out;simp only[intOf];omega
  ·have aV:Hid (u0<B64∧u1<B64∧v0<B64∧v1<B64∧Rec a b u0 u1 v0 v1 ev):=hid ⟨eO.out.2.2.1,eO.out.2.2.2.1,eO.out.2.2.2.2.1,eO.out.2.2.2.2.2.1,HI.out.rec'⟩
   obtain⟨r0,g0⟩:=sZ.out.2 0 (by omega);obtain⟨r1,g1⟩:=sZ.out.2 1 (by omega);obtain⟨r2,g2⟩:=sZ.out.2 2 (by omega);obtain⟨r3,g3⟩:=sZ.out.2 3 (by omega);obtain⟨r4,g4⟩:=sZ.out.2 4 (by omega);simp only[qcn] at c0 c1 c2 c3 c4 r0 r1 r2 r3 r4;have qS:=HI.out.hl;have Eo:=hid eO.out.1;have sM:Hid (v≤lo→v1+v<B64):=hid fun sU=>(qoi HI.out HHB.out HHL.out HH0.out sU).1
   have E1:IntKind.u64.wrap ((hi:Int)-(lo:Int))=((hi-lo:Nat):Int):=by
    rw[show(hi:Int)-(lo:Int)=((hi-lo:Nat):Int) from by omega];exact qbr _ (by have:=Eo.out;omega)
   clear HI eO qS;rcases Ok with⟨bO,bG⟩|hc
   ·have E2:IntKind.u64.wrap ((v1:Int)+(v:Int))=((v1+v:Nat):Int):=by rw[qwt];exact qbr _ (sM.out bO)
    generalize hi-lo=dd at *;generalize v1+v=ss at *;go_wp2_with fail;refine bodyPost_ret (v := .agg #[.int .u64 u0,.int .u64 u1,.int .u64 v0,.int .u64 v1,.bool ev]) ?_ rfl ?_
    ·simp[results,Tryz.results154,go_sem,r0,r1,r2,r3,r4]
    ·exact⟨⟨u0,u1,v0,v1,ev,rfl,aV.out⟩,((((HB.out.setCell (qac _) _).setCell (qac _) _).setCell (qac _) _).setCell (qac _) _).setCell (qac _) _⟩
   ·clear E1
    go_wp2_with fail;refine bodyPost_ret (v := .agg #[.int .u64 u0,.int .u64 u1,.int .u64 v0,.int .u64 v1,.bool ev]) ?_ rfl ?_
    ·simp[results,Tryz.results154,go_sem,r0,r1,r2,r3,r4]
    ·exact⟨⟨u0,u1,v0,v1,ev,rfl,aV.out⟩,((((HB.out.setCell (qac _) _).setCell (qac _) _).setCell (qac _) _).setCell (qac _) _).setCell (qac _) _⟩
end Go.Proofs.YtlkdlffhmakbgaaGreatDoor
