/- window and foresee: several steps of Euclid's division, out of the highest bits. -/
import Derived.Test.YthjagoogkkgelaaGreatDoorMMine
import Derived.Test.YthjagoogkkgelaaGreatDoorMMaths
set_option linter.all false
namespace Go.Proofs.YthjagoogkkgelaaGreatDoor
open Go.RowKit
set_option maxRecDepth 100000
set_option maxHeartbeats 2000000
def top(l:List Nat)(k s:Nat):Nat:=l.getD (k+1) 0*2^s % B64+l.getD k 0/2^(64-s)
theorem zar(l:List Nat)(k s:Nat)(hl:∀d ∈ l,d<B64)(hs:s<64):top l k s<B64:=by
 have h1:l.getD k 0/2^(64-s)<2^s:=by
  rw[Nat.div_lt_iff_lt_mul (Nat.two_pow_pos _),Nat.mul_comm,←qdh (by omega)];exact qao (by rw[qab];omega) hl k
 exact(q1p (l.getD (k+1) 0) s _ hs h1).2
theorem qtf(l:List Nat)(k s:Nat)(hl:∀d ∈ l,d<B64)(hs:s<64)(hlen:l.length≤k+2)(hov:l.getD (k+1) 0*2^s<B64):
  ∃al,val B64 l=top l k s*(B64^k*2^(64-s))+al∧al<B64^k*2^(64-s):=by
 have h1:=qap B64 l k;have h2:=qap B64 l (k+1);rw[qa5 B64 l (k+1+1) hlen,h1,Nat.pow_succ] at h2;have h3:=qnk B64 l k (by rw[qab];omega) hl;have h4:=Nat.div_add_mod (l.getD k 0) (2^(64-s));have h5:=Nat.mod_lt (l.getD k 0) (Nat.two_pow_pos (64-s));unfold top;rw[Nat.mod_eq_of_lt hov,h2];generalize l.getD (k+1) 0=x at *;generalize l.getD k 0/2^(64-s)=q at *;generalize l.getD k 0 % 2^(64-s)=r at *;rw[←h4];refine⟨low B64 l k+B64^k*r, ?_, ?_⟩
 ·have hB:=qdh (s:=s) (by omega)
  have e1:B64^k*B64*x=x*2^s*(B64^k*2^(64-s)):=by
   conv=>lhs;rw[show B64^k*B64*x=B64^k*x*B64 from by grind,hB]
   grind
  rw[Nat.add_mul,e1,Nat.mul_add];have e2:B64^k*(2^(64-s)*q)=q*(B64^k*2^(64-s)):=by grind
  omega
 ·have:B64^k*(r+1)≤B64^k*2^(64-s):=Nat.mul_le_mul_left _ h5
  rw[Nat.mul_add] at this;omega
theorem qq3(v:Value)(l:List Nat)(k s:Nat)(w:World)(h:Wds w v l)(hs:s<64)(hk:k<4611686018427387904):
  Calls Tryz.prog 170 #[v,.int .i64 ((k:Int)+2),.int .i64 (s:Nat)] w fun e w'=>e = .returned (.int .u64 (top l k s:Nat))∧∃n,w'=w.drewN n:=by
 have hx:l.getD k 0/2^(64-s)<2^s:=by
  rw[Nat.div_lt_iff_lt_mul (Nat.two_pow_pos _),Nat.mul_comm,←qdh (by omega)];exact qao (by rw[qab];omega) h.1 k
 obtain⟨hor,_⟩:=q1p (l.getD (k+1) 0) s _ hs hx
 have HOR:Hid (bits .or .u64 (IntKind.u64.wrap (((l.getD (k+1) 0:Nat):Int)*2^s)) (((l.getD k 0:Nat):Int)/2^(64-s))=((top l k s:Nat):Int)):=by
  refine hid ?_;rw[show((l.getD k 0:Nat):Int)/2^(64-s)=((l.getD k 0/2^(64-s):Nat):Int) from by simp];exact hor
 have HW1:Hid (∀q,Calls Tryz.prog 206 #[v,.int .i64 ((k:Int)+1)] (w.drewN q) fun e w'=>e = .returned (.int .u64 (l.getD (k+1) 0:Nat))∧w'=w.drewN q):=hid fun q=>by
  have:=qxr v l ((k:Int)+1) (w.drewN q) (h.later (below_drewN (Below.refl _ _) q)) (by omega)
  rwa [show((k:Int)+1).toNat=k+1 from by omega] at this
 have HW2:Hid (∀q,Calls Tryz.prog 206 #[v,.int .i64 (k:Int)] (w.drewN q) fun e w'=>e = .returned (.int .u64 (l.getD k 0:Nat))∧w'=w.drewN q):=hid fun q=>by
  have:=qxr v l (k:Int) (w.drewN q) (h.later (below_drewN (Below.refl _ _) q)) (by omega)
  rwa [Int.toNat_natCast] at this
 clear hor hx h;have e1:(k:Int)+2-1=(k:Int)+1:=by omega
 have e2:(k:Int)+2-2=(k:Int):=by omega
 generalize top l k s=t at *;generalize l.getD (k+1) 0=x at *;generalize l.getD k 0=y at *;go_enter Tryz.func170,Tryz.ntmps170;go_wp2_with fail
 go_quiet ((go_at_call 206;first|(with_reducible exact Calls.quiet_of_same (HW1.out _))|(with_reducible exact Calls.quiet_of_same (HW2.out _))))
 go_wp2_with fail;go_ret;exact⟨(qa1 HOR.out:Ending.returned (.int .u64 _)=_),_,rfl⟩
def qcf(u0 u1 v0 v1:Nat)(e:Bool)(i:Nat):Value:=
 if i=0 then .int .u64 (u0:Nat) else if i=1 then .int .u64 (u1:Nat) else if i=2 then .int .u64 (v0:Nat) else if i=3 then .int .u64 (v1:Nat) else .bool e
theorem q1t{w:World}{g u0 u1 v0 v1 x0 x1 x2 x3:Nat}{e e':Bool}(h:Own w g 5 (qcf u0 u1 v0 v1 e)):
  Own (((((w.setCell ⟨g,0,none⟩ (.int .u64 (x0:Nat))).setCell ⟨g,1,none⟩ (.int .u64 (x1:Nat))).setCell ⟨g,2,none⟩ (.int .u64 (x2:Nat))).setCell ⟨g,3,none⟩ (.int .u64 (x3:Nat))).setCell ⟨g,4,none⟩ (.bool e')) g 5 (qcf x0 x1 x2 x3 e'):=by
 refine(((((h.set 0 (by omega) _).set 1 (by omega) _).set 2 (by omega) _).set 3 (by omega) _).set 4 (by omega) _).congr fun i hi => ?_
 match i,hi with
 | 0,_=>rfl
 | 1,_=>rfl
 | 2,_=>rfl
 | 3,_=>rfl
 | 4,_=>rfl
theorem qh9(va vb:Value)(a b:Nat)(w:World)(ha:qaq w va a)(hb:qaq w vb b)(hab:b≤a)(h2:2≤wl b)(hm:wl a≤Cap):
  Calls Tryz.prog 117 #[va,vb] w fun e w'=>(∃(u0 u1 v0 v1:Nat) (ev:Bool),e = .returned (.agg #[.int .u64 u0,.int .u64 u1,.int .u64 v0,.int .u64 v1,.bool ev])∧u0<B64∧u1<B64∧v0<B64∧v1<B64∧Rec a b u0 u1 v0 v1 ev)∧Below w.heap.size w w':=by
 obtain⟨l,pa,ca,rfl,hwa,hvl,hla,hld⟩:=qgp ha;obtain⟨r,pb,cb,rfl,hwb,hvr,hlb,hrd⟩:=qgp hb;have hlen:r.length≤l.length:=by rw[hla,hlb];exact qad qae hab
 rw[←hlb] at h2;rw[←hla] at hm;obtain⟨k,hk⟩:∃k,l.length=k+2:=⟨l.length-2,by omega⟩
 have hypos:l.getD (k+1) 0≠0:=by
  rcases List.eq_nil_or_concat l with e|⟨z,x,e⟩
  ·rw[e] at hk;simp at hk
  ·rw[List.concat_eq_append] at e
   have hz:z.length=k+1:=by rw[e] at hk;simpa using hk
   rw[e,←hz];have:=qi3 qae (hld.symm.trans e)
   simpa using this
 obtain⟨s,hs,hy1,hy2,hlz⟩:=q1k (l.getD (k+1) 0) (by omega) (qao (by rw[qab];omega) hwa.1 _);obtain⟨al,hal1,hal2⟩:=qtf l k s hwa.1 hs (by omega) hy1
 have hrtop:r.getD (k+1) 0≤l.getD (k+1) 0:=by
  have h1:=qap B64 l (k+1);have h3:=qap B64 r (k+1);rw[qa5 B64 l (k+1+1) (by omega),hvl] at h1;rw[qa5 B64 r (k+1+1) (by omega),hvr] at h3;have h4:=qnk B64 l (k+1) (by rw[qab];omega) hwa.1;rcases Nat.lt_or_ge (l.getD (k+1) 0) (r.getD (k+1) 0) with h|h
  ·have:B64^(k+1)*(l.getD (k+1) 0+1)≤B64^(k+1)*r.getD (k+1) 0:=Nat.mul_le_mul_left _ h
   rw[Nat.mul_add] at this;omega
  ·exact h
 have hry:r.getD (k+1) 0*2^s<B64:=Nat.lt_of_le_of_lt (Nat.mul_le_mul_right _ hrtop) hy1;obtain⟨bl,hbl1,hbl2⟩:=qtf r k s hwb.1 hs (by omega) hry;rw[hvl] at hal1;rw[hvr] at hbl1
 have hh0:0<top l k s:=by
  unfold top;rw[Nat.mod_eq_of_lt hy1];exact Nat.lt_of_lt_of_le (Nat.mul_pos (Nat.pos_of_ne_zero hypos) (Nat.two_pow_pos s)) (Nat.le_add_right _ _)
 have hhl:top r k s≤top l k s:=by
  rcases Nat.lt_or_ge (top l k s) (top r k s) with h|h
  ·have:(top l k s+1)*(B64^k*2^(64-s))≤top r k s*(B64^k*2^(64-s)):=Nat.mul_le_mul_right _ h
   rw[Nat.add_mul] at this;omega
  ·exact h
 have HHB:=hid (zar l k s hwa.1 hs);have HA:=hid hal1;have HB':=hid hbl1;have HAL:=hid hal2;have HBL:=hid hbl2;have HH0:=hid hh0;have HHL:=hid hhl;have hbpos:l.getD (k+1) 0<B64:=qao (by rw[qab];omega) hwa.1 _;have HWA:=hid hwa;have HWB:=hid hwb;have HLZ:=hid hlz;have hk62:k<4611686018427387904:=by unfold Cap at hm;omega
 have HWIN1:Hid (∀w',Below w.heap.size w w'→Calls Tryz.prog 170 #[.slice pa l.length ca,.int .i64 ((k:Int)+2),.int .i64 (s:Nat)] w' fun e w''=>e = .returned (.int .u64 (top l k s:Nat))∧∃n,w''=w'.drewN n):=hid fun w' hb'=>qq3 _ l k s w' (HWA.out.later hb') hs hk62;have HWIN2:Hid (∀w',Below w.heap.size w w'→Calls Tryz.prog 170 #[.slice pb r.length cb,.int .i64 ((k:Int)+2),.int .i64 (s:Nat)] w' fun e w''=>e = .returned (.int .u64 (top r k s:Nat))∧∃n,w''=w'.drewN n):=hid fun w' hb'=>qq3 _ r k s w' (HWB.out.later hb') hs hk62;obtain⟨_,p',c',he,hca1,hca2,hcells⟩:=hwa;cases he
 rcases hcells with h0|⟨ba,oa,rfl,hrow⟩
 ·omega
 have hcell:=hrow (k+1) (by omega);unfold wd at hcell
 have HCELL:Hid (∀w',Below w.heap.size w w'→w'.cell? ⟨ba,oa+(k+1),none⟩=some (.int .u64 (l.getD (k+1) 0:Nat))):=hid fun w' hb'=>by
  rw[hb'.cell (p:=⟨ba,oa+(k+1),none⟩) (World.block_lt_of_cell? w _ hcell)];exact hcell
 rw[hk] at HWIN1;rw[hk];generalize l.getD (k+1) 0=y at *;generalize top l k s=h at *;generalize top r k s=lo0 at *;clear hk hypos hs hy1 hy2 hlz hal1 hal2 hbl1 hbl2 hrtop hry hh0 hhl hbpos hwb hlen h2 hm hvl hvr hla hlb hld hrd ha hb hab hcell hrow hca1 hca2;generalize r.length=rl at *;go_enter Tryz.func117,Tryz.ntmps117;have hcw:∀o,(w.alloc o).cell? ⟨ba,oa+(k+1),none⟩=some (.int .u64 y):=fun o=>HCELL.out _ ((Below.refl _ _).alloc (Nat.le_refl _) _);go_wp2_with fail;refine(HLZ.out _).mono ?_;rintro e w' ⟨rfl,hw'⟩;rw[hw'];clear hw';go_wp2_with fail
 have HOA:Hid (Own (w.alloc (.cells #[.int .u64 0,.int .u64 0,.int .u64 0,.int .u64 0,.bool false] 173)) w.heap.size 5 (qcf 0 0 0 0 false)):=by
  refine hid ⟨by rw[World.size_alloc];omega,fun i hi => ?_⟩;rw[World.cell?_alloc_at _ _ _ _ rfl,World.frozen?_alloc_at _ _ _ _ rfl]
  match i,hi with
  | 0,_=>exact⟨rfl,rfl⟩
  | 1,_=>exact⟨rfl,rfl⟩
  | 2,_=>exact⟨rfl,rfl⟩
  | 3,_=>exact⟨rfl,rfl⟩
  | 4,_=>exact⟨rfl,rfl⟩
 have HBA:Hid (Below w.heap.size w (w.alloc (.cells #[.int .u64 0,.int .u64 0,.int .u64 0,.int .u64 0,.bool false] 173))):=hid ((Below.refl _ _).alloc (Nat.le_refl _) _);have HSA:Hid ((w.alloc (.cells #[.int .u64 0,.int .u64 0,.int .u64 0,.int .u64 0,.bool false] 173)).heap.size=w.heap.size+1):=hid (World.size_alloc _ _);generalize w.alloc (.cells #[.int .u64 0,.int .u64 0,.int .u64 0,.int .u64 0,.bool false] 173)=w0 at *;clear hcw;refine(HWIN1.out _ HBA.out).mono ?_;rintro e w1 ⟨rfl,n1,hw1⟩;have HB1:Hid (Below w.heap.size w w1):=hid (by rw[hw1];exact below_drewN HBA.out n1);have HO1:Hid (Own w1 w.heap.size 5 (qcf 0 0 0 0 false)):=hid (by rw[hw1];exact HOA.out.drewN n1);have HS1:Hid (w1.heap.size=w.heap.size+1):=hid (by rw[hw1];exact HSA.out);clear hw1 HOA HBA HSA;go_wp2_with fail;refine(HWIN2.out _ HB1.out).mono ?_;rintro e w2 ⟨rfl,n2,hw2⟩;have HB2:Hid (Below w.heap.size w w2):=hid (by rw[hw2];exact below_drewN HB1.out n2);have HO2:Hid (Own w2 w.heap.size 5 (qcf 0 0 0 0 false)):=hid (by rw[hw2];exact HO1.out.drewN n2);have HS2:Hid (w2.heap.size=w.heap.size+1):=hid (by rw[hw2];exact HS1.out);clear hw2 HO1 HB1 HS1 HWIN1 HWIN2 HLZ HCELL;go_wp2_with fail
 have HOS0:Hid (Own (w2.alloc (.cells #[.int .u64 0,.int .u64 1,.int .u64 0,.int .u64 0,.bool false] 173)) w2.heap.size 5 (qcf 0 1 0 0 false)):=by
  refine hid ⟨by rw[World.size_alloc];omega,fun i hi => ?_⟩;rw[World.cell?_alloc_at _ _ _ _ rfl,World.frozen?_alloc_at _ _ _ _ rfl]
  match i,hi with
  | 0,_=>exact⟨rfl,rfl⟩
  | 1,_=>exact⟨rfl,rfl⟩
  | 2,_=>exact⟨rfl,rfl⟩
  | 3,_=>exact⟨rfl,rfl⟩
  | 4,_=>exact⟨rfl,rfl⟩
 have hbs:Below w2.heap.size w2 (w2.alloc (.cells #[.int .u64 0,.int .u64 1,.int .u64 0,.int .u64 0,.bool false] 173)):=(Below.refl _ _).alloc (Nat.le_refl _) _;have HO3:Hid (Own (w2.alloc (.cells #[.int .u64 0,.int .u64 1,.int .u64 0,.int .u64 0,.bool false] 173)) w.heap.size 5 (qcf 0 0 0 0 false)):=hid (HO2.out.later (hbs.mono (by have:=HS2.out;omega)));have HB3:Hid (Below w.heap.size w (w2.alloc (.cells #[.int .u64 0,.int .u64 1,.int .u64 0,.int .u64 0,.bool false] 173))):=hid (HB2.out.trans (hbs.mono (by have:=HS2.out;omega)));clear hbs HO2 HB2;generalize w2.alloc (.cells #[.int .u64 0,.int .u64 1,.int .u64 0,.int .u64 0,.bool false] 173)=w3 at *;have HI0:Hid (zak a b h lo0 h lo0 0 1 0 0 0 1 false):=hid (qyw a b h lo0 HHL.out);have HLB:Hid (lo0<B64):=hid (Nat.lt_of_le_of_lt HHL.out HHB.out);have HZ:Hid (0<B64∧1<B64):=hid (by rw[qab];omega)
 go_loopw [6,7,9,10] (fun sh sl su sv wr=>∃(hi lo u0 u1 v0 v1 u v:Nat) (ev:Bool),sh = .int .u64 hi∧sl = .int .u64 lo∧su = .int .u64 u∧sv = .int .u64 v∧Hid (zak a b h lo0 hi lo u0 u1 v0 v1 u v ev)∧Hid (hi<B64∧lo<B64∧u0<B64∧u1<B64∧v0<B64∧v1<B64∧u<B64∧v<B64)∧Hid (Own wr w2.heap.size 5 (qcf u0 u1 v0 v1 ev))∧Hid (Own wr w.heap.size 5 (qcf 0 0 0 0 false))∧Hid (Below w.heap.size w wr)) (fun _ sl _ _ _=>(intOf sl).toNat)
 case atStart=>exact⟨h,lo0,0,1,0,0,0,1,false,rfl,rfl,rfl,rfl,HI0,hid ⟨HHB.out,HLB.out,HZ.out.1,HZ.out.2,HZ.out.1,HZ.out.1,HZ.out.1,HZ.out.2⟩,HOS0,HO3,HB3⟩
 case round=>
  obtain⟨hi,lo,u0,u1,v0,v1,u,v,ev,rfl,rfl,rfl,rfl,HI,HBD,HOS,HOR,HB⟩:=hrel;clear HI0 HOS0 HO3 HB3;have c0:=(HOS.out.2 0 (by omega)).1;have c1:=(HOS.out.2 1 (by omega)).1;have c2:=(HOS.out.2 2 (by omega)).1;have c3:=(HOS.out.2 3 (by omega)).1;have c4:=(HOS.out.2 4 (by omega)).1;have hcond:(v≤lo∧v1+v≤hi-lo)∨(v≤lo∧¬v1+v≤hi-lo)∨¬v≤lo:=by omega
  rcases hcond with⟨hc1,hc2⟩|hfail
  ·obtain⟨bs1,bs2,bs3,bs4,bs5⟩:=qox HI.out HHB.out HHL.out HH0.out hc1
   have hnext:=q09 HI.out HA.out HB'.out HAL.out HBL.out hc1 hc2;have hvpos:=HI.out.v1';have hlopos:0<(lo:Int):=by omega
   have hhl:=HI.out.hl;have hhib:=HBD.out.1
   have E1:IntKind.u64.wrap ((hi:Int)-(lo:Int))=((hi-lo:Nat):Int):=by
    rw[show(hi:Int)-(lo:Int)=((hi-lo:Nat):Int) from by omega];exact qba _ (by omega)
   have E2:IntKind.u64.wrap ((v1:Int)+(v:Int))=((v1+v:Nat):Int):=by rw[qxq];exact qba _ bs1
   have E3:IntKind.u64.wrap ((hi:Int)/(lo:Int))=((hi/lo:Nat):Int):=by
    rw[←Int.natCast_ediv];exact qba _ (Nat.lt_of_le_of_lt (Nat.div_le_self _ _) hhib)
   have E4:(hi:Int) % (lo:Int)=((hi % lo:Nat):Int):=by rw[Int.natCast_emod]
   have E5:IntKind.u64.wrap (((hi/lo:Nat):Int)*(u:Int))=((hi/lo*u:Nat):Int):=by rw[q7y];exact qba _ bs4
   have E6:IntKind.u64.wrap ((u1:Int)+((hi/lo*u:Nat):Int))=((u1+hi/lo*u:Nat):Int):=by rw[qxq];exact qba _ bs2
   have E7:IntKind.u64.wrap (((hi/lo:Nat):Int)*(v:Int))=((hi/lo*v:Nat):Int):=by rw[q7y];exact qba _ bs5
   have E8:IntKind.u64.wrap ((v1:Int)+((hi/lo*v:Nat):Int))=((v1+hi/lo*v:Nat):Int):=by rw[qxq];exact qba _ bs3
   have HE4:=hid E4;clear E4;have HMOD:Hid (hi % lo<lo):=hid (Nat.mod_lt _ (by omega));have HNX:=hid hnext;have HBD2:Hid (lo<B64∧hi % lo<B64∧u1<B64∧u<B64∧v1<B64∧v<B64∧u1+hi/lo*u<B64∧v1+hi/lo*v<B64):=hid ⟨HBD.out.2.1,Nat.lt_trans HMOD.out HBD.out.2.1,HBD.out.2.2.2.1,HBD.out.2.2.2.2.2.2.1,HBD.out.2.2.2.2.2.1,HBD.out.2.2.2.2.2.2.2,bs2,bs3⟩;clear bs1 bs2 bs3 bs4 bs5 hnext hvpos hhl hhib HI HBD;generalize u1+hi/lo*u=un at *;generalize v1+hi/lo*v=vn at *;generalize hi/lo*u=qu at *;generalize hi/lo*v=qv at *;generalize hi/lo=q at *;generalize hi % lo=rm at *;generalize hi-lo=dd at *;generalize v1+v=ss at *;simp only[qcf] at c0 c1 c2 c3 c4;go_wp2_with fail
   go_quiet (fail)
   have HOS7:Hid (Own (wr.drewN nq) w2.heap.size 5 (qcf u0 u1 v0 v1 ev)):=hid (HOS.out.drewN nq);have HOR7:Hid (Own (wr.drewN nq) w.heap.size 5 (qcf 0 0 0 0 false)):=hid (HOR.out.drewN nq);have HB7:Hid (Below w.heap.size w (wr.drewN nq)):=hid (below_drewN HB.out nq);clear HOS HOR HB c0 c1 c2 c3 c4;generalize wr.drewN nq=w7 at *;obtain⟨c0,f0⟩:=HOS7.out.2 0 (by omega);obtain⟨c1,f1⟩:=HOS7.out.2 1 (by omega);obtain⟨c2,f2⟩:=HOS7.out.2 2 (by omega);obtain⟨c3,f3⟩:=HOS7.out.2 3 (by omega);obtain⟨c4,f4⟩:=HOS7.out.2 4 (by omega);simp only[qcf] at c0 c1 c2 c3 c4;go_wp2_with fail;go_roundw
   case rel=>
    refine⟨lo,rm,u1,u,v1,v,un,vn,!ev,rfl,by rw[HE4.out],rfl,rfl,HNX,HBD2,hid (q1t HOS7.out), ?_, ?_⟩
    ·exact hid ((((((qfh.refl _ _).set _ _).set _ _).set _ _).set _ _).set _ _ |>.own HOR7.out (by have:=HS2.out;omega))
    ·exact hid (((((HB7.out.setCell (by have:=HS2.out;show w.heap.size≤w2.heap.size;omega) _).setCell (by have:=HS2.out;show w.heap.size≤w2.heap.size;omega) _).setCell (by have:=HS2.out;show w.heap.size≤w2.heap.size;omega) _).setCell (by have:=HS2.out;show w.heap.size≤w2.heap.size;omega) _).setCell (by have:=HS2.out;show w.heap.size≤w2.heap.size;omega) _)
   case measure=>
    have h1:=HMOD.out;have h2:=HE4.out;simp only[intOf];omega
  ·have HRES:Hid (u0<B64∧u1<B64∧v0<B64∧v1<B64∧Rec a b u0 u1 v0 v1 ev):=hid ⟨HBD.out.2.2.1,HBD.out.2.2.2.1,HBD.out.2.2.2.2.1,HBD.out.2.2.2.2.2.1,HI.out.rec'⟩
   obtain⟨r0,g0⟩:=HOR.out.2 0 (by omega);obtain⟨r1,g1⟩:=HOR.out.2 1 (by omega);obtain⟨r2,g2⟩:=HOR.out.2 2 (by omega);obtain⟨r3,g3⟩:=HOR.out.2 3 (by omega);obtain⟨r4,g4⟩:=HOR.out.2 4 (by omega);simp only[qcf] at c0 c1 c2 c3 c4 r0 r1 r2 r3 r4;have hhl:=HI.out.hl;have HHI:=hid HBD.out.1;have HVV:Hid (v≤lo→v1+v<B64):=hid fun hvl=>(qox HI.out HHB.out HHL.out HH0.out hvl).1
   have E1:IntKind.u64.wrap ((hi:Int)-(lo:Int))=((hi-lo:Nat):Int):=by
    rw[show(hi:Int)-(lo:Int)=((hi-lo:Nat):Int) from by omega];exact qba _ (by have:=HHI.out;omega)
   clear HI HBD hhl;rcases hfail with⟨hc1,hc2⟩|hc
   ·have E2:IntKind.u64.wrap ((v1:Int)+(v:Int))=((v1+v:Nat):Int):=by rw[qxq];exact qba _ (HVV.out hc1)
    generalize hi-lo=dd at *;generalize v1+v=ss at *;go_wp2_with fail;refine bodyPost_ret (v := .agg #[.int .u64 u0,.int .u64 u1,.int .u64 v0,.int .u64 v1,.bool ev]) ?_ rfl ?_
    ·simp[results,Tryz.results117,go_sem,r0,r1,r2,r3,r4]
    ·exact⟨⟨u0,u1,v0,v1,ev,rfl,HRES.out⟩,((((HB.out.setCell (Nat.le_refl _) _).setCell (Nat.le_refl _) _).setCell (Nat.le_refl _) _).setCell (Nat.le_refl _) _).setCell (Nat.le_refl _) _⟩
   ·clear E1
    go_wp2_with fail;refine bodyPost_ret (v := .agg #[.int .u64 u0,.int .u64 u1,.int .u64 v0,.int .u64 v1,.bool ev]) ?_ rfl ?_
    ·simp[results,Tryz.results117,go_sem,r0,r1,r2,r3,r4]
    ·exact⟨⟨u0,u1,v0,v1,ev,rfl,HRES.out⟩,((((HB.out.setCell (Nat.le_refl _) _).setCell (Nat.le_refl _) _).setCell (Nat.le_refl _) _).setCell (Nat.le_refl _) _).setCell (Nat.le_refl _) _⟩
end Go.Proofs.YthjagoogkkgelaaGreatDoor
