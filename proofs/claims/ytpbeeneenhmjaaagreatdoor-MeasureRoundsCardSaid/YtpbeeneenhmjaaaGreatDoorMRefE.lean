/- The reference's Add and Mul of two numbers' texts. -/
import Derived.Test.YtpbeeneenhmjaaaGreatDoorMRefC
import Derived.Test.YtpbeeneenhmjaaaGreatDoorMOrder
set_option linter.all false
namespace Go.Proofs.YtpbeeneenhmjaaaGreatDoor
open Go.RowKit
set_option maxRecDepth 100000
set_option maxHeartbeats 8000000
def qp7(q:Rat)(w:World)(e:Ending)(w':World):Prop:=e = .returned (.string (rt q))∧Below w.heap.size w w'
theorem qf4(q:Rat)(w:World)(h:qa6 q 9=true):
  Calls Tryz.prog 89 #[.string (rt q)] w fun e w'=>e = .returned (.tuple #[.int .i64 q.num,.int .i64 (q.den:Int),.bool true])∧w'=w:=by
 have hs:=qd8 (qp4 h (by decide));have h1:=q7r (rt q) q w (qcw q) (by omega);rw[h] at h1;exact h1
theorem qkk(q:Rat)(w:World)(hs:(rt q).size≤5000)(h:qa6 q 9=false):
  Calls Tryz.prog 89 #[.string (rt q)] w fun e w'=>e = .returned (.tuple #[.int .i64 0,.int .i64 0,.bool false])∧w'=w:=by
 have h1:=q7r (rt q) q w (qcw q) hs;rw[h] at h1;exact h1
theorem qfw(q:Rat)(w:World)(hs:(rt q).size≤5000):
  Calls Tryz.prog 53 #[.string (rt q)] w fun e w'=>(∃n1 p1 k1 c1 n2 p2 k2 c2,e = .returned (.tuple #[.agg #[.bool n1,.slice p1 k1 c1],.agg #[.bool n2,.slice p2 k2 c2]])∧qcd w' (.agg #[.bool n1,.slice p1 k1 c1]) q.num∧qcd w' (.agg #[.bool n2,.slice p2 k2 c2]) (q.den:Int))∧Below w.heap.size w w':=
 (zaj (rt q) q w (qcw q) hs).mono fun _ _ ⟨⟨v1,v2,he,h1,h2⟩,hb⟩=>by
  obtain⟨p1,k1,c1,rfl,_,_⟩:=h1.parts;obtain⟨p2,k2,c2,rfl,_,_⟩:=h2.parts;exact⟨⟨_,_,_,_,_,_,_,_,he,h1,h2⟩,hb⟩
theorem qdr(w:World)(n1 n2:Bool)(t1 t2:Value):qmh w n1 t1 n2 t2 ((w.alloc (.cells #[.bool n1,t1] 92)).alloc (.cells #[.bool n2,t2] 92)):=
 qlk w n1 t1 n2 t2
theorem q3q{W:World}{v:Value}{z:Int}(h:qcd W v z):∃n p k c,v = .agg #[.bool n,.slice p k c]:=by
 obtain⟨p,k,c,h,_,_⟩:=h.parts;exact⟨_,p,k,c,h⟩
theorem qfx(va vb:Value)(x y:Int)(w0 W:World)(hb:Below w0.heap.size w0 W)(ha:qcd w0 va x)(hv:qcd w0 vb y)(k:Nat)(hk:k≤8100)(hx:x.natAbs<10^k)(hy:y.natAbs<10^k):
  Calls Tryz.prog 93 #[va,vb] W fun e w'=>(∃n p k c,e = .returned (.agg #[.bool n,.slice p k c])∧qcd w' (.agg #[.bool n,.slice p k c]) (x*y))∧Below w0.heap.size w0 w'∧Below W.heap.size W w':=
 (zah va vb x y W (ha.later hb) (hv.later hb) (by have:=qdg hx hk;omega) (by have:=qdg hy hk;omega)).mono fun _ _ ⟨⟨v,he,h1⟩,h2⟩=>by
  obtain⟨n,p,k,c,rfl⟩:=q3q h1;exact⟨⟨n,p,k,c,he,h1⟩,hb.trans (h2.mono hb.size),h2⟩
theorem q3r(va vb:Value)(x y:Int)(w0 W:World)(hb:Below w0.heap.size w0 W)(ha:qcd W va x)(hv:qcd W vb y)(k:Nat)(hk:k≤8100)(hx:x.natAbs<10^k)(hy:y.natAbs<10^k):
  Calls Tryz.prog 92 #[va,vb] W fun e w'=>(∃n p k c,e = .returned (.agg #[.bool n,.slice p k c])∧qcd w' (.agg #[.bool n,.slice p k c]) (x+y))∧Below w0.heap.size w0 w'∧Below W.heap.size W w':=
 (zba va vb x y W ha hv (by have:=qdg hx hk;omega) (by have:=qdg hy hk;omega)).mono fun _ _ ⟨⟨v,he,h1⟩,h2⟩=>by
  obtain⟨n,p,k,c,rfl⟩:=q3q h1;exact⟨⟨n,p,k,c,he,h1⟩,hb.trans (h2.mono hb.size),h2⟩
theorem qiq(va vb:Value)(x:Int)(D:Nat)(w0 W:World)(hb:Below w0.heap.size w0 W)(ha:qcd W va x)(hv:qcd W vb (D:Int))(k:Nat)(hk:k≤8100)(hD:0<D)(hx:x.natAbs<10^k)(hy:D<10^k):
  Calls Tryz.prog 91 #[va,vb] W fun e w'=>e = .returned (.string (rt (mkRat x D)))∧Below w0.heap.size w0 w':=
 (qmi va vb x D W ha hv hD (qdg hx hk) (qdg hy hk)).mono fun _ _ ⟨⟨t,he,h1⟩,h2⟩=>by
  rw[he,q3j h1];exact⟨rfl,hb.trans (h2.mono hb.size)⟩
theorem zao(n:Int)(d:Nat)(w:World)(hd:0<d)(hn:n.natAbs≤4000000000000000000)(hd2:d≤4000000000000000000):
  Calls Tryz.prog 90 #[.int .i64 n,.int .i64 (d:Int)] w (qp7 (mkRat n d) w):=
 (of9 n d w hd hn hd2).mono fun _ _ ⟨⟨t,he,h1⟩,h2⟩=>by
  rw[he,q3j h1];exact⟨rfl,h2⟩
theorem qp8{x y:Int}(h1:x.natAbs<10^9)(h2:y.natAbs<10^9):(x*y).natAbs≤999999998000000001:=by
 rw[Int.natAbs_mul];have h3:x.natAbs≤999999999:=by omega
 have h4:y.natAbs≤999999999:=by omega
 exact Nat.le_trans (Nat.mul_le_mul h3 h4) (by decide)
theorem q3s(p q:Rat)(w:World)(hp:qa6 p 9=true)(hq:qa6 q 9=true):
  Calls Tryz.prog 40 #[.string (rt p),.string (rt q)] w (qp7 (p+q) w):=by
 have HQP:=hid (fun W=>qf4 p W hp);have HQQ:=hid (fun W=>qf4 q W hq);have sp:=qp4 hp (by decide);have sq:=qp4 hq (by decide);have hden:((p.den*q.den:Nat):Int)=(p.den:Int)*(q.den:Int):=Int.natCast_mul ..;have d1:0<p.den:=p.den_pos;have d2:0<q.den:=q.den_pos;have b0:=@qp8 (p.den:Int) (q.den:Int) (by rw[Int.natAbs_natCast];exact sp.2) (by rw[Int.natAbs_natCast];exact sq.2);have bd0:p.den*q.den≤4000000000000000000:=by rw[Int.natAbs_mul,Int.natAbs_natCast,Int.natAbs_natCast] at b0;omega
 have bp:0<p.den*q.den:=Nat.mul_pos d1 d2;have b1:=@qp8 p.num (q.den:Int) sp.1 (by rw[Int.natAbs_natCast];exact sq.2);have b2:=@qp8 q.num (p.den:Int) sq.1 (by rw[Int.natAbs_natCast];exact sp.2);have e1:IntKind.i64.wrap (p.num*(q.den:Int))=p.num*(q.den:Int):=by rw[IntKind.wrap_i64];omega
 have e2:IntKind.i64.wrap (q.num*(p.den:Int))=q.num*(p.den:Int):=by rw[IntKind.wrap_i64];omega
 have e3:IntKind.i64.wrap (p.num*(q.den:Int)+q.num*(p.den:Int))=p.num*(q.den:Int)+q.num*(p.den:Int):=by rw[IntKind.wrap_i64];omega
 have HOF:=hid (fun W=>zao (p.num*(q.den:Int)+q.num*(p.den:Int)) (p.den*q.den) W bp (by omega) bd0);rw[hden,←Rat.add_def'] at HOF;have e0:IntKind.i64.wrap ((p.den:Int)*(q.den:Int))=(p.den:Int)*(q.den:Int):=by rw[IntKind.wrap_i64];omega
 clear hp hq sp sq d1 d2 b0 bd0 bp hden;generalize rt p=tp at *;generalize rt q=tq at *;generalize p.num=n at *;generalize q.num=m at *;generalize (p.den:Int)=d at *;generalize (q.den:Int)=e9 at *;go_enter Tryz.func40,Tryz.ntmps40;go_wp2_with fail;refine(HQP.out _).mono ?_;rintro e w1 ⟨rfl,rfl⟩;go_wp2_with fail;refine(HQQ.out _).mono ?_;rintro e w1 ⟨rfl,rfl⟩;go_wp2_with fail;refine(HOF.out _).mono ?_;rintro e w1 ⟨rfl,hb⟩;have HB:=hid hb;clear hb HOF HQP HQQ;go_wp2_with fail;go_ret;exact⟨rfl,HB.out⟩
theorem q3t(p q:Rat)(w:World)(hp:qa6 p 9=true)(hq:qa6 q 9=true):
  Calls Tryz.prog 42 #[.string (rt p),.string (rt q)] w (qp7 (p*q) w):=by
 have HQP:=hid (fun W=>qf4 p W hp);have HQQ:=hid (fun W=>qf4 q W hq);have sp:=qp4 hp (by decide);have sq:=qp4 hq (by decide);have hden:((p.den*q.den:Nat):Int)=(p.den:Int)*(q.den:Int):=Int.natCast_mul ..;have d1:0<p.den:=p.den_pos;have d2:0<q.den:=q.den_pos;have b0:=@qp8 (p.den:Int) (q.den:Int) (by rw[Int.natAbs_natCast];exact sp.2) (by rw[Int.natAbs_natCast];exact sq.2);have bd0:p.den*q.den≤4000000000000000000:=by rw[Int.natAbs_mul,Int.natAbs_natCast,Int.natAbs_natCast] at b0;omega
 have bp:0<p.den*q.den:=Nat.mul_pos d1 d2;have b1:=@qp8 p.num q.num sp.1 sq.1;have e1:IntKind.i64.wrap (p.num*q.num)=p.num*q.num:=by rw[IntKind.wrap_i64];omega
 have HOF:=hid (fun W=>zao (p.num*q.num) (p.den*q.den) W bp (by omega) bd0);rw[hden,←Rat.mul_def'] at HOF;have e0:IntKind.i64.wrap ((p.den:Int)*(q.den:Int))=(p.den:Int)*(q.den:Int):=by rw[IntKind.wrap_i64];omega
 clear hp hq sp sq d1 d2 b0 bd0 bp hden;generalize rt p=tp at *;generalize rt q=tq at *;generalize p.num=n at *;generalize q.num=m at *;generalize (p.den:Int)=d at *;generalize (q.den:Int)=e9 at *;go_enter Tryz.func42,Tryz.ntmps42;go_wp2_with fail;refine(HQP.out _).mono ?_;rintro e w1 ⟨rfl,rfl⟩;go_wp2_with fail;refine(HQQ.out _).mono ?_;rintro e w1 ⟨rfl,rfl⟩;go_wp2_with fail;refine(HOF.out _).mono ?_;rintro e w1 ⟨rfl,hb⟩;have HB:=hid hb;clear hb HOF HQP HQQ;go_wp2_with fail;go_ret;exact⟨rfl,HB.out⟩
theorem q3u(p q:Rat)(k:Nat)(w:World)(sp:sm p k)(sq:sm q k)(hk:k≤2000)(hp:qa6 p 9=false):
  Calls Tryz.prog 40 #[.string (rt p),.string (rt q)] w (qp7 (p+q) w):=by
 have z1:=qd8 sp;have z2:=qd8 sq;have HQP:=hid (fun W=>qkk p W (by omega) hp)
 have HQQ:Hid (∀W,Calls Tryz.prog 89 #[.string (rt q)] W fun e w'=>(∃x y b,e = .returned (.tuple #[.int .i64 x,.int .i64 y,.bool b]))∧w'=W):=hid fun W=>by
  by_cases hf:qa6 q 9=true
  ·exact(qf4 q W hf).mono fun _ _ ⟨h1,h2⟩=>⟨⟨_,_,_,h1⟩,h2⟩
  ·exact(qkk q W (by omega) (by simpa using hf)).mono fun _ _ ⟨h1,h2⟩=>⟨⟨_,_,_,h1⟩,h2⟩
 have HPP:=hid (fun W=>qfw p W (by omega));have HPQ:=hid (fun W=>qfw q W (by omega));have HSP:=hid sp;have HSQ:=hid sq;have HDEF:=hid (Rat.add_def' p q);have HK:=hid hk;have HDP:=hid p.den_pos;have HDQ:=hid q.den_pos;clear sp sq z1 z2 hk hp;generalize rt p=tp at *;generalize rt q=tq at *;go_enter Tryz.func40,Tryz.ntmps40;go_wp2_with fail;refine(HQP.out _).mono ?_;rintro e w0 ⟨rfl,rfl⟩;go_wp2_with fail;refine(HQQ.out _).mono ?_;rintro e w0 ⟨⟨x9,y9,b9,rfl⟩,rfl⟩;go_wp2_with fail;refine(HPP.out _).mono ?_;rintro e w1 ⟨⟨n1,a1,b1,c1,n2,a2,b2,c2,rfl,h1,h2⟩,hb⟩;have HX1:=hid h1;have HX2:=hid h2;have HB1:=hid hb;have HN1:=hid (qdr w1 n1 n2 (.slice a1 b1 c1) (.slice a2 b2 c2));clear h1 h2 hb HPP HQP HQQ;go_wp2_with fail;refine(HPQ.out _).mono ?_;rintro e w3 ⟨⟨n3,a3,b3,c3,n4,a4,b4,c4,rfl,h1,h2⟩,hb⟩;have HX3:=hid h1;have HX4:=hid h2;have HB3:=hid (HN1.out.1.trans (hb.mono HN1.out.1.size));have HN3:=hid (HN1.out.later hb);have HN4:=hid (qdr w3 n3 n4 (.slice a3 b3 c3) (.slice a4 b4 c4));clear h1 h2 hb HPQ HN1;go_wp2_with fail;generalize hw4:((w3.alloc (.cells #[.bool n3,.slice a3 b3 c3] 92)).alloc (.cells #[.bool n4,.slice a4 b4 c4] 92))=w4 at *;clear hw4;have HN5:=hid (HN3.out.later HN4.out.1);have HI1:=hid ((HX1.out.later HB3.out).later HN4.out.1);have HI2:=hid ((HX2.out.later HB3.out).later HN4.out.1);have HI3:=hid (HX3.out.later HN4.out.1);have HI4:=hid (HX4.out.later HN4.out.1);have HB4:=hid ((HB1.out.trans (HB3.out.mono HB1.out.size)).trans (HN4.out.1.mono (HB1.out.trans (HB3.out.mono HB1.out.size)).size))
 have HS8:Hid (∀W,Below w4.heap.size w4 W→W.cell? ⟨w1.heap.size,0,none⟩=some (.bool n1)∧W.cell? ⟨w1.heap.size,1,none⟩=some (.slice a1 b1 c1)∧W.cell? ⟨w1.heap.size+1,0,none⟩=some (.bool n2)∧W.cell? ⟨w1.heap.size+1,1,none⟩=some (.slice a2 b2 c2)∧W.cell? ⟨w3.heap.size,0,none⟩=some (.bool n3)∧W.cell? ⟨w3.heap.size,1,none⟩=some (.slice a3 b3 c3)∧W.cell? ⟨w3.heap.size+1,0,none⟩=some (.bool n4)∧W.cell? ⟨w3.heap.size+1,1,none⟩=some (.slice a4 b4 c4)):=hid fun W hW=>by
  obtain⟨r0,r1,r2,r3⟩:=qaz (HN5.out.later hW);obtain⟨r4,r5,r6,r7⟩:=qaz (HN4.out.later hW);exact⟨r0,r1,r2,r3,r4,r5,r6,r7⟩
 clear HX1 HX2 HX3 HX4 HB1 HB3 HN3 HN4 HN5;have HW5:Hid (Below w4.heap.size w4 w4.drew):=hid (Below.refl _ _).drew;have HTX:=hid (fun W (hW:Below w4.heap.size w4 W)=>qfx (.agg #[.bool n1,.slice a1 b1 c1]) (.agg #[.bool n4,.slice a4 b4 c4]) (p.num) ((q.den:Int)) w4 W hW HI1.out HI4.out k (by have:=HK.out;omega) HSP.out.1 (by rw[Int.natAbs_natCast];exact HSQ.out.2));have HTY:=hid (fun W (hW:Below w4.heap.size w4 W)=>qfx (.agg #[.bool n3,.slice a3 b3 c3]) (.agg #[.bool n2,.slice a2 b2 c2]) (q.num) ((p.den:Int)) w4 W hW HI3.out HI2.out k (by have:=HK.out;omega) HSQ.out.1 (by rw[Int.natAbs_natCast];exact HSP.out.2));have HTZ:=hid (fun W (hW:Below w4.heap.size w4 W)=>qfx (.agg #[.bool n2,.slice a2 b2 c2]) (.agg #[.bool n4,.slice a4 b4 c4]) ((p.den:Int)) ((q.den:Int)) w4 W hW HI2.out HI4.out k (by have:=HK.out;omega) (by rw[Int.natAbs_natCast];exact HSP.out.2) (by rw[Int.natAbs_natCast];exact HSQ.out.2));have HA1:Hid ((p.num*(q.den:Int)).natAbs<10^(2*k)):=hid (by have h:=qep HSP.out.1 HSQ.out.2;rw[Int.natAbs_mul,Int.natAbs_natCast,Nat.two_mul];exact h);have HA2:Hid ((q.num*(p.den:Int)).natAbs<10^(2*k)):=hid (by have h:=qep HSQ.out.1 HSP.out.2;rw[Int.natAbs_mul,Int.natAbs_natCast,Nat.two_mul];exact h);have HA3:Hid (p.den*q.den<10^(2*k+1)):=hid (by have h:=qep HSP.out.2 HSQ.out.2;rw[Nat.pow_succ,Nat.two_mul];omega)
 have HA4:Hid ((p.num*(q.den:Int)+q.num*(p.den:Int)).natAbs<10^(2*k+1)):=hid (by
  have h1:=HA1.out;have h2:=HA2.out;have h3:(10:Nat)^(2*k+1)=10^(2*k)*10:=Nat.pow_succ ..;have h4:=Int.natAbs_add_le (p.num*(q.den:Int)) (q.num*(p.den:Int))
  omega)
 have HA5:Hid (0<p.den*q.den):=hid (Nat.mul_pos HDP.out HDQ.out);have HPL:=hid (fun W (hW:Below w4.heap.size w4 W) va vb (h1:qcd W va (p.num*(q.den:Int))) (h2:qcd W vb (q.num*(p.den:Int)))=>q3r va vb _ _ w4 W hW h1 h2 (2*k) (by have:=HK.out;omega) HA1.out HA2.out);have HFR:=hid (fun W (hW:Below w4.heap.size w4 W) va vb (h1:qcd W va (p.num*(q.den:Int)+q.num*(p.den:Int))) (h2:qcd W vb ((p.den:Int)*(q.den:Int)))=>qiq va vb _ (p.den*q.den) w4 W hW h1 (by rw[Int.natCast_mul];exact h2) (2*k+1) (by have:=HK.out;omega) HA5.out HA4.out HA3.out);clear HA1 HA2 HA3 HA4 HA5 HSP HSQ HDP HDQ HK
 go_region_held3 (fun W=>W.cell? ⟨w1.heap.size,0,none⟩=some (.bool n1)∧W.cell? ⟨w1.heap.size,1,none⟩=some (.slice a1 b1 c1)∧W.cell? ⟨w1.heap.size+1,0,none⟩=some (.bool n2)∧W.cell? ⟨w1.heap.size+1,1,none⟩=some (.slice a2 b2 c2)∧W.cell? ⟨w3.heap.size,0,none⟩=some (.bool n3)∧W.cell? ⟨w3.heap.size,1,none⟩=some (.slice a3 b3 c3)∧W.cell? ⟨w3.heap.size+1,0,none⟩=some (.bool n4)∧W.cell? ⟨w3.heap.size+1,1,none⟩=some (.slice a4 b4 c4)) (first|with_reducible exact HS8.out _ HBF.out|with_reducible exact HS8.out _ HBZ.out|with_reducible exact HS8.out _ HBP.out|with_reducible exact HS8.out _ HBY.out|with_reducible exact HS8.out _ HBX.out|with_reducible exact HS8.out _ HW5.out)
  (first
   | (go_at_call 93;first
     | ((with_reducible refine(HTX.out _ HW5.out).mono ?_);rintro e wX ⟨⟨gX,iX,jX,lX,rfl,hv⟩,hb,hb2⟩;have HVX:=hid hv;have HBX:=hid hb;have HLX:=hid hb2;clear hv hb hb2)
     | ((with_reducible refine(HTY.out _ HBX.out).mono ?_);rintro e wY ⟨⟨gY,iY,jY,lY,rfl,hv⟩,hb,hb2⟩;have HVY:=hid hv;have HBY:=hid hb;have HLY:=hid hb2;clear hv hb hb2)
     | ((with_reducible refine(HTZ.out _ HBP.out).mono ?_);rintro e wZ ⟨⟨gZ,iZ,jZ,lZ,rfl,hv⟩,hb,hb2⟩;have HVZ:=hid hv;have HBZ:=hid hb;have HLZ:=hid hb2;clear hv hb hb2))
   | (go_at_call 92;(refine(HPL.out _ HBY.out _ _ (HVX.out.later HLY.out) HVY.out).mono ?_);rintro e wP ⟨⟨gP,iP,jP,lP,rfl,hv⟩,hb,hb2⟩;have HVP:=hid hv;have HBP:=hid hb;have HLP:=hid hb2;clear hv hb hb2)
   | (go_at_call 91;(refine(HFR.out _ HBZ.out _ _ (HVP.out.later HLZ.out) HVZ.out).mono ?_);rintro e wF ⟨rfl,hb⟩;have HBF:=hid hb;clear hb))
 have HB9:=hid (HB4.out.trans (HBF.out.mono HB4.out.size));go_wp2_with fail;go_ret;exact⟨congrArg (fun x=>Ending.returned (Value.string (rt x))) HDEF.out.symm,HB9.out⟩
theorem q3v(p q:Rat)(k:Nat)(w:World)(sp:sm p k)(sq:sm q k)(hk:k≤2000)(hp:qa6 p 9=true)(hq:qa6 q 9=false):
  Calls Tryz.prog 40 #[.string (rt p),.string (rt q)] w (qp7 (p+q) w):=by
 have z1:=qd8 sp;have z2:=qd8 sq;have HQP:=hid (fun W=>qf4 p W hp);have HQQ:=hid (fun W=>qkk q W (by omega) hq);have HPP:=hid (fun W=>qfw p W (by omega));have HPQ:=hid (fun W=>qfw q W (by omega));have HSP:=hid sp;have HSQ:=hid sq;have HDEF:=hid (Rat.add_def' p q);have HK:=hid hk;have HDP:=hid p.den_pos;have HDQ:=hid q.den_pos;clear sp sq z1 z2 hk hp hq;generalize rt p=tp at *;generalize rt q=tq at *;go_enter Tryz.func40,Tryz.ntmps40;go_wp2_with fail;refine(HQP.out _).mono ?_;rintro e w0 ⟨rfl,rfl⟩;go_wp2_with fail;refine(HQQ.out _).mono ?_;rintro e w0 ⟨rfl,rfl⟩;go_wp2_with fail;refine(HPP.out _).mono ?_;rintro e w1 ⟨⟨n1,a1,b1,c1,n2,a2,b2,c2,rfl,h1,h2⟩,hb⟩;have HX1:=hid h1;have HX2:=hid h2;have HB1:=hid hb;have HN1:=hid (qdr w1 n1 n2 (.slice a1 b1 c1) (.slice a2 b2 c2));clear h1 h2 hb HPP HQP HQQ;go_wp2_with fail;refine(HPQ.out _).mono ?_;rintro e w3 ⟨⟨n3,a3,b3,c3,n4,a4,b4,c4,rfl,h1,h2⟩,hb⟩;have HX3:=hid h1;have HX4:=hid h2;have HB3:=hid (HN1.out.1.trans (hb.mono HN1.out.1.size));have HN3:=hid (HN1.out.later hb);have HN4:=hid (qdr w3 n3 n4 (.slice a3 b3 c3) (.slice a4 b4 c4));clear h1 h2 hb HPQ HN1;go_wp2_with fail;generalize hw4:((w3.alloc (.cells #[.bool n3,.slice a3 b3 c3] 92)).alloc (.cells #[.bool n4,.slice a4 b4 c4] 92))=w4 at *;clear hw4;have HN5:=hid (HN3.out.later HN4.out.1);have HI1:=hid ((HX1.out.later HB3.out).later HN4.out.1);have HI2:=hid ((HX2.out.later HB3.out).later HN4.out.1);have HI3:=hid (HX3.out.later HN4.out.1);have HI4:=hid (HX4.out.later HN4.out.1);have HB4:=hid ((HB1.out.trans (HB3.out.mono HB1.out.size)).trans (HN4.out.1.mono (HB1.out.trans (HB3.out.mono HB1.out.size)).size))
 have HS8:Hid (∀W,Below w4.heap.size w4 W→W.cell? ⟨w1.heap.size,0,none⟩=some (.bool n1)∧W.cell? ⟨w1.heap.size,1,none⟩=some (.slice a1 b1 c1)∧W.cell? ⟨w1.heap.size+1,0,none⟩=some (.bool n2)∧W.cell? ⟨w1.heap.size+1,1,none⟩=some (.slice a2 b2 c2)∧W.cell? ⟨w3.heap.size,0,none⟩=some (.bool n3)∧W.cell? ⟨w3.heap.size,1,none⟩=some (.slice a3 b3 c3)∧W.cell? ⟨w3.heap.size+1,0,none⟩=some (.bool n4)∧W.cell? ⟨w3.heap.size+1,1,none⟩=some (.slice a4 b4 c4)):=hid fun W hW=>by
  obtain⟨r0,r1,r2,r3⟩:=qaz (HN5.out.later hW);obtain⟨r4,r5,r6,r7⟩:=qaz (HN4.out.later hW);exact⟨r0,r1,r2,r3,r4,r5,r6,r7⟩
 clear HX1 HX2 HX3 HX4 HB1 HB3 HN3 HN4 HN5;have HW5:Hid (Below w4.heap.size w4 w4.drew):=hid (Below.refl _ _).drew;have HTX:=hid (fun W (hW:Below w4.heap.size w4 W)=>qfx (.agg #[.bool n1,.slice a1 b1 c1]) (.agg #[.bool n4,.slice a4 b4 c4]) (p.num) ((q.den:Int)) w4 W hW HI1.out HI4.out k (by have:=HK.out;omega) HSP.out.1 (by rw[Int.natAbs_natCast];exact HSQ.out.2));have HTY:=hid (fun W (hW:Below w4.heap.size w4 W)=>qfx (.agg #[.bool n3,.slice a3 b3 c3]) (.agg #[.bool n2,.slice a2 b2 c2]) (q.num) ((p.den:Int)) w4 W hW HI3.out HI2.out k (by have:=HK.out;omega) HSQ.out.1 (by rw[Int.natAbs_natCast];exact HSP.out.2));have HTZ:=hid (fun W (hW:Below w4.heap.size w4 W)=>qfx (.agg #[.bool n2,.slice a2 b2 c2]) (.agg #[.bool n4,.slice a4 b4 c4]) ((p.den:Int)) ((q.den:Int)) w4 W hW HI2.out HI4.out k (by have:=HK.out;omega) (by rw[Int.natAbs_natCast];exact HSP.out.2) (by rw[Int.natAbs_natCast];exact HSQ.out.2));have HA1:Hid ((p.num*(q.den:Int)).natAbs<10^(2*k)):=hid (by have h:=qep HSP.out.1 HSQ.out.2;rw[Int.natAbs_mul,Int.natAbs_natCast,Nat.two_mul];exact h);have HA2:Hid ((q.num*(p.den:Int)).natAbs<10^(2*k)):=hid (by have h:=qep HSQ.out.1 HSP.out.2;rw[Int.natAbs_mul,Int.natAbs_natCast,Nat.two_mul];exact h);have HA3:Hid (p.den*q.den<10^(2*k+1)):=hid (by have h:=qep HSP.out.2 HSQ.out.2;rw[Nat.pow_succ,Nat.two_mul];omega)
 have HA4:Hid ((p.num*(q.den:Int)+q.num*(p.den:Int)).natAbs<10^(2*k+1)):=hid (by
  have h1:=HA1.out;have h2:=HA2.out;have h3:(10:Nat)^(2*k+1)=10^(2*k)*10:=Nat.pow_succ ..;have h4:=Int.natAbs_add_le (p.num*(q.den:Int)) (q.num*(p.den:Int))
  omega)
 have HA5:Hid (0<p.den*q.den):=hid (Nat.mul_pos HDP.out HDQ.out);have HPL:=hid (fun W (hW:Below w4.heap.size w4 W) va vb (h1:qcd W va (p.num*(q.den:Int))) (h2:qcd W vb (q.num*(p.den:Int)))=>q3r va vb _ _ w4 W hW h1 h2 (2*k) (by have:=HK.out;omega) HA1.out HA2.out);have HFR:=hid (fun W (hW:Below w4.heap.size w4 W) va vb (h1:qcd W va (p.num*(q.den:Int)+q.num*(p.den:Int))) (h2:qcd W vb ((p.den:Int)*(q.den:Int)))=>qiq va vb _ (p.den*q.den) w4 W hW h1 (by rw[Int.natCast_mul];exact h2) (2*k+1) (by have:=HK.out;omega) HA5.out HA4.out HA3.out);clear HA1 HA2 HA3 HA4 HA5 HSP HSQ HDP HDQ HK
 go_region_held3 (fun W=>W.cell? ⟨w1.heap.size,0,none⟩=some (.bool n1)∧W.cell? ⟨w1.heap.size,1,none⟩=some (.slice a1 b1 c1)∧W.cell? ⟨w1.heap.size+1,0,none⟩=some (.bool n2)∧W.cell? ⟨w1.heap.size+1,1,none⟩=some (.slice a2 b2 c2)∧W.cell? ⟨w3.heap.size,0,none⟩=some (.bool n3)∧W.cell? ⟨w3.heap.size,1,none⟩=some (.slice a3 b3 c3)∧W.cell? ⟨w3.heap.size+1,0,none⟩=some (.bool n4)∧W.cell? ⟨w3.heap.size+1,1,none⟩=some (.slice a4 b4 c4)) (first|with_reducible exact HS8.out _ HBF.out|with_reducible exact HS8.out _ HBZ.out|with_reducible exact HS8.out _ HBP.out|with_reducible exact HS8.out _ HBY.out|with_reducible exact HS8.out _ HBX.out|with_reducible exact HS8.out _ HW5.out)
  (first
   | (go_at_call 93;first
     | ((with_reducible refine(HTX.out _ HW5.out).mono ?_);rintro e wX ⟨⟨gX,iX,jX,lX,rfl,hv⟩,hb,hb2⟩;have HVX:=hid hv;have HBX:=hid hb;have HLX:=hid hb2;clear hv hb hb2)
     | ((with_reducible refine(HTY.out _ HBX.out).mono ?_);rintro e wY ⟨⟨gY,iY,jY,lY,rfl,hv⟩,hb,hb2⟩;have HVY:=hid hv;have HBY:=hid hb;have HLY:=hid hb2;clear hv hb hb2)
     | ((with_reducible refine(HTZ.out _ HBP.out).mono ?_);rintro e wZ ⟨⟨gZ,iZ,jZ,lZ,rfl,hv⟩,hb,hb2⟩;have HVZ:=hid hv;have HBZ:=hid hb;have HLZ:=hid hb2;clear hv hb hb2))
   | (go_at_call 92;(refine(HPL.out _ HBY.out _ _ (HVX.out.later HLY.out) HVY.out).mono ?_);rintro e wP ⟨⟨gP,iP,jP,lP,rfl,hv⟩,hb,hb2⟩;have HVP:=hid hv;have HBP:=hid hb;have HLP:=hid hb2;clear hv hb hb2)
   | (go_at_call 91;(refine(HFR.out _ HBZ.out _ _ (HVP.out.later HLZ.out) HVZ.out).mono ?_);rintro e wF ⟨rfl,hb⟩;have HBF:=hid hb;clear hb))
 have HB9:=hid (HB4.out.trans (HBF.out.mono HB4.out.size));go_wp2_with fail;go_ret;exact⟨congrArg (fun x=>Ending.returned (Value.string (rt x))) HDEF.out.symm,HB9.out⟩
theorem qr9(p q:Rat)(k:Nat)(w:World)(sp:sm p k)(sq:sm q k)(hk:k≤2000):
  Calls Tryz.prog 40 #[.string (rt p),.string (rt q)] w (qp7 (p+q) w):=by
 by_cases hp:qa6 p 9=true
 ·by_cases hq:qa6 q 9=true
  ·exact q3s p q w hp hq
  ·exact q3v p q k w sp sq hk hp (by simpa using hq)
 ·exact q3u p q k w sp sq hk (by simpa using hp)
theorem q3w(p q:Rat)(k:Nat)(w:World)(sp:sm p k)(sq:sm q k)(hk:k≤2000)(hp:qa6 p 9=false):
  Calls Tryz.prog 42 #[.string (rt p),.string (rt q)] w (qp7 (p*q) w):=by
 have z1:=qd8 sp;have z2:=qd8 sq;have HQP:=hid (fun W=>qkk p W (by omega) hp)
 have HQQ:Hid (∀W,Calls Tryz.prog 89 #[.string (rt q)] W fun e w'=>(∃x y b,e = .returned (.tuple #[.int .i64 x,.int .i64 y,.bool b]))∧w'=W):=hid fun W=>by
  by_cases hf:qa6 q 9=true
  ·exact(qf4 q W hf).mono fun _ _ ⟨h1,h2⟩=>⟨⟨_,_,_,h1⟩,h2⟩
  ·exact(qkk q W (by omega) (by simpa using hf)).mono fun _ _ ⟨h1,h2⟩=>⟨⟨_,_,_,h1⟩,h2⟩
 have HPP:=hid (fun W=>qfw p W (by omega));have HPQ:=hid (fun W=>qfw q W (by omega));have HSP:=hid sp;have HSQ:=hid sq;have HDEF:=hid (Rat.mul_def' p q);have HK:=hid hk;have HDP:=hid p.den_pos;have HDQ:=hid q.den_pos;clear sp sq z1 z2 hk hp;generalize rt p=tp at *;generalize rt q=tq at *;go_enter Tryz.func42,Tryz.ntmps42;go_wp2_with fail;refine(HQP.out _).mono ?_;rintro e w0 ⟨rfl,rfl⟩;go_wp2_with fail;refine(HQQ.out _).mono ?_;rintro e w0 ⟨⟨x9,y9,b9,rfl⟩,rfl⟩;go_wp2_with fail;refine(HPP.out _).mono ?_;rintro e w1 ⟨⟨n1,a1,b1,c1,n2,a2,b2,c2,rfl,h1,h2⟩,hb⟩;have HX1:=hid h1;have HX2:=hid h2;have HB1:=hid hb;have HN1:=hid (qdr w1 n1 n2 (.slice a1 b1 c1) (.slice a2 b2 c2));clear h1 h2 hb HPP HQP HQQ;go_wp2_with fail;refine(HPQ.out _).mono ?_;rintro e w3 ⟨⟨n3,a3,b3,c3,n4,a4,b4,c4,rfl,h1,h2⟩,hb⟩;have HX3:=hid h1;have HX4:=hid h2;have HB3:=hid (HN1.out.1.trans (hb.mono HN1.out.1.size));have HN3:=hid (HN1.out.later hb);have HN4:=hid (qdr w3 n3 n4 (.slice a3 b3 c3) (.slice a4 b4 c4));clear h1 h2 hb HPQ HN1;go_wp2_with fail;generalize hw4:((w3.alloc (.cells #[.bool n3,.slice a3 b3 c3] 92)).alloc (.cells #[.bool n4,.slice a4 b4 c4] 92))=w4 at *;clear hw4;have HN5:=hid (HN3.out.later HN4.out.1);have HI1:=hid ((HX1.out.later HB3.out).later HN4.out.1);have HI2:=hid ((HX2.out.later HB3.out).later HN4.out.1);have HI3:=hid (HX3.out.later HN4.out.1);have HI4:=hid (HX4.out.later HN4.out.1);have HB4:=hid ((HB1.out.trans (HB3.out.mono HB1.out.size)).trans (HN4.out.1.mono (HB1.out.trans (HB3.out.mono HB1.out.size)).size))
 have HS8:Hid (∀W,Below w4.heap.size w4 W→W.cell? ⟨w1.heap.size,0,none⟩=some (.bool n1)∧W.cell? ⟨w1.heap.size,1,none⟩=some (.slice a1 b1 c1)∧W.cell? ⟨w1.heap.size+1,0,none⟩=some (.bool n2)∧W.cell? ⟨w1.heap.size+1,1,none⟩=some (.slice a2 b2 c2)∧W.cell? ⟨w3.heap.size,0,none⟩=some (.bool n3)∧W.cell? ⟨w3.heap.size,1,none⟩=some (.slice a3 b3 c3)∧W.cell? ⟨w3.heap.size+1,0,none⟩=some (.bool n4)∧W.cell? ⟨w3.heap.size+1,1,none⟩=some (.slice a4 b4 c4)):=hid fun W hW=>by
  obtain⟨r0,r1,r2,r3⟩:=qaz (HN5.out.later hW);obtain⟨r4,r5,r6,r7⟩:=qaz (HN4.out.later hW);exact⟨r0,r1,r2,r3,r4,r5,r6,r7⟩
 clear HX1 HX2 HX3 HX4 HB1 HB3 HN3 HN4 HN5;have HW5:Hid (Below w4.heap.size w4 w4.drew):=hid (Below.refl _ _).drew;have HTX:=hid (fun W (hW:Below w4.heap.size w4 W)=>qfx (.agg #[.bool n1,.slice a1 b1 c1]) (.agg #[.bool n3,.slice a3 b3 c3]) (p.num) (q.num) w4 W hW HI1.out HI3.out k (by have:=HK.out;omega) HSP.out.1 HSQ.out.1);have HTY:=hid (fun W (hW:Below w4.heap.size w4 W)=>qfx (.agg #[.bool n2,.slice a2 b2 c2]) (.agg #[.bool n4,.slice a4 b4 c4]) ((p.den:Int)) ((q.den:Int)) w4 W hW HI2.out HI4.out k (by have:=HK.out;omega) (by rw[Int.natAbs_natCast];exact HSP.out.2) (by rw[Int.natAbs_natCast];exact HSQ.out.2));have HA1:Hid ((p.num*q.num).natAbs<10^(2*k)):=hid (by have h:=qep HSP.out.1 HSQ.out.1;rw[Int.natAbs_mul,Nat.two_mul];exact h);have HA3:Hid (p.den*q.den<10^(2*k)):=hid (by have h:=qep HSP.out.2 HSQ.out.2;rw[Nat.two_mul];exact h);have HA5:Hid (0<p.den*q.den):=hid (Nat.mul_pos HDP.out HDQ.out);have HFR:=hid (fun W (hW:Below w4.heap.size w4 W) va vb (h1:qcd W va (p.num*q.num)) (h2:qcd W vb ((p.den:Int)*(q.den:Int)))=>qiq va vb _ (p.den*q.den) w4 W hW h1 (by rw[Int.natCast_mul];exact h2) (2*k) (by have:=HK.out;omega) HA5.out HA1.out HA3.out);clear HA1 HA3 HA5 HSP HSQ HDP HDQ HK
 go_region_held3 (fun W=>W.cell? ⟨w1.heap.size,0,none⟩=some (.bool n1)∧W.cell? ⟨w1.heap.size,1,none⟩=some (.slice a1 b1 c1)∧W.cell? ⟨w1.heap.size+1,0,none⟩=some (.bool n2)∧W.cell? ⟨w1.heap.size+1,1,none⟩=some (.slice a2 b2 c2)∧W.cell? ⟨w3.heap.size,0,none⟩=some (.bool n3)∧W.cell? ⟨w3.heap.size,1,none⟩=some (.slice a3 b3 c3)∧W.cell? ⟨w3.heap.size+1,0,none⟩=some (.bool n4)∧W.cell? ⟨w3.heap.size+1,1,none⟩=some (.slice a4 b4 c4)) (first|with_reducible exact HS8.out _ HBF.out|with_reducible exact HS8.out _ HBZ.out|with_reducible exact HS8.out _ HBP.out|with_reducible exact HS8.out _ HBY.out|with_reducible exact HS8.out _ HBX.out|with_reducible exact HS8.out _ HW5.out)
  (first
   | (go_at_call 93;first
     | ((with_reducible refine(HTX.out _ HW5.out).mono ?_);rintro e wX ⟨⟨gX,iX,jX,lX,rfl,hv⟩,hb,hb2⟩;have HVX:=hid hv;have HBX:=hid hb;have HLX:=hid hb2;clear hv hb hb2)
     | ((with_reducible refine(HTY.out _ HBX.out).mono ?_);rintro e wY ⟨⟨gY,iY,jY,lY,rfl,hv⟩,hb,hb2⟩;have HVY:=hid hv;have HBY:=hid hb;have HLY:=hid hb2;clear hv hb hb2))
   | (go_at_call 91;(refine(HFR.out _ HBY.out _ _ (HVX.out.later HLY.out) HVY.out).mono ?_);rintro e wF ⟨rfl,hb⟩;have HBF:=hid hb;clear hb))
 have HB9:=hid (HB4.out.trans (HBF.out.mono HB4.out.size));go_wp2_with fail;go_ret;exact⟨congrArg (fun x=>Ending.returned (Value.string (rt x))) HDEF.out.symm,HB9.out⟩
theorem q3x(p q:Rat)(k:Nat)(w:World)(sp:sm p k)(sq:sm q k)(hk:k≤2000)(hp:qa6 p 9=true)(hq:qa6 q 9=false):
  Calls Tryz.prog 42 #[.string (rt p),.string (rt q)] w (qp7 (p*q) w):=by
 have z1:=qd8 sp;have z2:=qd8 sq;have HQP:=hid (fun W=>qf4 p W hp);have HQQ:=hid (fun W=>qkk q W (by omega) hq);have HPP:=hid (fun W=>qfw p W (by omega));have HPQ:=hid (fun W=>qfw q W (by omega));have HSP:=hid sp;have HSQ:=hid sq;have HDEF:=hid (Rat.mul_def' p q);have HK:=hid hk;have HDP:=hid p.den_pos;have HDQ:=hid q.den_pos;clear sp sq z1 z2 hk hp hq;generalize rt p=tp at *;generalize rt q=tq at *;go_enter Tryz.func42,Tryz.ntmps42;go_wp2_with fail;refine(HQP.out _).mono ?_;rintro e w0 ⟨rfl,rfl⟩;go_wp2_with fail;refine(HQQ.out _).mono ?_;rintro e w0 ⟨rfl,rfl⟩;go_wp2_with fail;refine(HPP.out _).mono ?_;rintro e w1 ⟨⟨n1,a1,b1,c1,n2,a2,b2,c2,rfl,h1,h2⟩,hb⟩;have HX1:=hid h1;have HX2:=hid h2;have HB1:=hid hb;have HN1:=hid (qdr w1 n1 n2 (.slice a1 b1 c1) (.slice a2 b2 c2));clear h1 h2 hb HPP HQP HQQ;go_wp2_with fail;refine(HPQ.out _).mono ?_;rintro e w3 ⟨⟨n3,a3,b3,c3,n4,a4,b4,c4,rfl,h1,h2⟩,hb⟩;have HX3:=hid h1;have HX4:=hid h2;have HB3:=hid (HN1.out.1.trans (hb.mono HN1.out.1.size));have HN3:=hid (HN1.out.later hb);have HN4:=hid (qdr w3 n3 n4 (.slice a3 b3 c3) (.slice a4 b4 c4));clear h1 h2 hb HPQ HN1;go_wp2_with fail;generalize hw4:((w3.alloc (.cells #[.bool n3,.slice a3 b3 c3] 92)).alloc (.cells #[.bool n4,.slice a4 b4 c4] 92))=w4 at *;clear hw4;have HN5:=hid (HN3.out.later HN4.out.1);have HI1:=hid ((HX1.out.later HB3.out).later HN4.out.1);have HI2:=hid ((HX2.out.later HB3.out).later HN4.out.1);have HI3:=hid (HX3.out.later HN4.out.1);have HI4:=hid (HX4.out.later HN4.out.1);have HB4:=hid ((HB1.out.trans (HB3.out.mono HB1.out.size)).trans (HN4.out.1.mono (HB1.out.trans (HB3.out.mono HB1.out.size)).size))
 have HS8:Hid (∀W,Below w4.heap.size w4 W→W.cell? ⟨w1.heap.size,0,none⟩=some (.bool n1)∧W.cell? ⟨w1.heap.size,1,none⟩=some (.slice a1 b1 c1)∧W.cell? ⟨w1.heap.size+1,0,none⟩=some (.bool n2)∧W.cell? ⟨w1.heap.size+1,1,none⟩=some (.slice a2 b2 c2)∧W.cell? ⟨w3.heap.size,0,none⟩=some (.bool n3)∧W.cell? ⟨w3.heap.size,1,none⟩=some (.slice a3 b3 c3)∧W.cell? ⟨w3.heap.size+1,0,none⟩=some (.bool n4)∧W.cell? ⟨w3.heap.size+1,1,none⟩=some (.slice a4 b4 c4)):=hid fun W hW=>by
  obtain⟨r0,r1,r2,r3⟩:=qaz (HN5.out.later hW);obtain⟨r4,r5,r6,r7⟩:=qaz (HN4.out.later hW);exact⟨r0,r1,r2,r3,r4,r5,r6,r7⟩
 clear HX1 HX2 HX3 HX4 HB1 HB3 HN3 HN4 HN5;have HW5:Hid (Below w4.heap.size w4 w4.drew):=hid (Below.refl _ _).drew;have HTX:=hid (fun W (hW:Below w4.heap.size w4 W)=>qfx (.agg #[.bool n1,.slice a1 b1 c1]) (.agg #[.bool n3,.slice a3 b3 c3]) (p.num) (q.num) w4 W hW HI1.out HI3.out k (by have:=HK.out;omega) HSP.out.1 HSQ.out.1);have HTY:=hid (fun W (hW:Below w4.heap.size w4 W)=>qfx (.agg #[.bool n2,.slice a2 b2 c2]) (.agg #[.bool n4,.slice a4 b4 c4]) ((p.den:Int)) ((q.den:Int)) w4 W hW HI2.out HI4.out k (by have:=HK.out;omega) (by rw[Int.natAbs_natCast];exact HSP.out.2) (by rw[Int.natAbs_natCast];exact HSQ.out.2));have HA1:Hid ((p.num*q.num).natAbs<10^(2*k)):=hid (by have h:=qep HSP.out.1 HSQ.out.1;rw[Int.natAbs_mul,Nat.two_mul];exact h);have HA3:Hid (p.den*q.den<10^(2*k)):=hid (by have h:=qep HSP.out.2 HSQ.out.2;rw[Nat.two_mul];exact h);have HA5:Hid (0<p.den*q.den):=hid (Nat.mul_pos HDP.out HDQ.out);have HFR:=hid (fun W (hW:Below w4.heap.size w4 W) va vb (h1:qcd W va (p.num*q.num)) (h2:qcd W vb ((p.den:Int)*(q.den:Int)))=>qiq va vb _ (p.den*q.den) w4 W hW h1 (by rw[Int.natCast_mul];exact h2) (2*k) (by have:=HK.out;omega) HA5.out HA1.out HA3.out);clear HA1 HA3 HA5 HSP HSQ HDP HDQ HK
 go_region_held3 (fun W=>W.cell? ⟨w1.heap.size,0,none⟩=some (.bool n1)∧W.cell? ⟨w1.heap.size,1,none⟩=some (.slice a1 b1 c1)∧W.cell? ⟨w1.heap.size+1,0,none⟩=some (.bool n2)∧W.cell? ⟨w1.heap.size+1,1,none⟩=some (.slice a2 b2 c2)∧W.cell? ⟨w3.heap.size,0,none⟩=some (.bool n3)∧W.cell? ⟨w3.heap.size,1,none⟩=some (.slice a3 b3 c3)∧W.cell? ⟨w3.heap.size+1,0,none⟩=some (.bool n4)∧W.cell? ⟨w3.heap.size+1,1,none⟩=some (.slice a4 b4 c4)) (first|with_reducible exact HS8.out _ HBF.out|with_reducible exact HS8.out _ HBZ.out|with_reducible exact HS8.out _ HBP.out|with_reducible exact HS8.out _ HBY.out|with_reducible exact HS8.out _ HBX.out|with_reducible exact HS8.out _ HW5.out)
  (first
   | (go_at_call 93;first
     | ((with_reducible refine(HTX.out _ HW5.out).mono ?_);rintro e wX ⟨⟨gX,iX,jX,lX,rfl,hv⟩,hb,hb2⟩;have HVX:=hid hv;have HBX:=hid hb;have HLX:=hid hb2;clear hv hb hb2)
     | ((with_reducible refine(HTY.out _ HBX.out).mono ?_);rintro e wY ⟨⟨gY,iY,jY,lY,rfl,hv⟩,hb,hb2⟩;have HVY:=hid hv;have HBY:=hid hb;have HLY:=hid hb2;clear hv hb hb2))
   | (go_at_call 91;(refine(HFR.out _ HBY.out _ _ (HVX.out.later HLY.out) HVY.out).mono ?_);rintro e wF ⟨rfl,hb⟩;have HBF:=hid hb;clear hb))
 have HB9:=hid (HB4.out.trans (HBF.out.mono HB4.out.size));go_wp2_with fail;go_ret;exact⟨congrArg (fun x=>Ending.returned (Value.string (rt x))) HDEF.out.symm,HB9.out⟩
theorem qh4(p q:Rat)(k:Nat)(w:World)(sp:sm p k)(sq:sm q k)(hk:k≤2000):
  Calls Tryz.prog 42 #[.string (rt p),.string (rt q)] w (qp7 (p*q) w):=by
 by_cases hp:qa6 p 9=true
 ·by_cases hq:qa6 q 9=true
  ·exact q3t p q w hp hq
  ·exact q3x p q k w sp sq hk hp (by simpa using hq)
 ·exact q3w p q k w sp sq hk (by simpa using hp)
theorem qp9(p q:Rat)(k:Nat)(w:World)(sp:sm p k)(sq:sm q k)(hk:k≤2000):
  Calls Tryz.prog 41 #[.string (rt p),.string (rt q)] w (qp7 (p-q) w):=by
 have z2:=qd8 sq;have HN:=hid (fun W=>zal q W (by omega));have HA:=hid (fun W=>qr9 p (-q) k W sp (q7s sq) hk);rw[←Rat.sub_eq_add_neg] at HA;clear sp sq z2 hk;generalize rt p=tp at *;generalize rt q=tq at *;generalize rt (-q)=tn at *;go_enter Tryz.func41,Tryz.ntmps41;go_wp2_with fail;refine(HN.out _).mono ?_;rintro e w1 ⟨rfl,rfl⟩;go_wp2_with fail;refine(HA.out _).mono ?_;rintro e w2 ⟨rfl,hb⟩;have HB:=hid hb;clear hb HA HN;go_wp2_with fail;go_ret;exact⟨rfl,HB.out⟩
theorem q7u(p q:Rat)(k:Nat)(w:World)(sp:sm p k)(sq:sm q k)(hk:k≤2000):
  Calls Tryz.prog 37 #[.string (rt p),.string (rt q)] w fun e w'=>e = .returned (.int .i64 (sgn (p-q)))∧Below w.heap.size w w':=by
 have HA:=hid (fun W=>qp9 p q k W sp sq hk);have HS:=hid (fun W=>qfc (p-q) _ rfl W);clear sp sq hk;generalize sgn (p-q)=z at *;unfold qp7 at HA;generalize rt (p-q)=td at *;generalize rt p=tp at *;generalize rt q=tq at *;go_enter Tryz.func37,Tryz.ntmps37;go_wp2_with fail;refine(HA.out _).mono ?_;rintro e w1 ⟨rfl,hb⟩;have HB:=hid hb;clear hb HA;go_wp2_with fail;refine(HS.out _).mono ?_;rintro e w2 ⟨rfl,rfl⟩;go_wp2_with fail;go_ret;exact⟨rfl,HB.out⟩
theorem qu7(q:Rat)(k:Nat)(sq:sm q k)(hk:k≤2000)(h0:q.num≠0)(W:World)(va vb:Value)(ha:qcd W va (q.den:Int))(hb:qcd W vb q.num):
  Calls Tryz.prog 91 #[va,vb] W fun e w'=>e = .returned (.string (rt q⁻¹))∧Below W.heap.size W w':=by
 rcases Int.lt_or_le q.num 0 with h|h
 ·have e1:q.num = -(q.num.natAbs:Int):=by omega
  rw[e1] at hb;have h1:=qta va vb (q.den:Int) q.num.natAbs W ha hb (by omega) (by rw[Int.natAbs_natCast];exact qdg sq.2 (by omega)) (qdg sq.1 (by omega));rw[←qyt h] at h1;exact h1.mono fun _ _ ⟨⟨t,he,h2⟩,h3⟩=>⟨by rw[he,q3j h2],h3⟩
 ·have e1:q.num=(q.num.natAbs:Int):=by omega
  rw[e1] at hb;have h1:=qmi va vb (q.den:Int) q.num.natAbs W ha hb (by omega) (by rw[Int.natAbs_natCast];exact qdg sq.2 (by omega)) (qdg sq.1 (by omega));rw[←qys (by omega)] at h1;exact h1.mono fun _ _ ⟨⟨t,he,h2⟩,h3⟩=>⟨by rw[he,q3j h2],h3⟩
theorem q6m(q:Rat)(k:Nat)(w:World)(sq:sm q k)(hk:k≤2000)(h0:q.num≠0):
  Calls Tryz.prog 108 #[.string (rt q)] w (qp7 q⁻¹ w):=by
 have z2:=qd8 sq;have HPP:=hid (fun W=>qfw q W (by omega));have HF:=hid (qu7 q k sq hk h0);clear sq z2 hk h0;generalize rt q=tq at *;go_enter Tryz.func108,Tryz.ntmps108;go_wp2_with fail;refine(HPP.out _).mono ?_;rintro e w1 ⟨⟨n1,a1,b1,c1,n2,a2,b2,c2,rfl,h1,h2⟩,hb⟩;have HN1:=hid (qdr w1 n1 n2 (.slice a1 b1 c1) (.slice a2 b2 c2));have HX1:=hid (h1.later HN1.out.1);have HX2:=hid (h2.later HN1.out.1);have HB1:=hid (hb.trans (HN1.out.1.mono hb.size));clear h1 h2 hb HPP;go_wp2_with fail;refine(HF.out _ _ _ HX2.out HX1.out).mono ?_;rintro e w3 ⟨rfl,hb⟩;have HB3:=hid (HB1.out.trans (hb.mono HB1.out.size));clear hb HF HX1 HX2 HB1 HN1;go_wp2_with fail;go_ret;exact⟨rfl,HB3.out⟩
theorem qyw(p q:Rat)(k:Nat)(w:World)(sp:sm p k)(sq:sm q k)(hk:k≤2000)(h0:q.num≠0):
  Calls Tryz.prog 55 #[.string (rt p),.string (rt q)] w (qp7 (p/q) w):=by
 have HN:=hid (fun W=>q6m q k W sq hk h0);have HA:=hid (fun W=>qh4 p q⁻¹ k W sp (q7t sq h0) hk);rw[←Rat.div_def] at HA;clear sp sq hk h0;unfold qp7 at HN;generalize rt p=tp at *;generalize rt q⁻¹ = tn at *;generalize rt q=tq at *;go_enter Tryz.func55,Tryz.ntmps55;go_wp2_with fail;refine(HN.out _).mono ?_;rintro e w1 ⟨rfl,hb⟩;have HB1:=hid hb;clear hb HN;go_wp2_with fail;refine(HA.out _).mono ?_;rintro e w2 ⟨rfl,hb⟩;have HB:=hid (HB1.out.trans (hb.mono HB1.out.size));clear hb HA;go_wp2_with fail;go_ret;exact⟨rfl,HB.out⟩
theorem qu8(va vb:Value)(q:Rat)(w:World)(ha:qcd w va q.num)(hb:qcd w vb (q.den:Int))(hl:dl q.num.natAbs≤900)(hneg:¬q.num<0):
  Calls Tryz.prog 110 #[va,vb] w fun e w'=>(∃v,e = .returned v∧qcd w' v q.floor)∧Below w.heap.size w w':=by
 obtain⟨pa,ka,ca,rfl,hka,hda⟩:=ha.parts;obtain⟨pb,kb,cb,rfl,hdb⟩:=hb.partsN;have HFL:Hid (q.floor=((q.num.natAbs/q.den:Nat):Int)):=hid (by have h:=qjg q hneg;omega);have HDL:Hid (dl (q.num.natAbs/q.den)≤900):=hid (Nat.le_trans (qjq (Nat.div_le_self _ _)) hl)
 have HDIV:Hid (∀W,Below w.heap.size w W→Calls Tryz.prog 107 #[.slice pa ka ca,.slice pb kb cb] W fun e w'=>(∃p1 k1 c1 p2 k2 c2,e = .returned (.tuple #[.slice p1 k1 c1,.slice p2 k2 c2])∧k2=dl (q.num.natAbs % q.den)∧DN w' (.slice p1 k1 c1) (q.num.natAbs/q.den))∧Below W.heap.size W w'):=hid fun W hW=>
  (qha _ _ _ _ W (hda.later hW) (hdb.later hW) q.den_pos hl).mono fun _ _ ⟨⟨vq,vr,he,h1,h2⟩,h3⟩=>by
   obtain⟨p1,k1,c1,rfl,_⟩:=qc7 h1;obtain⟨p2,k2,c2,rfl,hk2⟩:=qc7 h2;exact⟨⟨p1,k1,c1,p2,k2,c2,he,hk2,h1⟩,h3⟩
 have hsa:decide (q.num<0)=false:=by simpa using hneg
 rw[hsa];have HW0:=hid (qjt w false (.slice pa ka ca) false (.slice pb kb cb));obtain⟨d0,d1,d2,d3⟩:=qa1 HW0.out;clear ha hb hka hda hdb hsa hl;go_enter Tryz.func110,Tryz.ntmps110;go_wp2_with fail;generalize ((w.alloc (.cells #[.bool false,.slice pa ka ca] 92)).alloc (.cells #[.bool false,.slice pb kb cb] 92)).alloc (.cells #[.bool false,.slice none 0 0] 92)=w0 at *;refine(HDIV.out _ HW0.out.1).mono ?_;rintro e w1 ⟨⟨p1,k1,c1,p2,k2,c2,rfl,hk,hq⟩,hb1⟩;have HQ:=hid hq;have HT1:=hid (HW0.out.later hb1);clear d0 d1 d2 d3 hb1 hq HDIV HW0 hk;obtain⟨d0,d1,d2,d3⟩:=qa1 HT1.out;have HT3:=HT1;have HSG:=hid (qfo false _ _ w1 HQ.out);rw[if_neg (by decide),qak _ _ qa0,←HFL.out] at HSG;go_wp2_with fail;refine HSG.out.mono ?_;rintro e w2 ⟨⟨v,rfl,hv⟩,hb⟩;have ht:=HT3.out.later hb;obtain⟨p,k,c,rfl,hkk,hdd⟩:=hv.parts;have HFIN:=hid (qcv hv ht.2.2.2);have HBEL:=hid (qdq ht.1 (show w.heap.size≤w.heap.size+1+1 by omega) (.bool (decide (q.floor<0))) (.slice p k c));obtain⟨⟨r0,g0⟩,r1,g1⟩:=qlj ht;clear hv hb ht hkk hdd HSG HQ;generalize decide (q.floor<0)=sg at *;go_wp2_with fail;refine bodyPost_ret (v := .agg #[.bool sg,.slice p k c]) ?_ rfl ?_
 ·simp[results,Tryz.results110,go_sem,r0,r1]
 ·exact⟨⟨_,rfl,HFIN.out⟩,HBEL.out⟩
theorem qra(va vb:Value)(q:Rat)(w:World)(ha:qcd w va q.num)(hb:qcd w vb (q.den:Int))(hl:dl q.num.natAbs≤900)(hneg:q.num<0)(hrem:q.num.natAbs % q.den=0):
  Calls Tryz.prog 110 #[va,vb] w fun e w'=>(∃v,e = .returned v∧qcd w' v q.floor)∧Below w.heap.size w w':=by
 obtain⟨pa,ka,ca,rfl,hka,hda⟩:=ha.parts;obtain⟨pb,kb,cb,rfl,hdb⟩:=hb.partsN;have HFL:Hid (q.floor = -((q.num.natAbs/q.den:Nat):Int)):=hid (by have h:=qhr q hneg;rw[if_pos hrem] at h;omega);have HDL:Hid (dl (q.num.natAbs/q.den)≤900):=hid (Nat.le_trans (qjq (Nat.div_le_self _ _)) hl)
 have HDIV:Hid (∀W,Below w.heap.size w W→Calls Tryz.prog 107 #[.slice pa ka ca,.slice pb kb cb] W fun e w'=>(∃p1 k1 c1 p2 k2 c2,e = .returned (.tuple #[.slice p1 k1 c1,.slice p2 k2 c2])∧k2=dl (q.num.natAbs % q.den)∧DN w' (.slice p1 k1 c1) (q.num.natAbs/q.den))∧Below W.heap.size W w'):=hid fun W hW=>
  (qha _ _ _ _ W (hda.later hW) (hdb.later hW) q.den_pos hl).mono fun _ _ ⟨⟨vq,vr,he,h1,h2⟩,h3⟩=>by
   obtain⟨p1,k1,c1,rfl,_⟩:=qc7 h1;obtain⟨p2,k2,c2,rfl,hk2⟩:=qc7 h2;exact⟨⟨p1,k1,c1,p2,k2,c2,he,hk2,h1⟩,h3⟩
 have hsa:decide (q.num<0)=true:=by simpa using hneg
 rw[hsa];have HW0:=hid (qjt w true (.slice pa ka ca) false (.slice pb kb cb));obtain⟨d0,d1,d2,d3⟩:=qa1 HW0.out;clear ha hb hka hda hdb hsa hl;go_enter Tryz.func110,Tryz.ntmps110;go_wp2_with fail;generalize ((w.alloc (.cells #[.bool true,.slice pa ka ca] 92)).alloc (.cells #[.bool false,.slice pb kb cb] 92)).alloc (.cells #[.bool false,.slice none 0 0] 92)=w0 at *;refine(HDIV.out _ HW0.out.1).mono ?_;rintro e w1 ⟨⟨p1,k1,c1,p2,k2,c2,rfl,hk,hq⟩,hb1⟩;have HQ:=hid hq;have HT1:=hid (HW0.out.later hb1);have hk2:k2=0:=by rw[hk,hrem];exact qw1
 subst hk2;clear d0 d1 d2 d3 hb1 hq HDIV HW0 hk;obtain⟨d0,d1,d2,d3⟩:=qa1 HT1.out;have HT3:=HT1;have HSG:=hid (qfo true _ _ w1 HQ.out);rw[if_pos rfl,qak _ _ qa0,←HFL.out] at HSG;go_wp2_with fail;refine HSG.out.mono ?_;rintro e w2 ⟨⟨v,rfl,hv⟩,hb⟩;have ht:=HT3.out.later hb;obtain⟨p,k,c,rfl,hkk,hdd⟩:=hv.parts;have HFIN:=hid (qcv hv ht.2.2.2);have HBEL:=hid (qdq ht.1 (show w.heap.size≤w.heap.size+1+1 by omega) (.bool (decide (q.floor<0))) (.slice p k c));obtain⟨⟨r0,g0⟩,r1,g1⟩:=qlj ht;clear hv hb ht hkk hdd HSG HQ;generalize decide (q.floor<0)=sg at *;go_wp2_with fail;refine bodyPost_ret (v := .agg #[.bool sg,.slice p k c]) ?_ rfl ?_
 ·simp[results,Tryz.results110,go_sem,r0,r1]
 ·exact⟨⟨_,rfl,HFIN.out⟩,HBEL.out⟩
theorem qu9(va vb:Value)(q:Rat)(w:World)(ha:qcd w va q.num)(hb:qcd w vb (q.den:Int))(hl:dl q.num.natAbs≤900)(hneg:q.num<0)(hrem:q.num.natAbs % q.den≠0):
  Calls Tryz.prog 110 #[va,vb] w fun e w'=>(∃v,e = .returned v∧qcd w' v q.floor)∧Below w.heap.size w w':=by
 obtain⟨pa,ka,ca,rfl,hka,hda⟩:=ha.parts;obtain⟨pb,kb,cb,rfl,hdb⟩:=hb.partsN;have HFL:Hid (q.floor = -((q.num.natAbs/q.den+1:Nat):Int)):=hid (by have h:=qhr q hneg;rw[if_neg hrem] at h;omega);have HDL:Hid (dl (q.num.natAbs/q.den)≤900):=hid (Nat.le_trans (qjq (Nat.div_le_self _ _)) hl)
 have HDIV:Hid (∀W,Below w.heap.size w W→Calls Tryz.prog 107 #[.slice pa ka ca,.slice pb kb cb] W fun e w'=>(∃p1 k1 c1 p2 k2 c2,e = .returned (.tuple #[.slice p1 k1 c1,.slice p2 k2 c2])∧k2=dl (q.num.natAbs % q.den)∧DN w' (.slice p1 k1 c1) (q.num.natAbs/q.den))∧Below W.heap.size W w'):=hid fun W hW=>
  (qha _ _ _ _ W (hda.later hW) (hdb.later hW) q.den_pos hl).mono fun _ _ ⟨⟨vq,vr,he,h1,h2⟩,h3⟩=>by
   obtain⟨p1,k1,c1,rfl,_⟩:=qc7 h1;obtain⟨p2,k2,c2,rfl,hk2⟩:=qc7 h2;exact⟨⟨p1,k1,c1,p2,k2,c2,he,hk2,h1⟩,h3⟩
 have hsa:decide (q.num<0)=true:=by simpa using hneg
 rw[hsa];have HW0:=hid (qjt w true (.slice pa ka ca) false (.slice pb kb cb));obtain⟨d0,d1,d2,d3⟩:=qa1 HW0.out;clear ha hb hka hda hdb hsa hl;go_enter Tryz.func110,Tryz.ntmps110;go_wp2_with fail;generalize ((w.alloc (.cells #[.bool true,.slice pa ka ca] 92)).alloc (.cells #[.bool false,.slice pb kb cb] 92)).alloc (.cells #[.bool false,.slice none 0 0] 92)=w0 at *;refine(HDIV.out _ HW0.out.1).mono ?_;rintro e w1 ⟨⟨p1,k1,c1,p2,k2,c2,rfl,hk,hq⟩,hb1⟩;have HQ:=hid hq;have HT1:=hid (HW0.out.later hb1);have hk2:0<k2:=by rw[hk];exact quv.2 (by omega)
 clear d0 d1 d2 d3 hb1 hq HDIV HW0 hk;obtain⟨d0,d1,d2,d3⟩:=qa1 HT1.out;have HADD:=hid (zbn (.slice p1 k1 c1) _ _ [1] _ (HQ.out.later ((Below.refl _ _).alloc (Nat.le_refl _) _)) (qs6 w1 1 (by decide)) (by have:=HDL.out;unfold dl at this;omega) (by decide));go_wp2_with fail;refine HADD.out.mono ?_;rintro e w3 ⟨⟨v3,l3,rfl,hd3,hv3,_⟩,hb⟩;obtain⟨p3,c3,rfl,_⟩:=id hd3.2;have HD3:=hid hd3;have HV3:=hid hv3;have HT3:=hid (HT1.out.later ((((Below.refl _ _).alloc (Nat.le_refl _) _)).trans (hb.mono (by rw[World.size_alloc];omega))));obtain⟨e0,e1,e2,e3⟩:=qa1 HT3.out;clear hd3 hv3 hb HADD HQ;have HSG:=hid (qfo true _ _ w3 HD3.out);rw[if_pos rfl,HV3.out,qak _ _ qa0,show val D9 [1]=1 from rfl,←HFL.out] at HSG;go_wp2_with fail;refine HSG.out.mono ?_;rintro e w2 ⟨⟨v,rfl,hv⟩,hb⟩;have ht:=HT3.out.later hb;obtain⟨p,k,c,rfl,hkk,hdd⟩:=hv.parts;have HFIN:=hid (qcv hv ht.2.2.2);have HBEL:=hid (qdq ht.1 (show w.heap.size≤w.heap.size+1+1 by omega) (.bool (decide (q.floor<0))) (.slice p k c));obtain⟨⟨r0,g0⟩,r1,g1⟩:=qlj ht;clear hv hb ht hkk hdd HSG HD3 HV3;generalize decide (q.floor<0)=sg at *;go_wp2_with fail;refine bodyPost_ret (v := .agg #[.bool sg,.slice p k c]) ?_ rfl ?_
 ·simp[results,Tryz.results110,go_sem,r0,r1]
 ·exact⟨⟨_,rfl,HFIN.out⟩,HBEL.out⟩
theorem q3y(va vb:Value)(q:Rat)(w:World)(ha:qcd w va q.num)(hb:qcd w vb (q.den:Int))(hl:dl q.num.natAbs≤900):
  Calls Tryz.prog 110 #[va,vb] w fun e w'=>(∃v,e = .returned v∧qcd w' v q.floor)∧Below w.heap.size w w':=by
 by_cases hn:q.num<0
 ·by_cases hr:q.num.natAbs % q.den=0
  ·exact qra va vb q w ha hb hl hn hr
  ·exact qu9 va vb q w ha hb hl hn hr
 ·exact qu8 va vb q w ha hb hl hn
theorem q7v(z:Int):rt (z:Rat)=⟨(qa4 z).toArray⟩:=by
 refine qb2 ?_;rw[qcw,qd3,if_pos (show((z:Rat)).den=1 from rfl),List.append_nil];simp
theorem qw9{q:Rat}(h:q.den=1):((q.floor:Int):Rat)=q:=by
 rw[Rat.floor_def,h];show((q.num/1:Int):Rat)=q;rw[Int.ediv_one];exact Rat.ext rfl (by rw[h];rfl)
theorem q6n(q:Rat):q.floor.natAbs≤q.num.natAbs:=by
 by_cases h:q.num<0
 ·have h1:=(qhr q h).1
  have h2:=q.den_pos;have h3:=Nat.div_add_mod q.num.natAbs q.den;rw[h1];split
  ·exact Nat.div_le_self _ _
  ·rename_i h4
   have h5:q.num.natAbs/q.den≤q.den*(q.num.natAbs/q.den):=Nat.le_mul_of_pos_left _ h2;omega
 ·rw[(qjg q h).1]
  exact Nat.div_le_self _ _
theorem qkl{q:Rat}{k:Nat}(h:sm q k):sm ((q.floor:Int):Rat) (k+1):=by
 refine⟨?_, ?_⟩
 ·show q.floor.natAbs<10^(k+1)
  exact Nat.lt_of_le_of_lt (q6n q) (Nat.lt_of_lt_of_le h.1 (Nat.pow_le_pow_right (by decide) (by omega)))
 ·show 1<10^(k+1)
  exact Nat.lt_of_lt_of_le (by decide:1<10^1) (Nat.pow_le_pow_right (by decide) (by omega))
theorem qo1(q:Rat)(k:Nat)(w:World)(sq:sm q k)(hk:k≤2000):
  Calls Tryz.prog 56 #[.string (rt q)] w (qp7 ((q.floor:Int):Rat) w):=by
 have z2:=qd8 sq;have HIW:=hid (fun W=>qr8 q W (by omega));by_cases hd:q.den=1
 ·have HE:=hid (qw9 hd)
  rw[decide_eq_true hd] at HIW;clear sq z2 hk hd;rw[HE.out];unfold qp7;generalize rt q=tq at *;go_enter Tryz.func56,Tryz.ntmps56;go_wp2_with fail;refine(HIW.out _).mono ?_;rintro e w1 ⟨rfl,rfl⟩;go_wp2_with fail;go_ret;exact⟨rfl,Below.refl _ _⟩
 ·have HPP:=hid (fun W=>qfw q W (by omega))
  rw[decide_eq_false hd] at HIW;have HFD:=hid (fun W va vb h1 h2=>q3y va vb q W h1 h2 (qdg sq.1 (by omega)))
  have HTX:Hid (∀W v,qcd W v q.floor→Calls Tryz.prog 109 #[v] W fun e w'=>e = .returned (.string (rt ((q.floor:Int):Rat)))∧Below W.heap.size W w'):=hid fun W v hv=>
   (q3e v _ W hv (by have:=qdg (qkl sq).1 (by omega);have h:((q.floor:Int):Rat).num=q.floor:=rfl;rw[h] at this;omega)).mono fun _ _ ⟨⟨t,he,h1⟩,h2⟩=>by
    refine⟨?_,h2⟩;rw[he,q7v]
    congr 2
    exact qb2 (by rw[h1])
  clear sq z2 hk hd;generalize rt q=tq at *;unfold qp7;generalize rt ((q.floor:Int):Rat)=tr at *;go_enter Tryz.func56,Tryz.ntmps56;go_wp2_with fail;refine(HIW.out _).mono ?_;rintro e w0 ⟨rfl,rfl⟩;go_wp2_with fail;refine(HPP.out _).mono ?_;rintro e w1 ⟨⟨n1,a1,b1,c1,n2,a2,b2,c2,rfl,h1,h2⟩,hb⟩;have HN1:=hid (qdr w1 n1 n2 (.slice a1 b1 c1) (.slice a2 b2 c2));have HX1:=hid (h1.later HN1.out.1);have HX2:=hid (h2.later HN1.out.1);have HB1:=hid (hb.trans (HN1.out.1.mono hb.size));clear h1 h2 hb HPP;go_wp2_with fail;refine(HFD.out _ _ _ HX1.out HX2.out).mono ?_;rintro e w3 ⟨⟨v,rfl,hv⟩,hb⟩;have HB3:=hid (HB1.out.trans (hb.mono HB1.out.size));have HV:=hid hv;clear hb hv HFD HX1 HX2 HB1 HN1;go_wp2_with fail;refine(HTX.out _ _ HV.out).mono ?_;rintro e w4 ⟨rfl,hb⟩;have HB4:=hid (HB3.out.trans (hb.mono HB3.out.size));clear hb HTX HV;go_wp2_with fail;go_ret;exact⟨rfl,HB4.out⟩
end Go.Proofs.YtpbeeneenhmjaaaGreatDoor
