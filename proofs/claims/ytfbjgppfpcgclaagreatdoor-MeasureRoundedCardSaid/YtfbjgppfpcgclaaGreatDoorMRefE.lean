/- The reference's Add and Mul of two numbers' texts. -/
import Derived.Test.YtfbjgppfpcgclaaGreatDoorMRefC
import Derived.Test.YtfbjgppfpcgclaaGreatDoorMOrder
set_option linter.all false
namespace Go.Proofs.YtfbjgppfpcgclaaGreatDoor
open Go.RowKit
set_option maxRecDepth 100000
set_option maxHeartbeats 8000000
def qvo(q:Rat)(w:World)(e:Ending)(w':World):Prop:=e = .returned (.string (rt q))∧Below w.heap.size w w'
theorem qfz(q:Rat)(w:World)(h:qbh q 9=true):
  Calls Tryz.prog 57 #[.string (rt q)] w fun e w'=>e = .returned (.tuple #[.int .i64 q.num,.int .i64 (q.den:Int),.bool true])∧w'=w:=by
 have hs:=qap (qm0 h (by decide))
 have h1:=q5o (rt q) q w (qc7 q) (by omega)
 rw[h] at h1
 exact h1
theorem qjz(q:Rat)(w:World)(hs:(rt q).size≤5000)(h:qbh q 9=false):
  Calls Tryz.prog 57 #[.string (rt q)] w fun e w'=>e = .returned (.tuple #[.int .i64 0,.int .i64 0,.bool false])∧w'=w:=by
 have h1:=q5o (rt q) q w (qc7 q) hs
 rw[h] at h1
 exact h1
theorem qgg(q:Rat)(w:World)(hs:(rt q).size≤5000):
  Calls Tryz.prog 52 #[.string (rt q)] w fun e w'=>(∃n1 p1 k1 c1 n2 p2 k2 c2,e = .returned (.tuple #[.agg #[.bool n1,.slice p1 k1 c1],.agg #[.bool n2,.slice p2 k2 c2]])∧qcz w' (.agg #[.bool n1,.slice p1 k1 c1]) q.num∧qcz w' (.agg #[.bool n2,.slice p2 k2 c2]) (q.den:Int))∧Below w.heap.size w w':=
 (q76 (rt q) q w (qc7 q) hs).mono fun _ _ ⟨⟨v1,v2,he,h1,h2⟩,hb⟩=>by
  obtain⟨p1,k1,c1,rfl,_,_⟩:=h1.parts
  obtain⟨p2,k2,c2,rfl,_,_⟩:=h2.parts
  exact⟨⟨_,_,_,_,_,_,_,_,he,h1,h2⟩,hb⟩
theorem qec(w:World)(n1 n2:Bool)(t1 t2:Value):qlv w n1 t1 n2 t2 ((w.alloc (.cells #[.bool n1,t1] 88)).alloc (.cells #[.bool n2,t2] 88)):=
 qku w n1 t1 n2 t2
theorem q1j{W:World}{v:Value}{z:Int}(h:qcz W v z):∃n p k c,v = .agg #[.bool n,.slice p k c]:=by
 obtain⟨p,k,c,h,_,_⟩:=h.parts
 exact⟨_,p,k,c,h⟩
theorem qfo(va vb:Value)(x y:Int)(w0 W:World)(hb:Below w0.heap.size w0 W)(ha:qcz w0 va x)(hv:qcz w0 vb y)(k:Nat)(hk:k≤8100)(hx:x.natAbs<10^k)(hy:y.natAbs<10^k):
  Calls Tryz.prog 61 #[va,vb] W fun e w'=>(∃n p k c,e = .returned (.agg #[.bool n,.slice p k c])∧qcz w' (.agg #[.bool n,.slice p k c]) (x*y))∧Below w0.heap.size w0 w'∧Below W.heap.size W w':=
 (q74 va vb x y W (ha.later hb) (hv.later hb) (by have:=qeh hx hk;omega) (by have:=qeh hy hk;omega)).mono fun _ _ ⟨⟨v,he,h1⟩,h2⟩=>by
  obtain⟨n,p,k,c,rfl⟩:=q1j h1
  exact⟨⟨n,p,k,c,he,h1⟩,hb.trans (h2.mono hb.size),h2⟩
theorem q1k(va vb:Value)(x y:Int)(w0 W:World)(hb:Below w0.heap.size w0 W)(ha:qcz W va x)(hv:qcz W vb y)(k:Nat)(hk:k≤8100)(hx:x.natAbs<10^k)(hy:y.natAbs<10^k):
  Calls Tryz.prog 60 #[va,vb] W fun e w'=>(∃n p k c,e = .returned (.agg #[.bool n,.slice p k c])∧qcz w' (.agg #[.bool n,.slice p k c]) (x+y))∧Below w0.heap.size w0 w'∧Below W.heap.size W w':=
 (q81 va vb x y W ha hv (by have:=qeh hx hk;omega) (by have:=qeh hy hk;omega)).mono fun _ _ ⟨⟨v,he,h1⟩,h2⟩=>by
  obtain⟨n,p,k,c,rfl⟩:=q1j h1
  exact⟨⟨n,p,k,c,he,h1⟩,hb.trans (h2.mono hb.size),h2⟩
theorem qih(va vb:Value)(x:Int)(D:Nat)(w0 W:World)(hb:Below w0.heap.size w0 W)(ha:qcz W va x)(hv:qcz W vb (D:Int))(k:Nat)(hk:k≤8100)(hD:0<D)(hx:x.natAbs<10^k)(hy:D<10^k):
  Calls Tryz.prog 59 #[va,vb] W fun e w'=>e = .returned (.string (rt (mkRat x D)))∧Below w0.heap.size w0 w':=
 (qlw va vb x D W ha hv hD (qeh hx hk) (qeh hy hk)).mono fun _ _ ⟨⟨t,he,h1⟩,h2⟩=>by
  rw[he,q1c h1]
  exact⟨rfl,hb.trans (h2.mono hb.size)⟩
theorem q8b(n:Int)(d:Nat)(w:World)(hd:0<d)(hn:n.natAbs≤4000000000000000000)(hd2:d≤4000000000000000000):
  Calls Tryz.prog 58 #[.int .i64 n,.int .i64 (d:Int)] w (qvo (mkRat n d) w):=
 (of9 n d w hd hn hd2).mono fun _ _ ⟨⟨t,he,h1⟩,h2⟩=>by
  rw[he,q1c h1]
  exact⟨rfl,h2⟩
theorem qpj{x y:Int}(h1:x.natAbs<10^9)(h2:y.natAbs<10^9):(x*y).natAbs≤999999998000000001:=by
 rw[Int.natAbs_mul]
 have h3:x.natAbs≤999999999:=by omega
 have h4:y.natAbs≤999999999:=by omega
 exact Nat.le_trans (Nat.mul_le_mul h3 h4) (by decide)
theorem q1l(p q:Rat)(w:World)(hp:qbh p 9=true)(hq:qbh q 9=true):
  Calls Tryz.prog 16 #[.string (rt p),.string (rt q)] w (qvo (p+q) w):=by
 have HQP:=hid (fun W=>qfz p W hp)
 have HQQ:=hid (fun W=>qfz q W hq)
 have sp:=qm0 hp (by decide)
 have sq:=qm0 hq (by decide)
 have hden:((p.den*q.den:Nat):Int)=(p.den:Int)*(q.den:Int):=Int.natCast_mul ..
 have d1:0<p.den:=p.den_pos
 have d2:0<q.den:=q.den_pos
 have b0:=@qpj (p.den:Int) (q.den:Int) (by rw[Int.natAbs_natCast];exact sp.2) (by rw[Int.natAbs_natCast];exact sq.2)
 have bd0:p.den*q.den≤4000000000000000000:=by rw[Int.natAbs_mul,Int.natAbs_natCast,Int.natAbs_natCast] at b0;omega
 have bp:0<p.den*q.den:=Nat.mul_pos d1 d2
 have b1:=@qpj p.num (q.den:Int) sp.1 (by rw[Int.natAbs_natCast];exact sq.2)
 have b2:=@qpj q.num (p.den:Int) sq.1 (by rw[Int.natAbs_natCast];exact sp.2)
 have e1:IntKind.i64.wrap (p.num*(q.den:Int))=p.num*(q.den:Int):=by rw[IntKind.wrap_i64];omega
 have e2:IntKind.i64.wrap (q.num*(p.den:Int))=q.num*(p.den:Int):=by rw[IntKind.wrap_i64];omega
 have e3:IntKind.i64.wrap (p.num*(q.den:Int)+q.num*(p.den:Int))=p.num*(q.den:Int)+q.num*(p.den:Int):=by rw[IntKind.wrap_i64];omega
 have HOF:=hid (fun W=>q8b (p.num*(q.den:Int)+q.num*(p.den:Int)) (p.den*q.den) W bp (by omega) bd0)
 rw[hden,←Rat.add_def'] at HOF
 have e0:IntKind.i64.wrap ((p.den:Int)*(q.den:Int))=(p.den:Int)*(q.den:Int):=by rw[IntKind.wrap_i64];omega
 clear hp hq sp sq d1 d2 b0 bd0 bp hden
 generalize rt p=tp at *
 generalize rt q=tq at *
 generalize p.num=n at *
 generalize q.num=m at *
 generalize (p.den:Int)=d at *
 generalize (q.den:Int)=e9 at *
 go_enter Tryz.func16,Tryz.ntmps16
 go_wp2_with fail
 refine(HQP.out _).mono ?_
 rintro e w1 ⟨rfl,rfl⟩
 go_wp2_with fail
 refine(HQQ.out _).mono ?_
 rintro e w1 ⟨rfl,rfl⟩
 go_wp2_with fail
 refine(HOF.out _).mono ?_
 rintro e w1 ⟨rfl,hb⟩
 have HB:=hid hb
 clear hb HOF HQP HQQ
 go_wp2_with fail
 go_ret
 exact⟨rfl,HB.out⟩
theorem q1m(p q:Rat)(w:World)(hp:qbh p 9=true)(hq:qbh q 9=true):
  Calls Tryz.prog 18 #[.string (rt p),.string (rt q)] w (qvo (p*q) w):=by
 have HQP:=hid (fun W=>qfz p W hp)
 have HQQ:=hid (fun W=>qfz q W hq)
 have sp:=qm0 hp (by decide)
 have sq:=qm0 hq (by decide)
 have hden:((p.den*q.den:Nat):Int)=(p.den:Int)*(q.den:Int):=Int.natCast_mul ..
 have d1:0<p.den:=p.den_pos
 have d2:0<q.den:=q.den_pos
 have b0:=@qpj (p.den:Int) (q.den:Int) (by rw[Int.natAbs_natCast];exact sp.2) (by rw[Int.natAbs_natCast];exact sq.2)
 have bd0:p.den*q.den≤4000000000000000000:=by rw[Int.natAbs_mul,Int.natAbs_natCast,Int.natAbs_natCast] at b0;omega
 have bp:0<p.den*q.den:=Nat.mul_pos d1 d2
 have b1:=@qpj p.num q.num sp.1 sq.1
 have e1:IntKind.i64.wrap (p.num*q.num)=p.num*q.num:=by rw[IntKind.wrap_i64];omega
 have HOF:=hid (fun W=>q8b (p.num*q.num) (p.den*q.den) W bp (by omega) bd0)
 rw[hden,←Rat.mul_def'] at HOF
 have e0:IntKind.i64.wrap ((p.den:Int)*(q.den:Int))=(p.den:Int)*(q.den:Int):=by rw[IntKind.wrap_i64];omega
 clear hp hq sp sq d1 d2 b0 bd0 bp hden
 generalize rt p=tp at *
 generalize rt q=tq at *
 generalize p.num=n at *
 generalize q.num=m at *
 generalize (p.den:Int)=d at *
 generalize (q.den:Int)=e9 at *
 go_enter Tryz.func18,Tryz.ntmps18
 go_wp2_with fail
 refine(HQP.out _).mono ?_
 rintro e w1 ⟨rfl,rfl⟩
 go_wp2_with fail
 refine(HQQ.out _).mono ?_
 rintro e w1 ⟨rfl,rfl⟩
 go_wp2_with fail
 refine(HOF.out _).mono ?_
 rintro e w1 ⟨rfl,hb⟩
 have HB:=hid hb
 clear hb HOF HQP HQQ
 go_wp2_with fail
 go_ret
 exact⟨rfl,HB.out⟩
theorem q1n(p q:Rat)(k:Nat)(w:World)(sp:sm p k)(sq:sm q k)(hk:k≤2000)(hp:qbh p 9=false):
  Calls Tryz.prog 16 #[.string (rt p),.string (rt q)] w (qvo (p+q) w):=by
 have z1:=qap sp
 have z2:=qap sq
 have HQP:=hid (fun W=>qjz p W (by omega) hp)
 have HQQ:Hid (∀W,Calls Tryz.prog 57 #[.string (rt q)] W fun e w'=>(∃x y b,e = .returned (.tuple #[.int .i64 x,.int .i64 y,.bool b]))∧w'=W):=hid fun W=>by
  by_cases hf:qbh q 9=true
  ·exact(qfz q W hf).mono fun _ _ ⟨h1,h2⟩=>⟨⟨_,_,_,h1⟩,h2⟩
  ·exact(qjz q W (by omega) (by simpa using hf)).mono fun _ _ ⟨h1,h2⟩=>⟨⟨_,_,_,h1⟩,h2⟩
 have HPP:=hid (fun W=>qgg p W (by omega))
 have HPQ:=hid (fun W=>qgg q W (by omega))
 have HSP:=hid sp
 have HSQ:=hid sq
 have HDEF:=hid (Rat.add_def' p q)
 have HK:=hid hk
 have HDP:=hid p.den_pos
 have HDQ:=hid q.den_pos
 clear sp sq z1 z2 hk hp
 generalize rt p=tp at *
 generalize rt q=tq at *
 go_enter Tryz.func16,Tryz.ntmps16
 go_wp2_with fail
 refine(HQP.out _).mono ?_
 rintro e w0 ⟨rfl,rfl⟩
 go_wp2_with fail
 refine(HQQ.out _).mono ?_
 rintro e w0 ⟨⟨x9,y9,b9,rfl⟩,rfl⟩
 go_wp2_with fail
 refine(HPP.out _).mono ?_
 rintro e w1 ⟨⟨n1,a1,b1,c1,n2,a2,b2,c2,rfl,h1,h2⟩,hb⟩
 have HX1:=hid h1
 have HX2:=hid h2
 have HB1:=hid hb
 have HN1:=hid (qec w1 n1 n2 (.slice a1 b1 c1) (.slice a2 b2 c2))
 clear h1 h2 hb HPP HQP HQQ
 go_wp2_with fail
 refine(HPQ.out _).mono ?_
 rintro e w3 ⟨⟨n3,a3,b3,c3,n4,a4,b4,c4,rfl,h1,h2⟩,hb⟩
 have HX3:=hid h1
 have HX4:=hid h2
 have HB3:=hid (HN1.out.1.trans (hb.mono HN1.out.1.size))
 have HN3:=hid (HN1.out.later hb)
 have HN4:=hid (qec w3 n3 n4 (.slice a3 b3 c3) (.slice a4 b4 c4))
 clear h1 h2 hb HPQ HN1
 go_wp2_with fail
 generalize hw4:((w3.alloc (.cells #[.bool n3,.slice a3 b3 c3] 88)).alloc (.cells #[.bool n4,.slice a4 b4 c4] 88))=w4 at *
 clear hw4
 have HN5:=hid (HN3.out.later HN4.out.1)
 have HI1:=hid ((HX1.out.later HB3.out).later HN4.out.1)
 have HI2:=hid ((HX2.out.later HB3.out).later HN4.out.1)
 have HI3:=hid (HX3.out.later HN4.out.1)
 have HI4:=hid (HX4.out.later HN4.out.1)
 have HB4:=hid ((HB1.out.trans (HB3.out.mono HB1.out.size)).trans (HN4.out.1.mono (HB1.out.trans (HB3.out.mono HB1.out.size)).size))
 have HS8:Hid (∀W,Below w4.heap.size w4 W→W.cell? ⟨w1.heap.size,0,none⟩=some (.bool n1)∧W.cell? ⟨w1.heap.size,1,none⟩=some (.slice a1 b1 c1)∧W.cell? ⟨w1.heap.size+1,0,none⟩=some (.bool n2)∧W.cell? ⟨w1.heap.size+1,1,none⟩=some (.slice a2 b2 c2)∧W.cell? ⟨w3.heap.size,0,none⟩=some (.bool n3)∧W.cell? ⟨w3.heap.size,1,none⟩=some (.slice a3 b3 c3)∧W.cell? ⟨w3.heap.size+1,0,none⟩=some (.bool n4)∧W.cell? ⟨w3.heap.size+1,1,none⟩=some (.slice a4 b4 c4)):=hid fun W hW=>by
  obtain⟨r0,r1,r2,r3⟩:=qa0 (HN5.out.later hW)
  obtain⟨r4,r5,r6,r7⟩:=qa0 (HN4.out.later hW)
  exact⟨r0,r1,r2,r3,r4,r5,r6,r7⟩
 clear HX1 HX2 HX3 HX4 HB1 HB3 HN3 HN4 HN5
 have HW5:Hid (Below w4.heap.size w4 w4.drew):=hid (Below.refl _ _).drew
 have HTX:=hid (fun W (hW:Below w4.heap.size w4 W)=>qfo (.agg #[.bool n1,.slice a1 b1 c1]) (.agg #[.bool n4,.slice a4 b4 c4]) (p.num) ((q.den:Int)) w4 W hW HI1.out HI4.out k (by have:=HK.out;omega) HSP.out.1 (by rw[Int.natAbs_natCast];exact HSQ.out.2))
 have HTY:=hid (fun W (hW:Below w4.heap.size w4 W)=>qfo (.agg #[.bool n3,.slice a3 b3 c3]) (.agg #[.bool n2,.slice a2 b2 c2]) (q.num) ((p.den:Int)) w4 W hW HI3.out HI2.out k (by have:=HK.out;omega) HSQ.out.1 (by rw[Int.natAbs_natCast];exact HSP.out.2))
 have HTZ:=hid (fun W (hW:Below w4.heap.size w4 W)=>qfo (.agg #[.bool n2,.slice a2 b2 c2]) (.agg #[.bool n4,.slice a4 b4 c4]) ((p.den:Int)) ((q.den:Int)) w4 W hW HI2.out HI4.out k (by have:=HK.out;omega) (by rw[Int.natAbs_natCast];exact HSP.out.2) (by rw[Int.natAbs_natCast];exact HSQ.out.2))
 have HA1:Hid ((p.num*(q.den:Int)).natAbs<10^(2*k)):=hid (by have h:=qem HSP.out.1 HSQ.out.2;rw[Int.natAbs_mul,Int.natAbs_natCast,Nat.two_mul];exact h)
 have HA2:Hid ((q.num*(p.den:Int)).natAbs<10^(2*k)):=hid (by have h:=qem HSQ.out.1 HSP.out.2;rw[Int.natAbs_mul,Int.natAbs_natCast,Nat.two_mul];exact h)
 have HA3:Hid (p.den*q.den<10^(2*k+1)):=hid (by have h:=qem HSP.out.2 HSQ.out.2;rw[Nat.pow_succ,Nat.two_mul];omega)
 have HA4:Hid ((p.num*(q.den:Int)+q.num*(p.den:Int)).natAbs<10^(2*k+1)):=hid (by
  have h1:=HA1.out
  have h2:=HA2.out
  have h3:(10:Nat)^(2*k+1)=10^(2*k)*10:=Nat.pow_succ ..
  have h4:=Int.natAbs_add_le (p.num*(q.den:Int)) (q.num*(p.den:Int))
  omega)
 have HA5:Hid (0<p.den*q.den):=hid (Nat.mul_pos HDP.out HDQ.out)
 have HPL:=hid (fun W (hW:Below w4.heap.size w4 W) va vb (h1:qcz W va (p.num*(q.den:Int))) (h2:qcz W vb (q.num*(p.den:Int)))=>q1k va vb _ _ w4 W hW h1 h2 (2*k) (by have:=HK.out;omega) HA1.out HA2.out)
 have HFR:=hid (fun W (hW:Below w4.heap.size w4 W) va vb (h1:qcz W va (p.num*(q.den:Int)+q.num*(p.den:Int))) (h2:qcz W vb ((p.den:Int)*(q.den:Int)))=>qih va vb _ (p.den*q.den) w4 W hW h1 (by rw[Int.natCast_mul];exact h2) (2*k+1) (by have:=HK.out;omega) HA5.out HA4.out HA3.out)
 clear HA1 HA2 HA3 HA4 HA5 HSP HSQ HDP HDQ HK
 go_region_held3 (fun W=>W.cell? ⟨w1.heap.size,0,none⟩=some (.bool n1)∧W.cell? ⟨w1.heap.size,1,none⟩=some (.slice a1 b1 c1)∧W.cell? ⟨w1.heap.size+1,0,none⟩=some (.bool n2)∧W.cell? ⟨w1.heap.size+1,1,none⟩=some (.slice a2 b2 c2)∧W.cell? ⟨w3.heap.size,0,none⟩=some (.bool n3)∧W.cell? ⟨w3.heap.size,1,none⟩=some (.slice a3 b3 c3)∧W.cell? ⟨w3.heap.size+1,0,none⟩=some (.bool n4)∧W.cell? ⟨w3.heap.size+1,1,none⟩=some (.slice a4 b4 c4)) (first|with_reducible exact HS8.out _ HBF.out|with_reducible exact HS8.out _ HBZ.out|with_reducible exact HS8.out _ HBP.out|with_reducible exact HS8.out _ HBY.out|with_reducible exact HS8.out _ HBX.out|with_reducible exact HS8.out _ HW5.out)
  (first
   | (go_at_call 61;first
     | ((with_reducible refine(HTX.out _ HW5.out).mono ?_);rintro e wX ⟨⟨gX,iX,jX,lX,rfl,hv⟩,hb,hb2⟩;have HVX:=hid hv;have HBX:=hid hb;have HLX:=hid hb2;clear hv hb hb2)
     | ((with_reducible refine(HTY.out _ HBX.out).mono ?_);rintro e wY ⟨⟨gY,iY,jY,lY,rfl,hv⟩,hb,hb2⟩;have HVY:=hid hv;have HBY:=hid hb;have HLY:=hid hb2;clear hv hb hb2)
     | ((with_reducible refine(HTZ.out _ HBP.out).mono ?_);rintro e wZ ⟨⟨gZ,iZ,jZ,lZ,rfl,hv⟩,hb,hb2⟩;have HVZ:=hid hv;have HBZ:=hid hb;have HLZ:=hid hb2;clear hv hb hb2))
   | (go_at_call 60;(refine(HPL.out _ HBY.out _ _ (HVX.out.later HLY.out) HVY.out).mono ?_);rintro e wP ⟨⟨gP,iP,jP,lP,rfl,hv⟩,hb,hb2⟩;have HVP:=hid hv;have HBP:=hid hb;have HLP:=hid hb2;clear hv hb hb2)
   | (go_at_call 59;(refine(HFR.out _ HBZ.out _ _ (HVP.out.later HLZ.out) HVZ.out).mono ?_);rintro e wF ⟨rfl,hb⟩;have HBF:=hid hb;clear hb))
 have HB9:=hid (HB4.out.trans (HBF.out.mono HB4.out.size))
 go_wp2_with fail
 go_ret
 exact⟨congrArg (fun x=>Ending.returned (Value.string (rt x))) HDEF.out.symm,HB9.out⟩
theorem q1o(p q:Rat)(k:Nat)(w:World)(sp:sm p k)(sq:sm q k)(hk:k≤2000)(hp:qbh p 9=true)(hq:qbh q 9=false):
  Calls Tryz.prog 16 #[.string (rt p),.string (rt q)] w (qvo (p+q) w):=by
 have z1:=qap sp
 have z2:=qap sq
 have HQP:=hid (fun W=>qfz p W hp)
 have HQQ:=hid (fun W=>qjz q W (by omega) hq)
 have HPP:=hid (fun W=>qgg p W (by omega))
 have HPQ:=hid (fun W=>qgg q W (by omega))
 have HSP:=hid sp
 have HSQ:=hid sq
 have HDEF:=hid (Rat.add_def' p q)
 have HK:=hid hk
 have HDP:=hid p.den_pos
 have HDQ:=hid q.den_pos
 clear sp sq z1 z2 hk hp hq
 generalize rt p=tp at *
 generalize rt q=tq at *
 go_enter Tryz.func16,Tryz.ntmps16
 go_wp2_with fail
 refine(HQP.out _).mono ?_
 rintro e w0 ⟨rfl,rfl⟩
 go_wp2_with fail
 refine(HQQ.out _).mono ?_
 rintro e w0 ⟨rfl,rfl⟩
 go_wp2_with fail
 refine(HPP.out _).mono ?_
 rintro e w1 ⟨⟨n1,a1,b1,c1,n2,a2,b2,c2,rfl,h1,h2⟩,hb⟩
 have HX1:=hid h1
 have HX2:=hid h2
 have HB1:=hid hb
 have HN1:=hid (qec w1 n1 n2 (.slice a1 b1 c1) (.slice a2 b2 c2))
 clear h1 h2 hb HPP HQP HQQ
 go_wp2_with fail
 refine(HPQ.out _).mono ?_
 rintro e w3 ⟨⟨n3,a3,b3,c3,n4,a4,b4,c4,rfl,h1,h2⟩,hb⟩
 have HX3:=hid h1
 have HX4:=hid h2
 have HB3:=hid (HN1.out.1.trans (hb.mono HN1.out.1.size))
 have HN3:=hid (HN1.out.later hb)
 have HN4:=hid (qec w3 n3 n4 (.slice a3 b3 c3) (.slice a4 b4 c4))
 clear h1 h2 hb HPQ HN1
 go_wp2_with fail
 generalize hw4:((w3.alloc (.cells #[.bool n3,.slice a3 b3 c3] 88)).alloc (.cells #[.bool n4,.slice a4 b4 c4] 88))=w4 at *
 clear hw4
 have HN5:=hid (HN3.out.later HN4.out.1)
 have HI1:=hid ((HX1.out.later HB3.out).later HN4.out.1)
 have HI2:=hid ((HX2.out.later HB3.out).later HN4.out.1)
 have HI3:=hid (HX3.out.later HN4.out.1)
 have HI4:=hid (HX4.out.later HN4.out.1)
 have HB4:=hid ((HB1.out.trans (HB3.out.mono HB1.out.size)).trans (HN4.out.1.mono (HB1.out.trans (HB3.out.mono HB1.out.size)).size))
 have HS8:Hid (∀W,Below w4.heap.size w4 W→W.cell? ⟨w1.heap.size,0,none⟩=some (.bool n1)∧W.cell? ⟨w1.heap.size,1,none⟩=some (.slice a1 b1 c1)∧W.cell? ⟨w1.heap.size+1,0,none⟩=some (.bool n2)∧W.cell? ⟨w1.heap.size+1,1,none⟩=some (.slice a2 b2 c2)∧W.cell? ⟨w3.heap.size,0,none⟩=some (.bool n3)∧W.cell? ⟨w3.heap.size,1,none⟩=some (.slice a3 b3 c3)∧W.cell? ⟨w3.heap.size+1,0,none⟩=some (.bool n4)∧W.cell? ⟨w3.heap.size+1,1,none⟩=some (.slice a4 b4 c4)):=hid fun W hW=>by
  obtain⟨r0,r1,r2,r3⟩:=qa0 (HN5.out.later hW)
  obtain⟨r4,r5,r6,r7⟩:=qa0 (HN4.out.later hW)
  exact⟨r0,r1,r2,r3,r4,r5,r6,r7⟩
 clear HX1 HX2 HX3 HX4 HB1 HB3 HN3 HN4 HN5
 have HW5:Hid (Below w4.heap.size w4 w4.drew):=hid (Below.refl _ _).drew
 have HTX:=hid (fun W (hW:Below w4.heap.size w4 W)=>qfo (.agg #[.bool n1,.slice a1 b1 c1]) (.agg #[.bool n4,.slice a4 b4 c4]) (p.num) ((q.den:Int)) w4 W hW HI1.out HI4.out k (by have:=HK.out;omega) HSP.out.1 (by rw[Int.natAbs_natCast];exact HSQ.out.2))
 have HTY:=hid (fun W (hW:Below w4.heap.size w4 W)=>qfo (.agg #[.bool n3,.slice a3 b3 c3]) (.agg #[.bool n2,.slice a2 b2 c2]) (q.num) ((p.den:Int)) w4 W hW HI3.out HI2.out k (by have:=HK.out;omega) HSQ.out.1 (by rw[Int.natAbs_natCast];exact HSP.out.2))
 have HTZ:=hid (fun W (hW:Below w4.heap.size w4 W)=>qfo (.agg #[.bool n2,.slice a2 b2 c2]) (.agg #[.bool n4,.slice a4 b4 c4]) ((p.den:Int)) ((q.den:Int)) w4 W hW HI2.out HI4.out k (by have:=HK.out;omega) (by rw[Int.natAbs_natCast];exact HSP.out.2) (by rw[Int.natAbs_natCast];exact HSQ.out.2))
 have HA1:Hid ((p.num*(q.den:Int)).natAbs<10^(2*k)):=hid (by have h:=qem HSP.out.1 HSQ.out.2;rw[Int.natAbs_mul,Int.natAbs_natCast,Nat.two_mul];exact h)
 have HA2:Hid ((q.num*(p.den:Int)).natAbs<10^(2*k)):=hid (by have h:=qem HSQ.out.1 HSP.out.2;rw[Int.natAbs_mul,Int.natAbs_natCast,Nat.two_mul];exact h)
 have HA3:Hid (p.den*q.den<10^(2*k+1)):=hid (by have h:=qem HSP.out.2 HSQ.out.2;rw[Nat.pow_succ,Nat.two_mul];omega)
 have HA4:Hid ((p.num*(q.den:Int)+q.num*(p.den:Int)).natAbs<10^(2*k+1)):=hid (by
  have h1:=HA1.out
  have h2:=HA2.out
  have h3:(10:Nat)^(2*k+1)=10^(2*k)*10:=Nat.pow_succ ..
  have h4:=Int.natAbs_add_le (p.num*(q.den:Int)) (q.num*(p.den:Int))
  omega)
 have HA5:Hid (0<p.den*q.den):=hid (Nat.mul_pos HDP.out HDQ.out)
 have HPL:=hid (fun W (hW:Below w4.heap.size w4 W) va vb (h1:qcz W va (p.num*(q.den:Int))) (h2:qcz W vb (q.num*(p.den:Int)))=>q1k va vb _ _ w4 W hW h1 h2 (2*k) (by have:=HK.out;omega) HA1.out HA2.out)
 have HFR:=hid (fun W (hW:Below w4.heap.size w4 W) va vb (h1:qcz W va (p.num*(q.den:Int)+q.num*(p.den:Int))) (h2:qcz W vb ((p.den:Int)*(q.den:Int)))=>qih va vb _ (p.den*q.den) w4 W hW h1 (by rw[Int.natCast_mul];exact h2) (2*k+1) (by have:=HK.out;omega) HA5.out HA4.out HA3.out)
 clear HA1 HA2 HA3 HA4 HA5 HSP HSQ HDP HDQ HK
 go_region_held3 (fun W=>W.cell? ⟨w1.heap.size,0,none⟩=some (.bool n1)∧W.cell? ⟨w1.heap.size,1,none⟩=some (.slice a1 b1 c1)∧W.cell? ⟨w1.heap.size+1,0,none⟩=some (.bool n2)∧W.cell? ⟨w1.heap.size+1,1,none⟩=some (.slice a2 b2 c2)∧W.cell? ⟨w3.heap.size,0,none⟩=some (.bool n3)∧W.cell? ⟨w3.heap.size,1,none⟩=some (.slice a3 b3 c3)∧W.cell? ⟨w3.heap.size+1,0,none⟩=some (.bool n4)∧W.cell? ⟨w3.heap.size+1,1,none⟩=some (.slice a4 b4 c4)) (first|with_reducible exact HS8.out _ HBF.out|with_reducible exact HS8.out _ HBZ.out|with_reducible exact HS8.out _ HBP.out|with_reducible exact HS8.out _ HBY.out|with_reducible exact HS8.out _ HBX.out|with_reducible exact HS8.out _ HW5.out)
  (first
   | (go_at_call 61;first
     | ((with_reducible refine(HTX.out _ HW5.out).mono ?_);rintro e wX ⟨⟨gX,iX,jX,lX,rfl,hv⟩,hb,hb2⟩;have HVX:=hid hv;have HBX:=hid hb;have HLX:=hid hb2;clear hv hb hb2)
     | ((with_reducible refine(HTY.out _ HBX.out).mono ?_);rintro e wY ⟨⟨gY,iY,jY,lY,rfl,hv⟩,hb,hb2⟩;have HVY:=hid hv;have HBY:=hid hb;have HLY:=hid hb2;clear hv hb hb2)
     | ((with_reducible refine(HTZ.out _ HBP.out).mono ?_);rintro e wZ ⟨⟨gZ,iZ,jZ,lZ,rfl,hv⟩,hb,hb2⟩;have HVZ:=hid hv;have HBZ:=hid hb;have HLZ:=hid hb2;clear hv hb hb2))
   | (go_at_call 60;(refine(HPL.out _ HBY.out _ _ (HVX.out.later HLY.out) HVY.out).mono ?_);rintro e wP ⟨⟨gP,iP,jP,lP,rfl,hv⟩,hb,hb2⟩;have HVP:=hid hv;have HBP:=hid hb;have HLP:=hid hb2;clear hv hb hb2)
   | (go_at_call 59;(refine(HFR.out _ HBZ.out _ _ (HVP.out.later HLZ.out) HVZ.out).mono ?_);rintro e wF ⟨rfl,hb⟩;have HBF:=hid hb;clear hb))
 have HB9:=hid (HB4.out.trans (HBF.out.mono HB4.out.size))
 go_wp2_with fail
 go_ret
 exact⟨congrArg (fun x=>Ending.returned (Value.string (rt x))) HDEF.out.symm,HB9.out⟩
theorem q8c(p q:Rat)(k:Nat)(w:World)(sp:sm p k)(sq:sm q k)(hk:k≤2000):
  Calls Tryz.prog 16 #[.string (rt p),.string (rt q)] w (qvo (p+q) w):=by
 by_cases hp:qbh p 9=true
 ·by_cases hq:qbh q 9=true
  ·exact q1l p q w hp hq
  ·exact q1o p q k w sp sq hk hp (by simpa using hq)
 ·exact q1n p q k w sp sq hk (by simpa using hp)
theorem q1p(p q:Rat)(k:Nat)(w:World)(sp:sm p k)(sq:sm q k)(hk:k≤2000)(hp:qbh p 9=false):
  Calls Tryz.prog 18 #[.string (rt p),.string (rt q)] w (qvo (p*q) w):=by
 have z1:=qap sp
 have z2:=qap sq
 have HQP:=hid (fun W=>qjz p W (by omega) hp)
 have HQQ:Hid (∀W,Calls Tryz.prog 57 #[.string (rt q)] W fun e w'=>(∃x y b,e = .returned (.tuple #[.int .i64 x,.int .i64 y,.bool b]))∧w'=W):=hid fun W=>by
  by_cases hf:qbh q 9=true
  ·exact(qfz q W hf).mono fun _ _ ⟨h1,h2⟩=>⟨⟨_,_,_,h1⟩,h2⟩
  ·exact(qjz q W (by omega) (by simpa using hf)).mono fun _ _ ⟨h1,h2⟩=>⟨⟨_,_,_,h1⟩,h2⟩
 have HPP:=hid (fun W=>qgg p W (by omega))
 have HPQ:=hid (fun W=>qgg q W (by omega))
 have HSP:=hid sp
 have HSQ:=hid sq
 have HDEF:=hid (Rat.mul_def' p q)
 have HK:=hid hk
 have HDP:=hid p.den_pos
 have HDQ:=hid q.den_pos
 clear sp sq z1 z2 hk hp
 generalize rt p=tp at *
 generalize rt q=tq at *
 go_enter Tryz.func18,Tryz.ntmps18
 go_wp2_with fail
 refine(HQP.out _).mono ?_
 rintro e w0 ⟨rfl,rfl⟩
 go_wp2_with fail
 refine(HQQ.out _).mono ?_
 rintro e w0 ⟨⟨x9,y9,b9,rfl⟩,rfl⟩
 go_wp2_with fail
 refine(HPP.out _).mono ?_
 rintro e w1 ⟨⟨n1,a1,b1,c1,n2,a2,b2,c2,rfl,h1,h2⟩,hb⟩
 have HX1:=hid h1
 have HX2:=hid h2
 have HB1:=hid hb
 have HN1:=hid (qec w1 n1 n2 (.slice a1 b1 c1) (.slice a2 b2 c2))
 clear h1 h2 hb HPP HQP HQQ
 go_wp2_with fail
 refine(HPQ.out _).mono ?_
 rintro e w3 ⟨⟨n3,a3,b3,c3,n4,a4,b4,c4,rfl,h1,h2⟩,hb⟩
 have HX3:=hid h1
 have HX4:=hid h2
 have HB3:=hid (HN1.out.1.trans (hb.mono HN1.out.1.size))
 have HN3:=hid (HN1.out.later hb)
 have HN4:=hid (qec w3 n3 n4 (.slice a3 b3 c3) (.slice a4 b4 c4))
 clear h1 h2 hb HPQ HN1
 go_wp2_with fail
 generalize hw4:((w3.alloc (.cells #[.bool n3,.slice a3 b3 c3] 88)).alloc (.cells #[.bool n4,.slice a4 b4 c4] 88))=w4 at *
 clear hw4
 have HN5:=hid (HN3.out.later HN4.out.1)
 have HI1:=hid ((HX1.out.later HB3.out).later HN4.out.1)
 have HI2:=hid ((HX2.out.later HB3.out).later HN4.out.1)
 have HI3:=hid (HX3.out.later HN4.out.1)
 have HI4:=hid (HX4.out.later HN4.out.1)
 have HB4:=hid ((HB1.out.trans (HB3.out.mono HB1.out.size)).trans (HN4.out.1.mono (HB1.out.trans (HB3.out.mono HB1.out.size)).size))
 have HS8:Hid (∀W,Below w4.heap.size w4 W→W.cell? ⟨w1.heap.size,0,none⟩=some (.bool n1)∧W.cell? ⟨w1.heap.size,1,none⟩=some (.slice a1 b1 c1)∧W.cell? ⟨w1.heap.size+1,0,none⟩=some (.bool n2)∧W.cell? ⟨w1.heap.size+1,1,none⟩=some (.slice a2 b2 c2)∧W.cell? ⟨w3.heap.size,0,none⟩=some (.bool n3)∧W.cell? ⟨w3.heap.size,1,none⟩=some (.slice a3 b3 c3)∧W.cell? ⟨w3.heap.size+1,0,none⟩=some (.bool n4)∧W.cell? ⟨w3.heap.size+1,1,none⟩=some (.slice a4 b4 c4)):=hid fun W hW=>by
  obtain⟨r0,r1,r2,r3⟩:=qa0 (HN5.out.later hW)
  obtain⟨r4,r5,r6,r7⟩:=qa0 (HN4.out.later hW)
  exact⟨r0,r1,r2,r3,r4,r5,r6,r7⟩
 clear HX1 HX2 HX3 HX4 HB1 HB3 HN3 HN4 HN5
 have HW5:Hid (Below w4.heap.size w4 w4.drew):=hid (Below.refl _ _).drew
 have HTX:=hid (fun W (hW:Below w4.heap.size w4 W)=>qfo (.agg #[.bool n1,.slice a1 b1 c1]) (.agg #[.bool n3,.slice a3 b3 c3]) (p.num) (q.num) w4 W hW HI1.out HI3.out k (by have:=HK.out;omega) HSP.out.1 HSQ.out.1)
 have HTY:=hid (fun W (hW:Below w4.heap.size w4 W)=>qfo (.agg #[.bool n2,.slice a2 b2 c2]) (.agg #[.bool n4,.slice a4 b4 c4]) ((p.den:Int)) ((q.den:Int)) w4 W hW HI2.out HI4.out k (by have:=HK.out;omega) (by rw[Int.natAbs_natCast];exact HSP.out.2) (by rw[Int.natAbs_natCast];exact HSQ.out.2))
 have HA1:Hid ((p.num*q.num).natAbs<10^(2*k)):=hid (by have h:=qem HSP.out.1 HSQ.out.1;rw[Int.natAbs_mul,Nat.two_mul];exact h)
 have HA3:Hid (p.den*q.den<10^(2*k)):=hid (by have h:=qem HSP.out.2 HSQ.out.2;rw[Nat.two_mul];exact h)
 have HA5:Hid (0<p.den*q.den):=hid (Nat.mul_pos HDP.out HDQ.out)
 have HFR:=hid (fun W (hW:Below w4.heap.size w4 W) va vb (h1:qcz W va (p.num*q.num)) (h2:qcz W vb ((p.den:Int)*(q.den:Int)))=>qih va vb _ (p.den*q.den) w4 W hW h1 (by rw[Int.natCast_mul];exact h2) (2*k) (by have:=HK.out;omega) HA5.out HA1.out HA3.out)
 clear HA1 HA3 HA5 HSP HSQ HDP HDQ HK
 go_region_held3 (fun W=>W.cell? ⟨w1.heap.size,0,none⟩=some (.bool n1)∧W.cell? ⟨w1.heap.size,1,none⟩=some (.slice a1 b1 c1)∧W.cell? ⟨w1.heap.size+1,0,none⟩=some (.bool n2)∧W.cell? ⟨w1.heap.size+1,1,none⟩=some (.slice a2 b2 c2)∧W.cell? ⟨w3.heap.size,0,none⟩=some (.bool n3)∧W.cell? ⟨w3.heap.size,1,none⟩=some (.slice a3 b3 c3)∧W.cell? ⟨w3.heap.size+1,0,none⟩=some (.bool n4)∧W.cell? ⟨w3.heap.size+1,1,none⟩=some (.slice a4 b4 c4)) (first|with_reducible exact HS8.out _ HBF.out|with_reducible exact HS8.out _ HBZ.out|with_reducible exact HS8.out _ HBP.out|with_reducible exact HS8.out _ HBY.out|with_reducible exact HS8.out _ HBX.out|with_reducible exact HS8.out _ HW5.out)
  (first
   | (go_at_call 61;first
     | ((with_reducible refine(HTX.out _ HW5.out).mono ?_);rintro e wX ⟨⟨gX,iX,jX,lX,rfl,hv⟩,hb,hb2⟩;have HVX:=hid hv;have HBX:=hid hb;have HLX:=hid hb2;clear hv hb hb2)
     | ((with_reducible refine(HTY.out _ HBX.out).mono ?_);rintro e wY ⟨⟨gY,iY,jY,lY,rfl,hv⟩,hb,hb2⟩;have HVY:=hid hv;have HBY:=hid hb;have HLY:=hid hb2;clear hv hb hb2))
   | (go_at_call 59;(refine(HFR.out _ HBY.out _ _ (HVX.out.later HLY.out) HVY.out).mono ?_);rintro e wF ⟨rfl,hb⟩;have HBF:=hid hb;clear hb))
 have HB9:=hid (HB4.out.trans (HBF.out.mono HB4.out.size))
 go_wp2_with fail
 go_ret
 exact⟨congrArg (fun x=>Ending.returned (Value.string (rt x))) HDEF.out.symm,HB9.out⟩
theorem q1q(p q:Rat)(k:Nat)(w:World)(sp:sm p k)(sq:sm q k)(hk:k≤2000)(hp:qbh p 9=true)(hq:qbh q 9=false):
  Calls Tryz.prog 18 #[.string (rt p),.string (rt q)] w (qvo (p*q) w):=by
 have z1:=qap sp
 have z2:=qap sq
 have HQP:=hid (fun W=>qfz p W hp)
 have HQQ:=hid (fun W=>qjz q W (by omega) hq)
 have HPP:=hid (fun W=>qgg p W (by omega))
 have HPQ:=hid (fun W=>qgg q W (by omega))
 have HSP:=hid sp
 have HSQ:=hid sq
 have HDEF:=hid (Rat.mul_def' p q)
 have HK:=hid hk
 have HDP:=hid p.den_pos
 have HDQ:=hid q.den_pos
 clear sp sq z1 z2 hk hp hq
 generalize rt p=tp at *
 generalize rt q=tq at *
 go_enter Tryz.func18,Tryz.ntmps18
 go_wp2_with fail
 refine(HQP.out _).mono ?_
 rintro e w0 ⟨rfl,rfl⟩
 go_wp2_with fail
 refine(HQQ.out _).mono ?_
 rintro e w0 ⟨rfl,rfl⟩
 go_wp2_with fail
 refine(HPP.out _).mono ?_
 rintro e w1 ⟨⟨n1,a1,b1,c1,n2,a2,b2,c2,rfl,h1,h2⟩,hb⟩
 have HX1:=hid h1
 have HX2:=hid h2
 have HB1:=hid hb
 have HN1:=hid (qec w1 n1 n2 (.slice a1 b1 c1) (.slice a2 b2 c2))
 clear h1 h2 hb HPP HQP HQQ
 go_wp2_with fail
 refine(HPQ.out _).mono ?_
 rintro e w3 ⟨⟨n3,a3,b3,c3,n4,a4,b4,c4,rfl,h1,h2⟩,hb⟩
 have HX3:=hid h1
 have HX4:=hid h2
 have HB3:=hid (HN1.out.1.trans (hb.mono HN1.out.1.size))
 have HN3:=hid (HN1.out.later hb)
 have HN4:=hid (qec w3 n3 n4 (.slice a3 b3 c3) (.slice a4 b4 c4))
 clear h1 h2 hb HPQ HN1
 go_wp2_with fail
 generalize hw4:((w3.alloc (.cells #[.bool n3,.slice a3 b3 c3] 88)).alloc (.cells #[.bool n4,.slice a4 b4 c4] 88))=w4 at *
 clear hw4
 have HN5:=hid (HN3.out.later HN4.out.1)
 have HI1:=hid ((HX1.out.later HB3.out).later HN4.out.1)
 have HI2:=hid ((HX2.out.later HB3.out).later HN4.out.1)
 have HI3:=hid (HX3.out.later HN4.out.1)
 have HI4:=hid (HX4.out.later HN4.out.1)
 have HB4:=hid ((HB1.out.trans (HB3.out.mono HB1.out.size)).trans (HN4.out.1.mono (HB1.out.trans (HB3.out.mono HB1.out.size)).size))
 have HS8:Hid (∀W,Below w4.heap.size w4 W→W.cell? ⟨w1.heap.size,0,none⟩=some (.bool n1)∧W.cell? ⟨w1.heap.size,1,none⟩=some (.slice a1 b1 c1)∧W.cell? ⟨w1.heap.size+1,0,none⟩=some (.bool n2)∧W.cell? ⟨w1.heap.size+1,1,none⟩=some (.slice a2 b2 c2)∧W.cell? ⟨w3.heap.size,0,none⟩=some (.bool n3)∧W.cell? ⟨w3.heap.size,1,none⟩=some (.slice a3 b3 c3)∧W.cell? ⟨w3.heap.size+1,0,none⟩=some (.bool n4)∧W.cell? ⟨w3.heap.size+1,1,none⟩=some (.slice a4 b4 c4)):=hid fun W hW=>by
  obtain⟨r0,r1,r2,r3⟩:=qa0 (HN5.out.later hW)
  obtain⟨r4,r5,r6,r7⟩:=qa0 (HN4.out.later hW)
  exact⟨r0,r1,r2,r3,r4,r5,r6,r7⟩
 clear HX1 HX2 HX3 HX4 HB1 HB3 HN3 HN4 HN5
 have HW5:Hid (Below w4.heap.size w4 w4.drew):=hid (Below.refl _ _).drew
 have HTX:=hid (fun W (hW:Below w4.heap.size w4 W)=>qfo (.agg #[.bool n1,.slice a1 b1 c1]) (.agg #[.bool n3,.slice a3 b3 c3]) (p.num) (q.num) w4 W hW HI1.out HI3.out k (by have:=HK.out;omega) HSP.out.1 HSQ.out.1)
 have HTY:=hid (fun W (hW:Below w4.heap.size w4 W)=>qfo (.agg #[.bool n2,.slice a2 b2 c2]) (.agg #[.bool n4,.slice a4 b4 c4]) ((p.den:Int)) ((q.den:Int)) w4 W hW HI2.out HI4.out k (by have:=HK.out;omega) (by rw[Int.natAbs_natCast];exact HSP.out.2) (by rw[Int.natAbs_natCast];exact HSQ.out.2))
 have HA1:Hid ((p.num*q.num).natAbs<10^(2*k)):=hid (by have h:=qem HSP.out.1 HSQ.out.1;rw[Int.natAbs_mul,Nat.two_mul];exact h)
 have HA3:Hid (p.den*q.den<10^(2*k)):=hid (by have h:=qem HSP.out.2 HSQ.out.2;rw[Nat.two_mul];exact h)
 have HA5:Hid (0<p.den*q.den):=hid (Nat.mul_pos HDP.out HDQ.out)
 have HFR:=hid (fun W (hW:Below w4.heap.size w4 W) va vb (h1:qcz W va (p.num*q.num)) (h2:qcz W vb ((p.den:Int)*(q.den:Int)))=>qih va vb _ (p.den*q.den) w4 W hW h1 (by rw[Int.natCast_mul];exact h2) (2*k) (by have:=HK.out;omega) HA5.out HA1.out HA3.out)
 clear HA1 HA3 HA5 HSP HSQ HDP HDQ HK
 go_region_held3 (fun W=>W.cell? ⟨w1.heap.size,0,none⟩=some (.bool n1)∧W.cell? ⟨w1.heap.size,1,none⟩=some (.slice a1 b1 c1)∧W.cell? ⟨w1.heap.size+1,0,none⟩=some (.bool n2)∧W.cell? ⟨w1.heap.size+1,1,none⟩=some (.slice a2 b2 c2)∧W.cell? ⟨w3.heap.size,0,none⟩=some (.bool n3)∧W.cell? ⟨w3.heap.size,1,none⟩=some (.slice a3 b3 c3)∧W.cell? ⟨w3.heap.size+1,0,none⟩=some (.bool n4)∧W.cell? ⟨w3.heap.size+1,1,none⟩=some (.slice a4 b4 c4)) (first|with_reducible exact HS8.out _ HBF.out|with_reducible exact HS8.out _ HBZ.out|with_reducible exact HS8.out _ HBP.out|with_reducible exact HS8.out _ HBY.out|with_reducible exact HS8.out _ HBX.out|with_reducible exact HS8.out _ HW5.out)
  (first
   | (go_at_call 61;first
     | ((with_reducible refine(HTX.out _ HW5.out).mono ?_);rintro e wX ⟨⟨gX,iX,jX,lX,rfl,hv⟩,hb,hb2⟩;have HVX:=hid hv;have HBX:=hid hb;have HLX:=hid hb2;clear hv hb hb2)
     | ((with_reducible refine(HTY.out _ HBX.out).mono ?_);rintro e wY ⟨⟨gY,iY,jY,lY,rfl,hv⟩,hb,hb2⟩;have HVY:=hid hv;have HBY:=hid hb;have HLY:=hid hb2;clear hv hb hb2))
   | (go_at_call 59;(refine(HFR.out _ HBY.out _ _ (HVX.out.later HLY.out) HVY.out).mono ?_);rintro e wF ⟨rfl,hb⟩;have HBF:=hid hb;clear hb))
 have HB9:=hid (HB4.out.trans (HBF.out.mono HB4.out.size))
 go_wp2_with fail
 go_ret
 exact⟨congrArg (fun x=>Ending.returned (Value.string (rt x))) HDEF.out.symm,HB9.out⟩
theorem q8d(p q:Rat)(k:Nat)(w:World)(sp:sm p k)(sq:sm q k)(hk:k≤2000):
  Calls Tryz.prog 18 #[.string (rt p),.string (rt q)] w (qvo (p*q) w):=by
 by_cases hp:qbh p 9=true
 ·by_cases hq:qbh q 9=true
  ·exact q1m p q w hp hq
  ·exact q1q p q k w sp sq hk hp (by simpa using hq)
 ·exact q1p p q k w sp sq hk (by simpa using hp)
theorem qly(p q:Rat)(k:Nat)(w:World)(sp:sm p k)(sq:sm q k)(hk:k≤2000):
  Calls Tryz.prog 17 #[.string (rt p),.string (rt q)] w (qvo (p-q) w):=by
 have z2:=qap sq
 have HN:=hid (fun W=>q79 q W (by omega))
 have HA:=hid (fun W=>q8c p (-q) k W sp (q1d sq) hk)
 rw[←Rat.sub_eq_add_neg] at HA
 clear sp sq z2 hk
 generalize rt p=tp at *
 generalize rt q=tq at *
 generalize rt (-q)=tn at *
 go_enter Tryz.func17,Tryz.ntmps17
 go_wp2_with fail
 refine(HN.out _).mono ?_
 rintro e w1 ⟨rfl,rfl⟩
 go_wp2_with fail
 refine(HA.out _).mono ?_
 rintro e w2 ⟨rfl,hb⟩
 have HB:=hid hb
 clear hb HA HN
 go_wp2_with fail
 go_ret
 exact⟨rfl,HB.out⟩
theorem q8e(p q:Rat)(k:Nat)(w:World)(sp:sm p k)(sq:sm q k)(hk:k≤2000):
  Calls Tryz.prog 19 #[.string (rt p),.string (rt q)] w fun e w'=>e = .returned (.int .i64 (sgn (p-q)))∧Below w.heap.size w w':=by
 have HA:=hid (fun W=>qly p q k W sp sq hk)
 have HS:=hid (fun W=>qde (p-q) _ rfl W)
 clear sp sq hk
 generalize sgn (p-q)=z at *
 unfold qvo at HA
 generalize rt (p-q)=td at *
 generalize rt p=tp at *
 generalize rt q=tq at *
 go_enter Tryz.func19,Tryz.ntmps19
 go_wp2_with fail
 refine(HA.out _).mono ?_
 rintro e w1 ⟨rfl,hb⟩
 have HB:=hid hb
 clear hb HA
 go_wp2_with fail
 refine(HS.out _).mono ?_
 rintro e w2 ⟨rfl,rfl⟩
 go_wp2_with fail
 go_ret
 exact⟨rfl,HB.out⟩
theorem qt0(q:Rat)(k:Nat)(sq:sm q k)(hk:k≤2000)(h0:q.num≠0)(W:World)(va vb:Value)(ha:qcz W va (q.den:Int))(hb:qcz W vb q.num):
  Calls Tryz.prog 59 #[va,vb] W fun e w'=>e = .returned (.string (rt q⁻¹))∧Below W.heap.size W w':=by
 rcases Int.lt_or_le q.num 0 with h|h
 ·have e1:q.num = -(q.num.natAbs:Int):=by omega
  rw[e1] at hb
  have h1:=qr0 va vb (q.den:Int) q.num.natAbs W ha hb (by omega) (by rw[Int.natAbs_natCast];exact qeh sq.2 (by omega)) (qeh sq.1 (by omega))
  rw[←qw6 h] at h1
  exact h1.mono fun _ _ ⟨⟨t,he,h2⟩,h3⟩=>⟨by rw[he,q1c h2],h3⟩
 ·have e1:q.num=(q.num.natAbs:Int):=by omega
  rw[e1] at hb
  have h1:=qlw va vb (q.den:Int) q.num.natAbs W ha hb (by omega) (by rw[Int.natAbs_natCast];exact qeh sq.2 (by omega)) (qeh sq.1 (by omega))
  rw[←qw5 (by omega)] at h1
  exact h1.mono fun _ _ ⟨⟨t,he,h2⟩,h3⟩=>⟨by rw[he,q1c h2],h3⟩
theorem q4e(q:Rat)(k:Nat)(w:World)(sq:sm q k)(hk:k≤2000)(h0:q.num≠0):
  Calls Tryz.prog 63 #[.string (rt q)] w (qvo q⁻¹ w):=by
 have z2:=qap sq
 have HPP:=hid (fun W=>qgg q W (by omega))
 have HF:=hid (qt0 q k sq hk h0)
 clear sq z2 hk h0
 generalize rt q=tq at *
 go_enter Tryz.func63,Tryz.ntmps63
 go_wp2_with fail
 refine(HPP.out _).mono ?_
 rintro e w1 ⟨⟨n1,a1,b1,c1,n2,a2,b2,c2,rfl,h1,h2⟩,hb⟩
 have HN1:=hid (qec w1 n1 n2 (.slice a1 b1 c1) (.slice a2 b2 c2))
 have HX1:=hid (h1.later HN1.out.1)
 have HX2:=hid (h2.later HN1.out.1)
 have HB1:=hid (hb.trans (HN1.out.1.mono hb.size))
 clear h1 h2 hb HPP
 go_wp2_with fail
 refine(HF.out _ _ _ HX2.out HX1.out).mono ?_
 rintro e w3 ⟨rfl,hb⟩
 have HB3:=hid (HB1.out.trans (hb.mono HB1.out.size))
 clear hb HF HX1 HX2 HB1 HN1
 go_wp2_with fail
 go_ret
 exact⟨rfl,HB3.out⟩
theorem qf7(p q:Rat)(k:Nat)(w:World)(sp:sm p k)(sq:sm q k)(hk:k≤2000)(h0:q.num≠0):
  Calls Tryz.prog 21 #[.string (rt p),.string (rt q)] w (qvo (p/q) w):=by
 have HN:=hid (fun W=>q4e q k W sq hk h0)
 have HA:=hid (fun W=>q8d p q⁻¹ k W sp (q5q sq h0) hk)
 rw[←Rat.div_def] at HA
 clear sp sq hk h0
 unfold qvo at HN
 generalize rt p=tp at *
 generalize rt q⁻¹ = tn at *
 generalize rt q=tq at *
 go_enter Tryz.func21,Tryz.ntmps21
 go_wp2_with fail
 refine(HN.out _).mono ?_
 rintro e w1 ⟨rfl,hb⟩
 have HB1:=hid hb
 clear hb HN
 go_wp2_with fail
 refine(HA.out _).mono ?_
 rintro e w2 ⟨rfl,hb⟩
 have HB:=hid (HB1.out.trans (hb.mono HB1.out.size))
 clear hb HA
 go_wp2_with fail
 go_ret
 exact⟨rfl,HB.out⟩
theorem q8f(z:Int):rt (z:Rat)=⟨(qa3 z).toArray⟩:=by
 refine qb7 ?_
 rw[qc7,qdy,if_pos (show((z:Rat)).den=1 from rfl),List.append_nil]
 simp
theorem floor_le(q:Rat):q.floor.natAbs≤q.num.natAbs:=by
 by_cases h:q.num<0
 ·have h1:=(qls q h).1
  have h2:=q.den_pos
  have h3:=Nat.div_add_mod q.num.natAbs q.den
  rw[h1]
  split
  ·exact Nat.div_le_self _ _
  ·rename_i h4
   have h5:q.num.natAbs/q.den≤q.den*(q.num.natAbs/q.den):=Nat.le_mul_of_pos_left _ h2
   omega
 ·rw[(qlr q h).1]
  exact Nat.div_le_self _ _
end Go.Proofs.YtfbjgppfpcgclaaGreatDoor
