/- take: steps of Euclid's division, in the memory of both numbers. -/
import Derived.Test.YtclimablgihlhaaGreatDoorMCross
import Derived.Test.YtclimablgihlhaaGreatDoorMForesee
set_option linter.all false
namespace Go.Proofs.YtclimablgihlhaaGreatDoor
open Go.RowKit
set_option maxRecDepth 100000
set_option maxHeartbeats 2000000
theorem Own.same{w w':World}{g n:Nat}{f:Nat→Value}(h:Own w g n f)(he:w'.heap[g]? = w.heap[g]?):Own w' g n f:=by
 refine⟨?_,fun i hi => ?_⟩
 ·rcases Nat.lt_or_ge g w'.heap.size with h1|h1
  ·exact h1
  ·rw[Array.getElem?_eq_none h1,Array.getElem?_eq_getElem h.1] at he;cases he
 ·rw[World.cell?_of_block (a:=⟨g,i,none⟩) he,World.frozen?_of_block (a:=⟨g,i,none⟩) he]
  exact h.2 i hi
theorem qsj(w:World)(u0 u1 v0 v1:Nat)(ev:Bool):Own (w.alloc (.cells #[.int .u64 (u0:Nat),.int .u64 (u1:Nat),.int .u64 (v0:Nat),.int .u64 (v1:Nat),.bool ev] 167)) w.heap.size 5 (qcb u0 u1 v0 v1 ev):=by
 refine⟨by rw[zao];omega,fun i hi => ?_⟩;rw[World.cell?_alloc_at _ _ _ _ rfl,World.frozen?_alloc_at _ _ _ _ rfl]
 match i,hi with
 | 0,_=>exact⟨rfl,rfl⟩
 | 1,_=>exact⟨rfl,rfl⟩
 | 2,_=>exact⟨rfl,rfl⟩
 | 3,_=>exact⟨rfl,rfl⟩
 | 4,_=>exact⟨rfl,rfl⟩
theorem qob{W:World}{g u0 u1 v0 v1:Nat}{ev:Bool}(h:Own W g 5 (qcb u0 u1 v0 v1 ev)):
  W.cell? ⟨g,0,none⟩=some (.int .u64 (u0:Nat))∧W.cell? ⟨g,1,none⟩=some (.int .u64 (u1:Nat))∧W.cell? ⟨g,2,none⟩=some (.int .u64 (v0:Nat))∧W.cell? ⟨g,3,none⟩=some (.int .u64 (v1:Nat))∧W.cell? ⟨g,4,none⟩=some (.bool ev):=
 ⟨(h.2 0 (by omega)).1,(h.2 1 (by omega)).1,(h.2 2 (by omega)).1,(h.2 3 (by omega)).1,(h.2 4 (by omega)).1⟩
structure qk2(w:World)(base ga ca a b u0 u1 v0 v1:Nat)(ev:Bool)(wr:World)(g c:Nat)(l:List Nat):Prop where
 A:qdb wr base ga ca (qaf B64 a)
 B:qdb wr base g c l
 S:Own wr w.heap.size 5 (qcb u0 u1 v0 v1 ev)
 hv:val B64 l=b
 hne:ga≠g
 hsa:ga≠w.heap.size
 hsb:g≠w.heap.size
 hb:Below base w wr
theorem qk2.next{w:World}{base ga ca a b u0 u1 v0 v1:Nat}{ev:Bool}{wr w1:World}{g c g' cap:Nat}{l:List Nat}(h:qk2 w base ga ca a b u0 u1 v0 v1 ev wr g c l)(o:Obj)
  (bG:w1.ownsRow base 130 1 (.slice (some ⟨g',0,none⟩) (l.length+1) cap) (l.length+1) ((l.map fun x=>Value.int .u64 (x:Nat))++[Value.int .u64 ((0:Nat):Int)]))
  (bW:(wr.alloc o).grownBy w1 (some g)) (yK:some g=some g'∨g'=wr.heap.size+1):qk2 w base ga ca a b u0 u1 v0 v1 ev w1 g' cap (l++[0]):=by
 have hA:=h.A.lt;have hB:=h.B.lt;have hS:=h.S.1;have hne:=h.hne;have wQ:=h.B.parts.1;have e1:w1.heap[ga]? = wr.heap[ga]? := (bW.block ga (by rw[zao];omega) (fun e=>hne (Option.some.inj e))).trans (Below.heap_alloc _ _ _ hA);have e2:w1.heap[w.heap.size]? = wr.heap[w.heap.size]? := (bW.block _ (by rw[zao];omega) (fun e=>h.hsb (Option.some.inj e).symm)).trans (Below.heap_alloc _ _ _ hS);refine⟨h.A.same e1,⟨?_, ?_⟩,h.S.same e2, ?_, ?_,h.hsa, ?_, ?_⟩
 ·intro d hd
  rcases List.mem_append.1 hd with h1|h1
  ·exact h.B.1 d h1
  ·have:d=0:=by simpa using h1
   rw[this,qab];omega
 ·have e:(l++[0]).length=l.length+1:=by simp
  rw[e,List.map_append];exact bG
 ·rw[qd2,Nat.mul_zero,Nat.add_zero];exact h.hv
 ·rcases yK with e|e
  ·rw[←Option.some.inj e];exact hne
  ·omega
 ·rcases yK with e|e
  ·rw[←Option.some.inj e];exact h.hsb
  ·omega
 ·exact(h.hb.alloc (by omega) o).grown bW (by rw[zao];omega) (fun k hk=>by rw[←Option.some.inj hk];exact wQ)
theorem qsk{base g1 g2 c1 c2 n x y:Nat}{A B:List Nat}{w w':World}(hA:qdb w base g1 c1 A)(hB:qdb w base g2 c2 B)(hlA:A.length=n)(hlB:B.length=n)
  (h:(∃S1 S2:List Nat,S1.length=n∧S2.length=n∧(∀d ∈ S1,d<B64)∧(∀d ∈ S2,d<B64)∧val B64 S1=x∧val B64 S2=y∧Own w' g1 n (wd S1)∧Own w' g2 n (wd S2))∧Blk base w w'):
  (∃S1:List Nat,S1.length=n∧val B64 S1=x∧qdb w' base g1 c1 S1)∧(∃S2:List Nat,S2.length=n∧val B64 S2=y∧qdb w' base g2 c2 S2):=by
 obtain⟨⟨S1,S2,h1,h2,h3,h4,h5,h6,h7,h8⟩,hk⟩:=h;exact⟨⟨S1,h1,h5,hA.after hk.2 (by omega) h3 (by rw[h1];exact h7)⟩,⟨S2,h2,h6,hB.after hk.2 (by omega) h4 (by rw[h2];exact h8)⟩⟩
def q61(w:World)(base a b:Nat)(e:Ending)(w':World):Prop:=
 (∃gx cx gy cy x y,e = .returned (.tuple #[.slice (some ⟨gx,0,none⟩) (wl x) cx,.slice (some ⟨gy,0,none⟩) (wl y) cy])∧qdb w' base gx cx (qaf B64 x)∧qdb w' base gy cy (qaf B64 y)∧gx≠gy∧Nat.gcd x y=Nat.gcd a b∧y≤x∧x+y≤a)∧Below base w w'
theorem qz9(ga ca gb cb base a b u0 u1 v0 v1:Nat)(w:World)(hA:qdb w base ga ca (qaf B64 a))(hB:qdb w base gb cb (qaf B64 b))(hne:ga≠gb)
  (pV:u0<B64) (nX:u1<B64) (pW:v0<B64) (lQ:v1<B64) (R:Rec a b u0 u1 v0 v1 true) (hv:v0≠0) (lM:wl a≤Cap) (iV:b≤a):
  Calls Tryz.prog 115 #[.agg #[.int .u64 u0,.int .u64 u1,.int .u64 v0,.int .u64 v1,.bool true],.slice (some ⟨ga,0,none⟩) (wl a) ca,.slice (some ⟨gb,0,none⟩) (wl b) cb] w (q61 w base a b):=by
 obtain⟨R1,R2⟩:=qzp R hv;obtain⟨h1,h2,h3,h4,h5⟩:=R1 rfl
 have haP:a<B64^wl a:=by
  have:=qij B64 (qaf B64 a) (qd6 B64 a qae);rw[qah _ _ qae] at this;exact this
 have mM:Hid (b*v0≤a*u0):=hid (by rw[Nat.mul_comm a,Nat.mul_comm b];exact h1);have nE:Hid (a*u1≤b*v1):=hid (by rw[Nat.mul_comm a,Nat.mul_comm b];exact h2);have Qw:Hid (a*u0-b*v0<B64^wl a):=hid (by omega);have mU:Hid (b*v1-a*u1<B64^wl a):=hid (by omega);have HE3:=hid h3;have Nq:=hid h4;have HE5:=hid h5;have sA:=hid lM;have HN:wl b≤wl a:=qad qae iV;have Gt:wl a≤1099511627776:=lM;obtain⟨i0,hi,cT,dT,dU⟩:=info_parts (show(Tryz.prog.info? 130).map (fun i=>(i.zero,i.size,i.bytes))=some (some (.int .u64 0),1,8) by kernel_rfl);have HI:=hid hi;have yD:=hid pV;have yC:=hid nX;have uE:=hid pW;have eQ:=hid lQ
 have cG:Hid (qk2 w base ga ca a b u0 u1 v0 v1 true (w.alloc (.cells #[.int .u64 (u0:Nat),.int .u64 (u1:Nat),.int .u64 (v0:Nat),.int .u64 (v1:Nat),.bool true] 167)) gb cb (qaf B64 b)):=
  hid ⟨hA.same (Below.heap_alloc _ _ _ hA.lt),hB.same (Below.heap_alloc _ _ _ hB.lt),qsj w u0 u1 v0 v1 true,qah _ _ qae,hne,by have:=hA.lt;omega,by have:=hB.lt;omega,(zan _ _).alloc (by have:=hA.lt;have:=hA.parts.1;omega) _⟩
 have jE:Hid ((qaf B64 b).length=wl b):=hid rfl;clear hA hB hne pV nX pW lQ R hv lM iV R1 R2 h1 h2 h3 h4 h5 haP hi;go_enter Tryz.func115,Tryz.ntmps115;go_wp2_with fail;generalize (w.alloc (.cells #[.int .u64 (u0:Nat),.int .u64 (u1:Nat),.int .u64 (v0:Nat),.int .u64 (v1:Nat),.bool true] 167))=w0 at *
 go_loopw [2] (fun s wr=>∃(g c n:Nat) (l:List Nat),s = .slice (some ⟨g,0,none⟩) n c∧n≤wl a∧Hid (l.length=n)∧Hid (qk2 w base ga ca a b u0 u1 v0 v1 true wr g c l)) (fun s _=>wl a-qku s)
 case atStart=>exact⟨gb,cb,wl b,qaf B64 b,rfl,HN,jE,cG⟩
 case round=>
  obtain⟨g,c,n,l,rfl,hn,HL,HT⟩:=hrel;clear cG jE;by_cases bI:n<wl a
  ·have rP:=hid HT.out.B
   go_wp2_with (at_builtin;refine wpList_append_lies _ rfl _ _ 72 rfl base 130 i0 (.int .u64 0) 1 8 Tryz.underlying72 HI.out cT dT dU rfl (by decide) (.slice (some ⟨g,0,none⟩) n c) n (l.map fun x=>Value.int .u64 (x:Nat)) rfl ?qc0 ⟨wr.heap.size,0,none⟩ 1 1 [Value.int .u64 ((0:Nat):Int)] rfl rfl ?mT ?Dx (by decide) ?Dy ?Dz ?Ea (wr.heap.size+1) ?Eb ?_)
   case qc0=>
    have h:=(HT.out.B.same (w':=wr.alloc (.cells #[.int .u64 0] 130)) (Below.heap_alloc _ _ _ HT.out.B.lt)).2;rw[HL.out] at h;exact h
   case mT=>exact World.news_of_block (heap_alloc_new wr _)
   case Dx=>
         intro u hu;obtain rfl:u=Value.int .u64 ((0:Nat):Int):=by simpa using hu
         rfl
   case Dy=>unfold maxLen;omega
   case Dz=>omega
   case Ea=>have:=HT.out.B.lt;have:=HT.out.B.parts.1;rw[zao];omega
   case Eb=>rw[zao]
   intro g' cap w1 bG bW yK hlt';have cE:Hid (qk2 w base ga ca a b u0 u1 v0 v1 true w1 g' cap (l++[0])):=hid (HT.out.next _ (by rw[HL.out];exact bG) bW yK);have Ei:Hid ((l++[0]).length=n+1):=hid (by simp[HL.out]);clear bG bW yK hlt' rP HT;go_wp2_with fail;go_roundw
   case rel=>exact⟨g',cap,n+1,l++[0],rfl,by omega,Ei,cE⟩
   case measure=>simp[qku];omega
  ·obtain rfl:n=wl a:=by omega
   have hl:=HL.out
   have Ng:Hid (Calls Tryz.prog 168 #[.slice (some ⟨ga,0,none⟩) (wl a) ca,.slice (some ⟨g,0,none⟩) (wl a) c,.agg #[.int .u64 u0,.int .u64 v1],.agg #[.int .u64 v0,.int .u64 u1]] wr fun e w'=>e = .returned (.tuple #[])∧((∃S1:List Nat,S1.length=wl a∧val B64 S1=a*u0-b*v0∧qdb w' base ga ca S1)∧(∃S2:List Nat,S2.length=wl a∧val B64 S2=b*v1-a*u1∧qdb w' base g c S2))∧Below base w w'):=by
    refine hid ((qk1 ga g (wl a) ca c base a b u0 v1 v0 u1 (qaf B64 a) l wr HT.out.hne HT.out.A.parts.1 HT.out.B.parts.1 rfl hl HT.out.A.own HT.out.B.own HT.out.A.1 HT.out.B.1 (qah _ _ qae) HT.out.hv yD.out eQ.out uE.out yC.out sA.out mM.out Qw.out nE.out mU.out).mono ?_);rintro e w' ⟨h1,h2,h3⟩;exact⟨h1,qsk HT.out.A HT.out.B rfl hl ⟨h2,h3⟩,HT.out.hb.trans h3.1⟩
   have jW:Hid (ga≠g):=hid HT.out.hne;obtain⟨fC,bP,bK,hc3,Jt⟩:=qob HT.out.S;clear hl HL HT mM nE Qw mU;generalize a*u0-b*v0=x at *;generalize b*v1-a*u1=y at *;go_wp2_with fail;refine Ng.out.mono ?_;rintro e w2 ⟨rfl,⟨⟨S1,eW,pL,gI⟩,⟨S2,jF,rE,hU⟩⟩,aT⟩;have cE:=hid (qg8 base ga ca (wl a) x S1 w2 gI eW pL);have dW:=hid (qg8 base g c (wl a) y S2 w2 hU jF rE);have aR:=hid aT;clear eW pL gI jF rE hU aT Ng fC bP bK hc3 Jt;go_wp2_with fail;refine cE.out.mono ?_;rintro e w' ⟨⟨rfl,gI⟩,rfl⟩;have hJ:=hid gI;clear gI;go_wp2_with fail;refine dW.out.mono ?_;rintro e w' ⟨⟨rfl,hU⟩,rfl⟩;have fE:=hid hU;clear hU;go_wp2_with fail;go_ret2;exact⟨⟨_,_,_,_,x,y,rfl,hJ.out,fE.out,jW.out,HE3.out,Nq.out,HE5.out⟩,aR.out⟩
theorem q33(ga ca gb cb base a b u0 u1 v0 v1:Nat)(w:World)(hA:qdb w base ga ca (qaf B64 a))(hB:qdb w base gb cb (qaf B64 b))(hne:ga≠gb)
  (pV:u0<B64) (nX:u1<B64) (pW:v0<B64) (lQ:v1<B64) (R:Rec a b u0 u1 v0 v1 false) (hv:v0≠0) (lM:wl a≤Cap) (iV:b≤a):
  Calls Tryz.prog 115 #[.agg #[.int .u64 u0,.int .u64 u1,.int .u64 v0,.int .u64 v1,.bool false],.slice (some ⟨ga,0,none⟩) (wl a) ca,.slice (some ⟨gb,0,none⟩) (wl b) cb] w (q61 w base a b):=by
 obtain⟨R1,R2⟩:=qzp R hv;obtain⟨h1,h2,h3,h4,h5⟩:=R2 rfl
 have haP:a<B64^wl a:=by
  have:=qij B64 (qaf B64 a) (qd6 B64 a qae);rw[qah _ _ qae] at this;exact this
 have mM:Hid (a*u0≤b*v0):=hid (by rw[Nat.mul_comm a,Nat.mul_comm b];exact h1);have nE:Hid (b*v1≤a*u1):=hid (by rw[Nat.mul_comm a,Nat.mul_comm b];exact h2);have Qw:Hid (b*v0-a*u0<B64^wl a):=hid (by omega);have mU:Hid (a*u1-b*v1<B64^wl a):=hid (by omega);have HE3:=hid h3;have Nq:=hid h4;have HE5:=hid h5;have sA:=hid lM;have HN:wl b≤wl a:=qad qae iV;have Gt:wl a≤1099511627776:=lM;obtain⟨i0,hi,cT,dT,dU⟩:=info_parts (show(Tryz.prog.info? 130).map (fun i=>(i.zero,i.size,i.bytes))=some (some (.int .u64 0),1,8) by kernel_rfl);have HI:=hid hi;have yD:=hid pV;have yC:=hid nX;have uE:=hid pW;have eQ:=hid lQ
 have cG:Hid (qk2 w base ga ca a b u0 u1 v0 v1 false (w.alloc (.cells #[.int .u64 (u0:Nat),.int .u64 (u1:Nat),.int .u64 (v0:Nat),.int .u64 (v1:Nat),.bool false] 167)) gb cb (qaf B64 b)):=
  hid ⟨hA.same (Below.heap_alloc _ _ _ hA.lt),hB.same (Below.heap_alloc _ _ _ hB.lt),qsj w u0 u1 v0 v1 false,qah _ _ qae,hne,by have:=hA.lt;omega,by have:=hB.lt;omega,(zan _ _).alloc (by have:=hA.lt;have:=hA.parts.1;omega) _⟩
 have jE:Hid ((qaf B64 b).length=wl b):=hid rfl;clear hA hB hne pV nX pW lQ R hv lM iV R1 R2 h1 h2 h3 h4 h5 haP hi;go_enter Tryz.func115,Tryz.ntmps115;go_wp2_with fail;generalize (w.alloc (.cells #[.int .u64 (u0:Nat),.int .u64 (u1:Nat),.int .u64 (v0:Nat),.int .u64 (v1:Nat),.bool false] 167))=w0 at *
 go_loopw [2] (fun s wr=>∃(g c n:Nat) (l:List Nat),s = .slice (some ⟨g,0,none⟩) n c∧n≤wl a∧Hid (l.length=n)∧Hid (qk2 w base ga ca a b u0 u1 v0 v1 false wr g c l)) (fun s _=>wl a-qku s)
 case atStart=>exact⟨gb,cb,wl b,qaf B64 b,rfl,HN,jE,cG⟩
 case round=>
  obtain⟨g,c,n,l,rfl,hn,HL,HT⟩:=hrel;clear cG jE;by_cases bI:n<wl a
  ·have rP:=hid HT.out.B
   go_wp2_with (at_builtin;refine wpList_append_lies _ rfl _ _ 72 rfl base 130 i0 (.int .u64 0) 1 8 Tryz.underlying72 HI.out cT dT dU rfl (by decide) (.slice (some ⟨g,0,none⟩) n c) n (l.map fun x=>Value.int .u64 (x:Nat)) rfl ?qc0 ⟨wr.heap.size,0,none⟩ 1 1 [Value.int .u64 ((0:Nat):Int)] rfl rfl ?mT ?Dx (by decide) ?Dy ?Dz ?Ea (wr.heap.size+1) ?Eb ?_)
   case qc0=>
    have h:=(HT.out.B.same (w':=wr.alloc (.cells #[.int .u64 0] 130)) (Below.heap_alloc _ _ _ HT.out.B.lt)).2;rw[HL.out] at h;exact h
   case mT=>exact World.news_of_block (heap_alloc_new wr _)
   case Dx=>
         intro u hu;obtain rfl:u=Value.int .u64 ((0:Nat):Int):=by simpa using hu
         rfl
   case Dy=>unfold maxLen;omega
   case Dz=>omega
   case Ea=>have:=HT.out.B.lt;have:=HT.out.B.parts.1;rw[zao];omega
   case Eb=>rw[zao]
   intro g' cap w1 bG bW yK hlt';have cE:Hid (qk2 w base ga ca a b u0 u1 v0 v1 false w1 g' cap (l++[0])):=hid (HT.out.next _ (by rw[HL.out];exact bG) bW yK);have Ei:Hid ((l++[0]).length=n+1):=hid (by simp[HL.out]);clear bG bW yK hlt' rP HT;go_wp2_with fail;go_roundw
   case rel=>exact⟨g',cap,n+1,l++[0],rfl,by omega,Ei,cE⟩
   case measure=>simp[qku];omega
  ·obtain rfl:n=wl a:=by omega
   have hl:=HL.out
   have Ng:Hid (Calls Tryz.prog 168 #[.slice (some ⟨g,0,none⟩) (wl a) c,.slice (some ⟨ga,0,none⟩) (wl a) ca,.agg #[.int .u64 v0,.int .u64 u1],.agg #[.int .u64 u0,.int .u64 v1]] wr fun e w'=>e = .returned (.tuple #[])∧((∃S1:List Nat,S1.length=wl a∧val B64 S1=b*v0-a*u0∧qdb w' base g c S1)∧(∃S2:List Nat,S2.length=wl a∧val B64 S2=a*u1-b*v1∧qdb w' base ga ca S2))∧Below base w w'):=by
    refine hid ((qk1 g ga (wl a) c ca base b a v0 u1 u0 v1 l (qaf B64 a) wr (Ne.symm HT.out.hne) HT.out.B.parts.1 HT.out.A.parts.1 hl rfl HT.out.B.own HT.out.A.own HT.out.B.1 HT.out.A.1 HT.out.hv (qah _ _ qae) uE.out yC.out yD.out eQ.out sA.out mM.out Qw.out nE.out mU.out).mono ?_);rintro e w' ⟨h1,h2,h3⟩;exact⟨h1,qsk HT.out.B HT.out.A hl rfl ⟨h2,h3⟩,HT.out.hb.trans h3.1⟩
   have jW:Hid (g≠ga):=hid (Ne.symm HT.out.hne);obtain⟨fC,bP,bK,hc3,Jt⟩:=qob HT.out.S;clear hl HL HT mM nE Qw mU;generalize b*v0-a*u0=x at *;generalize a*u1-b*v1=y at *;go_wp2_with fail;refine Ng.out.mono ?_;rintro e w2 ⟨rfl,⟨⟨S1,eW,pL,gI⟩,⟨S2,jF,rE,hU⟩⟩,aT⟩;have cE:=hid (qg8 base g c (wl a) x S1 w2 gI eW pL);have dW:=hid (qg8 base ga ca (wl a) y S2 w2 hU jF rE);have aR:=hid aT;clear eW pL gI jF rE hU aT Ng fC bP bK hc3 Jt;go_wp2_with fail;refine cE.out.mono ?_;rintro e w' ⟨⟨rfl,gI⟩,rfl⟩;have hJ:=hid gI;clear gI;go_wp2_with fail;refine dW.out.mono ?_;rintro e w' ⟨⟨rfl,hU⟩,rfl⟩;have fE:=hid hU;clear hU;go_wp2_with fail;go_ret2;exact⟨⟨_,_,_,_,x,y,rfl,hJ.out,fE.out,jW.out,HE3.out,Nq.out,HE5.out⟩,aR.out⟩
theorem qk3(ga ca gb cb base a b u0 u1 v0 v1:Nat)(ev:Bool)(w:World)(hA:qdb w base ga ca (qaf B64 a))(hB:qdb w base gb cb (qaf B64 b))(hne:ga≠gb)
  (pV:u0<B64) (nX:u1<B64) (pW:v0<B64) (lQ:v1<B64) (R:Rec a b u0 u1 v0 v1 ev) (hv:v0≠0) (lM:wl a≤Cap) (iV:b≤a):
  Calls Tryz.prog 115 #[.agg #[.int .u64 u0,.int .u64 u1,.int .u64 v0,.int .u64 v1,.bool ev],.slice (some ⟨ga,0,none⟩) (wl a) ca,.slice (some ⟨gb,0,none⟩) (wl b) cb] w (q61 w base a b):=by
 cases ev
 ·exact q33 ga ca gb cb base a b u0 u1 v0 v1 w hA hB hne pV nX pW lQ R hv lM iV
 ·exact qz9 ga ca gb cb base a b u0 u1 v0 v1 w hA hB hne pV nX pW lQ R hv lM iV
end Go.Proofs.YtclimablgihlhaaGreatDoor
