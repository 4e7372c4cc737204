/- take: steps of Euclid's division, in the memory of both numbers. -/
import Derived.Test.YtmcfcpgglfimjaaGreatDoorMCross
import Derived.Test.YtmcfcpgglfimjaaGreatDoorMForesee
set_option linter.all false
namespace Go.Proofs.YtmcfcpgglfimjaaGreatDoor
open Go.RowKit
set_option maxRecDepth 100000
set_option maxHeartbeats 2000000
theorem Own.same{w w':World}{g n:Nat}{f:Nat→Value}(h:Own w g n f)(he:w'.heap[g]? = w.heap[g]?):Own w' g n f:=by
 refine⟨?_,fun i hi => ?_⟩
 ·rcases Nat.lt_or_ge g w'.heap.size with h1|h1
  ·exact h1
  ·rw[Array.getElem?_eq_none h1,Array.getElem?_eq_getElem h.1] at he;cases he
 ·rw[World.cell?_of_block (a:=⟨g,i,none⟩) he,World.frozen?_of_block (a:=⟨g,i,none⟩) he]
  exact h.2 i hi
theorem qs3(w:World)(u0 u1 v0 v1:Nat)(ev:Bool):Own (w.alloc (.cells #[.int .u64 (u0:Nat),.int .u64 (u1:Nat),.int .u64 (v0:Nat),.int .u64 (v1:Nat),.bool ev] 200)) w.heap.size 5 (qcm u0 u1 v0 v1 ev):=by
 refine⟨by rw[qab];omega,fun i hi => ?_⟩;rw[World.cell?_alloc_at _ _ _ _ rfl,World.frozen?_alloc_at _ _ _ _ rfl]
 match i,hi with
 | 0,_=>exact⟨rfl,rfl⟩
 | 1,_=>exact⟨rfl,rfl⟩
 | 2,_=>exact⟨rfl,rfl⟩
 | 3,_=>exact⟨rfl,rfl⟩
 | 4,_=>exact⟨rfl,rfl⟩
theorem qoi{W:World}{g u0 u1 v0 v1:Nat}{ev:Bool}(h:Own W g 5 (qcm u0 u1 v0 v1 ev)):
  W.cell? ⟨g,0,none⟩=some (.int .u64 (u0:Nat))∧W.cell? ⟨g,1,none⟩=some (.int .u64 (u1:Nat))∧W.cell? ⟨g,2,none⟩=some (.int .u64 (v0:Nat))∧W.cell? ⟨g,3,none⟩=some (.int .u64 (v1:Nat))∧W.cell? ⟨g,4,none⟩=some (.bool ev):=
 ⟨(h.2 0 (by omega)).1,(h.2 1 (by omega)).1,(h.2 2 (by omega)).1,(h.2 3 (by omega)).1,(h.2 4 (by omega)).1⟩
structure qlb(w:World)(base ga ca a b u0 u1 v0 v1:Nat)(ev:Bool)(wr:World)(g c:Nat)(l:List Nat):Prop where
 A:qdl wr base ga ca (qao B64 a)
 B:qdl wr base g c l
 S:Own wr w.heap.size 5 (qcm u0 u1 v0 v1 ev)
 hv:val B64 l=b
 hne:ga≠g
 hsa:ga≠w.heap.size
 hsb:g≠w.heap.size
 hb:Below base w wr
theorem qlb.next{w:World}{base ga ca a b u0 u1 v0 v1:Nat}{ev:Bool}{wr w1:World}{g c g' cap:Nat}{l:List Nat}(h:qlb w base ga ca a b u0 u1 v0 v1 ev wr g c l)(o:Obj)
  (aT:w1.ownsRow base 155 1 (.slice (some ⟨g',0,none⟩) (l.length+1) cap) (l.length+1) ((l.map fun x=>Value.int .u64 (x:Nat))++[Value.int .u64 ((0:Nat):Int)]))
  (bK:(wr.alloc o).grownBy w1 (some g)) (Ed:some g=some g'∨g'=wr.heap.size+1):qlb w base ga ca a b u0 u1 v0 v1 ev w1 g' cap (l++[0]):=by
 have hA:=h.A.lt;have hB:=h.B.lt;have hS:=h.S.1;have hne:=h.hne;have kH:=h.B.parts.1;have e1:w1.heap[ga]? = wr.heap[ga]? := (bK.block ga (by rw[qab];omega) (fun e=>hne (Option.some.inj e))).trans (Below.heap_alloc _ _ _ hA);have e2:w1.heap[w.heap.size]? = wr.heap[w.heap.size]? := (bK.block _ (by rw[qab];omega) (fun e=>h.hsb (Option.some.inj e).symm)).trans (Below.heap_alloc _ _ _ hS);refine⟨h.A.same e1,⟨?_, ?_⟩,h.S.same e2, ?_, ?_,h.hsa, ?_, ?_⟩
 ·intro d hd
  rcases List.mem_append.1 hd with h1|h1
  ·exact h.B.1 d h1
  ·have:d=0:=by simpa using h1
   rw[this,qaj];omega
 ·have e:(l++[0]).length=l.length+1:=by simp
  rw[e,List.map_append];exact aT
 ·rw[qd8,Nat.mul_zero,Nat.add_zero];exact h.hv
 ·rcases Ed with e|e
  ·rw[←Option.some.inj e];exact hne
  ·omega
 ·rcases Ed with e|e
  ·rw[←Option.some.inj e];exact h.hsb
  ·omega
 ·exact(h.hb.alloc (by omega) o).grown bK (by rw[qab];omega) (fun k hk=>by rw[←Option.some.inj hk];exact kH)
theorem qs4{base g1 g2 c1 c2 n x y:Nat}{A B:List Nat}{w w':World}(hA:qdl w base g1 c1 A)(hB:qdl w base g2 c2 B)(hlA:A.length=n)(hlB:B.length=n)
  (h:(∃S1 S2:List Nat,S1.length=n∧S2.length=n∧(∀d ∈ S1,d<B64)∧(∀d ∈ S2,d<B64)∧val B64 S1=x∧val B64 S2=y∧Own w' g1 n (wd S1)∧Own w' g2 n (wd S2))∧Blk base w w'):
  (∃S1:List Nat,S1.length=n∧val B64 S1=x∧qdl w' base g1 c1 S1)∧(∃S2:List Nat,S2.length=n∧val B64 S2=y∧qdl w' base g2 c2 S2):=by
 obtain⟨⟨S1,S2,h1,h2,h3,h4,h5,h6,h7,h8⟩,hk⟩:=h;exact⟨⟨S1,h1,h5,hA.after hk.2 (by omega) h3 (by rw[h1];exact h7)⟩,⟨S2,h2,h6,hB.after hk.2 (by omega) h4 (by rw[h2];exact h8)⟩⟩
def q7p(w:World)(base a b:Nat)(e:Ending)(w':World):Prop:=
 (∃gx cx gy cy x y,e = .returned (.tuple #[.slice (some ⟨gx,0,none⟩) (wl x) cx,.slice (some ⟨gy,0,none⟩) (wl y) cy])∧qdl w' base gx cx (qao B64 x)∧qdl w' base gy cy (qao B64 y)∧gx≠gy∧Nat.gcd x y=Nat.gcd a b∧y≤x∧x+y≤a)∧Below base w w'
theorem q1c(ga ca gb cb base a b u0 u1 v0 v1:Nat)(w:World)(hA:qdl w base ga ca (qao B64 a))(hB:qdl w base gb cb (qao B64 b))(hne:ga≠gb)
  (oO:u0<B64) (mV:u1<B64) (lW:v0<B64) (lM:v1<B64) (R:Rec a b u0 u1 v0 v1 true) (hv:v0≠0) (kU:wl a≤Cap) (mH:b≤a):
  Calls Tryz.prog 147 #[.agg #[.int .u64 u0,.int .u64 u1,.int .u64 v0,.int .u64 v1,.bool true],.slice (some ⟨ga,0,none⟩) (wl a) ca,.slice (some ⟨gb,0,none⟩) (wl b) cb] w (q7p w base a b):=by
 obtain⟨R1,R2⟩:=q0l R hv;obtain⟨h1,h2,h3,h4,h5⟩:=R1 rfl
 have haP:a<B64^wl a:=by
  have:=qiv B64 (qao B64 a) (qed B64 a qam);rw[qar _ _ qam] at this;exact this
 have lG:Hid (b*v0≤a*u0):=hid (by rw[Nat.mul_comm a,Nat.mul_comm b];exact h1);have mG:Hid (a*u1≤b*v1):=hid (by rw[Nat.mul_comm a,Nat.mul_comm b];exact h2);have Nu:Hid (a*u0-b*v0<B64^wl a):=hid (by omega);have lR:Hid (b*v1-a*u1<B64^wl a):=hid (by omega);have HE3:=hid h3;have Ki:=hid h4;have HE5:=hid h5;have qO:=hid kU;have HN:wl b≤wl a:=qal qam mH;have Kj:wl a≤1099511627776:=kU;obtain⟨i0,hi,cP,dV,eF⟩:=info_parts (show(Tryz.prog.info? 155).map (fun i=>(i.zero,i.size,i.bytes))=some (some (.int .u64 0),1,8) by kernel_rfl);have HI:=hid hi;have uJ:=hid oO;have uI:=hid mV;have sM:=hid lW;have gE:=hid lM
 have cF:Hid (qlb w base ga ca a b u0 u1 v0 v1 true (w.alloc (.cells #[.int .u64 (u0:Nat),.int .u64 (u1:Nat),.int .u64 (v0:Nat),.int .u64 (v1:Nat),.bool true] 200)) gb cb (qao B64 b)):=
  hid ⟨hA.same (Below.heap_alloc _ _ _ hA.lt),hB.same (Below.heap_alloc _ _ _ hB.lt),qs3 w u0 u1 v0 v1 true,qar _ _ qam,hne,by have:=hA.lt;omega,by have:=hB.lt;omega,(qaa _ _).alloc (by have:=hA.lt;have:=hA.parts.1;omega) _⟩
 have iQ:Hid ((qao B64 b).length=wl b):=hid rfl;clear hA hB hne oO mV lW lM R hv kU mH R1 R2 h1 h2 h3 h4 h5 haP hi;go_enter Tryz.func147,Tryz.ntmps147;go_wp2_with fail;generalize (w.alloc (.cells #[.int .u64 (u0:Nat),.int .u64 (u1:Nat),.int .u64 (v0:Nat),.int .u64 (v1:Nat),.bool true] 200))=w0 at *
 go_loopw [2] (fun s wr=>∃(g c n:Nat) (l:List Nat),s = .slice (some ⟨g,0,none⟩) n c∧n≤wl a∧Hid (l.length=n)∧Hid (qlb w base ga ca a b u0 u1 v0 v1 true wr g c l)) (fun s _=>wl a-qk2 s)
 case atStart=>exact⟨gb,cb,wl b,qao B64 b,rfl,HN,iQ,cF⟩
 case round=>
  obtain⟨g,c,n,l,rfl,hn,HL,HT⟩:=hrel;clear cF iQ;by_cases bC:n<wl a
  ·have qG:=hid HT.out.B
   go_wp2_with (at_builtin;refine wpList_append_lies _ rfl _ _ 83 rfl base 155 i0 (.int .u64 0) 1 8 Tryz.underlying83 HI.out cP dV eF rfl (by decide) (.slice (some ⟨g,0,none⟩) n c) n (l.map fun x=>Value.int .u64 (x:Nat)) rfl ?qc0 ⟨wr.heap.size,0,none⟩ 1 1 [Value.int .u64 ((0:Nat):Int)] rfl rfl ?lQ ?Au (by decide) ?Av ?Aw ?Ax (wr.heap.size+1) ?Ay ?_)
   case qc0=>
    have h:=(HT.out.B.same (w':=wr.alloc (.cells #[.int .u64 0] 155)) (Below.heap_alloc _ _ _ HT.out.B.lt)).2;rw[HL.out] at h;exact h
   case lQ=>exact World.news_of_block (heap_alloc_new wr _)
   case Au=>
         intro u hu;obtain rfl:u=Value.int .u64 ((0:Nat):Int):=by simpa using hu
         rfl
   case Av=>unfold maxLen;omega
   case Aw=>omega
   case Ax=>have:=HT.out.B.lt;have:=HT.out.B.parts.1;rw[qab];omega
   case Ay=>rw[qab]
   intro g' cap w1 aT bK Ed hlt';have cW:Hid (qlb w base ga ca a b u0 u1 v0 v1 true w1 g' cap (l++[0])):=hid (HT.out.next _ (by rw[HL.out];exact aT) bK Ed);have Bo:Hid ((l++[0]).length=n+1):=hid (by simp[HL.out]);clear aT bK Ed hlt' qG HT;go_wp2_with fail;go_roundw
   case rel=>exact⟨g',cap,n+1,l++[0],rfl,by omega,Bo,cW⟩
   case measure=>simp[qk2];omega
  ·obtain rfl:n=wl a:=by omega
   have hl:=HL.out
   have Jz:Hid (Calls Tryz.prog 184 #[.slice (some ⟨ga,0,none⟩) (wl a) ca,.slice (some ⟨g,0,none⟩) (wl a) c,.agg #[.int .u64 u0,.int .u64 v1],.agg #[.int .u64 v0,.int .u64 u1]] wr fun e w'=>e = .returned (.tuple #[])∧((∃S1:List Nat,S1.length=wl a∧val B64 S1=a*u0-b*v0∧qdl w' base ga ca S1)∧(∃S2:List Nat,S2.length=wl a∧val B64 S2=b*v1-a*u1∧qdl w' base g c S2))∧Below base w w'):=by
    refine hid ((qla ga g (wl a) ca c base a b u0 v1 v0 u1 (qao B64 a) l wr HT.out.hne HT.out.A.parts.1 HT.out.B.parts.1 rfl hl HT.out.A.own HT.out.B.own HT.out.A.1 HT.out.B.1 (qar _ _ qam) HT.out.hv uJ.out gE.out sM.out uI.out qO.out lG.out Nu.out mG.out lR.out).mono ?_);rintro e w' ⟨h1,h2,h3⟩;exact⟨h1,qs4 HT.out.A HT.out.B rfl hl ⟨h2,h3⟩,HT.out.hb.trans h3.1⟩
   have iR:Hid (ga≠g):=hid HT.out.hne;obtain⟨fA,bO,bJ,Nv,Bp⟩:=qoi HT.out.S;clear hl HL HT lG mG Nu lR;generalize a*u0-b*v0=x at *;generalize b*v1-a*u1=y at *;go_wp2_with fail;refine Jz.out.mono ?_;rintro e w2 ⟨rfl,⟨⟨S1,dL,oY,fD⟩,⟨S2,fN,pU,fP⟩⟩,aR⟩;have cW:=hid (qhc base ga ca (wl a) x S1 w2 fD dL oY);have gF:=hid (qhc base g c (wl a) y S2 w2 fP fN pU);have aK:=hid aR;clear dL oY fD fN pU fP aR Jz fA bO bJ Nv Bp;go_wp2_with fail;refine cW.out.mono ?_;rintro e w' ⟨⟨rfl,fD⟩,rfl⟩;have gK:=hid fD;clear fD;go_wp2_with fail;refine gF.out.mono ?_;rintro e w' ⟨⟨rfl,fP⟩,rfl⟩;have fF:=hid fP;clear fP;go_wp2_with fail;go_ret2;exact⟨⟨_,_,_,_,x,y,rfl,gK.out,fF.out,iR.out,HE3.out,Ki.out,HE5.out⟩,aK.out⟩
theorem q47(ga ca gb cb base a b u0 u1 v0 v1:Nat)(w:World)(hA:qdl w base ga ca (qao B64 a))(hB:qdl w base gb cb (qao B64 b))(hne:ga≠gb)
  (oO:u0<B64) (mV:u1<B64) (lW:v0<B64) (lM:v1<B64) (R:Rec a b u0 u1 v0 v1 false) (hv:v0≠0) (kU:wl a≤Cap) (mH:b≤a):
  Calls Tryz.prog 147 #[.agg #[.int .u64 u0,.int .u64 u1,.int .u64 v0,.int .u64 v1,.bool false],.slice (some ⟨ga,0,none⟩) (wl a) ca,.slice (some ⟨gb,0,none⟩) (wl b) cb] w (q7p w base a b):=by
 obtain⟨R1,R2⟩:=q0l R hv;obtain⟨h1,h2,h3,h4,h5⟩:=R2 rfl
 have haP:a<B64^wl a:=by
  have:=qiv B64 (qao B64 a) (qed B64 a qam);rw[qar _ _ qam] at this;exact this
 have lG:Hid (a*u0≤b*v0):=hid (by rw[Nat.mul_comm a,Nat.mul_comm b];exact h1);have mG:Hid (b*v1≤a*u1):=hid (by rw[Nat.mul_comm a,Nat.mul_comm b];exact h2);have Nu:Hid (b*v0-a*u0<B64^wl a):=hid (by omega);have lR:Hid (a*u1-b*v1<B64^wl a):=hid (by omega);have HE3:=hid h3;have Ki:=hid h4;have HE5:=hid h5;have qO:=hid kU;have HN:wl b≤wl a:=qal qam mH;have Kj:wl a≤1099511627776:=kU;obtain⟨i0,hi,cP,dV,eF⟩:=info_parts (show(Tryz.prog.info? 155).map (fun i=>(i.zero,i.size,i.bytes))=some (some (.int .u64 0),1,8) by kernel_rfl);have HI:=hid hi;have uJ:=hid oO;have uI:=hid mV;have sM:=hid lW;have gE:=hid lM
 have cF:Hid (qlb w base ga ca a b u0 u1 v0 v1 false (w.alloc (.cells #[.int .u64 (u0:Nat),.int .u64 (u1:Nat),.int .u64 (v0:Nat),.int .u64 (v1:Nat),.bool false] 200)) gb cb (qao B64 b)):=
  hid ⟨hA.same (Below.heap_alloc _ _ _ hA.lt),hB.same (Below.heap_alloc _ _ _ hB.lt),qs3 w u0 u1 v0 v1 false,qar _ _ qam,hne,by have:=hA.lt;omega,by have:=hB.lt;omega,(qaa _ _).alloc (by have:=hA.lt;have:=hA.parts.1;omega) _⟩
 have iQ:Hid ((qao B64 b).length=wl b):=hid rfl;clear hA hB hne oO mV lW lM R hv kU mH R1 R2 h1 h2 h3 h4 h5 haP hi;go_enter Tryz.func147,Tryz.ntmps147;go_wp2_with fail;generalize (w.alloc (.cells #[.int .u64 (u0:Nat),.int .u64 (u1:Nat),.int .u64 (v0:Nat),.int .u64 (v1:Nat),.bool false] 200))=w0 at *
 go_loopw [2] (fun s wr=>∃(g c n:Nat) (l:List Nat),s = .slice (some ⟨g,0,none⟩) n c∧n≤wl a∧Hid (l.length=n)∧Hid (qlb w base ga ca a b u0 u1 v0 v1 false wr g c l)) (fun s _=>wl a-qk2 s)
 case atStart=>exact⟨gb,cb,wl b,qao B64 b,rfl,HN,iQ,cF⟩
 case round=>
  obtain⟨g,c,n,l,rfl,hn,HL,HT⟩:=hrel;clear cF iQ;by_cases bC:n<wl a
  ·have qG:=hid HT.out.B
   go_wp2_with (at_builtin;refine wpList_append_lies _ rfl _ _ 83 rfl base 155 i0 (.int .u64 0) 1 8 Tryz.underlying83 HI.out cP dV eF rfl (by decide) (.slice (some ⟨g,0,none⟩) n c) n (l.map fun x=>Value.int .u64 (x:Nat)) rfl ?qc0 ⟨wr.heap.size,0,none⟩ 1 1 [Value.int .u64 ((0:Nat):Int)] rfl rfl ?lQ ?Au (by decide) ?Av ?Aw ?Ax (wr.heap.size+1) ?Ay ?_)
   case qc0=>
    have h:=(HT.out.B.same (w':=wr.alloc (.cells #[.int .u64 0] 155)) (Below.heap_alloc _ _ _ HT.out.B.lt)).2;rw[HL.out] at h;exact h
   case lQ=>exact World.news_of_block (heap_alloc_new wr _)
   case Au=>
         intro u hu;obtain rfl:u=Value.int .u64 ((0:Nat):Int):=by simpa using hu
         rfl
   case Av=>unfold maxLen;omega
   case Aw=>omega
   case Ax=>have:=HT.out.B.lt;have:=HT.out.B.parts.1;rw[qab];omega
   case Ay=>rw[qab]
   intro g' cap w1 aT bK Ed hlt';have cW:Hid (qlb w base ga ca a b u0 u1 v0 v1 false w1 g' cap (l++[0])):=hid (HT.out.next _ (by rw[HL.out];exact aT) bK Ed);have Bo:Hid ((l++[0]).length=n+1):=hid (by simp[HL.out]);clear aT bK Ed hlt' qG HT;go_wp2_with fail;go_roundw
   case rel=>exact⟨g',cap,n+1,l++[0],rfl,by omega,Bo,cW⟩
   case measure=>simp[qk2];omega
  ·obtain rfl:n=wl a:=by omega
   have hl:=HL.out
   have Jz:Hid (Calls Tryz.prog 184 #[.slice (some ⟨g,0,none⟩) (wl a) c,.slice (some ⟨ga,0,none⟩) (wl a) ca,.agg #[.int .u64 v0,.int .u64 u1],.agg #[.int .u64 u0,.int .u64 v1]] wr fun e w'=>e = .returned (.tuple #[])∧((∃S1:List Nat,S1.length=wl a∧val B64 S1=b*v0-a*u0∧qdl w' base g c S1)∧(∃S2:List Nat,S2.length=wl a∧val B64 S2=a*u1-b*v1∧qdl w' base ga ca S2))∧Below base w w'):=by
    refine hid ((qla g ga (wl a) c ca base b a v0 u1 u0 v1 l (qao B64 a) wr (Ne.symm HT.out.hne) HT.out.B.parts.1 HT.out.A.parts.1 hl rfl HT.out.B.own HT.out.A.own HT.out.B.1 HT.out.A.1 HT.out.hv (qar _ _ qam) sM.out uI.out uJ.out gE.out qO.out lG.out Nu.out mG.out lR.out).mono ?_);rintro e w' ⟨h1,h2,h3⟩;exact⟨h1,qs4 HT.out.B HT.out.A hl rfl ⟨h2,h3⟩,HT.out.hb.trans h3.1⟩
   have iR:Hid (g≠ga):=hid (Ne.symm HT.out.hne);obtain⟨fA,bO,bJ,Nv,Bp⟩:=qoi HT.out.S;clear hl HL HT lG mG Nu lR;generalize b*v0-a*u0=x at *;generalize a*u1-b*v1=y at *;go_wp2_with fail;refine Jz.out.mono ?_;rintro e w2 ⟨rfl,⟨⟨S1,dL,oY,fD⟩,⟨S2,fN,pU,fP⟩⟩,aR⟩;have cW:=hid (qhc base g c (wl a) x S1 w2 fD dL oY);have gF:=hid (qhc base ga ca (wl a) y S2 w2 fP fN pU);have aK:=hid aR;clear dL oY fD fN pU fP aR Jz fA bO bJ Nv Bp;go_wp2_with fail;refine cW.out.mono ?_;rintro e w' ⟨⟨rfl,fD⟩,rfl⟩;have gK:=hid fD;clear fD;go_wp2_with fail;refine gF.out.mono ?_;rintro e w' ⟨⟨rfl,fP⟩,rfl⟩;have fF:=hid fP;clear fP;go_wp2_with fail;go_ret2;exact⟨⟨_,_,_,_,x,y,rfl,gK.out,fF.out,iR.out,HE3.out,Ki.out,HE5.out⟩,aK.out⟩
theorem qlc(ga ca gb cb base a b u0 u1 v0 v1:Nat)(ev:Bool)(w:World)(hA:qdl w base ga ca (qao B64 a))(hB:qdl w base gb cb (qao B64 b))(hne:ga≠gb)
  (oO:u0<B64) (mV:u1<B64) (lW:v0<B64) (lM:v1<B64) (R:Rec a b u0 u1 v0 v1 ev) (hv:v0≠0) (kU:wl a≤Cap) (mH:b≤a):
  Calls Tryz.prog 147 #[.agg #[.int .u64 u0,.int .u64 u1,.int .u64 v0,.int .u64 v1,.bool ev],.slice (some ⟨ga,0,none⟩) (wl a) ca,.slice (some ⟨gb,0,none⟩) (wl b) cb] w (q7p w base a b):=by
 cases ev
 ·exact q47 ga ca gb cb base a b u0 u1 v0 v1 w hA hB hne oO mV lW lM R hv kU mH
 ·exact q1c ga ca gb cb base a b u0 u1 v0 v1 w hA hB hne oO mV lW lM R hv kU mH
end Go.Proofs.YtmcfcpgglfimjaaGreatDoor
