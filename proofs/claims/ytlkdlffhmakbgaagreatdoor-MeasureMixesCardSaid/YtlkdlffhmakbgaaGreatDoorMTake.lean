/- take: steps of Euclid's division, in the memory of both numbers. -/
import Derived.Test.YtlkdlffhmakbgaaGreatDoorMCross
import Derived.Test.YtlkdlffhmakbgaaGreatDoorMForesee
set_option linter.all false
namespace Go.Proofs.YtlkdlffhmakbgaaGreatDoor
open Go.RowKit
set_option maxRecDepth 100000
set_option maxHeartbeats 2000000
theorem Own.same{w w':World}{g n:Nat}{f:Nat→Value}(h:Own w g n f)(he:w'.heap[g]? = w.heap[g]?):Own w' g n f:=by
 refine⟨?_,fun i hi => ?_⟩
 ·rcases Nat.lt_or_ge g w'.heap.size with h1|h1
  ·exact h1
  ·rw[Array.getElem?_eq_none h1,Array.getElem?_eq_getElem h.1] at he;cases he
 ·rw[World.cell?_of_block (a:=⟨g,i,none⟩) he,World.frozen?_of_block (a:=⟨g,i,none⟩) he]
  exact h.2 i hi
theorem qsz(w:World)(u0 u1 v0 v1:Nat)(ev:Bool):Own (w.alloc (.cells #[.int .u64 (u0:Nat),.int .u64 (u1:Nat),.int .u64 (v0:Nat),.int .u64 (v1:Nat),.bool ev] 203)) w.heap.size 5 (qcn u0 u1 v0 v1 ev):=by
 refine⟨by rw[qab];omega,fun i hi => ?_⟩;rw[World.cell?_alloc_at _ _ _ _ rfl,World.frozen?_alloc_at _ _ _ _ rfl]
 match i,hi with
 | 0,_=>exact⟨rfl,rfl⟩
 | 1,_=>exact⟨rfl,rfl⟩
 | 2,_=>exact⟨rfl,rfl⟩
 | 3,_=>exact⟨rfl,rfl⟩
 | 4,_=>exact⟨rfl,rfl⟩
theorem qon{W:World}{g u0 u1 v0 v1:Nat}{ev:Bool}(h:Own W g 5 (qcn u0 u1 v0 v1 ev)):
  W.cell? ⟨g,0,none⟩=some (.int .u64 (u0:Nat))∧W.cell? ⟨g,1,none⟩=some (.int .u64 (u1:Nat))∧W.cell? ⟨g,2,none⟩=some (.int .u64 (v0:Nat))∧W.cell? ⟨g,3,none⟩=some (.int .u64 (v1:Nat))∧W.cell? ⟨g,4,none⟩=some (.bool ev):=
 ⟨(h.2 0 (by omega)).1,(h.2 1 (by omega)).1,(h.2 2 (by omega)).1,(h.2 3 (by omega)).1,(h.2 4 (by omega)).1⟩
structure qla(w:World)(base ga ca a b u0 u1 v0 v1:Nat)(ev:Bool)(wr:World)(g c:Nat)(l:List Nat):Prop where
 A:qdm wr base ga ca (qan B64 a)
 B:qdm wr base g c l
 S:Own wr w.heap.size 5 (qcn u0 u1 v0 v1 ev)
 hv:val B64 l=b
 hne:ga≠g
 hsa:ga≠w.heap.size
 hsb:g≠w.heap.size
 hb:Below base w wr
theorem qla.next{w:World}{base ga ca a b u0 u1 v0 v1:Nat}{ev:Bool}{wr w1:World}{g c g' cap:Nat}{l:List Nat}(h:qla w base ga ca a b u0 u1 v0 v1 ev wr g c l)(o:Obj)
  (aU:w1.ownsRow base 160 1 (.slice (some ⟨g',0,none⟩) (l.length+1) cap) (l.length+1) ((l.map fun x=>Value.int .u64 (x:Nat))++[Value.int .u64 ((0:Nat):Int)]))
  (bN:(wr.alloc o).grownBy w1 (some g)) (Fh:some g=some g'∨g'=wr.heap.size+1):qla w base ga ca a b u0 u1 v0 v1 ev w1 g' cap (l++[0]):=by
 have hA:=h.A.lt;have hB:=h.B.lt;have hS:=h.S.1;have hne:=h.hne;have kX:=h.B.parts.1;have e1:w1.heap[ga]? = wr.heap[ga]? := (bN.block ga (by rw[qab];omega) (fun e=>hne (Option.some.inj e))).trans (Below.heap_alloc _ _ _ hA);have e2:w1.heap[w.heap.size]? = wr.heap[w.heap.size]? := (bN.block _ (by rw[qab];omega) (fun e=>h.hsb (Option.some.inj e).symm)).trans (Below.heap_alloc _ _ _ hS);refine⟨h.A.same e1,⟨?_, ?_⟩,h.S.same e2, ?_, ?_,h.hsa, ?_, ?_⟩
 ·intro d hd
  rcases List.mem_append.1 hd with h1|h1
  ·exact h.B.1 d h1
  ·have:d=0:=by simpa using h1
   rw[this,qai];omega
 ·have e:(l++[0]).length=l.length+1:=by simp
  rw[e,List.map_append];exact aU
 ·rw[qed,Nat.mul_zero,Nat.add_zero];exact h.hv
 ·rcases Fh with e|e
  ·rw[←Option.some.inj e];exact hne
  ·omega
 ·rcases Fh with e|e
  ·rw[←Option.some.inj e];exact h.hsb
  ·omega
 ·exact(h.hb.alloc (by omega) o).grown bN (by rw[qab];omega) (fun k hk=>by rw[←Option.some.inj hk];exact kX)
theorem qs0{base g1 g2 c1 c2 n x y:Nat}{A B:List Nat}{w w':World}(hA:qdm w base g1 c1 A)(hB:qdm w base g2 c2 B)(hlA:A.length=n)(hlB:B.length=n)
  (h:(∃S1 S2:List Nat,S1.length=n∧S2.length=n∧(∀d ∈ S1,d<B64)∧(∀d ∈ S2,d<B64)∧val B64 S1=x∧val B64 S2=y∧Own w' g1 n (wd S1)∧Own w' g2 n (wd S2))∧Blk base w w'):
  (∃S1:List Nat,S1.length=n∧val B64 S1=x∧qdm w' base g1 c1 S1)∧(∃S2:List Nat,S2.length=n∧val B64 S2=y∧qdm w' base g2 c2 S2):=by
 obtain⟨⟨S1,S2,h1,h2,h3,h4,h5,h6,h7,h8⟩,hk⟩:=h;exact⟨⟨S1,h1,h5,hA.after hk.2 (by omega) h3 (by rw[h1];exact h7)⟩,⟨S2,h2,h6,hB.after hk.2 (by omega) h4 (by rw[h2];exact h8)⟩⟩
def q69(w:World)(base a b:Nat)(e:Ending)(w':World):Prop:=
 (∃gx cx gy cy x y,e = .returned (.tuple #[.slice (some ⟨gx,0,none⟩) (wl x) cx,.slice (some ⟨gy,0,none⟩) (wl y) cy])∧qdm w' base gx cx (qan B64 x)∧qdm w' base gy cy (qan B64 y)∧gx≠gy∧Nat.gcd x y=Nat.gcd a b∧y≤x∧x+y≤a)∧Below base w w'
theorem q02(ga ca gb cb base a b u0 u1 v0 v1:Nat)(w:World)(hA:qdm w base ga ca (qan B64 a))(hB:qdm w base gb cb (qan B64 b))(hne:ga≠gb)
  (pO:u0<B64) (nL:u1<B64) (lU:v0<B64) (mI:v1<B64) (R:Rec a b u0 u1 v0 v1 true) (hv:v0≠0) (lJ:wl a≤Cap) (oJ:b≤a):
  Calls Tryz.prog 155 #[.agg #[.int .u64 u0,.int .u64 u1,.int .u64 v0,.int .u64 v1,.bool true],.slice (some ⟨ga,0,none⟩) (wl a) ca,.slice (some ⟨gb,0,none⟩) (wl b) cb] w (q69 w base a b):=by
 obtain⟨R1,R2⟩:=q0i R hv;obtain⟨h1,h2,h3,h4,h5⟩:=R1 rfl
 have haP:a<B64^wl a:=by
  have:=qiu B64 (qan B64 a) (qeh B64 a qal);rw[qar _ _ qal] at this;exact this
 have mE:Hid (b*v0≤a*u0):=hid (by rw[Nat.mul_comm a,Nat.mul_comm b];exact h1);have mW:Hid (a*u1≤b*v1):=hid (by rw[Nat.mul_comm a,Nat.mul_comm b];exact h2);have On:Hid (a*u0-b*v0<B64^wl a):=hid (by omega);have mL:Hid (b*v1-a*u1<B64^wl a):=hid (by omega);have HE3:=hid h3;have Lg:=hid h4;have HE5:=hid h5;have rK:=hid lJ;have HN:wl b≤wl a:=qak qal oJ;have Lh:wl a≤1099511627776:=lJ;obtain⟨i0,hi,cU,eE,eK⟩:=info_parts (show(Tryz.prog.info? 160).map (fun i=>(i.zero,i.size,i.bytes))=some (some (.int .u64 0),1,8) by kernel_rfl);have HI:=hid hi;have vO:=hid pO;have vK:=hid nL;have tA:=hid lU;have gS:=hid mI
 have bX:Hid (qla w base ga ca a b u0 u1 v0 v1 true (w.alloc (.cells #[.int .u64 (u0:Nat),.int .u64 (u1:Nat),.int .u64 (v0:Nat),.int .u64 (v1:Nat),.bool true] 203)) gb cb (qan B64 b)):=
  hid ⟨hA.same (Below.heap_alloc _ _ _ hA.lt),hB.same (Below.heap_alloc _ _ _ hB.lt),qsz w u0 u1 v0 v1 true,qar _ _ qal,hne,by have:=hA.lt;omega,by have:=hB.lt;omega,(qaa _ _).alloc (by have:=hA.lt;have:=hA.parts.1;omega) _⟩
 have jE:Hid ((qan B64 b).length=wl b):=hid rfl;clear hA hB hne pO nL lU mI R hv lJ oJ R1 R2 h1 h2 h3 h4 h5 haP hi;go_enter Tryz.func155,Tryz.ntmps155;go_wp2_with fail;generalize (w.alloc (.cells #[.int .u64 (u0:Nat),.int .u64 (u1:Nat),.int .u64 (v0:Nat),.int .u64 (v1:Nat),.bool true] 203))=w0 at *
 go_loopw [2] (fun s wr=>∃(g c n:Nat) (l:List Nat),s = .slice (some ⟨g,0,none⟩) n c∧n≤wl a∧Hid (l.length=n)∧Hid (qla w base ga ca a b u0 u1 v0 v1 true wr g c l)) (fun s _=>wl a-qk3 s)
 case atStart=>exact⟨gb,cb,wl b,qan B64 b,rfl,HN,jE,bX⟩
 case round=>
  obtain⟨g,c,n,l,rfl,hn,HL,HT⟩:=hrel;clear bX jE;by_cases aY:n<wl a
  ·have rA:=hid HT.out.B
   go_wp2_with (at_builtin;refine wpList_append_lies _ rfl _ _ 85 rfl base 160 i0 (.int .u64 0) 1 8 Tryz.underlying85 HI.out cU eE eK rfl (by decide) (.slice (some ⟨g,0,none⟩) n c) n (l.map fun x=>Value.int .u64 (x:Nat)) rfl ?qc0 ⟨wr.heap.size,0,none⟩ 1 1 [Value.int .u64 ((0:Nat):Int)] rfl rfl ?mK ?Cg (by decide) ?Ch ?Ci ?Cj (wr.heap.size+1) ?Ck ?_)
   case qc0=>
    have h:=(HT.out.B.same (w':=wr.alloc (.cells #[.int .u64 0] 160)) (Below.heap_alloc _ _ _ HT.out.B.lt)).2;rw[HL.out] at h;exact h
   case mK=>exact World.news_of_block (heap_alloc_new wr _)
   case Cg=>
         intro u hu;obtain rfl:u=Value.int .u64 ((0:Nat):Int):=by simpa using hu
         rfl
   case Ch=>unfold maxLen;omega
   case Ci=>omega
   case Cj=>have:=HT.out.B.lt;have:=HT.out.B.parts.1;rw[qab];omega
   case Ck=>rw[qab]
   intro g' cap w1 aU bN Fh hlt';have cV:Hid (qla w base ga ca a b u0 u1 v0 v1 true w1 g' cap (l++[0])):=hid (HT.out.next _ (by rw[HL.out];exact aU) bN Fh);have Cv:Hid ((l++[0]).length=n+1):=hid (by simp[HL.out]);clear aU bN Fh hlt' rA HT;go_wp2_with fail;go_roundw
   case rel=>exact⟨g',cap,n+1,l++[0],rfl,by omega,Cv,cV⟩
   case measure=>simp[qk3];omega
  ·obtain rfl:n=wl a:=by omega
   have hl:=HL.out
   have Ky:Hid (Calls Tryz.prog 190 #[.slice (some ⟨ga,0,none⟩) (wl a) ca,.slice (some ⟨g,0,none⟩) (wl a) c,.agg #[.int .u64 u0,.int .u64 v1],.agg #[.int .u64 v0,.int .u64 u1]] wr fun e w'=>e = .returned (.tuple #[])∧((∃S1:List Nat,S1.length=wl a∧val B64 S1=a*u0-b*v0∧qdm w' base ga ca S1)∧(∃S2:List Nat,S2.length=wl a∧val B64 S2=b*v1-a*u1∧qdm w' base g c S2))∧Below base w w'):=by
    refine hid ((qk9 ga g (wl a) ca c base a b u0 v1 v0 u1 (qan B64 a) l wr HT.out.hne HT.out.A.parts.1 HT.out.B.parts.1 rfl hl HT.out.A.own HT.out.B.own HT.out.A.1 HT.out.B.1 (qar _ _ qal) HT.out.hv vO.out gS.out tA.out vK.out rK.out mE.out On.out mW.out mL.out).mono ?_);rintro e w' ⟨h1,h2,h3⟩;exact⟨h1,qs0 HT.out.A HT.out.B rfl hl ⟨h2,h3⟩,HT.out.hb.trans h3.1⟩
   have iF:Hid (ga≠g):=hid HT.out.hne;obtain⟨eY,bO,bG,Oo,Cw⟩:=qon HT.out.S;clear hl HL HT mE mW On mL;generalize a*u0-b*v0=x at *;generalize b*v1-a*u1=y at *;go_wp2_with fail;refine Ky.out.mono ?_;rintro e w2 ⟨rfl,⟨⟨S1,dO,nS,eU⟩,⟨S2,fS,qP,fL⟩⟩,aR⟩;have cV:=hid (qg8 base ga ca (wl a) x S1 w2 eU dO nS);have fZ:=hid (qg8 base g c (wl a) y S2 w2 fL fS qP);have aK:=hid aR;clear dO nS eU fS qP fL aR Ky eY bO bG Oo Cw;go_wp2_with fail;refine cV.out.mono ?_;rintro e w' ⟨⟨rfl,eU⟩,rfl⟩;have fY:=hid eU;clear eU;go_wp2_with fail;refine fZ.out.mono ?_;rintro e w' ⟨⟨rfl,fL⟩,rfl⟩;have eV:=hid fL;clear fL;go_wp2_with fail;go_ret2;exact⟨⟨_,_,_,_,x,y,rfl,fY.out,eV.out,iF.out,HE3.out,Lg.out,HE5.out⟩,aK.out⟩
theorem q4u(ga ca gb cb base a b u0 u1 v0 v1:Nat)(w:World)(hA:qdm w base ga ca (qan B64 a))(hB:qdm w base gb cb (qan B64 b))(hne:ga≠gb)
  (pO:u0<B64) (nL:u1<B64) (lU:v0<B64) (mI:v1<B64) (R:Rec a b u0 u1 v0 v1 false) (hv:v0≠0) (lJ:wl a≤Cap) (oJ:b≤a):
  Calls Tryz.prog 155 #[.agg #[.int .u64 u0,.int .u64 u1,.int .u64 v0,.int .u64 v1,.bool false],.slice (some ⟨ga,0,none⟩) (wl a) ca,.slice (some ⟨gb,0,none⟩) (wl b) cb] w (q69 w base a b):=by
 obtain⟨R1,R2⟩:=q0i R hv;obtain⟨h1,h2,h3,h4,h5⟩:=R2 rfl
 have haP:a<B64^wl a:=by
  have:=qiu B64 (qan B64 a) (qeh B64 a qal);rw[qar _ _ qal] at this;exact this
 have mE:Hid (a*u0≤b*v0):=hid (by rw[Nat.mul_comm a,Nat.mul_comm b];exact h1);have mW:Hid (b*v1≤a*u1):=hid (by rw[Nat.mul_comm a,Nat.mul_comm b];exact h2);have On:Hid (b*v0-a*u0<B64^wl a):=hid (by omega);have mL:Hid (a*u1-b*v1<B64^wl a):=hid (by omega);have HE3:=hid h3;have Lg:=hid h4;have HE5:=hid h5;have rK:=hid lJ;have HN:wl b≤wl a:=qak qal oJ;have Lh:wl a≤1099511627776:=lJ;obtain⟨i0,hi,cU,eE,eK⟩:=info_parts (show(Tryz.prog.info? 160).map (fun i=>(i.zero,i.size,i.bytes))=some (some (.int .u64 0),1,8) by kernel_rfl);have HI:=hid hi;have vO:=hid pO;have vK:=hid nL;have tA:=hid lU;have gS:=hid mI
 have bX:Hid (qla w base ga ca a b u0 u1 v0 v1 false (w.alloc (.cells #[.int .u64 (u0:Nat),.int .u64 (u1:Nat),.int .u64 (v0:Nat),.int .u64 (v1:Nat),.bool false] 203)) gb cb (qan B64 b)):=
  hid ⟨hA.same (Below.heap_alloc _ _ _ hA.lt),hB.same (Below.heap_alloc _ _ _ hB.lt),qsz w u0 u1 v0 v1 false,qar _ _ qal,hne,by have:=hA.lt;omega,by have:=hB.lt;omega,(qaa _ _).alloc (by have:=hA.lt;have:=hA.parts.1;omega) _⟩
 have jE:Hid ((qan B64 b).length=wl b):=hid rfl;clear hA hB hne pO nL lU mI R hv lJ oJ R1 R2 h1 h2 h3 h4 h5 haP hi;go_enter Tryz.func155,Tryz.ntmps155;go_wp2_with fail;generalize (w.alloc (.cells #[.int .u64 (u0:Nat),.int .u64 (u1:Nat),.int .u64 (v0:Nat),.int .u64 (v1:Nat),.bool false] 203))=w0 at *
 go_loopw [2] (fun s wr=>∃(g c n:Nat) (l:List Nat),s = .slice (some ⟨g,0,none⟩) n c∧n≤wl a∧Hid (l.length=n)∧Hid (qla w base ga ca a b u0 u1 v0 v1 false wr g c l)) (fun s _=>wl a-qk3 s)
 case atStart=>exact⟨gb,cb,wl b,qan B64 b,rfl,HN,jE,bX⟩
 case round=>
  obtain⟨g,c,n,l,rfl,hn,HL,HT⟩:=hrel;clear bX jE;by_cases aY:n<wl a
  ·have rA:=hid HT.out.B
   go_wp2_with (at_builtin;refine wpList_append_lies _ rfl _ _ 85 rfl base 160 i0 (.int .u64 0) 1 8 Tryz.underlying85 HI.out cU eE eK rfl (by decide) (.slice (some ⟨g,0,none⟩) n c) n (l.map fun x=>Value.int .u64 (x:Nat)) rfl ?qc0 ⟨wr.heap.size,0,none⟩ 1 1 [Value.int .u64 ((0:Nat):Int)] rfl rfl ?mK ?Cg (by decide) ?Ch ?Ci ?Cj (wr.heap.size+1) ?Ck ?_)
   case qc0=>
    have h:=(HT.out.B.same (w':=wr.alloc (.cells #[.int .u64 0] 160)) (Below.heap_alloc _ _ _ HT.out.B.lt)).2;rw[HL.out] at h;exact h
   case mK=>exact World.news_of_block (heap_alloc_new wr _)
   case Cg=>
         intro u hu;obtain rfl:u=Value.int .u64 ((0:Nat):Int):=by simpa using hu
         rfl
   case Ch=>unfold maxLen;omega
   case Ci=>omega
   case Cj=>have:=HT.out.B.lt;have:=HT.out.B.parts.1;rw[qab];omega
   case Ck=>rw[qab]
   intro g' cap w1 aU bN Fh hlt';have cV:Hid (qla w base ga ca a b u0 u1 v0 v1 false w1 g' cap (l++[0])):=hid (HT.out.next _ (by rw[HL.out];exact aU) bN Fh);have Cv:Hid ((l++[0]).length=n+1):=hid (by simp[HL.out]);clear aU bN Fh hlt' rA HT;go_wp2_with fail;go_roundw
   case rel=>exact⟨g',cap,n+1,l++[0],rfl,by omega,Cv,cV⟩
   case measure=>simp[qk3];omega
  ·obtain rfl:n=wl a:=by omega
   have hl:=HL.out
   have Ky:Hid (Calls Tryz.prog 190 #[.slice (some ⟨g,0,none⟩) (wl a) c,.slice (some ⟨ga,0,none⟩) (wl a) ca,.agg #[.int .u64 v0,.int .u64 u1],.agg #[.int .u64 u0,.int .u64 v1]] wr fun e w'=>e = .returned (.tuple #[])∧((∃S1:List Nat,S1.length=wl a∧val B64 S1=b*v0-a*u0∧qdm w' base g c S1)∧(∃S2:List Nat,S2.length=wl a∧val B64 S2=a*u1-b*v1∧qdm w' base ga ca S2))∧Below base w w'):=by
    refine hid ((qk9 g ga (wl a) c ca base b a v0 u1 u0 v1 l (qan B64 a) wr (Ne.symm HT.out.hne) HT.out.B.parts.1 HT.out.A.parts.1 hl rfl HT.out.B.own HT.out.A.own HT.out.B.1 HT.out.A.1 HT.out.hv (qar _ _ qal) tA.out vK.out vO.out gS.out rK.out mE.out On.out mW.out mL.out).mono ?_);rintro e w' ⟨h1,h2,h3⟩;exact⟨h1,qs0 HT.out.B HT.out.A hl rfl ⟨h2,h3⟩,HT.out.hb.trans h3.1⟩
   have iF:Hid (g≠ga):=hid (Ne.symm HT.out.hne);obtain⟨eY,bO,bG,Oo,Cw⟩:=qon HT.out.S;clear hl HL HT mE mW On mL;generalize b*v0-a*u0=x at *;generalize a*u1-b*v1=y at *;go_wp2_with fail;refine Ky.out.mono ?_;rintro e w2 ⟨rfl,⟨⟨S1,dO,nS,eU⟩,⟨S2,fS,qP,fL⟩⟩,aR⟩;have cV:=hid (qg8 base g c (wl a) x S1 w2 eU dO nS);have fZ:=hid (qg8 base ga ca (wl a) y S2 w2 fL fS qP);have aK:=hid aR;clear dO nS eU fS qP fL aR Ky eY bO bG Oo Cw;go_wp2_with fail;refine cV.out.mono ?_;rintro e w' ⟨⟨rfl,eU⟩,rfl⟩;have fY:=hid eU;clear eU;go_wp2_with fail;refine fZ.out.mono ?_;rintro e w' ⟨⟨rfl,fL⟩,rfl⟩;have eV:=hid fL;clear fL;go_wp2_with fail;go_ret2;exact⟨⟨_,_,_,_,x,y,rfl,fY.out,eV.out,iF.out,HE3.out,Lg.out,HE5.out⟩,aK.out⟩
theorem qlb(ga ca gb cb base a b u0 u1 v0 v1:Nat)(ev:Bool)(w:World)(hA:qdm w base ga ca (qan B64 a))(hB:qdm w base gb cb (qan B64 b))(hne:ga≠gb)
  (pO:u0<B64) (nL:u1<B64) (lU:v0<B64) (mI:v1<B64) (R:Rec a b u0 u1 v0 v1 ev) (hv:v0≠0) (lJ:wl a≤Cap) (oJ:b≤a):
  Calls Tryz.prog 155 #[.agg #[.int .u64 u0,.int .u64 u1,.int .u64 v0,.int .u64 v1,.bool ev],.slice (some ⟨ga,0,none⟩) (wl a) ca,.slice (some ⟨gb,0,none⟩) (wl b) cb] w (q69 w base a b):=by
 cases ev
 ·exact q4u ga ca gb cb base a b u0 u1 v0 v1 w hA hB hne pO nL lU mI R hv lJ oJ
 ·exact q02 ga ca gb cb base a b u0 u1 v0 v1 w hA hB hne pO nL lU mI R hv lJ oJ
end Go.Proofs.YtlkdlffhmakbgaaGreatDoor
