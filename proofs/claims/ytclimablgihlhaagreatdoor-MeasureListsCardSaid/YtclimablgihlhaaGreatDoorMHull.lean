/- Hull and meet of intervals, and when two of them have no value in common. -/
import Derived.Test.YtclimablgihlhaaGreatDoorMClash
import Derived.Test.YtclimablgihlhaaGreatDoorMKeeps
import Derived.Test.YtclimablgihlhaaGreatDoorMMean
set_option linter.all false
namespace Go.Proofs.YtclimablgihlhaaGreatDoor
open Go.RowKit
set_option maxRecDepth 100000
set_option maxHeartbeats 16000000
def qbz(h s:Rat × Rat):Rat × Rat:=(qmu h.1 s.1,qmv h.2 s.2)
def qbt(h s:Rat × Rat):Rat × Rat:=(qmv h.1 s.1,qmu h.2 s.2)
theorem q29(a b:Rat):qmu a b≤a∧qmu a b≤b:=by
 unfold qmu;split<;>grind
theorem q3a(a b:Rat):a≤qmv a b∧b≤qmv a b:=by
 unfold qmv;split<;>grind
theorem q3b(a b:Rat):qmu a b=a∨qmu a b=b:=by
 unfold qmu;split<;>simp
theorem q3c(a b:Rat):qmv a b=a∨qmv a b=b:=by
 unfold qmv;split<;>simp
theorem qub:∀(l:List (Rat × Rat)) (q:Rat × Rat),(l.foldl qbz q).1≤q.1∧q.2≤(l.foldl qbz q).2∧(∀s ∈ l,(l.foldl qbz q).1≤s.1∧s.2≤(l.foldl qbz q).2)∧((l.foldl qbz q).1=q.1∨∃s ∈ l,(l.foldl qbz q).1=s.1)∧((l.foldl qbz q).2=q.2∨∃s ∈ l,(l.foldl qbz q).2=s.2)
 | [],q=>⟨Rat.le_refl,Rat.le_refl,fun s hs=>by simp at hs,.inl rfl,.inl rfl⟩
 | x::l,q=>by
  obtain⟨h1,h2,h3,h4,h5⟩:=qub l (qbz q x);show(l.foldl qbz (qbz q x)).1≤q.1∧q.2≤(l.foldl qbz (qbz q x)).2∧(∀s ∈ x::l,(l.foldl qbz (qbz q x)).1≤s.1∧s.2≤(l.foldl qbz (qbz q x)).2)∧((l.foldl qbz (qbz q x)).1=q.1∨∃s ∈ x::l,(l.foldl qbz (qbz q x)).1=s.1)∧((l.foldl qbz (qbz q x)).2=q.2∨∃s ∈ x::l,(l.foldl qbz (qbz q x)).2=s.2);generalize l.foldl qbz (qbz q x)=r at *;obtain⟨m1,m2⟩:=q29 q.1 x.1;obtain⟨m3,m4⟩:=q3a q.2 x.2;have e1:(qbz q x).1=qmu q.1 x.1:=rfl;have e2:(qbz q x).2=qmv q.2 x.2:=rfl;rw[e1] at h1 h4;rw[e2] at h2 h5;refine⟨Rat.le_trans h1 m1,Rat.le_trans m3 h2,fun s hs => ?_, ?_, ?_⟩
  ·rcases List.mem_cons.1 hs with rfl|hs
   ·exact⟨Rat.le_trans h1 m2,Rat.le_trans m4 h2⟩
   ·exact h3 s hs
  ·rcases h4 with h4|⟨s,hs,h4⟩
   ·rcases q3b q.1 x.1 with e|e
    ·exact .inl (h4.trans e)
    ·exact .inr ⟨x,List.mem_cons_self ..,h4.trans e⟩
   ·exact .inr ⟨s,List.mem_cons_of_mem _ hs,h4⟩
  ·rcases h5 with h5|⟨s,hs,h5⟩
   ·rcases q3c q.2 x.2 with e|e
    ·exact .inl (h5.trans e)
    ·exact .inr ⟨x,List.mem_cons_self ..,h5.trans e⟩
   ·exact .inr ⟨s,List.mem_cons_of_mem _ hs,h5⟩
theorem quc:∀(l:List (Rat × Rat)) (q:Rat × Rat),q.1≤(l.foldl qbt q).1∧(l.foldl qbt q).2≤q.2∧(∀s ∈ l,s.1≤(l.foldl qbt q).1∧(l.foldl qbt q).2≤s.2)∧((l.foldl qbt q).1=q.1∨∃s ∈ l,(l.foldl qbt q).1=s.1)∧((l.foldl qbt q).2=q.2∨∃s ∈ l,(l.foldl qbt q).2=s.2)
 | [],q=>⟨Rat.le_refl,Rat.le_refl,fun s hs=>by simp at hs,.inl rfl,.inl rfl⟩
 | x::l,q=>by
  obtain⟨h1,h2,h3,h4,h5⟩:=quc l (qbt q x);show q.1≤(l.foldl qbt (qbt q x)).1∧(l.foldl qbt (qbt q x)).2≤q.2∧(∀s ∈ x::l,s.1≤(l.foldl qbt (qbt q x)).1∧(l.foldl qbt (qbt q x)).2≤s.2)∧((l.foldl qbt (qbt q x)).1=q.1∨∃s ∈ x::l,(l.foldl qbt (qbt q x)).1=s.1)∧((l.foldl qbt (qbt q x)).2=q.2∨∃s ∈ x::l,(l.foldl qbt (qbt q x)).2=s.2);generalize l.foldl qbt (qbt q x)=r at *;obtain⟨m1,m2⟩:=q3a q.1 x.1;obtain⟨m3,m4⟩:=q29 q.2 x.2;have e1:(qbt q x).1=qmv q.1 x.1:=rfl;have e2:(qbt q x).2=qmu q.2 x.2:=rfl;rw[e1] at h1 h4;rw[e2] at h2 h5;refine⟨Rat.le_trans m1 h1,Rat.le_trans h2 m3,fun s hs => ?_, ?_, ?_⟩
  ·rcases List.mem_cons.1 hs with rfl|hs
   ·exact⟨Rat.le_trans m2 h1,Rat.le_trans h2 m4⟩
   ·exact h3 s hs
  ·rcases h4 with h4|⟨s,hs,h4⟩
   ·rcases q3c q.1 x.1 with e|e
    ·exact .inl (h4.trans e)
    ·exact .inr ⟨x,List.mem_cons_self ..,h4.trans e⟩
   ·exact .inr ⟨s,List.mem_cons_of_mem _ hs,h4⟩
  ·rcases h5 with h5|⟨s,hs,h5⟩
   ·rcases q3b q.2 x.2 with e|e
    ·exact .inl (h5.trans e)
    ·exact .inr ⟨x,List.mem_cons_self ..,h5.trans e⟩
   ·exact .inr ⟨s,List.mem_cons_of_mem _ hs,h5⟩
def qfm(l:List (Rat × Rat)):Rat × Rat:=l.foldl qbz (l.getD 0 (0,0))
def qbu(l:List (Rat × Rat)):Rat × Rat:=l.foldl qbt (l.getD 0 (0,0))
theorem qxc{l:List (Rat × Rat)}{i:Nat}(h:i<l.length):l.getD i (0,0) ∈ l:=by
 rw[zaw,zau h,Option.getD_some];exact List.getElem_mem _
theorem q3d{l:List (Rat × Rat)}(h:l≠[]):(∀s ∈ l,(qfm l).1≤s.1∧s.2≤(qfm l).2)∧(∃s ∈ l,(qfm l).1=s.1)∧∃s ∈ l,(qfm l).2=s.2:=by
 obtain⟨_,_,h3,h4,h5⟩:=qub l (l.getD 0 (0,0));have hm:=qxc (l:=l) (i:=0) (List.length_pos_iff.2 h);exact⟨h3,h4.elim (fun e=>⟨_,hm,e⟩) id,h5.elim (fun e=>⟨_,hm,e⟩) id⟩
theorem q3e{l:List (Rat × Rat)}(h:l≠[]):(∀s ∈ l,s.1≤(qbu l).1∧(qbu l).2≤s.2)∧(∃s ∈ l,(qbu l).1=s.1)∧∃s ∈ l,(qbu l).2=s.2:=by
 obtain⟨_,_,h3,h4,h5⟩:=quc l (l.getD 0 (0,0));have hm:=qxc (l:=l) (i:=0) (List.length_pos_iff.2 h);exact⟨h3,h4.elim (fun e=>⟨_,hm,e⟩) id,h5.elim (fun e=>⟨_,hm,e⟩) id⟩
theorem qls{l:List (Rat × Rat)}(f:Rat × Rat→Rat × Rat→Rat × Rat)(q:Rat × Rat)(k:Nat)(s:Rat × Rat)(h:l[k]? = some s):(l.take (k+1)).foldl f q=f ((l.take k).foldl f q) s:=by
 have e:l.take (k+1)=l.take k++[s]:=by rw[List.take_add_one,h];rfl
 rw[e,List.foldl_append];rfl
theorem q6x{a b:Rat}{m:Nat}(ha:bd a m)(hb:bd b m):bd (qmu a b) m:=by unfold qmu;split<;>assumption
theorem q6y{a b:Rat}{m:Nat}(ha:bd a m)(hb:bd b m):bd (qmv a b) m:=by unfold qmv;split<;>assumption
theorem qv1{f:Rat × Rat→Rat × Rat→Rat × Rat}{m:Nat}(hf:∀p q:Rat × Rat,bd p.1 m→bd p.2 m→bd q.1 m→bd q.2 m→bd (f p q).1 m∧bd (f p q).2 m):∀(l:List (Rat × Rat)) (q:Rat × Rat),bd q.1 m→bd q.2 m→(∀s ∈ l,bd s.1 m∧bd s.2 m)→bd (l.foldl f q).1 m∧bd (l.foldl f q).2 m
 | [],_,h1,h2,_=>⟨h1,h2⟩
 | x::l,q,h1,h2,h3=>by
  have hx:=h3 x (List.mem_cons_self ..);have hq:=hf q x h1 h2 hx.1 hx.2;exact qv1 hf l (f q x) hq.1 hq.2 fun s hs=>h3 s (List.mem_cons_of_mem _ hs)
def q9z(qs:List (Rat × Rat))(w:World)(e:Ending)(w':World):Prop:=qdw (qfm qs).1 (qfm qs).2 w e w'
def qud(qs:List (Rat × Rat))(w:World)(e:Ending)(w':World):Prop:=
 if(qbu qs).1≤(qbu qs).2 then qdw (qbu qs).1 (qbu qs).2 w e w'
 else e = .returned (.tuple #[.agg #[.string ⟨#[]⟩,.string ⟨#[]⟩],.int .i64 15])∧Below w.heap.size w w'
theorem q8k(vl:Value)(l:List (BA × BA))(w:World)(hg:GW w)(hv:qbq w vl l)(hs:∀s ∈ l,s.1.size≤1073741824∧s.2.size≤1073741824)(h0:qak l=0):
  Calls Tryz.prog 6 #[vl] w (q9z (l.map spQ) w):=by
 obtain⟨mC,mL,-⟩:=qct h0;have bV:Below w.heap.size w (w.alloc (.cells #[.string ⟨#[]⟩,.string ⟨#[]⟩] 28)):=zam _ _;have aS:Hid (Own (w.alloc (.cells #[.string ⟨#[]⟩,.string ⟨#[]⟩] 28)) w.heap.size 2 (qko (.string ⟨#[]⟩) (.string ⟨#[]⟩))):=hid (qbg w 28 _ _)
 have cU:=hid ((qbw vl l _ (hg.later bV) (hv.later bV) hs).mono (R':=fun e w'=>(∃g,e = .returned (.tuple #[.slice (some ⟨g,0,none⟩) l.length l.length,.int .i64 0])∧qcz ivK w' g l.length (l.map spQ))∧Below (w.alloc (.cells #[.string ⟨#[]⟩,.string ⟨#[]⟩] 28)).heap.size (w.alloc (.cells #[.string ⟨#[]⟩,.string ⟨#[]⟩] 28)) w') (fun e w' h=>by
  unfold qcs at h;rw[if_pos h0] at h;obtain⟨⟨g,_,he,hr⟩,hb⟩:=h
  exact⟨⟨g,he,hr⟩,hb⟩))
 have eE:=hid (qqm h0);have aU:Hid ((l.map spQ).length=l.length):=hid (List.length_map _);obtain⟨p,c,rfl,bP,bK,aA⟩:=hv;have cP:=hid bV;unfold maxLen at bK;clear aA hg hs h0 bV;generalize l.map spQ=qs at *;generalize hn:l.length=n at *;clear hn l;have HN:Hid (qs≠[]):=hid (fun e=>by have:=aU.out;rw[e] at this;simp at this;omega);obtain⟨q0,iC⟩:∃q,qs[0]? = some q:=⟨qs[0]'(by rw[aU.out];omega),zau _⟩;have zH:=hid iC;clear iC;have oW:Hid (qs.getD 0 (0,0)=q0):=hid (by rw[zaw,zH.out];rfl);have sY:Hid (∀k q,qs[k]? = some q→(qs.take (k+1)).foldl qbz q0=qbz ((qs.take k).foldl qbz q0) q):=hid fun k q h=>qls qbz q0 k q h;have xY:Hid ((qs.take n).foldl qbz q0=qfm qs):=hid (by unfold qfm;rw[oW.out,←aU.out,List.take_length]);have dL:=eE.out 0 q0 zH.out
 have fF:Hid (∀k,bd ((qs.take k).foldl qbz q0).1 600∧bd ((qs.take k).foldl qbz q0).2 600):=hid fun k=>qv1 (fun p q a b c d=>⟨q6x a c,q6y b d⟩) _ _ dL.1 dL.2.1 (fun s hs=>by
  obtain⟨i,hi⟩:=List.getElem?_of_mem (List.mem_of_mem_take hs)
  exact⟨(eE.out i s hi).1,(eE.out i s hi).2.1⟩)
 have Ic:Hid ((qs.take 0).foldl qbz q0=q0):=hid rfl;generalize nV:(fun k=>(qs.take k).foldl qbz q0)=acc at *;have nW:Hid (∀k,(qs.take k).foldl qbz q0=acc k):=hid fun k=>congrFun nV k;simp only[nW.out] at sY xY fF Ic;clear nV nW dL;have cT:(0:Int)<(n:Int):=by omega
 go_enter Tryz.func6,Tryz.ntmps6;go_wp2_with fail;refine cU.out.mono ?_;rintro e w1 ⟨⟨g,rfl,hr⟩,hb⟩;have HR:=hid hr;have HB:=hid (cP.out.trans (hb.mono cP.out.size));have cZ:=hid (aS.out.later (hb.mono aS.out.1));obtain⟨x0,y0,⟨a0,a1,a2,a3,a4,a5⟩,hx,hy⟩:=qh9 hr 0 q0 zH.out;have gB:Below w1.heap.size w1 (w1.alloc (.cells #[.bool x0.b,.slice x0.p x0.k x0.c,.slice x0.q x0.j x0.d,.bool y0.b,.slice y0.p y0.k y0.c,.slice y0.q y0.j y0.d] 76)):=zam _ _;have Df:=hid (qgv w1 x0 y0 76);have gE:Hid (qaj (w1.alloc (.cells #[.bool x0.b,.slice x0.p x0.k x0.c,.slice x0.q x0.j x0.d,.bool y0.b,.slice y0.p y0.k y0.c,.slice y0.q y0.j y0.d] 76)) (.agg #[.bool x0.b,.slice x0.p x0.k x0.c,.slice x0.q x0.j x0.d]) (acc 0).1∧qaj (w1.alloc (.cells #[.bool x0.b,.slice x0.p x0.k x0.c,.slice x0.q x0.j x0.d,.bool y0.b,.slice y0.p y0.k y0.c,.slice y0.q y0.j y0.d] 76)) (.agg #[.bool y0.b,.slice y0.p y0.k y0.c,.slice y0.q y0.j y0.d]) (acc 0).2):=hid (by rw[Ic.out];exact⟨hx.later gB,hy.later gB⟩);have sZ:=hid gB;simp only[Nat.zero_mul,Nat.zero_add] at a0 a1 a2 a3 a4 a5;clear hr hb hx hy gB cU;go_wp2_with fail;clear a0 a1 a2 a3 a4 a5
 go_loopw [23] (fun i wr=>∃k:Nat,k≤n∧i = .int .i64 k∧∃xm ym:NV,Hid (Below w1.heap.size w1 wr)∧Hid (qew wr w1.heap.size xm ym)∧Hid (qaj wr (.agg #[.bool xm.b,.slice xm.p xm.k xm.c,.slice xm.q xm.j xm.d]) (acc k).1∧qaj wr (.agg #[.bool ym.b,.slice ym.p ym.k ym.c,.slice ym.q ym.j ym.d]) (acc k).2)) (fun i _=>n-(intOf i).toNat)
 case atStart=>exact⟨0,Nat.zero_le _,rfl,x0,y0,sZ,Df,gE⟩
 case round=>
  obtain⟨k,hk,rfl,xm,ym,bR,rS,Ck⟩:=hrel;clear Df sZ gE;by_cases jG:k<n
  ·obtain⟨q,hq⟩:∃q,qs[k]? = some q:=⟨qs[k]'(by rw[aU.out];exact jG),zau _⟩
   have rR:=HR.out.later qeu bR.out;obtain⟨x,y,⟨a0,a1,a2,a3,a4,a5⟩,hx,hy⟩:=qh9 rR k q hq;have aD:Below wr.heap.size wr (wr.alloc (.cells #[.bool x.b,.slice x.p x.k x.c,.slice x.q x.j x.d,.bool y.b,.slice y.p y.k y.c,.slice y.q y.j y.d] 76)):=zam _ _;have Cl:=hid (sY.out k q hq);have bq:=eE.out k q hq;have ba:=fF.out k;have jA:=hid (qgv wr x y 76);have sG:Hid (qaj (wr.alloc (.cells #[.bool x.b,.slice x.p x.k x.c,.slice x.q x.j x.d,.bool y.b,.slice y.p y.k y.c,.slice y.q y.j y.d] 76)) (.agg #[.bool x.b,.slice x.p x.k x.c,.slice x.q x.j x.d]) q.1∧qaj (wr.alloc (.cells #[.bool x.b,.slice x.p x.k x.c,.slice x.q x.j x.d,.bool y.b,.slice y.p y.k y.c,.slice y.q y.j y.d] 76)) (.agg #[.bool y.b,.slice y.p y.k y.c,.slice y.q y.j y.d]) q.2):=hid ⟨hx.later aD,hy.later aD⟩;have bO:=hid (rS.out.later (aD.mono rS.out.1));have tA:Hid (qaj (wr.alloc (.cells #[.bool x.b,.slice x.p x.k x.c,.slice x.q x.j x.d,.bool y.b,.slice y.p y.k y.c,.slice y.q y.j y.d] 76)) (.agg #[.bool xm.b,.slice xm.p xm.k xm.c,.slice xm.q xm.j xm.d]) (acc k).1∧qaj (wr.alloc (.cells #[.bool x.b,.slice x.p x.k x.c,.slice x.q x.j x.d,.bool y.b,.slice y.p y.k y.c,.slice y.q y.j y.d] 76)) (.agg #[.bool ym.b,.slice ym.p ym.k ym.c,.slice ym.q ym.j ym.d]) (acc k).2):=hid ⟨Ck.out.1.later aD,Ck.out.2.later aD⟩;have eV:=hid (bR.out.trans (aD.mono bR.out.size));have Cn:Hid (w1.heap.size≠wr.heap.size):=hid (by have:=rS.out.1;omega);clear hq rR hx hy aD;generalize Dq:wr.heap.size=gs at *;go_wp2_with fail
   try rw[Dq]
   clear a0 a1 a2 a3 a4 a5;generalize (wr.alloc (.cells #[.bool x.b,.slice x.p x.k x.c,.slice x.q x.j x.d,.bool y.b,.slice y.p y.k y.c,.slice y.q y.j y.d] 76))=w3 at *;have dO:Hid (Below w3.heap.size w3 w3.drew):=hid ((zan _ _).drew);have cE:Hid (∀W,Below w3.heap.size w3 W→Calls Tryz.prog 30 #[.agg #[.bool xm.b,.slice xm.p xm.k xm.c,.slice xm.q xm.j xm.d],.agg #[.bool x.b,.slice x.p x.k x.c,.slice x.q x.j x.d]] W fun e w'=>(∃z:NV,e = .returned (.agg #[.bool z.b,.slice z.p z.k z.c,.slice z.q z.j z.d])∧qaj w' (.agg #[.bool z.b,.slice z.p z.k z.c,.slice z.q z.j z.d]) (qmu (acc k).1 q.1))∧Below W.heap.size W w'):=hid fun W hW=>qcn (qqp _ _ _ _ W (tA.out.1.later hW) (sG.out.1.later hW) (by have:=bq.1.rs;have:=ba.1.rs;unfold Cap;omega));have dW:Hid (∀W,Below w3.heap.size w3 W→Calls Tryz.prog 31 #[.agg #[.bool ym.b,.slice ym.p ym.k ym.c,.slice ym.q ym.j ym.d],.agg #[.bool y.b,.slice y.p y.k y.c,.slice y.q y.j y.d]] W fun e w'=>(∃z:NV,e = .returned (.agg #[.bool z.b,.slice z.p z.k z.c,.slice z.q z.j z.d])∧qaj w' (.agg #[.bool z.b,.slice z.p z.k z.c,.slice z.q z.j z.d]) (qmv (acc k).2 q.2))∧Below W.heap.size W w'):=hid fun W hW=>qcn (qph _ _ _ _ W (tA.out.2.later hW) (sG.out.2.later hW) (by have:=bq.2.1.rs;have:=ba.2.rs;unfold Cap;omega));have e0:w3.cell? ⟨gs,0,none⟩=some (.bool x.b)∧w3.cell? ⟨gs,1,none⟩=some (.slice x.p x.k x.c)∧w3.cell? ⟨gs,2,none⟩=some (.slice x.q x.j x.d)∧w3.cell? ⟨gs,3,none⟩=some (.bool y.b)∧w3.cell? ⟨gs,4,none⟩=some (.slice y.p y.k y.c)∧w3.cell? ⟨gs,5,none⟩=some (.slice y.q y.j y.d):=qew.cells jA.out;obtain⟨⟨m0,f0⟩,⟨m1,f1⟩,⟨m2,f2⟩,⟨m3,f3⟩,⟨m4,f4⟩,⟨m5,f5⟩⟩:=qbl bO.out;clear bq ba
   refine wp_region_held_drew (S:=(fun W=>W.cell? ⟨gs,0,none⟩=some (.bool x.b)∧W.cell? ⟨gs,1,none⟩=some (.slice x.p x.k x.c)∧W.cell? ⟨gs,2,none⟩=some (.slice x.q x.j x.d)∧W.cell? ⟨gs,3,none⟩=some (.bool y.b)∧W.cell? ⟨gs,4,none⟩=some (.slice y.p y.k y.c)∧W.cell? ⟨gs,5,none⟩=some (.slice y.q y.j y.d))) (by kernel_rfl) e0 (fun aE => ?_)
   refine' wpAnyH_take (i:=0) (v:=_) rfl (by kernel_rfl) (by kernel_rfl) (by kernel_rfl) (fun _ _ _ h=>h) (Or.inl ⟨by rfl, ?rT⟩) aE ?rest1
   case rT=>(intro w hSw;(try dsimp only at hSw);go_simp;(try with_reducible rfl))
   try simp only[Act.put,List.setIfInBounds_toArray,List.set_cons_zero,List.set_cons_succ]
   refine' wpAnyH_take (i:=2) (v:=_) rfl (by kernel_rfl) (by kernel_rfl) (by kernel_rfl) (fun _ _ _ h=>h) (Or.inl ⟨by rfl, ?tU⟩) aE ?rest2
   case tU=>(intro w hSw;(try dsimp only at hSw);go_simp;(try with_reducible rfl))
   try simp only[Act.put,List.setIfInBounds_toArray,List.set_cons_zero,List.set_cons_succ]
   refine' wpAnyH_take (i:=3) (v:=_) rfl (by kernel_rfl) (by kernel_rfl) (by kernel_rfl) (fun _ _ _ h=>h) (Or.inl ⟨by rfl, ?Iu⟩) aE ?rest3
   case Iu=>(intro w hSw;(try dsimp only at hSw);go_simp;(try with_reducible rfl))
   try simp only[Act.put,List.setIfInBounds_toArray,List.set_cons_zero,List.set_cons_succ]
   refine' wpAnyH_take (i:=5) (v:=_) rfl (by kernel_rfl) (by kernel_rfl) (by kernel_rfl) (fun _ _ _ h=>h) (Or.inl ⟨by rfl, ?Ui⟩) aE ?rest4
   case Ui=>(intro w hSw;(try dsimp only at hSw);go_simp;(try with_reducible rfl))
   try simp only[Act.put,List.setIfInBounds_toArray,List.set_cons_zero,List.set_cons_succ]
   refine' wpAnyH_take (i:=7) (v:=_) rfl (by kernel_rfl) (by kernel_rfl) (by kernel_rfl) (fun _ _ _ h=>h) (Or.inl ⟨by rfl, ?Uj⟩) aE ?rest5
   case Uj=>(intro w hSw;(try dsimp only at hSw);go_simp;(try with_reducible rfl))
   try simp only[Act.put,List.setIfInBounds_toArray,List.set_cons_zero,List.set_cons_succ]
   refine' wpAnyH_take (i:=8) (v:=_) rfl (by kernel_rfl) (by kernel_rfl) (by kernel_rfl) (fun _ _ _ h=>h) (Or.inl ⟨by rfl, ?Uk⟩) aE ?rest6
   case Uk=>(intro w hSw;(try dsimp only at hSw);go_simp;(try with_reducible rfl))
   try simp only[Act.put,List.setIfInBounds_toArray,List.set_cons_zero,List.set_cons_succ]
   refine wpAnyH_ready (rs:=[1,6]) (by kernel_rfl) (by simp) ?_;refine AllReadyH.cons rfl (fun K hK => ?step7) ?next7
   case step7=>
    go_simp;refine hK.out _ _ ?Od (fun qY => ?more1)
    case Od=>exact aE
    clear hK;refine wpAnyH_ready (rs:=[4,6]) (by kernel_rfl) (by simp) ?_;refine AllReadyH.cons rfl (fun K hK => ?step8) ?next8
    case step8=>
     go_simp
     go_at_call 30;(with_reducible refine(cE.out _ dO.out).mono ?_);rintro e wA ⟨⟨z1,rfl,hn⟩,hb⟩;have eQ:=hid hn;have bQ:=hid (dO.out.trans (hb.mono dO.out.size));have pA:=bO.out.later (bQ.out.mono bO.out.1);have cA:wA.cell? ⟨gs,0,none⟩=some (.bool x.b)∧wA.cell? ⟨gs,1,none⟩=some (.slice x.p x.k x.c)∧wA.cell? ⟨gs,2,none⟩=some (.slice x.q x.j x.d)∧wA.cell? ⟨gs,3,none⟩=some (.bool y.b)∧wA.cell? ⟨gs,4,none⟩=some (.slice y.p y.k y.c)∧wA.cell? ⟨gs,5,none⟩=some (.slice y.q y.j y.d):=qew.cells (jA.out.later (bQ.out.mono jA.out.1));obtain⟨⟨zB,zC⟩,⟨zD,zE⟩,⟨Md,Me⟩,⟨Mf,Mg⟩,⟨Mh,Mi⟩,⟨Mj,Mk⟩⟩:=qbl pA;clear hn hb pA
     go_wp2_with fail;refine hK.out _ _ ?Bu (fun qZ => ?more2)
     case Bu=>exact cA
     clear hK;refine wpAnyH_ready (rs:=[6]) (by kernel_rfl) (by simp) ?_;refine AllReadyH.cons rfl (fun K hK => ?step9) ?q4u
     case step9=>
      go_simp;refine hK.out _ _ ?Ul (fun nT => ?more3)
      case Ul=>exact cA
      clear hK;refine wpAnyH_ready (rs:=[9]) (by kernel_rfl) (by simp) ?_;refine AllReadyH.cons rfl (fun K hK => ?step10) ?next10
      case step10=>
       go_simp
       go_at_call 31;(with_reducible refine(dW.out _ bQ.out).mono ?_);rintro e wC ⟨⟨z2,rfl,hn⟩,hb⟩;have fY:=hid hn;have mF:=hid (eQ.out.later hb);have dY:=hid (bQ.out.trans (hb.mono bQ.out.size));have nU:=hid (bO.out.later (dY.out.mono bO.out.1));have cC:wC.cell? ⟨gs,0,none⟩=some (.bool x.b)∧wC.cell? ⟨gs,1,none⟩=some (.slice x.p x.k x.c)∧wC.cell? ⟨gs,2,none⟩=some (.slice x.q x.j x.d)∧wC.cell? ⟨gs,3,none⟩=some (.bool y.b)∧wC.cell? ⟨gs,4,none⟩=some (.slice y.p y.k y.c)∧wC.cell? ⟨gs,5,none⟩=some (.slice y.q y.j y.d):=qew.cells (jA.out.later (dY.out.mono jA.out.1));obtain⟨⟨xS,xT⟩,⟨xU,xV⟩,⟨Ie,Ig⟩,⟨Ih,Ii⟩,⟨Ij,Ik⟩,⟨Il,Im⟩⟩:=qbl nU.out;have cD:=qet cC Cn.out (.bool z1.b) (.slice z1.p z1.k z1.c) (.slice z1.q z1.j z1.d) (.bool z2.b) (.slice z2.p z2.k z2.c) (.slice z2.q z2.j z2.d);clear hn hb
       go_wp2_with fail;refine hK.out _ _ ?Um (fun iM => ?more4)
       case Um=>exact cC
       clear hK
       refine' wpAnyH_take (i:=10) (v:=_) rfl (by kernel_rfl) (by kernel_rfl) (by kernel_rfl) (fun _ _ _ h=>h) (Or.inl ⟨by rfl, ?Mx⟩) iM ?rest11
       case Mx=>(intro w hSw;(try dsimp only at hSw);go_simp;(try with_reducible rfl))
       try simp only[Act.put,List.setIfInBounds_toArray,List.set_cons_zero,List.set_cons_succ]
       refine wpAnyH_ready (rs:=[11]) (by kernel_rfl) (by simp) ?_;refine AllReadyH.cons rfl (fun K hK => ?step12) ?next12
       case step12=>
        go_simp;refine hK.out _ _ ?Un (fun rA => ?more5)
        case Un=>exact cD
        clear hK;refine wpAnyH_done (by kernel_rfl) ?_ _;have bJ:=qew.put (x':=z1) (y':=z2) nU.out;have iN:=hid bJ.1;have iO:Hid _:=hid (And.intro (bJ.2.1 _ _ mF.out) (bJ.2.1 _ _ fY.out));have iQ:=hid (bJ.2.2 w1.heap.size w1 (zap _) (eV.out.trans (dY.out.mono eV.out.size)));clear bJ;go_wp2_with fail;go_roundw
        case rel=>exact⟨k+1,by omega,by go_num,z1,z2,iQ,iN,hid (by rw[Cl.out];exact iO.out)⟩
        case measure=>simp[intOf];omega
       exact AllReadyH.nil
      exact AllReadyH.nil
     exact AllReadyH.nil
    refine AllReadyH.cons rfl (fun K hK => ?step13) ?next13
    case step13=>
     go_simp;refine hK.out _ _ ?Uo (fun rB => ?more6)
     case Uo=>exact aE
     clear hK;refine wpAnyH_ready (rs:=[4]) (by kernel_rfl) (by simp) ?_;refine AllReadyH.cons rfl (fun K hK => ?step14) ?next14
     case step14=>
      go_simp
      go_at_call 30;(with_reducible refine(cE.out _ dO.out).mono ?_);rintro e wA ⟨⟨z1,rfl,hn⟩,hb⟩;have eQ:=hid hn;have bQ:=hid (dO.out.trans (hb.mono dO.out.size));have pA:=bO.out.later (bQ.out.mono bO.out.1);have cA:wA.cell? ⟨gs,0,none⟩=some (.bool x.b)∧wA.cell? ⟨gs,1,none⟩=some (.slice x.p x.k x.c)∧wA.cell? ⟨gs,2,none⟩=some (.slice x.q x.j x.d)∧wA.cell? ⟨gs,3,none⟩=some (.bool y.b)∧wA.cell? ⟨gs,4,none⟩=some (.slice y.p y.k y.c)∧wA.cell? ⟨gs,5,none⟩=some (.slice y.q y.j y.d):=qew.cells (jA.out.later (bQ.out.mono jA.out.1));obtain⟨⟨zB,zC⟩,⟨zD,zE⟩,⟨Md,Me⟩,⟨Mf,Mg⟩,⟨Mh,Mi⟩,⟨Mj,Mk⟩⟩:=qbl pA;clear hn hb pA
      go_wp2_with fail;refine hK.out _ _ ?Up (fun rC => ?more7)
      case Up=>exact cA
      clear hK;refine wpAnyH_ready (rs:=[9]) (by kernel_rfl) (by simp) ?_;refine AllReadyH.cons rfl (fun K hK => ?step15) ?next15
      case step15=>
       go_simp
       go_at_call 31;(with_reducible refine(dW.out _ bQ.out).mono ?_);rintro e wC ⟨⟨z2,rfl,hn⟩,hb⟩;have fY:=hid hn;have mF:=hid (eQ.out.later hb);have dY:=hid (bQ.out.trans (hb.mono bQ.out.size));have nU:=hid (bO.out.later (dY.out.mono bO.out.1));have cC:wC.cell? ⟨gs,0,none⟩=some (.bool x.b)∧wC.cell? ⟨gs,1,none⟩=some (.slice x.p x.k x.c)∧wC.cell? ⟨gs,2,none⟩=some (.slice x.q x.j x.d)∧wC.cell? ⟨gs,3,none⟩=some (.bool y.b)∧wC.cell? ⟨gs,4,none⟩=some (.slice y.p y.k y.c)∧wC.cell? ⟨gs,5,none⟩=some (.slice y.q y.j y.d):=qew.cells (jA.out.later (dY.out.mono jA.out.1));obtain⟨⟨xS,xT⟩,⟨xU,xV⟩,⟨Ie,Ig⟩,⟨Ih,Ii⟩,⟨Ij,Ik⟩,⟨Il,Im⟩⟩:=qbl nU.out;have cD:=qet cC Cn.out (.bool z1.b) (.slice z1.p z1.k z1.c) (.slice z1.q z1.j z1.d) (.bool z2.b) (.slice z2.p z2.k z2.c) (.slice z2.q z2.j z2.d);clear hn hb
       go_wp2_with fail;refine hK.out _ _ ?Uq (fun gO => ?more8)
       case Uq=>exact cC
       clear hK
       refine' wpAnyH_take (i:=10) (v:=_) rfl (by kernel_rfl) (by kernel_rfl) (by kernel_rfl) (fun _ _ _ h=>h) (Or.inl ⟨by rfl, ?Co⟩) gO ?rest16
       case Co=>(intro w hSw;(try dsimp only at hSw);go_simp;(try with_reducible rfl))
       try simp only[Act.put,List.setIfInBounds_toArray,List.set_cons_zero,List.set_cons_succ]
       refine wpAnyH_ready (rs:=[11]) (by kernel_rfl) (by simp) ?_;refine AllReadyH.cons rfl (fun K hK => ?step17) ?next17
       case step17=>
        go_simp;refine hK.out _ _ ?Ur (fun rD => ?more9)
        case Ur=>exact cD
        clear hK;refine wpAnyH_done (by kernel_rfl) ?_ _;have bJ:=qew.put (x':=z1) (y':=z2) nU.out;have iN:=hid bJ.1;have iO:Hid _:=hid (And.intro (bJ.2.1 _ _ mF.out) (bJ.2.1 _ _ fY.out));have iQ:=hid (bJ.2.2 w1.heap.size w1 (zap _) (eV.out.trans (dY.out.mono eV.out.size)));clear bJ;go_wp2_with fail;go_roundw
        case rel=>exact⟨k+1,by omega,by go_num,z1,z2,iQ,iN,hid (by rw[Cl.out];exact iO.out)⟩
        case measure=>simp[intOf];omega
       exact AllReadyH.nil
      exact AllReadyH.nil
     exact AllReadyH.nil
    exact AllReadyH.nil
   refine AllReadyH.cons rfl (fun K hK => ?step18) ?next18
   case step18=>
    go_simp;refine hK.out _ _ ?Cp (fun mO => ?more10)
    case Cp=>exact aE
    clear hK;refine wpAnyH_ready (rs:=[1]) (by kernel_rfl) (by simp) ?_;refine AllReadyH.cons rfl (fun K hK => ?step19) ?next19
    case step19=>
     go_simp;refine hK.out _ _ ?Cq (fun kN => ?more11)
     case Cq=>exact aE
     clear hK;refine wpAnyH_ready (rs:=[4]) (by kernel_rfl) (by simp) ?_;refine AllReadyH.cons rfl (fun K hK => ?step20) ?next20
     case step20=>
      go_simp
      go_at_call 30;(with_reducible refine(cE.out _ dO.out).mono ?_);rintro e wA ⟨⟨z1,rfl,hn⟩,hb⟩;have eQ:=hid hn;have bQ:=hid (dO.out.trans (hb.mono dO.out.size));have pA:=bO.out.later (bQ.out.mono bO.out.1);have cA:wA.cell? ⟨gs,0,none⟩=some (.bool x.b)∧wA.cell? ⟨gs,1,none⟩=some (.slice x.p x.k x.c)∧wA.cell? ⟨gs,2,none⟩=some (.slice x.q x.j x.d)∧wA.cell? ⟨gs,3,none⟩=some (.bool y.b)∧wA.cell? ⟨gs,4,none⟩=some (.slice y.p y.k y.c)∧wA.cell? ⟨gs,5,none⟩=some (.slice y.q y.j y.d):=qew.cells (jA.out.later (bQ.out.mono jA.out.1));obtain⟨⟨zB,zC⟩,⟨zD,zE⟩,⟨Md,Me⟩,⟨Mf,Mg⟩,⟨Mh,Mi⟩,⟨Mj,Mk⟩⟩:=qbl pA;clear hn hb pA
      go_wp2_with fail;refine hK.out _ _ ?Cr (fun mP => ?more12)
      case Cr=>exact cA
      clear hK;refine wpAnyH_ready (rs:=[9]) (by kernel_rfl) (by simp) ?_;refine AllReadyH.cons rfl (fun K hK => ?step21) ?next21
      case step21=>
       go_simp
       go_at_call 31;(with_reducible refine(dW.out _ bQ.out).mono ?_);rintro e wC ⟨⟨z2,rfl,hn⟩,hb⟩;have fY:=hid hn;have mF:=hid (eQ.out.later hb);have dY:=hid (bQ.out.trans (hb.mono bQ.out.size));have nU:=hid (bO.out.later (dY.out.mono bO.out.1));have cC:wC.cell? ⟨gs,0,none⟩=some (.bool x.b)∧wC.cell? ⟨gs,1,none⟩=some (.slice x.p x.k x.c)∧wC.cell? ⟨gs,2,none⟩=some (.slice x.q x.j x.d)∧wC.cell? ⟨gs,3,none⟩=some (.bool y.b)∧wC.cell? ⟨gs,4,none⟩=some (.slice y.p y.k y.c)∧wC.cell? ⟨gs,5,none⟩=some (.slice y.q y.j y.d):=qew.cells (jA.out.later (dY.out.mono jA.out.1));obtain⟨⟨xS,xT⟩,⟨xU,xV⟩,⟨Ie,Ig⟩,⟨Ih,Ii⟩,⟨Ij,Ik⟩,⟨Il,Im⟩⟩:=qbl nU.out;have cD:=qet cC Cn.out (.bool z1.b) (.slice z1.p z1.k z1.c) (.slice z1.q z1.j z1.d) (.bool z2.b) (.slice z2.p z2.k z2.c) (.slice z2.q z2.j z2.d);clear hn hb
       go_wp2_with fail;refine hK.out _ _ ?Cs (fun fO => ?more13)
       case Cs=>exact cC
       clear hK
       refine' wpAnyH_take (i:=10) (v:=_) rfl (by kernel_rfl) (by kernel_rfl) (by kernel_rfl) (fun _ _ _ h=>h) (Or.inl ⟨by rfl, ?My⟩) fO ?rest22
       case My=>(intro w hSw;(try dsimp only at hSw);go_simp;(try with_reducible rfl))
       try simp only[Act.put,List.setIfInBounds_toArray,List.set_cons_zero,List.set_cons_succ]
       refine wpAnyH_ready (rs:=[11]) (by kernel_rfl) (by simp) ?_;refine AllReadyH.cons rfl (fun K hK => ?step23) ?next23
       case step23=>
        go_simp;refine hK.out _ _ ?Ct (fun mQ => ?more14)
        case Ct=>exact cD
        clear hK;refine wpAnyH_done (by kernel_rfl) ?_ _;have bJ:=qew.put (x':=z1) (y':=z2) nU.out;have iN:=hid bJ.1;have iO:Hid _:=hid (And.intro (bJ.2.1 _ _ mF.out) (bJ.2.1 _ _ fY.out));have iQ:=hid (bJ.2.2 w1.heap.size w1 (zap _) (eV.out.trans (dY.out.mono eV.out.size)));clear bJ;go_wp2_with fail;go_roundw
        case rel=>exact⟨k+1,by omega,by go_num,z1,z2,iQ,iN,hid (by rw[Cl.out];exact iO.out)⟩
        case measure=>simp[intOf];omega
       exact AllReadyH.nil
      exact AllReadyH.nil
     exact AllReadyH.nil
    exact AllReadyH.nil
   exact AllReadyH.nil
  ·have sQ:k=n:=by omega
   have Cj:Hid (qaj wr (.agg #[.bool xm.b,.slice xm.p xm.k xm.c,.slice xm.q xm.j xm.d]) (qfm qs).1∧qaj wr (.agg #[.bool ym.b,.slice ym.p ym.k ym.c,.slice ym.q ym.j ym.d]) (qfm qs).2):=hid (by rw[←xY.out,←sQ];exact Ck.out);have ba:=fF.out n;rw[xY.out] at ba;clear sQ;have mD:=hid (HB.out.trans (bR.out.mono HB.out.size));have iR:=hid (cZ.out.later (bR.out.mono cZ.out.1));obtain⟨m0,m1,m2,m3,m4,m5⟩:=qew.cells rS.out;have Js:=Cj;have sL:=iR;have Uz:=mD;have sW:=hid (qf3 _ _ _ wr (qf4 Js.out.1 Js.out.2) (by have:=ba.1.rs;unfold Cap;omega) (by have:=ba.2.rs;unfold Cap;omega));go_wp2_with fail;refine sW.out.mono ?_;rintro e wC h;obtain⟨s1,s2,ec,rfl,h2⟩:=qfk h;have uC:=hid h2;have xW:=hid (sL.out.later (h2.2.mono sL.out.1));obtain⟨⟨r0,g0⟩,⟨r1,g1⟩⟩:=qas xW.out;have fT:=hid (qbk (Uz.out.trans (h2.2.mono Uz.out.size)) (zap _) (.string s1) (.string s2));clear h h2 sW;go_wp2_with fail;refine bodyPost_ret (v := .tuple #[.agg #[.string s1,.string s2],.int .i64 ec]) ?_ rfl ?_
   ·simp[results,Tryz.results6,go_sem,r0,r1]
   ·exact⟨uC.out.1,fT.out⟩
theorem q3f(vl:Value)(l:List (BA × BA))(w:World)(hg:GW w)(hv:qbq w vl l)(hs:∀s ∈ l,s.1.size≤1073741824∧s.2.size≤1073741824)(h0:qak l=0):
  Calls Tryz.prog 7 #[vl] w (qud (l.map spQ) w):=by
 obtain⟨mC,mL,-⟩:=qct h0;have bV:Below w.heap.size w (w.alloc (.cells #[.string ⟨#[]⟩,.string ⟨#[]⟩] 28)):=zam _ _;have aS:Hid (Own (w.alloc (.cells #[.string ⟨#[]⟩,.string ⟨#[]⟩] 28)) w.heap.size 2 (qko (.string ⟨#[]⟩) (.string ⟨#[]⟩))):=hid (qbg w 28 _ _)
 have cU:=hid ((qbw vl l _ (hg.later bV) (hv.later bV) hs).mono (R':=fun e w'=>(∃g,e = .returned (.tuple #[.slice (some ⟨g,0,none⟩) l.length l.length,.int .i64 0])∧qcz ivK w' g l.length (l.map spQ))∧Below (w.alloc (.cells #[.string ⟨#[]⟩,.string ⟨#[]⟩] 28)).heap.size (w.alloc (.cells #[.string ⟨#[]⟩,.string ⟨#[]⟩] 28)) w') (fun e w' h=>by
  unfold qcs at h;rw[if_pos h0] at h;obtain⟨⟨g,_,he,hr⟩,hb⟩:=h
  exact⟨⟨g,he,hr⟩,hb⟩))
 have eE:=hid (qqm h0);have aU:Hid ((l.map spQ).length=l.length):=hid (List.length_map _);obtain⟨p,c,rfl,bP,bK,aA⟩:=hv;have cP:=hid bV;unfold maxLen at bK;clear aA hg hs h0 bV;generalize l.map spQ=qs at *;generalize hn:l.length=n at *;clear hn l;have HN:Hid (qs≠[]):=hid (fun e=>by have:=aU.out;rw[e] at this;simp at this;omega);obtain⟨q0,iC⟩:∃q,qs[0]? = some q:=⟨qs[0]'(by rw[aU.out];omega),zau _⟩;have zH:=hid iC;clear iC;have oW:Hid (qs.getD 0 (0,0)=q0):=hid (by rw[zaw,zH.out];rfl);have sY:Hid (∀k q,qs[k]? = some q→(qs.take (k+1)).foldl qbt q0=qbt ((qs.take k).foldl qbt q0) q):=hid fun k q h=>qls qbt q0 k q h;have xY:Hid ((qs.take n).foldl qbt q0=qbu qs):=hid (by unfold qbu;rw[oW.out,←aU.out,List.take_length]);have dL:=eE.out 0 q0 zH.out
 have fF:Hid (∀k,bd ((qs.take k).foldl qbt q0).1 600∧bd ((qs.take k).foldl qbt q0).2 600):=hid fun k=>qv1 (fun p q a b c d=>⟨q6y a c,q6x b d⟩) _ _ dL.1 dL.2.1 (fun s hs=>by
  obtain⟨i,hi⟩:=List.getElem?_of_mem (List.mem_of_mem_take hs)
  exact⟨(eE.out i s hi).1,(eE.out i s hi).2.1⟩)
 have Ic:Hid ((qs.take 0).foldl qbt q0=q0):=hid rfl;generalize nV:(fun k=>(qs.take k).foldl qbt q0)=acc at *;have nW:Hid (∀k,(qs.take k).foldl qbt q0=acc k):=hid fun k=>congrFun nV k;simp only[nW.out] at sY xY fF Ic;clear nV nW dL;have cT:(0:Int)<(n:Int):=by omega
 go_enter Tryz.func7,Tryz.ntmps7;go_wp2_with fail;refine cU.out.mono ?_;rintro e w1 ⟨⟨g,rfl,hr⟩,hb⟩;have HR:=hid hr;have HB:=hid (cP.out.trans (hb.mono cP.out.size));have cZ:=hid (aS.out.later (hb.mono aS.out.1));obtain⟨x0,y0,⟨a0,a1,a2,a3,a4,a5⟩,hx,hy⟩:=qh9 hr 0 q0 zH.out;have gB:Below w1.heap.size w1 (w1.alloc (.cells #[.bool x0.b,.slice x0.p x0.k x0.c,.slice x0.q x0.j x0.d,.bool y0.b,.slice y0.p y0.k y0.c,.slice y0.q y0.j y0.d] 76)):=zam _ _;have Df:=hid (qgv w1 x0 y0 76);have gE:Hid (qaj (w1.alloc (.cells #[.bool x0.b,.slice x0.p x0.k x0.c,.slice x0.q x0.j x0.d,.bool y0.b,.slice y0.p y0.k y0.c,.slice y0.q y0.j y0.d] 76)) (.agg #[.bool x0.b,.slice x0.p x0.k x0.c,.slice x0.q x0.j x0.d]) (acc 0).1∧qaj (w1.alloc (.cells #[.bool x0.b,.slice x0.p x0.k x0.c,.slice x0.q x0.j x0.d,.bool y0.b,.slice y0.p y0.k y0.c,.slice y0.q y0.j y0.d] 76)) (.agg #[.bool y0.b,.slice y0.p y0.k y0.c,.slice y0.q y0.j y0.d]) (acc 0).2):=hid (by rw[Ic.out];exact⟨hx.later gB,hy.later gB⟩);have sZ:=hid gB;simp only[Nat.zero_mul,Nat.zero_add] at a0 a1 a2 a3 a4 a5;clear hr hb hx hy gB cU;go_wp2_with fail;clear a0 a1 a2 a3 a4 a5
 go_loopw [23] (fun i wr=>∃k:Nat,k≤n∧i = .int .i64 k∧∃xm ym:NV,Hid (Below w1.heap.size w1 wr)∧Hid (qew wr w1.heap.size xm ym)∧Hid (qaj wr (.agg #[.bool xm.b,.slice xm.p xm.k xm.c,.slice xm.q xm.j xm.d]) (acc k).1∧qaj wr (.agg #[.bool ym.b,.slice ym.p ym.k ym.c,.slice ym.q ym.j ym.d]) (acc k).2)) (fun i _=>n-(intOf i).toNat)
 case atStart=>exact⟨0,Nat.zero_le _,rfl,x0,y0,sZ,Df,gE⟩
 case round=>
  obtain⟨k,hk,rfl,xm,ym,bR,rS,Ck⟩:=hrel;clear Df sZ gE;by_cases jG:k<n
  ·obtain⟨q,hq⟩:∃q,qs[k]? = some q:=⟨qs[k]'(by rw[aU.out];exact jG),zau _⟩
   have rR:=HR.out.later qeu bR.out;obtain⟨x,y,⟨a0,a1,a2,a3,a4,a5⟩,hx,hy⟩:=qh9 rR k q hq;have aD:Below wr.heap.size wr (wr.alloc (.cells #[.bool x.b,.slice x.p x.k x.c,.slice x.q x.j x.d,.bool y.b,.slice y.p y.k y.c,.slice y.q y.j y.d] 76)):=zam _ _;have Cl:=hid (sY.out k q hq);have bq:=eE.out k q hq;have ba:=fF.out k;have jA:=hid (qgv wr x y 76);have sG:Hid (qaj (wr.alloc (.cells #[.bool x.b,.slice x.p x.k x.c,.slice x.q x.j x.d,.bool y.b,.slice y.p y.k y.c,.slice y.q y.j y.d] 76)) (.agg #[.bool x.b,.slice x.p x.k x.c,.slice x.q x.j x.d]) q.1∧qaj (wr.alloc (.cells #[.bool x.b,.slice x.p x.k x.c,.slice x.q x.j x.d,.bool y.b,.slice y.p y.k y.c,.slice y.q y.j y.d] 76)) (.agg #[.bool y.b,.slice y.p y.k y.c,.slice y.q y.j y.d]) q.2):=hid ⟨hx.later aD,hy.later aD⟩;have bO:=hid (rS.out.later (aD.mono rS.out.1));have tA:Hid (qaj (wr.alloc (.cells #[.bool x.b,.slice x.p x.k x.c,.slice x.q x.j x.d,.bool y.b,.slice y.p y.k y.c,.slice y.q y.j y.d] 76)) (.agg #[.bool xm.b,.slice xm.p xm.k xm.c,.slice xm.q xm.j xm.d]) (acc k).1∧qaj (wr.alloc (.cells #[.bool x.b,.slice x.p x.k x.c,.slice x.q x.j x.d,.bool y.b,.slice y.p y.k y.c,.slice y.q y.j y.d] 76)) (.agg #[.bool ym.b,.slice ym.p ym.k ym.c,.slice ym.q ym.j ym.d]) (acc k).2):=hid ⟨Ck.out.1.later aD,Ck.out.2.later aD⟩;have eV:=hid (bR.out.trans (aD.mono bR.out.size));have Cn:Hid (w1.heap.size≠wr.heap.size):=hid (by have:=rS.out.1;omega);clear hq rR hx hy aD;generalize Dq:wr.heap.size=gs at *;go_wp2_with fail
   try rw[Dq]
   clear a0 a1 a2 a3 a4 a5;generalize (wr.alloc (.cells #[.bool x.b,.slice x.p x.k x.c,.slice x.q x.j x.d,.bool y.b,.slice y.p y.k y.c,.slice y.q y.j y.d] 76))=w3 at *;have dO:Hid (Below w3.heap.size w3 w3.drew):=hid ((zan _ _).drew);have cE:Hid (∀W,Below w3.heap.size w3 W→Calls Tryz.prog 31 #[.agg #[.bool xm.b,.slice xm.p xm.k xm.c,.slice xm.q xm.j xm.d],.agg #[.bool x.b,.slice x.p x.k x.c,.slice x.q x.j x.d]] W fun e w'=>(∃z:NV,e = .returned (.agg #[.bool z.b,.slice z.p z.k z.c,.slice z.q z.j z.d])∧qaj w' (.agg #[.bool z.b,.slice z.p z.k z.c,.slice z.q z.j z.d]) (qmv (acc k).1 q.1))∧Below W.heap.size W w'):=hid fun W hW=>qcn (qph _ _ _ _ W (tA.out.1.later hW) (sG.out.1.later hW) (by have:=bq.1.rs;have:=ba.1.rs;unfold Cap;omega));have dW:Hid (∀W,Below w3.heap.size w3 W→Calls Tryz.prog 30 #[.agg #[.bool ym.b,.slice ym.p ym.k ym.c,.slice ym.q ym.j ym.d],.agg #[.bool y.b,.slice y.p y.k y.c,.slice y.q y.j y.d]] W fun e w'=>(∃z:NV,e = .returned (.agg #[.bool z.b,.slice z.p z.k z.c,.slice z.q z.j z.d])∧qaj w' (.agg #[.bool z.b,.slice z.p z.k z.c,.slice z.q z.j z.d]) (qmu (acc k).2 q.2))∧Below W.heap.size W w'):=hid fun W hW=>qcn (qqp _ _ _ _ W (tA.out.2.later hW) (sG.out.2.later hW) (by have:=bq.2.1.rs;have:=ba.2.rs;unfold Cap;omega));have e0:w3.cell? ⟨gs,0,none⟩=some (.bool x.b)∧w3.cell? ⟨gs,1,none⟩=some (.slice x.p x.k x.c)∧w3.cell? ⟨gs,2,none⟩=some (.slice x.q x.j x.d)∧w3.cell? ⟨gs,3,none⟩=some (.bool y.b)∧w3.cell? ⟨gs,4,none⟩=some (.slice y.p y.k y.c)∧w3.cell? ⟨gs,5,none⟩=some (.slice y.q y.j y.d):=qew.cells jA.out;obtain⟨⟨m0,f0⟩,⟨m1,f1⟩,⟨m2,f2⟩,⟨m3,f3⟩,⟨m4,f4⟩,⟨m5,f5⟩⟩:=qbl bO.out;clear bq ba
   refine wp_region_held_drew (S:=(fun W=>W.cell? ⟨gs,0,none⟩=some (.bool x.b)∧W.cell? ⟨gs,1,none⟩=some (.slice x.p x.k x.c)∧W.cell? ⟨gs,2,none⟩=some (.slice x.q x.j x.d)∧W.cell? ⟨gs,3,none⟩=some (.bool y.b)∧W.cell? ⟨gs,4,none⟩=some (.slice y.p y.k y.c)∧W.cell? ⟨gs,5,none⟩=some (.slice y.q y.j y.d))) (by kernel_rfl) e0 (fun aE => ?_)
   refine' wpAnyH_take (i:=0) (v:=_) rfl (by kernel_rfl) (by kernel_rfl) (by kernel_rfl) (fun _ _ _ h=>h) (Or.inl ⟨by rfl, ?rT⟩) aE ?rest1
   case rT=>(intro w hSw;(try dsimp only at hSw);go_simp;(try with_reducible rfl))
   try simp only[Act.put,List.setIfInBounds_toArray,List.set_cons_zero,List.set_cons_succ]
   refine' wpAnyH_take (i:=2) (v:=_) rfl (by kernel_rfl) (by kernel_rfl) (by kernel_rfl) (fun _ _ _ h=>h) (Or.inl ⟨by rfl, ?tU⟩) aE ?rest2
   case tU=>(intro w hSw;(try dsimp only at hSw);go_simp;(try with_reducible rfl))
   try simp only[Act.put,List.setIfInBounds_toArray,List.set_cons_zero,List.set_cons_succ]
   refine' wpAnyH_take (i:=3) (v:=_) rfl (by kernel_rfl) (by kernel_rfl) (by kernel_rfl) (fun _ _ _ h=>h) (Or.inl ⟨by rfl, ?Iu⟩) aE ?rest3
   case Iu=>(intro w hSw;(try dsimp only at hSw);go_simp;(try with_reducible rfl))
   try simp only[Act.put,List.setIfInBounds_toArray,List.set_cons_zero,List.set_cons_succ]
   refine' wpAnyH_take (i:=5) (v:=_) rfl (by kernel_rfl) (by kernel_rfl) (by kernel_rfl) (fun _ _ _ h=>h) (Or.inl ⟨by rfl, ?Ui⟩) aE ?rest4
   case Ui=>(intro w hSw;(try dsimp only at hSw);go_simp;(try with_reducible rfl))
   try simp only[Act.put,List.setIfInBounds_toArray,List.set_cons_zero,List.set_cons_succ]
   refine' wpAnyH_take (i:=7) (v:=_) rfl (by kernel_rfl) (by kernel_rfl) (by kernel_rfl) (fun _ _ _ h=>h) (Or.inl ⟨by rfl, ?Uj⟩) aE ?rest5
   case Uj=>(intro w hSw;(try dsimp only at hSw);go_simp;(try with_reducible rfl))
   try simp only[Act.put,List.setIfInBounds_toArray,List.set_cons_zero,List.set_cons_succ]
   refine' wpAnyH_take (i:=8) (v:=_) rfl (by kernel_rfl) (by kernel_rfl) (by kernel_rfl) (fun _ _ _ h=>h) (Or.inl ⟨by rfl, ?Uk⟩) aE ?rest6
   case Uk=>(intro w hSw;(try dsimp only at hSw);go_simp;(try with_reducible rfl))
   try simp only[Act.put,List.setIfInBounds_toArray,List.set_cons_zero,List.set_cons_succ]
   refine wpAnyH_ready (rs:=[1,6]) (by kernel_rfl) (by simp) ?_;refine AllReadyH.cons rfl (fun K hK => ?step7) ?next7
   case step7=>
    go_simp;refine hK.out _ _ ?Od (fun qY => ?more1)
    case Od=>exact aE
    clear hK;refine wpAnyH_ready (rs:=[4,6]) (by kernel_rfl) (by simp) ?_;refine AllReadyH.cons rfl (fun K hK => ?step8) ?next8
    case step8=>
     go_simp
     go_at_call 31;(with_reducible refine(cE.out _ dO.out).mono ?_);rintro e wA ⟨⟨z1,rfl,hn⟩,hb⟩;have eQ:=hid hn;have bQ:=hid (dO.out.trans (hb.mono dO.out.size));have pA:=bO.out.later (bQ.out.mono bO.out.1);have cA:wA.cell? ⟨gs,0,none⟩=some (.bool x.b)∧wA.cell? ⟨gs,1,none⟩=some (.slice x.p x.k x.c)∧wA.cell? ⟨gs,2,none⟩=some (.slice x.q x.j x.d)∧wA.cell? ⟨gs,3,none⟩=some (.bool y.b)∧wA.cell? ⟨gs,4,none⟩=some (.slice y.p y.k y.c)∧wA.cell? ⟨gs,5,none⟩=some (.slice y.q y.j y.d):=qew.cells (jA.out.later (bQ.out.mono jA.out.1));obtain⟨⟨zB,zC⟩,⟨zD,zE⟩,⟨Md,Me⟩,⟨Mf,Mg⟩,⟨Mh,Mi⟩,⟨Mj,Mk⟩⟩:=qbl pA;clear hn hb pA
     go_wp2_with fail;refine hK.out _ _ ?Bu (fun qZ => ?more2)
     case Bu=>exact cA
     clear hK;refine wpAnyH_ready (rs:=[6]) (by kernel_rfl) (by simp) ?_;refine AllReadyH.cons rfl (fun K hK => ?step9) ?q4u
     case step9=>
      go_simp;refine hK.out _ _ ?Ul (fun nT => ?more3)
      case Ul=>exact cA
      clear hK;refine wpAnyH_ready (rs:=[9]) (by kernel_rfl) (by simp) ?_;refine AllReadyH.cons rfl (fun K hK => ?step10) ?next10
      case step10=>
       go_simp
       go_at_call 30;(with_reducible refine(dW.out _ bQ.out).mono ?_);rintro e wC ⟨⟨z2,rfl,hn⟩,hb⟩;have fY:=hid hn;have mF:=hid (eQ.out.later hb);have dY:=hid (bQ.out.trans (hb.mono bQ.out.size));have nU:=hid (bO.out.later (dY.out.mono bO.out.1));have cC:wC.cell? ⟨gs,0,none⟩=some (.bool x.b)∧wC.cell? ⟨gs,1,none⟩=some (.slice x.p x.k x.c)∧wC.cell? ⟨gs,2,none⟩=some (.slice x.q x.j x.d)∧wC.cell? ⟨gs,3,none⟩=some (.bool y.b)∧wC.cell? ⟨gs,4,none⟩=some (.slice y.p y.k y.c)∧wC.cell? ⟨gs,5,none⟩=some (.slice y.q y.j y.d):=qew.cells (jA.out.later (dY.out.mono jA.out.1));obtain⟨⟨xS,xT⟩,⟨xU,xV⟩,⟨Ie,Ig⟩,⟨Ih,Ii⟩,⟨Ij,Ik⟩,⟨Il,Im⟩⟩:=qbl nU.out;have cD:=qet cC Cn.out (.bool z1.b) (.slice z1.p z1.k z1.c) (.slice z1.q z1.j z1.d) (.bool z2.b) (.slice z2.p z2.k z2.c) (.slice z2.q z2.j z2.d);clear hn hb
       go_wp2_with fail;refine hK.out _ _ ?Um (fun iM => ?more4)
       case Um=>exact cC
       clear hK
       refine' wpAnyH_take (i:=10) (v:=_) rfl (by kernel_rfl) (by kernel_rfl) (by kernel_rfl) (fun _ _ _ h=>h) (Or.inl ⟨by rfl, ?Mx⟩) iM ?rest11
       case Mx=>(intro w hSw;(try dsimp only at hSw);go_simp;(try with_reducible rfl))
       try simp only[Act.put,List.setIfInBounds_toArray,List.set_cons_zero,List.set_cons_succ]
       refine wpAnyH_ready (rs:=[11]) (by kernel_rfl) (by simp) ?_;refine AllReadyH.cons rfl (fun K hK => ?step12) ?next12
       case step12=>
        go_simp;refine hK.out _ _ ?Un (fun rA => ?more5)
        case Un=>exact cD
        clear hK;refine wpAnyH_done (by kernel_rfl) ?_ _;have bJ:=qew.put (x':=z1) (y':=z2) nU.out;have iN:=hid bJ.1;have iO:Hid _:=hid (And.intro (bJ.2.1 _ _ mF.out) (bJ.2.1 _ _ fY.out));have iQ:=hid (bJ.2.2 w1.heap.size w1 (zap _) (eV.out.trans (dY.out.mono eV.out.size)));clear bJ;go_wp2_with fail;go_roundw
        case rel=>exact⟨k+1,by omega,by go_num,z1,z2,iQ,iN,hid (by rw[Cl.out];exact iO.out)⟩
        case measure=>simp[intOf];omega
       exact AllReadyH.nil
      exact AllReadyH.nil
     exact AllReadyH.nil
    refine AllReadyH.cons rfl (fun K hK => ?step13) ?next13
    case step13=>
     go_simp;refine hK.out _ _ ?Uo (fun rB => ?more6)
     case Uo=>exact aE
     clear hK;refine wpAnyH_ready (rs:=[4]) (by kernel_rfl) (by simp) ?_;refine AllReadyH.cons rfl (fun K hK => ?step14) ?next14
     case step14=>
      go_simp
      go_at_call 31;(with_reducible refine(cE.out _ dO.out).mono ?_);rintro e wA ⟨⟨z1,rfl,hn⟩,hb⟩;have eQ:=hid hn;have bQ:=hid (dO.out.trans (hb.mono dO.out.size));have pA:=bO.out.later (bQ.out.mono bO.out.1);have cA:wA.cell? ⟨gs,0,none⟩=some (.bool x.b)∧wA.cell? ⟨gs,1,none⟩=some (.slice x.p x.k x.c)∧wA.cell? ⟨gs,2,none⟩=some (.slice x.q x.j x.d)∧wA.cell? ⟨gs,3,none⟩=some (.bool y.b)∧wA.cell? ⟨gs,4,none⟩=some (.slice y.p y.k y.c)∧wA.cell? ⟨gs,5,none⟩=some (.slice y.q y.j y.d):=qew.cells (jA.out.later (bQ.out.mono jA.out.1));obtain⟨⟨zB,zC⟩,⟨zD,zE⟩,⟨Md,Me⟩,⟨Mf,Mg⟩,⟨Mh,Mi⟩,⟨Mj,Mk⟩⟩:=qbl pA;clear hn hb pA
      go_wp2_with fail;refine hK.out _ _ ?Up (fun rC => ?more7)
      case Up=>exact cA
      clear hK;refine wpAnyH_ready (rs:=[9]) (by kernel_rfl) (by simp) ?_;refine AllReadyH.cons rfl (fun K hK => ?step15) ?next15
      case step15=>
       go_simp
       go_at_call 30;(with_reducible refine(dW.out _ bQ.out).mono ?_);rintro e wC ⟨⟨z2,rfl,hn⟩,hb⟩;have fY:=hid hn;have mF:=hid (eQ.out.later hb);have dY:=hid (bQ.out.trans (hb.mono bQ.out.size));have nU:=hid (bO.out.later (dY.out.mono bO.out.1));have cC:wC.cell? ⟨gs,0,none⟩=some (.bool x.b)∧wC.cell? ⟨gs,1,none⟩=some (.slice x.p x.k x.c)∧wC.cell? ⟨gs,2,none⟩=some (.slice x.q x.j x.d)∧wC.cell? ⟨gs,3,none⟩=some (.bool y.b)∧wC.cell? ⟨gs,4,none⟩=some (.slice y.p y.k y.c)∧wC.cell? ⟨gs,5,none⟩=some (.slice y.q y.j y.d):=qew.cells (jA.out.later (dY.out.mono jA.out.1));obtain⟨⟨xS,xT⟩,⟨xU,xV⟩,⟨Ie,Ig⟩,⟨Ih,Ii⟩,⟨Ij,Ik⟩,⟨Il,Im⟩⟩:=qbl nU.out;have cD:=qet cC Cn.out (.bool z1.b) (.slice z1.p z1.k z1.c) (.slice z1.q z1.j z1.d) (.bool z2.b) (.slice z2.p z2.k z2.c) (.slice z2.q z2.j z2.d);clear hn hb
       go_wp2_with fail;refine hK.out _ _ ?Uq (fun gO => ?more8)
       case Uq=>exact cC
       clear hK
       refine' wpAnyH_take (i:=10) (v:=_) rfl (by kernel_rfl) (by kernel_rfl) (by kernel_rfl) (fun _ _ _ h=>h) (Or.inl ⟨by rfl, ?Co⟩) gO ?rest16
       case Co=>(intro w hSw;(try dsimp only at hSw);go_simp;(try with_reducible rfl))
       try simp only[Act.put,List.setIfInBounds_toArray,List.set_cons_zero,List.set_cons_succ]
       refine wpAnyH_ready (rs:=[11]) (by kernel_rfl) (by simp) ?_;refine AllReadyH.cons rfl (fun K hK => ?step17) ?next17
       case step17=>
        go_simp;refine hK.out _ _ ?Ur (fun rD => ?more9)
        case Ur=>exact cD
        clear hK;refine wpAnyH_done (by kernel_rfl) ?_ _;have bJ:=qew.put (x':=z1) (y':=z2) nU.out;have iN:=hid bJ.1;have iO:Hid _:=hid (And.intro (bJ.2.1 _ _ mF.out) (bJ.2.1 _ _ fY.out));have iQ:=hid (bJ.2.2 w1.heap.size w1 (zap _) (eV.out.trans (dY.out.mono eV.out.size)));clear bJ;go_wp2_with fail;go_roundw
        case rel=>exact⟨k+1,by omega,by go_num,z1,z2,iQ,iN,hid (by rw[Cl.out];exact iO.out)⟩
        case measure=>simp[intOf];omega
       exact AllReadyH.nil
      exact AllReadyH.nil
     exact AllReadyH.nil
    exact AllReadyH.nil
   refine AllReadyH.cons rfl (fun K hK => ?step18) ?next18
   case step18=>
    go_simp;refine hK.out _ _ ?Cp (fun mO => ?more10)
    case Cp=>exact aE
    clear hK;refine wpAnyH_ready (rs:=[1]) (by kernel_rfl) (by simp) ?_;refine AllReadyH.cons rfl (fun K hK => ?step19) ?next19
    case step19=>
     go_simp;refine hK.out _ _ ?Cq (fun kN => ?more11)
     case Cq=>exact aE
     clear hK;refine wpAnyH_ready (rs:=[4]) (by kernel_rfl) (by simp) ?_;refine AllReadyH.cons rfl (fun K hK => ?step20) ?next20
     case step20=>
      go_simp
      go_at_call 31;(with_reducible refine(cE.out _ dO.out).mono ?_);rintro e wA ⟨⟨z1,rfl,hn⟩,hb⟩;have eQ:=hid hn;have bQ:=hid (dO.out.trans (hb.mono dO.out.size));have pA:=bO.out.later (bQ.out.mono bO.out.1);have cA:wA.cell? ⟨gs,0,none⟩=some (.bool x.b)∧wA.cell? ⟨gs,1,none⟩=some (.slice x.p x.k x.c)∧wA.cell? ⟨gs,2,none⟩=some (.slice x.q x.j x.d)∧wA.cell? ⟨gs,3,none⟩=some (.bool y.b)∧wA.cell? ⟨gs,4,none⟩=some (.slice y.p y.k y.c)∧wA.cell? ⟨gs,5,none⟩=some (.slice y.q y.j y.d):=qew.cells (jA.out.later (bQ.out.mono jA.out.1));obtain⟨⟨zB,zC⟩,⟨zD,zE⟩,⟨Md,Me⟩,⟨Mf,Mg⟩,⟨Mh,Mi⟩,⟨Mj,Mk⟩⟩:=qbl pA;clear hn hb pA
      go_wp2_with fail;refine hK.out _ _ ?Cr (fun mP => ?more12)
      case Cr=>exact cA
      clear hK;refine wpAnyH_ready (rs:=[9]) (by kernel_rfl) (by simp) ?_;refine AllReadyH.cons rfl (fun K hK => ?step21) ?next21
      case step21=>
       go_simp
       go_at_call 30;(with_reducible refine(dW.out _ bQ.out).mono ?_);rintro e wC ⟨⟨z2,rfl,hn⟩,hb⟩;have fY:=hid hn;have mF:=hid (eQ.out.later hb);have dY:=hid (bQ.out.trans (hb.mono bQ.out.size));have nU:=hid (bO.out.later (dY.out.mono bO.out.1));have cC:wC.cell? ⟨gs,0,none⟩=some (.bool x.b)∧wC.cell? ⟨gs,1,none⟩=some (.slice x.p x.k x.c)∧wC.cell? ⟨gs,2,none⟩=some (.slice x.q x.j x.d)∧wC.cell? ⟨gs,3,none⟩=some (.bool y.b)∧wC.cell? ⟨gs,4,none⟩=some (.slice y.p y.k y.c)∧wC.cell? ⟨gs,5,none⟩=some (.slice y.q y.j y.d):=qew.cells (jA.out.later (dY.out.mono jA.out.1));obtain⟨⟨xS,xT⟩,⟨xU,xV⟩,⟨Ie,Ig⟩,⟨Ih,Ii⟩,⟨Ij,Ik⟩,⟨Il,Im⟩⟩:=qbl nU.out;have cD:=qet cC Cn.out (.bool z1.b) (.slice z1.p z1.k z1.c) (.slice z1.q z1.j z1.d) (.bool z2.b) (.slice z2.p z2.k z2.c) (.slice z2.q z2.j z2.d);clear hn hb
       go_wp2_with fail;refine hK.out _ _ ?Cs (fun fO => ?more13)
       case Cs=>exact cC
       clear hK
       refine' wpAnyH_take (i:=10) (v:=_) rfl (by kernel_rfl) (by kernel_rfl) (by kernel_rfl) (fun _ _ _ h=>h) (Or.inl ⟨by rfl, ?My⟩) fO ?rest22
       case My=>(intro w hSw;(try dsimp only at hSw);go_simp;(try with_reducible rfl))
       try simp only[Act.put,List.setIfInBounds_toArray,List.set_cons_zero,List.set_cons_succ]
       refine wpAnyH_ready (rs:=[11]) (by kernel_rfl) (by simp) ?_;refine AllReadyH.cons rfl (fun K hK => ?step23) ?next23
       case step23=>
        go_simp;refine hK.out _ _ ?Ct (fun mQ => ?more14)
        case Ct=>exact cD
        clear hK;refine wpAnyH_done (by kernel_rfl) ?_ _;have bJ:=qew.put (x':=z1) (y':=z2) nU.out;have iN:=hid bJ.1;have iO:Hid _:=hid (And.intro (bJ.2.1 _ _ mF.out) (bJ.2.1 _ _ fY.out));have iQ:=hid (bJ.2.2 w1.heap.size w1 (zap _) (eV.out.trans (dY.out.mono eV.out.size)));clear bJ;go_wp2_with fail;go_roundw
        case rel=>exact⟨k+1,by omega,by go_num,z1,z2,iQ,iN,hid (by rw[Cl.out];exact iO.out)⟩
        case measure=>simp[intOf];omega
       exact AllReadyH.nil
      exact AllReadyH.nil
     exact AllReadyH.nil
    exact AllReadyH.nil
   exact AllReadyH.nil
  ·have sQ:k=n:=by omega
   have Cj:Hid (qaj wr (.agg #[.bool xm.b,.slice xm.p xm.k xm.c,.slice xm.q xm.j xm.d]) (qbu qs).1∧qaj wr (.agg #[.bool ym.b,.slice ym.p ym.k ym.c,.slice ym.q ym.j ym.d]) (qbu qs).2):=hid (by rw[←xY.out,←sQ];exact Ck.out);have ba:=fF.out n;rw[xY.out] at ba;clear sQ;have mD:=hid (HB.out.trans (bR.out.mono HB.out.size));have iR:=hid (cZ.out.later (bR.out.mono cZ.out.1));obtain⟨m0,m1,m2,m3,m4,m5⟩:=qew.cells rS.out;have iA:=hid (qb5 _ _ _ _ wr Cj.out.1 Cj.out.2 (by have:=ba.1.rs;have:=ba.2.rs;unfold Cap;omega));have dF:=@ql4 (qbu qs).1 (qbu qs).2;generalize hcq:qcq (qbu qs).1 (qbu qs).2=cq at *;by_cases hm:(qbu qs).1≤(qbu qs).2
   ·have hc:¬0<cq:=by have:=dF.2 hm;omega
    have HM:=hid hm;clear dF hm hcq;go_wp2_with fail;refine iA.out.mono ?_;rintro e w4 ⟨rfl,hb⟩;have Js:Hid (qaj w4 (.agg #[.bool xm.b,.slice xm.p xm.k xm.c,.slice xm.q xm.j xm.d]) (qbu qs).1∧qaj w4 (.agg #[.bool ym.b,.slice ym.p ym.k ym.c,.slice ym.q ym.j ym.d]) (qbu qs).2):=hid ⟨Cj.out.1.later hb,Cj.out.2.later hb⟩;have sL:=hid (iR.out.later (hb.mono iR.out.1));have Uz:=hid (mD.out.trans (hb.mono mD.out.size));obtain⟨p0,p1,p2,p3,p4,p5⟩:=qew.cells (rS.out.later (hb.mono rS.out.1));clear hb iA m0 m1 m2 m3 m4 m5;have sW:=hid (qf3 _ _ _ w4 (qf4 Js.out.1 Js.out.2) (by have:=ba.1.rs;unfold Cap;omega) (by have:=ba.2.rs;unfold Cap;omega));go_wp2_with fail;refine sW.out.mono ?_;rintro e wC h;obtain⟨s1,s2,ec,rfl,h2⟩:=qfk h;have uC:=hid h2;have xW:=hid (sL.out.later (h2.2.mono sL.out.1));obtain⟨⟨r0,g0⟩,⟨r1,g1⟩⟩:=qas xW.out;have fT:=hid (qbk (Uz.out.trans (h2.2.mono Uz.out.size)) (zap _) (.string s1) (.string s2));clear h h2 sW;go_wp2_with fail;refine bodyPost_ret (v := .tuple #[.agg #[.string s1,.string s2],.int .i64 ec]) ?_ rfl ?_
    ·simp[results,Tryz.results7,go_sem,r0,r1]
    ·unfold qud
     rw[if_pos HM.out];exact⟨uC.out.1,fT.out⟩
   ·have hc:0<cq:=by
     rcases Int.lt_or_le 0 cq with h|h
     ·exact h
     ·exact absurd (dF.1 h) hm
    have HM:=hid hm;clear dF hm hcq;go_wp2_with fail;refine iA.out.mono ?_;rintro e w4 ⟨rfl,hb⟩;have xW:=hid (iR.out.later (hb.mono iR.out.1));obtain⟨⟨r0,g0⟩,⟨r1,g1⟩⟩:=qas xW.out;have fT:=hid (qbk (mD.out.trans (hb.mono mD.out.size)) (zap _) (.string ⟨#[]⟩) (.string ⟨#[]⟩));clear hb iA m0 m1 m2 m3 m4 m5;go_wp2_with fail;refine bodyPost_ret (v := .tuple #[.agg #[.string ⟨#[]⟩,.string ⟨#[]⟩],.int .i64 15]) ?_ rfl ?_
    ·simp[results,Tryz.results7,go_sem,r0,r1]
    ·unfold qud
     rw[if_neg HM.out];exact⟨rfl,fT.out⟩
end Go.Proofs.YtclimablgihlhaaGreatDoor
