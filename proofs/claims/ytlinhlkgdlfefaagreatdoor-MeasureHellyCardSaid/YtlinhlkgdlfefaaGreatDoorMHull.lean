/- Hull and meet of intervals, and when two of them have no value in common. -/
import Derived.Test.YtlinhlkgdlfefaaGreatDoorMClash
import Derived.Test.YtlinhlkgdlfefaaGreatDoorMKeeps
import Derived.Test.YtlinhlkgdlfefaaGreatDoorMMean
set_option linter.all false
namespace Go.Proofs.YtlinhlkgdlfefaaGreatDoor
open Go.RowKit
set_option maxRecDepth 100000
set_option maxHeartbeats 16000000
def qcv(h s:Rat × Rat):Rat × Rat:=(qtk h.1 s.1,qtl h.2 s.2)
def qcw(h s:Rat × Rat):Rat × Rat:=(qtl h.1 s.1,qtk h.2 s.2)
theorem q4m(a b:Rat):qtk a b≤a∧qtk a b≤b:=by
 unfold qtk;split<;>grind
theorem q4n(a b:Rat):a≤qtl a b∧b≤qtl a b:=by
 unfold qtl;split<;>grind
theorem q4o(a b:Rat):qtk a b=a∨qtk a b=b:=by
 unfold qtk;split<;>simp
theorem q4p(a b:Rat):qtl a b=a∨qtl a b=b:=by
 unfold qtl;split<;>simp
theorem qvo:∀(l:List (Rat × Rat)) (q:Rat × Rat),(l.foldl qcv q).1≤q.1∧q.2≤(l.foldl qcv q).2∧(∀s ∈ l,(l.foldl qcv q).1≤s.1∧s.2≤(l.foldl qcv q).2)∧((l.foldl qcv q).1=q.1∨∃s ∈ l,(l.foldl qcv q).1=s.1)∧((l.foldl qcv q).2=q.2∨∃s ∈ l,(l.foldl qcv q).2=s.2)
 | [],q=>⟨Rat.le_refl,Rat.le_refl,fun s hs=>by simp at hs,.inl rfl,.inl rfl⟩
 | x::l,q=>by
  obtain⟨h1,h2,h3,h4,h5⟩:=qvo l (qcv q x);show(l.foldl qcv (qcv q x)).1≤q.1∧q.2≤(l.foldl qcv (qcv q x)).2∧(∀s ∈ x::l,(l.foldl qcv (qcv q x)).1≤s.1∧s.2≤(l.foldl qcv (qcv q x)).2)∧((l.foldl qcv (qcv q x)).1=q.1∨∃s ∈ x::l,(l.foldl qcv (qcv q x)).1=s.1)∧((l.foldl qcv (qcv q x)).2=q.2∨∃s ∈ x::l,(l.foldl qcv (qcv q x)).2=s.2);generalize l.foldl qcv (qcv q x)=r at *;obtain⟨m1,m2⟩:=q4m q.1 x.1;obtain⟨m3,m4⟩:=q4n q.2 x.2;have e1:(qcv q x).1=qtk q.1 x.1:=rfl;have e2:(qcv q x).2=qtl q.2 x.2:=rfl;rw[e1] at h1 h4;rw[e2] at h2 h5;refine⟨Rat.le_trans h1 m1,Rat.le_trans m3 h2,fun s hs => ?_, ?_, ?_⟩
  ·rcases List.mem_cons.1 hs with rfl|hs
   ·exact⟨Rat.le_trans h1 m2,Rat.le_trans m4 h2⟩
   ·exact h3 s hs
  ·rcases h4 with h4|⟨s,hs,h4⟩
   ·rcases q4o q.1 x.1 with e|e
    ·exact .inl (h4.trans e)
    ·exact .inr ⟨x,List.mem_cons_self ..,h4.trans e⟩
   ·exact .inr ⟨s,List.mem_cons_of_mem _ hs,h4⟩
  ·rcases h5 with h5|⟨s,hs,h5⟩
   ·rcases q4p q.2 x.2 with e|e
    ·exact .inl (h5.trans e)
    ·exact .inr ⟨x,List.mem_cons_self ..,h5.trans e⟩
   ·exact .inr ⟨s,List.mem_cons_of_mem _ hs,h5⟩
theorem qvp:∀(l:List (Rat × Rat)) (q:Rat × Rat),q.1≤(l.foldl qcw q).1∧(l.foldl qcw q).2≤q.2∧(∀s ∈ l,s.1≤(l.foldl qcw q).1∧(l.foldl qcw q).2≤s.2)∧((l.foldl qcw q).1=q.1∨∃s ∈ l,(l.foldl qcw q).1=s.1)∧((l.foldl qcw q).2=q.2∨∃s ∈ l,(l.foldl qcw q).2=s.2)
 | [],q=>⟨Rat.le_refl,Rat.le_refl,fun s hs=>by simp at hs,.inl rfl,.inl rfl⟩
 | x::l,q=>by
  obtain⟨h1,h2,h3,h4,h5⟩:=qvp l (qcw q x);show q.1≤(l.foldl qcw (qcw q x)).1∧(l.foldl qcw (qcw q x)).2≤q.2∧(∀s ∈ x::l,s.1≤(l.foldl qcw (qcw q x)).1∧(l.foldl qcw (qcw q x)).2≤s.2)∧((l.foldl qcw (qcw q x)).1=q.1∨∃s ∈ x::l,(l.foldl qcw (qcw q x)).1=s.1)∧((l.foldl qcw (qcw q x)).2=q.2∨∃s ∈ x::l,(l.foldl qcw (qcw q x)).2=s.2);generalize l.foldl qcw (qcw q x)=r at *;obtain⟨m1,m2⟩:=q4n q.1 x.1;obtain⟨m3,m4⟩:=q4m q.2 x.2;have e1:(qcw q x).1=qtl q.1 x.1:=rfl;have e2:(qcw q x).2=qtk q.2 x.2:=rfl;rw[e1] at h1 h4;rw[e2] at h2 h5;refine⟨Rat.le_trans m1 h1,Rat.le_trans h2 m3,fun s hs => ?_, ?_, ?_⟩
  ·rcases List.mem_cons.1 hs with rfl|hs
   ·exact⟨Rat.le_trans m2 h1,Rat.le_trans h2 m4⟩
   ·exact h3 s hs
  ·rcases h4 with h4|⟨s,hs,h4⟩
   ·rcases q4p q.1 x.1 with e|e
    ·exact .inl (h4.trans e)
    ·exact .inr ⟨x,List.mem_cons_self ..,h4.trans e⟩
   ·exact .inr ⟨s,List.mem_cons_of_mem _ hs,h4⟩
  ·rcases h5 with h5|⟨s,hs,h5⟩
   ·rcases q4o q.2 x.2 with e|e
    ·exact .inl (h5.trans e)
    ·exact .inr ⟨x,List.mem_cons_self ..,h5.trans e⟩
   ·exact .inr ⟨s,List.mem_cons_of_mem _ hs,h5⟩
def qdd(l:List (Rat × Rat)):Rat × Rat:=l.foldl qcv (l.getD 0 (0,0))
def qcm(l:List (Rat × Rat)):Rat × Rat:=l.foldl qcw (l.getD 0 (0,0))
theorem qok{l:List (Rat × Rat)}{i:Nat}(h:i<l.length):l.getD i (0,0) ∈ l:=by
 rw[List.getD_eq_getElem?_getD,List.getElem?_eq_getElem h,Option.getD_some];exact List.getElem_mem _
theorem qvq{l:List (Rat × Rat)}(h:l≠[]):(∀s ∈ l,(qdd l).1≤s.1∧s.2≤(qdd l).2)∧(∃s ∈ l,(qdd l).1=s.1)∧∃s ∈ l,(qdd l).2=s.2:=by
 obtain⟨_,_,h3,h4,h5⟩:=qvo l (l.getD 0 (0,0));have hm:=qok (l:=l) (i:=0) (List.length_pos_iff.2 h);exact⟨h3,h4.elim (fun e=>⟨_,hm,e⟩) id,h5.elim (fun e=>⟨_,hm,e⟩) id⟩
theorem ql9{l:List (Rat × Rat)}(h:l≠[]):(∀s ∈ l,s.1≤(qcm l).1∧(qcm l).2≤s.2)∧(∃s ∈ l,(qcm l).1=s.1)∧∃s ∈ l,(qcm l).2=s.2:=by
 obtain⟨_,_,h3,h4,h5⟩:=qvp l (l.getD 0 (0,0));have hm:=qok (l:=l) (i:=0) (List.length_pos_iff.2 h);exact⟨h3,h4.elim (fun e=>⟨_,hm,e⟩) id,h5.elim (fun e=>⟨_,hm,e⟩) id⟩
theorem qkc{p q:Rat × Rat}:qgs p q=true↔p.2<q.1∨q.2<p.1:=by
 unfold qgs;rw[Bool.or_eq_true,decide_eq_true_iff,decide_eq_true_iff]
theorem q64{l:List (Rat × Rat)}(h:l≠[])(hm:(qcm l).1≤(qcm l).2):∀i k,i<l.length→k<l.length→qgs (l.getD i (0,0)) (l.getD k (0,0))=false:=by
 intro i k hi hk;obtain⟨h1,_⟩:=ql9 h;have a:=h1 _ (qok hi);have b:=h1 _ (qok hk);rw[Bool.eq_false_iff];intro hc;rcases qkc.1 hc with hc|hc
 ·exact absurd hc (Rat.not_lt.2 (Rat.le_trans b.1 (Rat.le_trans hm a.2)))
 ·exact absurd hc (Rat.not_lt.2 (Rat.le_trans a.1 (Rat.le_trans hm b.2)))
theorem q4q{l:List (Rat × Rat)}(h:l≠[])(hv:∀s ∈ l,s.1≤s.2)(hm:¬(qcm l).1≤(qcm l).2):¬qr6 l:=by
 intro hn;obtain⟨_,⟨s,hs,e1⟩,t,ht,e2⟩:=ql9 h;obtain⟨i,hi,hsi⟩:=List.getElem_of_mem hs;obtain⟨k,hk,htk⟩:=List.getElem_of_mem ht;have gi:l.getD i (0,0)=s:=by rw[List.getD_eq_getElem?_getD,List.getElem?_eq_getElem hi,Option.getD_some,hsi]
 have gk:l.getD k (0,0)=t:=by rw[List.getD_eq_getElem?_getD,List.getElem?_eq_getElem hk,Option.getD_some,htk]
 have hlt:t.2<s.1:=by rw[←e1,←e2];exact Rat.not_le.1 hm
 rcases Nat.lt_trichotomy i k with hik|hik|hik
 ·have:=hn i k hik hk
  rw[gi,gk,Bool.eq_false_iff] at this;exact this (qkc.2 (.inr hlt))
 ·subst hik
  rw[gi] at gk;subst gk;exact absurd (hv s hs) (Rat.not_le.2 hlt)
 ·have:=hn k i hik hi
  rw[gi,gk,Bool.eq_false_iff] at this;exact this (qkc.2 (.inl hlt))
theorem qvr{l:List (Rat × Rat)}(f:Rat × Rat→Rat × Rat→Rat × Rat)(q:Rat × Rat)(k:Nat)(s:Rat × Rat)(h:l[k]? = some s):(l.take (k+1)).foldl f q=f ((l.take k).foldl f q) s:=by
 have e:l.take (k+1)=l.take k++[s]:=by rw[List.take_add_one,h];rfl
 rw[e,List.foldl_append];rfl
theorem q7t{a b:Rat}{m:Nat}(ha:bd a m)(hb:bd b m):bd (qtk a b) m:=by unfold qtk;split<;>assumption
theorem q7u{a b:Rat}{m:Nat}(ha:bd a m)(hb:bd b m):bd (qtl a b) m:=by unfold qtl;split<;>assumption
theorem qxm{f:Rat × Rat→Rat × Rat→Rat × Rat}{m:Nat}(hf:∀p q:Rat × Rat,bd p.1 m→bd p.2 m→bd q.1 m→bd q.2 m→bd (f p q).1 m∧bd (f p q).2 m):∀(l:List (Rat × Rat)) (q:Rat × Rat),bd q.1 m→bd q.2 m→(∀s ∈ l,bd s.1 m∧bd s.2 m)→bd (l.foldl f q).1 m∧bd (l.foldl f q).2 m
 | [],_,h1,h2,_=>⟨h1,h2⟩
 | x::l,q,h1,h2,h3=>by
  have hx:=h3 x (List.mem_cons_self ..);have hq:=hf q x h1 h2 hx.1 hx.2;exact qxm hf l (f q x) hq.1 hq.2 fun s hs=>h3 s (List.mem_cons_of_mem _ hs)
def zau(qs:List (Rat × Rat))(w:World)(e:Ending)(w':World):Prop:=qct (qdd qs).1 (qdd qs).2 w e w'
def qvs(qs:List (Rat × Rat))(w:World)(e:Ending)(w':World):Prop:=
 if(qcm qs).1≤(qcm qs).2 then qct (qcm qs).1 (qcm qs).2 w e w'
 else e = .returned (.tuple #[.agg #[.string ⟨#[]⟩,.string ⟨#[]⟩],.int .i64 15])∧Below w.heap.size w w'
theorem q4r(vl:Value)(l:List (ByteArray × ByteArray))(w:World)(hg:GW w)(hv:qb7 w vl l)(hs:∀s ∈ l,s.1.size≤1073741824∧s.2.size≤1073741824)(h0:qbc l=0):
  Calls Tryz.prog 19 #[vl] w (zau (l.map spQ) w):=by
 obtain⟨hl1,hl2,-⟩:=qe6 h0;have hal0:Below w.heap.size w (w.alloc (.cells #[.string ⟨#[]⟩,.string ⟨#[]⟩] 24)):=(Below.refl _ _).alloc (Nat.le_refl _) _;have HRES:Hid (Own (w.alloc (.cells #[.string ⟨#[]⟩,.string ⟨#[]⟩] 24)) w.heap.size 2 (qtw (.string ⟨#[]⟩) (.string ⟨#[]⟩))):=hid (qck w 24 _ _)
 have HRS:=hid ((qe5 vl l _ (hg.later hal0) (hv.later hal0) hs).mono (R':=fun e w'=>(∃g,e = .returned (.tuple #[.slice (some ⟨g,0,none⟩) l.length l.length,.int .i64 0])∧qdg ivK w' g l.length (l.map spQ))∧Below (w.alloc (.cells #[.string ⟨#[]⟩,.string ⟨#[]⟩] 24)).heap.size (w.alloc (.cells #[.string ⟨#[]⟩,.string ⟨#[]⟩] 24)) w') (fun e w' h=>by
  unfold qe4 at h;rw[if_pos h0] at h;obtain⟨⟨g,_,he,hr⟩,hb⟩:=h
  exact⟨⟨g,he,hr⟩,hb⟩))
 have HBD:=hid (qt7 h0);have HLEN:Hid ((l.map spQ).length=l.length):=hid (List.length_map _);obtain⟨p,c,rfl,hc1,hc2,hcells⟩:=hv;have HAL0:=hid hal0;unfold maxLen at hc2;clear hcells hg hs h0 hal0;generalize l.map spQ=qs at *;generalize hn:l.length=n at *;clear hn l;have HN:Hid (qs≠[]):=hid (fun e=>by have:=HLEN.out;rw[e] at this;simp at this;omega);obtain⟨q0,hq0⟩:∃q,qs[0]? = some q:=⟨qs[0]'(by rw[HLEN.out];omega),List.getElem?_eq_getElem _⟩;have HQ0:=hid hq0;clear hq0;have HG0:Hid (qs.getD 0 (0,0)=q0):=hid (by rw[List.getD_eq_getElem?_getD,HQ0.out];rfl);have HAQ:Hid (∀k q,qs[k]? = some q→(qs.take (k+1)).foldl qcv q0=qcv ((qs.take k).foldl qcv q0) q):=hid fun k q h=>qvr qcv q0 k q h;have HAN:Hid ((qs.take n).foldl qcv q0=qdd qs):=hid (by unfold qdd;rw[HG0.out,←HLEN.out,List.take_length]);have hb0:=HBD.out 0 q0 HQ0.out
 have HAB:Hid (∀k,bd ((qs.take k).foldl qcv q0).1 600∧bd ((qs.take k).foldl qcv q0).2 600):=hid fun k=>qxm (fun p q a b c d=>⟨q7t a c,q7u b d⟩) _ _ hb0.1 hb0.2.1 (fun s hs=>by
  obtain⟨i,hi⟩:=List.getElem?_of_mem (List.mem_of_mem_take hs)
  exact⟨(HBD.out i s hi).1,(HBD.out i s hi).2.1⟩)
 have HA0:Hid ((qs.take 0).foldl qcv q0=q0):=hid rfl;generalize hacc:(fun k=>(qs.take k).foldl qcv q0)=acc at *;have HACC:Hid (∀k,(qs.take k).foldl qcv q0=acc k):=hid fun k=>congrFun hacc k;simp only[HACC.out] at HAQ HAN HAB HA0;clear hacc HACC hb0;have hz0:(0:Int)<(n:Int):=by omega
 go_enter Tryz.func19,Tryz.ntmps19;go_wp2_with fail;refine HRS.out.mono ?_;rintro e w1 ⟨⟨g,rfl,hr⟩,hb⟩;have HR:=hid hr;have HB:=hid (HAL0.out.trans (hb.mono HAL0.out.size));have HRES1:=hid (HRES.out.later (hb.mono HRES.out.1));obtain⟨x0,y0,⟨a0,a1,a2,a3,a4,a5⟩,hx,hy⟩:=qii hr 0 q0 HQ0.out;have hal1:Below w1.heap.size w1 (w1.alloc (.cells #[.bool x0.b,.slice x0.p x0.k x0.c,.slice x0.q x0.j x0.d,.bool y0.b,.slice y0.p y0.k y0.c,.slice y0.q y0.j y0.d] 77)):=(Below.refl _ _).alloc (Nat.le_refl _) _;have HPM:=hid (qg3 w1 x0 y0 77);have HN0:Hid (qai (w1.alloc (.cells #[.bool x0.b,.slice x0.p x0.k x0.c,.slice x0.q x0.j x0.d,.bool y0.b,.slice y0.p y0.k y0.c,.slice y0.q y0.j y0.d] 77)) (.agg #[.bool x0.b,.slice x0.p x0.k x0.c,.slice x0.q x0.j x0.d]) (acc 0).1∧qai (w1.alloc (.cells #[.bool x0.b,.slice x0.p x0.k x0.c,.slice x0.q x0.j x0.d,.bool y0.b,.slice y0.p y0.k y0.c,.slice y0.q y0.j y0.d] 77)) (.agg #[.bool y0.b,.slice y0.p y0.k y0.c,.slice y0.q y0.j y0.d]) (acc 0).2):=hid (by rw[HA0.out];exact⟨hx.later hal1,hy.later hal1⟩);have HAL1:=hid hal1;simp only[Nat.zero_mul,Nat.zero_add] at a0 a1 a2 a3 a4 a5;clear hr hb hx hy hal1 HRS;go_wp2_with fail;clear a0 a1 a2 a3 a4 a5
 go_loopw [23] (fun i wr=>∃k:Nat,k≤n∧i = .int .i64 k∧∃xm ym:NV,Hid (Below w1.heap.size w1 wr)∧Hid (qe8 wr w1.heap.size xm ym)∧Hid (qai wr (.agg #[.bool xm.b,.slice xm.p xm.k xm.c,.slice xm.q xm.j xm.d]) (acc k).1∧qai wr (.agg #[.bool ym.b,.slice ym.p ym.k ym.c,.slice ym.q ym.j ym.d]) (acc k).2)) (fun i _=>n-(intOf i).toNat)
 case atStart=>exact⟨0,Nat.zero_le _,rfl,x0,y0,HAL1,HPM,HN0⟩
 case round=>
  obtain⟨k,hk,rfl,xm,ym,HBW,HPK,HNK⟩:=hrel;clear HPM HAL1 HN0;by_cases hkn:k<n
  ·obtain⟨q,hq⟩:∃q,qs[k]? = some q:=⟨qs[k]'(by rw[HLEN.out];exact hkn),List.getElem?_eq_getElem _⟩
   have hrw:=HR.out.later qe3 HBW.out;obtain⟨x,y,⟨a0,a1,a2,a3,a4,a5⟩,hx,hy⟩:=qii hrw k q hq;have hal:Below wr.heap.size wr (wr.alloc (.cells #[.bool x.b,.slice x.p x.k x.c,.slice x.q x.j x.d,.bool y.b,.slice y.p y.k y.c,.slice y.q y.j y.d] 77)):=(Below.refl _ _).alloc (Nat.le_refl _) _;have HAK:=hid (HAQ.out k q hq);have bq:=HBD.out k q hq;have ba:=HAB.out k;have HPS:=hid (qg3 wr x y 77);have HXY:Hid (qai (wr.alloc (.cells #[.bool x.b,.slice x.p x.k x.c,.slice x.q x.j x.d,.bool y.b,.slice y.p y.k y.c,.slice y.q y.j y.d] 77)) (.agg #[.bool x.b,.slice x.p x.k x.c,.slice x.q x.j x.d]) q.1∧qai (wr.alloc (.cells #[.bool x.b,.slice x.p x.k x.c,.slice x.q x.j x.d,.bool y.b,.slice y.p y.k y.c,.slice y.q y.j y.d] 77)) (.agg #[.bool y.b,.slice y.p y.k y.c,.slice y.q y.j y.d]) q.2):=hid ⟨hx.later hal,hy.later hal⟩;have HPM3:=hid (HPK.out.later (hal.mono HPK.out.1));have HNK2:Hid (qai (wr.alloc (.cells #[.bool x.b,.slice x.p x.k x.c,.slice x.q x.j x.d,.bool y.b,.slice y.p y.k y.c,.slice y.q y.j y.d] 77)) (.agg #[.bool xm.b,.slice xm.p xm.k xm.c,.slice xm.q xm.j xm.d]) (acc k).1∧qai (wr.alloc (.cells #[.bool x.b,.slice x.p x.k x.c,.slice x.q x.j x.d,.bool y.b,.slice y.p y.k y.c,.slice y.q y.j y.d] 77)) (.agg #[.bool ym.b,.slice ym.p ym.k ym.c,.slice ym.q ym.j ym.d]) (acc k).2):=hid ⟨HNK.out.1.later hal,HNK.out.2.later hal⟩;have HBW3:=hid (HBW.out.trans (hal.mono HBW.out.size));have HNS:Hid (w1.heap.size≠wr.heap.size):=hid (by have:=HPK.out.1;omega);clear hq hrw hx hy hal;generalize hgs:wr.heap.size=gs at *;go_wp2_with fail
   try rw[hgs]
   clear a0 a1 a2 a3 a4 a5;generalize (wr.alloc (.cells #[.bool x.b,.slice x.p x.k x.c,.slice x.q x.j x.d,.bool y.b,.slice y.p y.k y.c,.slice y.q y.j y.d] 77))=w3 at *;have HBX:Hid (Below w3.heap.size w3 w3.drew):=hid ((Below.refl _ _).drew);have HT1:Hid (∀W,Below w3.heap.size w3 W→Calls Tryz.prog 52 #[.agg #[.bool xm.b,.slice xm.p xm.k xm.c,.slice xm.q xm.j xm.d],.agg #[.bool x.b,.slice x.p x.k x.c,.slice x.q x.j x.d]] W fun e w'=>(∃z:NV,e = .returned (.agg #[.bool z.b,.slice z.p z.k z.c,.slice z.q z.j z.d])∧qai w' (.agg #[.bool z.b,.slice z.p z.k z.c,.slice z.q z.j z.d]) (qtk (acc k).1 q.1))∧Below W.heap.size W w'):=hid fun W hW=>qcu (qrh _ _ _ _ W (HNK2.out.1.later hW) (HXY.out.1.later hW) (by have:=bq.1.rs;have:=ba.1.rs;unfold Cap;omega));have HT2:Hid (∀W,Below w3.heap.size w3 W→Calls Tryz.prog 51 #[.agg #[.bool ym.b,.slice ym.p ym.k ym.c,.slice ym.q ym.j ym.d],.agg #[.bool y.b,.slice y.p y.k y.c,.slice y.q y.j y.d]] W fun e w'=>(∃z:NV,e = .returned (.agg #[.bool z.b,.slice z.p z.k z.c,.slice z.q z.j z.d])∧qai w' (.agg #[.bool z.b,.slice z.p z.k z.c,.slice z.q z.j z.d]) (qtl (acc k).2 q.2))∧Below W.heap.size W w'):=hid fun W hW=>qcu (qp0 _ _ _ _ W (HNK2.out.2.later hW) (HXY.out.2.later hW) (by have:=bq.2.1.rs;have:=ba.2.rs;unfold Cap;omega));have e0:w3.cell? ⟨gs,0,none⟩=some (.bool x.b)∧w3.cell? ⟨gs,1,none⟩=some (.slice x.p x.k x.c)∧w3.cell? ⟨gs,2,none⟩=some (.slice x.q x.j x.d)∧w3.cell? ⟨gs,3,none⟩=some (.bool y.b)∧w3.cell? ⟨gs,4,none⟩=some (.slice y.p y.k y.c)∧w3.cell? ⟨gs,5,none⟩=some (.slice y.q y.j y.d):=qe8.cells HPS.out;obtain⟨⟨m0,f0⟩,⟨m1,f1⟩,⟨m2,f2⟩,⟨m3,f3⟩,⟨m4,f4⟩,⟨m5,f5⟩⟩:=qbi HPM3.out;clear bq ba
   refine wp_region_held_drew (S:=(fun W=>W.cell? ⟨gs,0,none⟩=some (.bool x.b)∧W.cell? ⟨gs,1,none⟩=some (.slice x.p x.k x.c)∧W.cell? ⟨gs,2,none⟩=some (.slice x.q x.j x.d)∧W.cell? ⟨gs,3,none⟩=some (.bool y.b)∧W.cell? ⟨gs,4,none⟩=some (.slice y.p y.k y.c)∧W.cell? ⟨gs,5,none⟩=some (.slice y.q y.j y.d))) (by kernel_rfl) e0 (fun hHeld0 => ?_)
   refine' wpAnyH_take (i:=0) (v:=_) rfl (by kernel_rfl) (by kernel_rfl) (by kernel_rfl) (fun _ _ _ h=>h) (Or.inl ⟨by rfl, ?hy1⟩) hHeld0 ?rest1
   case hy1=>(intro w hSw;(try dsimp only at hSw);go_simp;(try with_reducible rfl))
   try simp only[Act.put,List.setIfInBounds_toArray,List.set_cons_zero,List.set_cons_succ]
   refine' wpAnyH_take (i:=2) (v:=_) rfl (by kernel_rfl) (by kernel_rfl) (by kernel_rfl) (fun _ _ _ h=>h) (Or.inl ⟨by rfl, ?hy2⟩) hHeld0 ?rest2
   case hy2=>(intro w hSw;(try dsimp only at hSw);go_simp;(try with_reducible rfl))
   try simp only[Act.put,List.setIfInBounds_toArray,List.set_cons_zero,List.set_cons_succ]
   refine' wpAnyH_take (i:=3) (v:=_) rfl (by kernel_rfl) (by kernel_rfl) (by kernel_rfl) (fun _ _ _ h=>h) (Or.inl ⟨by rfl, ?hy3⟩) hHeld0 ?rest3
   case hy3=>(intro w hSw;(try dsimp only at hSw);go_simp;(try with_reducible rfl))
   try simp only[Act.put,List.setIfInBounds_toArray,List.set_cons_zero,List.set_cons_succ]
   refine' wpAnyH_take (i:=5) (v:=_) rfl (by kernel_rfl) (by kernel_rfl) (by kernel_rfl) (fun _ _ _ h=>h) (Or.inl ⟨by rfl, ?hy4⟩) hHeld0 ?rest4
   case hy4=>(intro w hSw;(try dsimp only at hSw);go_simp;(try with_reducible rfl))
   try simp only[Act.put,List.setIfInBounds_toArray,List.set_cons_zero,List.set_cons_succ]
   refine' wpAnyH_take (i:=7) (v:=_) rfl (by kernel_rfl) (by kernel_rfl) (by kernel_rfl) (fun _ _ _ h=>h) (Or.inl ⟨by rfl, ?hy5⟩) hHeld0 ?rest5
   case hy5=>(intro w hSw;(try dsimp only at hSw);go_simp;(try with_reducible rfl))
   try simp only[Act.put,List.setIfInBounds_toArray,List.set_cons_zero,List.set_cons_succ]
   refine' wpAnyH_take (i:=8) (v:=_) rfl (by kernel_rfl) (by kernel_rfl) (by kernel_rfl) (fun _ _ _ h=>h) (Or.inl ⟨by rfl, ?hy6⟩) hHeld0 ?rest6
   case hy6=>(intro w hSw;(try dsimp only at hSw);go_simp;(try with_reducible rfl))
   try simp only[Act.put,List.setIfInBounds_toArray,List.set_cons_zero,List.set_cons_succ]
   refine wpAnyH_ready (rs:=[1,6]) (by kernel_rfl) (by simp) ?_;refine AllReadyH.cons rfl (fun K hK => ?step7) ?next7
   case step7=>
    go_simp;refine hK.out _ _ ?hS1 (fun hHeld1 => ?more1)
    case hS1=>exact hHeld0
    clear hK;refine wpAnyH_ready (rs:=[4,6]) (by kernel_rfl) (by simp) ?_;refine AllReadyH.cons rfl (fun K hK => ?step8) ?next8
    case step8=>
     go_simp
     go_at_call 52;(with_reducible refine(HT1.out _ HBX.out).mono ?_);rintro e wA ⟨⟨z1,rfl,hn⟩,hb⟩;have HV1:=hid hn;have HBA:=hid (HBX.out.trans (hb.mono HBX.out.size));have pA:=HPM3.out.later (HBA.out.mono HPM3.out.1);have cA:wA.cell? ⟨gs,0,none⟩=some (.bool x.b)∧wA.cell? ⟨gs,1,none⟩=some (.slice x.p x.k x.c)∧wA.cell? ⟨gs,2,none⟩=some (.slice x.q x.j x.d)∧wA.cell? ⟨gs,3,none⟩=some (.bool y.b)∧wA.cell? ⟨gs,4,none⟩=some (.slice y.p y.k y.c)∧wA.cell? ⟨gs,5,none⟩=some (.slice y.q y.j y.d):=qe8.cells (HPS.out.later (HBA.out.mono HPS.out.1));obtain⟨⟨ma0,fa0⟩,⟨ma1,fa1⟩,⟨ma2,fa2⟩,⟨ma3,fa3⟩,⟨ma4,fa4⟩,⟨ma5,fa5⟩⟩:=qbi pA;clear hn hb pA
     go_wp2_with fail;refine hK.out _ _ ?hS2 (fun hHeld2 => ?more2)
     case hS2=>exact cA
     clear hK;refine wpAnyH_ready (rs:=[6]) (by kernel_rfl) (by simp) ?_;refine AllReadyH.cons rfl (fun K hK => ?step9) ?q56
     case step9=>
      go_simp;refine hK.out _ _ ?hS3 (fun hHeld3 => ?more3)
      case hS3=>exact cA
      clear hK;refine wpAnyH_ready (rs:=[9]) (by kernel_rfl) (by simp) ?_;refine AllReadyH.cons rfl (fun K hK => ?step10) ?next10
      case step10=>
       go_simp
       go_at_call 51;(with_reducible refine(HT2.out _ HBA.out).mono ?_);rintro e wC ⟨⟨z2,rfl,hn⟩,hb⟩;have HZ2:=hid hn;have HZ1:=hid (HV1.out.later hb);have HBC:=hid (HBA.out.trans (hb.mono HBA.out.size));have HPC:=hid (HPM3.out.later (HBC.out.mono HPM3.out.1));have cC:wC.cell? ⟨gs,0,none⟩=some (.bool x.b)∧wC.cell? ⟨gs,1,none⟩=some (.slice x.p x.k x.c)∧wC.cell? ⟨gs,2,none⟩=some (.slice x.q x.j x.d)∧wC.cell? ⟨gs,3,none⟩=some (.bool y.b)∧wC.cell? ⟨gs,4,none⟩=some (.slice y.p y.k y.c)∧wC.cell? ⟨gs,5,none⟩=some (.slice y.q y.j y.d):=qe8.cells (HPS.out.later (HBC.out.mono HPS.out.1));obtain⟨⟨mc0,fc0⟩,⟨mc1,fc1⟩,⟨mc2,fc2⟩,⟨mc3,fc3⟩,⟨mc4,fc4⟩,⟨mc5,fc5⟩⟩:=qbi HPC.out;have cD:=qd0 cC HNS.out (.bool z1.b) (.slice z1.p z1.k z1.c) (.slice z1.q z1.j z1.d) (.bool z2.b) (.slice z2.p z2.k z2.c) (.slice z2.q z2.j z2.d);clear hn hb
       go_wp2_with fail;refine hK.out _ _ ?hS4 (fun hHeld4 => ?more4)
       case hS4=>exact cC
       clear hK
       refine' wpAnyH_take (i:=10) (v:=_) rfl (by kernel_rfl) (by kernel_rfl) (by kernel_rfl) (fun _ _ _ h=>h) (Or.inl ⟨by rfl, ?hy11⟩) hHeld4 ?rest11
       case hy11=>(intro w hSw;(try dsimp only at hSw);go_simp;(try with_reducible rfl))
       try simp only[Act.put,List.setIfInBounds_toArray,List.set_cons_zero,List.set_cons_succ]
       refine wpAnyH_ready (rs:=[11]) (by kernel_rfl) (by simp) ?_;refine AllReadyH.cons rfl (fun K hK => ?step12) ?next12
       case step12=>
        go_simp;refine hK.out _ _ ?hS5 (fun hHeld5 => ?more5)
        case hS5=>exact cD
        clear hK;refine wpAnyH_done (by kernel_rfl) ?_ _;have hput:=qe8.put (x':=z1) (y':=z2) HPC.out;have HPK4:=hid hput.1;have HNK4:Hid _:=hid (And.intro (hput.2.1 _ _ HZ1.out) (hput.2.1 _ _ HZ2.out));have HBW4:=hid (hput.2.2 w1.heap.size w1 (Nat.le_refl _) (HBW3.out.trans (HBC.out.mono HBW3.out.size)));clear hput;go_wp2_with fail;go_roundw
        case rel=>exact⟨k+1,by omega,by go_num,z1,z2,HBW4,HPK4,hid (by rw[HAK.out];exact HNK4.out)⟩
        case measure=>simp[intOf];omega
       exact AllReadyH.nil
      exact AllReadyH.nil
     exact AllReadyH.nil
    refine AllReadyH.cons rfl (fun K hK => ?step13) ?next13
    case step13=>
     go_simp;refine hK.out _ _ ?hS6 (fun hHeld6 => ?more6)
     case hS6=>exact hHeld0
     clear hK;refine wpAnyH_ready (rs:=[4]) (by kernel_rfl) (by simp) ?_;refine AllReadyH.cons rfl (fun K hK => ?step14) ?next14
     case step14=>
      go_simp
      go_at_call 52;(with_reducible refine(HT1.out _ HBX.out).mono ?_);rintro e wA ⟨⟨z1,rfl,hn⟩,hb⟩;have HV1:=hid hn;have HBA:=hid (HBX.out.trans (hb.mono HBX.out.size));have pA:=HPM3.out.later (HBA.out.mono HPM3.out.1);have cA:wA.cell? ⟨gs,0,none⟩=some (.bool x.b)∧wA.cell? ⟨gs,1,none⟩=some (.slice x.p x.k x.c)∧wA.cell? ⟨gs,2,none⟩=some (.slice x.q x.j x.d)∧wA.cell? ⟨gs,3,none⟩=some (.bool y.b)∧wA.cell? ⟨gs,4,none⟩=some (.slice y.p y.k y.c)∧wA.cell? ⟨gs,5,none⟩=some (.slice y.q y.j y.d):=qe8.cells (HPS.out.later (HBA.out.mono HPS.out.1));obtain⟨⟨ma0,fa0⟩,⟨ma1,fa1⟩,⟨ma2,fa2⟩,⟨ma3,fa3⟩,⟨ma4,fa4⟩,⟨ma5,fa5⟩⟩:=qbi pA;clear hn hb pA
      go_wp2_with fail;refine hK.out _ _ ?hS7 (fun hHeld7 => ?more7)
      case hS7=>exact cA
      clear hK;refine wpAnyH_ready (rs:=[9]) (by kernel_rfl) (by simp) ?_;refine AllReadyH.cons rfl (fun K hK => ?step15) ?next15
      case step15=>
       go_simp
       go_at_call 51;(with_reducible refine(HT2.out _ HBA.out).mono ?_);rintro e wC ⟨⟨z2,rfl,hn⟩,hb⟩;have HZ2:=hid hn;have HZ1:=hid (HV1.out.later hb);have HBC:=hid (HBA.out.trans (hb.mono HBA.out.size));have HPC:=hid (HPM3.out.later (HBC.out.mono HPM3.out.1));have cC:wC.cell? ⟨gs,0,none⟩=some (.bool x.b)∧wC.cell? ⟨gs,1,none⟩=some (.slice x.p x.k x.c)∧wC.cell? ⟨gs,2,none⟩=some (.slice x.q x.j x.d)∧wC.cell? ⟨gs,3,none⟩=some (.bool y.b)∧wC.cell? ⟨gs,4,none⟩=some (.slice y.p y.k y.c)∧wC.cell? ⟨gs,5,none⟩=some (.slice y.q y.j y.d):=qe8.cells (HPS.out.later (HBC.out.mono HPS.out.1));obtain⟨⟨mc0,fc0⟩,⟨mc1,fc1⟩,⟨mc2,fc2⟩,⟨mc3,fc3⟩,⟨mc4,fc4⟩,⟨mc5,fc5⟩⟩:=qbi HPC.out;have cD:=qd0 cC HNS.out (.bool z1.b) (.slice z1.p z1.k z1.c) (.slice z1.q z1.j z1.d) (.bool z2.b) (.slice z2.p z2.k z2.c) (.slice z2.q z2.j z2.d);clear hn hb
       go_wp2_with fail;refine hK.out _ _ ?hS8 (fun hHeld8 => ?more8)
       case hS8=>exact cC
       clear hK
       refine' wpAnyH_take (i:=10) (v:=_) rfl (by kernel_rfl) (by kernel_rfl) (by kernel_rfl) (fun _ _ _ h=>h) (Or.inl ⟨by rfl, ?hy16⟩) hHeld8 ?rest16
       case hy16=>(intro w hSw;(try dsimp only at hSw);go_simp;(try with_reducible rfl))
       try simp only[Act.put,List.setIfInBounds_toArray,List.set_cons_zero,List.set_cons_succ]
       refine wpAnyH_ready (rs:=[11]) (by kernel_rfl) (by simp) ?_;refine AllReadyH.cons rfl (fun K hK => ?step17) ?next17
       case step17=>
        go_simp;refine hK.out _ _ ?hS9 (fun hHeld9 => ?more9)
        case hS9=>exact cD
        clear hK;refine wpAnyH_done (by kernel_rfl) ?_ _;have hput:=qe8.put (x':=z1) (y':=z2) HPC.out;have HPK4:=hid hput.1;have HNK4:Hid _:=hid (And.intro (hput.2.1 _ _ HZ1.out) (hput.2.1 _ _ HZ2.out));have HBW4:=hid (hput.2.2 w1.heap.size w1 (Nat.le_refl _) (HBW3.out.trans (HBC.out.mono HBW3.out.size)));clear hput;go_wp2_with fail;go_roundw
        case rel=>exact⟨k+1,by omega,by go_num,z1,z2,HBW4,HPK4,hid (by rw[HAK.out];exact HNK4.out)⟩
        case measure=>simp[intOf];omega
       exact AllReadyH.nil
      exact AllReadyH.nil
     exact AllReadyH.nil
    exact AllReadyH.nil
   refine AllReadyH.cons rfl (fun K hK => ?step18) ?next18
   case step18=>
    go_simp;refine hK.out _ _ ?hS10 (fun hHeld10 => ?more10)
    case hS10=>exact hHeld0
    clear hK;refine wpAnyH_ready (rs:=[1]) (by kernel_rfl) (by simp) ?_;refine AllReadyH.cons rfl (fun K hK => ?step19) ?next19
    case step19=>
     go_simp;refine hK.out _ _ ?hS11 (fun hHeld11 => ?more11)
     case hS11=>exact hHeld0
     clear hK;refine wpAnyH_ready (rs:=[4]) (by kernel_rfl) (by simp) ?_;refine AllReadyH.cons rfl (fun K hK => ?step20) ?next20
     case step20=>
      go_simp
      go_at_call 52;(with_reducible refine(HT1.out _ HBX.out).mono ?_);rintro e wA ⟨⟨z1,rfl,hn⟩,hb⟩;have HV1:=hid hn;have HBA:=hid (HBX.out.trans (hb.mono HBX.out.size));have pA:=HPM3.out.later (HBA.out.mono HPM3.out.1);have cA:wA.cell? ⟨gs,0,none⟩=some (.bool x.b)∧wA.cell? ⟨gs,1,none⟩=some (.slice x.p x.k x.c)∧wA.cell? ⟨gs,2,none⟩=some (.slice x.q x.j x.d)∧wA.cell? ⟨gs,3,none⟩=some (.bool y.b)∧wA.cell? ⟨gs,4,none⟩=some (.slice y.p y.k y.c)∧wA.cell? ⟨gs,5,none⟩=some (.slice y.q y.j y.d):=qe8.cells (HPS.out.later (HBA.out.mono HPS.out.1));obtain⟨⟨ma0,fa0⟩,⟨ma1,fa1⟩,⟨ma2,fa2⟩,⟨ma3,fa3⟩,⟨ma4,fa4⟩,⟨ma5,fa5⟩⟩:=qbi pA;clear hn hb pA
      go_wp2_with fail;refine hK.out _ _ ?hS12 (fun hHeld12 => ?more12)
      case hS12=>exact cA
      clear hK;refine wpAnyH_ready (rs:=[9]) (by kernel_rfl) (by simp) ?_;refine AllReadyH.cons rfl (fun K hK => ?step21) ?next21
      case step21=>
       go_simp
       go_at_call 51;(with_reducible refine(HT2.out _ HBA.out).mono ?_);rintro e wC ⟨⟨z2,rfl,hn⟩,hb⟩;have HZ2:=hid hn;have HZ1:=hid (HV1.out.later hb);have HBC:=hid (HBA.out.trans (hb.mono HBA.out.size));have HPC:=hid (HPM3.out.later (HBC.out.mono HPM3.out.1));have cC:wC.cell? ⟨gs,0,none⟩=some (.bool x.b)∧wC.cell? ⟨gs,1,none⟩=some (.slice x.p x.k x.c)∧wC.cell? ⟨gs,2,none⟩=some (.slice x.q x.j x.d)∧wC.cell? ⟨gs,3,none⟩=some (.bool y.b)∧wC.cell? ⟨gs,4,none⟩=some (.slice y.p y.k y.c)∧wC.cell? ⟨gs,5,none⟩=some (.slice y.q y.j y.d):=qe8.cells (HPS.out.later (HBC.out.mono HPS.out.1));obtain⟨⟨mc0,fc0⟩,⟨mc1,fc1⟩,⟨mc2,fc2⟩,⟨mc3,fc3⟩,⟨mc4,fc4⟩,⟨mc5,fc5⟩⟩:=qbi HPC.out;have cD:=qd0 cC HNS.out (.bool z1.b) (.slice z1.p z1.k z1.c) (.slice z1.q z1.j z1.d) (.bool z2.b) (.slice z2.p z2.k z2.c) (.slice z2.q z2.j z2.d);clear hn hb
       go_wp2_with fail;refine hK.out _ _ ?hS13 (fun hHeld13 => ?more13)
       case hS13=>exact cC
       clear hK
       refine' wpAnyH_take (i:=10) (v:=_) rfl (by kernel_rfl) (by kernel_rfl) (by kernel_rfl) (fun _ _ _ h=>h) (Or.inl ⟨by rfl, ?hy22⟩) hHeld13 ?rest22
       case hy22=>(intro w hSw;(try dsimp only at hSw);go_simp;(try with_reducible rfl))
       try simp only[Act.put,List.setIfInBounds_toArray,List.set_cons_zero,List.set_cons_succ]
       refine wpAnyH_ready (rs:=[11]) (by kernel_rfl) (by simp) ?_;refine AllReadyH.cons rfl (fun K hK => ?step23) ?next23
       case step23=>
        go_simp;refine hK.out _ _ ?hS14 (fun hHeld14 => ?more14)
        case hS14=>exact cD
        clear hK;refine wpAnyH_done (by kernel_rfl) ?_ _;have hput:=qe8.put (x':=z1) (y':=z2) HPC.out;have HPK4:=hid hput.1;have HNK4:Hid _:=hid (And.intro (hput.2.1 _ _ HZ1.out) (hput.2.1 _ _ HZ2.out));have HBW4:=hid (hput.2.2 w1.heap.size w1 (Nat.le_refl _) (HBW3.out.trans (HBC.out.mono HBW3.out.size)));clear hput;go_wp2_with fail;go_roundw
        case rel=>exact⟨k+1,by omega,by go_num,z1,z2,HBW4,HPK4,hid (by rw[HAK.out];exact HNK4.out)⟩
        case measure=>simp[intOf];omega
       exact AllReadyH.nil
      exact AllReadyH.nil
     exact AllReadyH.nil
    exact AllReadyH.nil
   exact AllReadyH.nil
  ·have hke:k=n:=by omega
   have HNF:Hid (qai wr (.agg #[.bool xm.b,.slice xm.p xm.k xm.c,.slice xm.q xm.j xm.d]) (qdd qs).1∧qai wr (.agg #[.bool ym.b,.slice ym.p ym.k ym.c,.slice ym.q ym.j ym.d]) (qdd qs).2):=hid (by rw[←HAN.out,←hke];exact HNK.out);have ba:=HAB.out n;rw[HAN.out] at ba;clear hke;have HBZ:=hid (HB.out.trans (HBW.out.mono HB.out.size));have HRES3:=hid (HRES1.out.later (HBW.out.mono HRES1.out.1));obtain⟨m0,m1,m2,m3,m4,m5⟩:=qe8.cells HPK.out;have HNX:=HNF;have HRX:=HRES3;have HBV:=HBZ;have HWR:=hid (qdz _ _ _ wr (qfm HNX.out.1 HNX.out.2) (by have:=ba.1.rs;unfold Cap;omega) (by have:=ba.2.rs;unfold Cap;omega));go_wp2_with fail;refine HWR.out.mono ?_;rintro e wC h;obtain⟨s1,s2,ec,rfl,h2⟩:=qdr h;have HF3:=hid h2;have HRC:=hid (HRX.out.later (h2.2.mono HRX.out.1));obtain⟨⟨r0,g0⟩,⟨r1,g1⟩⟩:=qcn HRC.out;have HBF:=hid (qbt (HBV.out.trans (h2.2.mono HBV.out.size)) (Nat.le_refl _) (.string s1) (.string s2));clear h h2 HWR;go_wp2_with fail;refine bodyPost_ret (v := .tuple #[.agg #[.string s1,.string s2],.int .i64 ec]) ?_ rfl ?_
   ·simp[results,Tryz.results19,go_sem,r0,r1]
   ·exact⟨HF3.out.1,HBF.out⟩
theorem q4s(vl:Value)(l:List (ByteArray × ByteArray))(w:World)(hg:GW w)(hv:qb7 w vl l)(hs:∀s ∈ l,s.1.size≤1073741824∧s.2.size≤1073741824)(h0:qbc l=0):
  Calls Tryz.prog 17 #[vl] w (qvs (l.map spQ) w):=by
 obtain⟨hl1,hl2,-⟩:=qe6 h0;have hal0:Below w.heap.size w (w.alloc (.cells #[.string ⟨#[]⟩,.string ⟨#[]⟩] 24)):=(Below.refl _ _).alloc (Nat.le_refl _) _;have HRES:Hid (Own (w.alloc (.cells #[.string ⟨#[]⟩,.string ⟨#[]⟩] 24)) w.heap.size 2 (qtw (.string ⟨#[]⟩) (.string ⟨#[]⟩))):=hid (qck w 24 _ _)
 have HRS:=hid ((qe5 vl l _ (hg.later hal0) (hv.later hal0) hs).mono (R':=fun e w'=>(∃g,e = .returned (.tuple #[.slice (some ⟨g,0,none⟩) l.length l.length,.int .i64 0])∧qdg ivK w' g l.length (l.map spQ))∧Below (w.alloc (.cells #[.string ⟨#[]⟩,.string ⟨#[]⟩] 24)).heap.size (w.alloc (.cells #[.string ⟨#[]⟩,.string ⟨#[]⟩] 24)) w') (fun e w' h=>by
  unfold qe4 at h;rw[if_pos h0] at h;obtain⟨⟨g,_,he,hr⟩,hb⟩:=h
  exact⟨⟨g,he,hr⟩,hb⟩))
 have HBD:=hid (qt7 h0);have HLEN:Hid ((l.map spQ).length=l.length):=hid (List.length_map _);obtain⟨p,c,rfl,hc1,hc2,hcells⟩:=hv;have HAL0:=hid hal0;unfold maxLen at hc2;clear hcells hg hs h0 hal0;generalize l.map spQ=qs at *;generalize hn:l.length=n at *;clear hn l;have HN:Hid (qs≠[]):=hid (fun e=>by have:=HLEN.out;rw[e] at this;simp at this;omega);obtain⟨q0,hq0⟩:∃q,qs[0]? = some q:=⟨qs[0]'(by rw[HLEN.out];omega),List.getElem?_eq_getElem _⟩;have HQ0:=hid hq0;clear hq0;have HG0:Hid (qs.getD 0 (0,0)=q0):=hid (by rw[List.getD_eq_getElem?_getD,HQ0.out];rfl);have HAQ:Hid (∀k q,qs[k]? = some q→(qs.take (k+1)).foldl qcw q0=qcw ((qs.take k).foldl qcw q0) q):=hid fun k q h=>qvr qcw q0 k q h;have HAN:Hid ((qs.take n).foldl qcw q0=qcm qs):=hid (by unfold qcm;rw[HG0.out,←HLEN.out,List.take_length]);have hb0:=HBD.out 0 q0 HQ0.out
 have HAB:Hid (∀k,bd ((qs.take k).foldl qcw q0).1 600∧bd ((qs.take k).foldl qcw q0).2 600):=hid fun k=>qxm (fun p q a b c d=>⟨q7u a c,q7t b d⟩) _ _ hb0.1 hb0.2.1 (fun s hs=>by
  obtain⟨i,hi⟩:=List.getElem?_of_mem (List.mem_of_mem_take hs)
  exact⟨(HBD.out i s hi).1,(HBD.out i s hi).2.1⟩)
 have HA0:Hid ((qs.take 0).foldl qcw q0=q0):=hid rfl;generalize hacc:(fun k=>(qs.take k).foldl qcw q0)=acc at *;have HACC:Hid (∀k,(qs.take k).foldl qcw q0=acc k):=hid fun k=>congrFun hacc k;simp only[HACC.out] at HAQ HAN HAB HA0;clear hacc HACC hb0;have hz0:(0:Int)<(n:Int):=by omega
 go_enter Tryz.func17,Tryz.ntmps17;go_wp2_with fail;refine HRS.out.mono ?_;rintro e w1 ⟨⟨g,rfl,hr⟩,hb⟩;have HR:=hid hr;have HB:=hid (HAL0.out.trans (hb.mono HAL0.out.size));have HRES1:=hid (HRES.out.later (hb.mono HRES.out.1));obtain⟨x0,y0,⟨a0,a1,a2,a3,a4,a5⟩,hx,hy⟩:=qii hr 0 q0 HQ0.out;have hal1:Below w1.heap.size w1 (w1.alloc (.cells #[.bool x0.b,.slice x0.p x0.k x0.c,.slice x0.q x0.j x0.d,.bool y0.b,.slice y0.p y0.k y0.c,.slice y0.q y0.j y0.d] 77)):=(Below.refl _ _).alloc (Nat.le_refl _) _;have HPM:=hid (qg3 w1 x0 y0 77);have HN0:Hid (qai (w1.alloc (.cells #[.bool x0.b,.slice x0.p x0.k x0.c,.slice x0.q x0.j x0.d,.bool y0.b,.slice y0.p y0.k y0.c,.slice y0.q y0.j y0.d] 77)) (.agg #[.bool x0.b,.slice x0.p x0.k x0.c,.slice x0.q x0.j x0.d]) (acc 0).1∧qai (w1.alloc (.cells #[.bool x0.b,.slice x0.p x0.k x0.c,.slice x0.q x0.j x0.d,.bool y0.b,.slice y0.p y0.k y0.c,.slice y0.q y0.j y0.d] 77)) (.agg #[.bool y0.b,.slice y0.p y0.k y0.c,.slice y0.q y0.j y0.d]) (acc 0).2):=hid (by rw[HA0.out];exact⟨hx.later hal1,hy.later hal1⟩);have HAL1:=hid hal1;simp only[Nat.zero_mul,Nat.zero_add] at a0 a1 a2 a3 a4 a5;clear hr hb hx hy hal1 HRS;go_wp2_with fail;clear a0 a1 a2 a3 a4 a5
 go_loopw [23] (fun i wr=>∃k:Nat,k≤n∧i = .int .i64 k∧∃xm ym:NV,Hid (Below w1.heap.size w1 wr)∧Hid (qe8 wr w1.heap.size xm ym)∧Hid (qai wr (.agg #[.bool xm.b,.slice xm.p xm.k xm.c,.slice xm.q xm.j xm.d]) (acc k).1∧qai wr (.agg #[.bool ym.b,.slice ym.p ym.k ym.c,.slice ym.q ym.j ym.d]) (acc k).2)) (fun i _=>n-(intOf i).toNat)
 case atStart=>exact⟨0,Nat.zero_le _,rfl,x0,y0,HAL1,HPM,HN0⟩
 case round=>
  obtain⟨k,hk,rfl,xm,ym,HBW,HPK,HNK⟩:=hrel;clear HPM HAL1 HN0;by_cases hkn:k<n
  ·obtain⟨q,hq⟩:∃q,qs[k]? = some q:=⟨qs[k]'(by rw[HLEN.out];exact hkn),List.getElem?_eq_getElem _⟩
   have hrw:=HR.out.later qe3 HBW.out;obtain⟨x,y,⟨a0,a1,a2,a3,a4,a5⟩,hx,hy⟩:=qii hrw k q hq;have hal:Below wr.heap.size wr (wr.alloc (.cells #[.bool x.b,.slice x.p x.k x.c,.slice x.q x.j x.d,.bool y.b,.slice y.p y.k y.c,.slice y.q y.j y.d] 77)):=(Below.refl _ _).alloc (Nat.le_refl _) _;have HAK:=hid (HAQ.out k q hq);have bq:=HBD.out k q hq;have ba:=HAB.out k;have HPS:=hid (qg3 wr x y 77);have HXY:Hid (qai (wr.alloc (.cells #[.bool x.b,.slice x.p x.k x.c,.slice x.q x.j x.d,.bool y.b,.slice y.p y.k y.c,.slice y.q y.j y.d] 77)) (.agg #[.bool x.b,.slice x.p x.k x.c,.slice x.q x.j x.d]) q.1∧qai (wr.alloc (.cells #[.bool x.b,.slice x.p x.k x.c,.slice x.q x.j x.d,.bool y.b,.slice y.p y.k y.c,.slice y.q y.j y.d] 77)) (.agg #[.bool y.b,.slice y.p y.k y.c,.slice y.q y.j y.d]) q.2):=hid ⟨hx.later hal,hy.later hal⟩;have HPM3:=hid (HPK.out.later (hal.mono HPK.out.1));have HNK2:Hid (qai (wr.alloc (.cells #[.bool x.b,.slice x.p x.k x.c,.slice x.q x.j x.d,.bool y.b,.slice y.p y.k y.c,.slice y.q y.j y.d] 77)) (.agg #[.bool xm.b,.slice xm.p xm.k xm.c,.slice xm.q xm.j xm.d]) (acc k).1∧qai (wr.alloc (.cells #[.bool x.b,.slice x.p x.k x.c,.slice x.q x.j x.d,.bool y.b,.slice y.p y.k y.c,.slice y.q y.j y.d] 77)) (.agg #[.bool ym.b,.slice ym.p ym.k ym.c,.slice ym.q ym.j ym.d]) (acc k).2):=hid ⟨HNK.out.1.later hal,HNK.out.2.later hal⟩;have HBW3:=hid (HBW.out.trans (hal.mono HBW.out.size));have HNS:Hid (w1.heap.size≠wr.heap.size):=hid (by have:=HPK.out.1;omega);clear hq hrw hx hy hal;generalize hgs:wr.heap.size=gs at *;go_wp2_with fail
   try rw[hgs]
   clear a0 a1 a2 a3 a4 a5;generalize (wr.alloc (.cells #[.bool x.b,.slice x.p x.k x.c,.slice x.q x.j x.d,.bool y.b,.slice y.p y.k y.c,.slice y.q y.j y.d] 77))=w3 at *;have HBX:Hid (Below w3.heap.size w3 w3.drew):=hid ((Below.refl _ _).drew);have HT1:Hid (∀W,Below w3.heap.size w3 W→Calls Tryz.prog 51 #[.agg #[.bool xm.b,.slice xm.p xm.k xm.c,.slice xm.q xm.j xm.d],.agg #[.bool x.b,.slice x.p x.k x.c,.slice x.q x.j x.d]] W fun e w'=>(∃z:NV,e = .returned (.agg #[.bool z.b,.slice z.p z.k z.c,.slice z.q z.j z.d])∧qai w' (.agg #[.bool z.b,.slice z.p z.k z.c,.slice z.q z.j z.d]) (qtl (acc k).1 q.1))∧Below W.heap.size W w'):=hid fun W hW=>qcu (qp0 _ _ _ _ W (HNK2.out.1.later hW) (HXY.out.1.later hW) (by have:=bq.1.rs;have:=ba.1.rs;unfold Cap;omega));have HT2:Hid (∀W,Below w3.heap.size w3 W→Calls Tryz.prog 52 #[.agg #[.bool ym.b,.slice ym.p ym.k ym.c,.slice ym.q ym.j ym.d],.agg #[.bool y.b,.slice y.p y.k y.c,.slice y.q y.j y.d]] W fun e w'=>(∃z:NV,e = .returned (.agg #[.bool z.b,.slice z.p z.k z.c,.slice z.q z.j z.d])∧qai w' (.agg #[.bool z.b,.slice z.p z.k z.c,.slice z.q z.j z.d]) (qtk (acc k).2 q.2))∧Below W.heap.size W w'):=hid fun W hW=>qcu (qrh _ _ _ _ W (HNK2.out.2.later hW) (HXY.out.2.later hW) (by have:=bq.2.1.rs;have:=ba.2.rs;unfold Cap;omega));have e0:w3.cell? ⟨gs,0,none⟩=some (.bool x.b)∧w3.cell? ⟨gs,1,none⟩=some (.slice x.p x.k x.c)∧w3.cell? ⟨gs,2,none⟩=some (.slice x.q x.j x.d)∧w3.cell? ⟨gs,3,none⟩=some (.bool y.b)∧w3.cell? ⟨gs,4,none⟩=some (.slice y.p y.k y.c)∧w3.cell? ⟨gs,5,none⟩=some (.slice y.q y.j y.d):=qe8.cells HPS.out;obtain⟨⟨m0,f0⟩,⟨m1,f1⟩,⟨m2,f2⟩,⟨m3,f3⟩,⟨m4,f4⟩,⟨m5,f5⟩⟩:=qbi HPM3.out;clear bq ba
   refine wp_region_held_drew (S:=(fun W=>W.cell? ⟨gs,0,none⟩=some (.bool x.b)∧W.cell? ⟨gs,1,none⟩=some (.slice x.p x.k x.c)∧W.cell? ⟨gs,2,none⟩=some (.slice x.q x.j x.d)∧W.cell? ⟨gs,3,none⟩=some (.bool y.b)∧W.cell? ⟨gs,4,none⟩=some (.slice y.p y.k y.c)∧W.cell? ⟨gs,5,none⟩=some (.slice y.q y.j y.d))) (by kernel_rfl) e0 (fun hHeld0 => ?_)
   refine' wpAnyH_take (i:=0) (v:=_) rfl (by kernel_rfl) (by kernel_rfl) (by kernel_rfl) (fun _ _ _ h=>h) (Or.inl ⟨by rfl, ?hy1⟩) hHeld0 ?rest1
   case hy1=>(intro w hSw;(try dsimp only at hSw);go_simp;(try with_reducible rfl))
   try simp only[Act.put,List.setIfInBounds_toArray,List.set_cons_zero,List.set_cons_succ]
   refine' wpAnyH_take (i:=2) (v:=_) rfl (by kernel_rfl) (by kernel_rfl) (by kernel_rfl) (fun _ _ _ h=>h) (Or.inl ⟨by rfl, ?hy2⟩) hHeld0 ?rest2
   case hy2=>(intro w hSw;(try dsimp only at hSw);go_simp;(try with_reducible rfl))
   try simp only[Act.put,List.setIfInBounds_toArray,List.set_cons_zero,List.set_cons_succ]
   refine' wpAnyH_take (i:=3) (v:=_) rfl (by kernel_rfl) (by kernel_rfl) (by kernel_rfl) (fun _ _ _ h=>h) (Or.inl ⟨by rfl, ?hy3⟩) hHeld0 ?rest3
   case hy3=>(intro w hSw;(try dsimp only at hSw);go_simp;(try with_reducible rfl))
   try simp only[Act.put,List.setIfInBounds_toArray,List.set_cons_zero,List.set_cons_succ]
   refine' wpAnyH_take (i:=5) (v:=_) rfl (by kernel_rfl) (by kernel_rfl) (by kernel_rfl) (fun _ _ _ h=>h) (Or.inl ⟨by rfl, ?hy4⟩) hHeld0 ?rest4
   case hy4=>(intro w hSw;(try dsimp only at hSw);go_simp;(try with_reducible rfl))
   try simp only[Act.put,List.setIfInBounds_toArray,List.set_cons_zero,List.set_cons_succ]
   refine' wpAnyH_take (i:=7) (v:=_) rfl (by kernel_rfl) (by kernel_rfl) (by kernel_rfl) (fun _ _ _ h=>h) (Or.inl ⟨by rfl, ?hy5⟩) hHeld0 ?rest5
   case hy5=>(intro w hSw;(try dsimp only at hSw);go_simp;(try with_reducible rfl))
   try simp only[Act.put,List.setIfInBounds_toArray,List.set_cons_zero,List.set_cons_succ]
   refine' wpAnyH_take (i:=8) (v:=_) rfl (by kernel_rfl) (by kernel_rfl) (by kernel_rfl) (fun _ _ _ h=>h) (Or.inl ⟨by rfl, ?hy6⟩) hHeld0 ?rest6
   case hy6=>(intro w hSw;(try dsimp only at hSw);go_simp;(try with_reducible rfl))
   try simp only[Act.put,List.setIfInBounds_toArray,List.set_cons_zero,List.set_cons_succ]
   refine wpAnyH_ready (rs:=[1,6]) (by kernel_rfl) (by simp) ?_;refine AllReadyH.cons rfl (fun K hK => ?step7) ?next7
   case step7=>
    go_simp;refine hK.out _ _ ?hS1 (fun hHeld1 => ?more1)
    case hS1=>exact hHeld0
    clear hK;refine wpAnyH_ready (rs:=[4,6]) (by kernel_rfl) (by simp) ?_;refine AllReadyH.cons rfl (fun K hK => ?step8) ?next8
    case step8=>
     go_simp
     go_at_call 51;(with_reducible refine(HT1.out _ HBX.out).mono ?_);rintro e wA ⟨⟨z1,rfl,hn⟩,hb⟩;have HV1:=hid hn;have HBA:=hid (HBX.out.trans (hb.mono HBX.out.size));have pA:=HPM3.out.later (HBA.out.mono HPM3.out.1);have cA:wA.cell? ⟨gs,0,none⟩=some (.bool x.b)∧wA.cell? ⟨gs,1,none⟩=some (.slice x.p x.k x.c)∧wA.cell? ⟨gs,2,none⟩=some (.slice x.q x.j x.d)∧wA.cell? ⟨gs,3,none⟩=some (.bool y.b)∧wA.cell? ⟨gs,4,none⟩=some (.slice y.p y.k y.c)∧wA.cell? ⟨gs,5,none⟩=some (.slice y.q y.j y.d):=qe8.cells (HPS.out.later (HBA.out.mono HPS.out.1));obtain⟨⟨ma0,fa0⟩,⟨ma1,fa1⟩,⟨ma2,fa2⟩,⟨ma3,fa3⟩,⟨ma4,fa4⟩,⟨ma5,fa5⟩⟩:=qbi pA;clear hn hb pA
     go_wp2_with fail;refine hK.out _ _ ?hS2 (fun hHeld2 => ?more2)
     case hS2=>exact cA
     clear hK;refine wpAnyH_ready (rs:=[6]) (by kernel_rfl) (by simp) ?_;refine AllReadyH.cons rfl (fun K hK => ?step9) ?q56
     case step9=>
      go_simp;refine hK.out _ _ ?hS3 (fun hHeld3 => ?more3)
      case hS3=>exact cA
      clear hK;refine wpAnyH_ready (rs:=[9]) (by kernel_rfl) (by simp) ?_;refine AllReadyH.cons rfl (fun K hK => ?step10) ?next10
      case step10=>
       go_simp
       go_at_call 52;(with_reducible refine(HT2.out _ HBA.out).mono ?_);rintro e wC ⟨⟨z2,rfl,hn⟩,hb⟩;have HZ2:=hid hn;have HZ1:=hid (HV1.out.later hb);have HBC:=hid (HBA.out.trans (hb.mono HBA.out.size));have HPC:=hid (HPM3.out.later (HBC.out.mono HPM3.out.1));have cC:wC.cell? ⟨gs,0,none⟩=some (.bool x.b)∧wC.cell? ⟨gs,1,none⟩=some (.slice x.p x.k x.c)∧wC.cell? ⟨gs,2,none⟩=some (.slice x.q x.j x.d)∧wC.cell? ⟨gs,3,none⟩=some (.bool y.b)∧wC.cell? ⟨gs,4,none⟩=some (.slice y.p y.k y.c)∧wC.cell? ⟨gs,5,none⟩=some (.slice y.q y.j y.d):=qe8.cells (HPS.out.later (HBC.out.mono HPS.out.1));obtain⟨⟨mc0,fc0⟩,⟨mc1,fc1⟩,⟨mc2,fc2⟩,⟨mc3,fc3⟩,⟨mc4,fc4⟩,⟨mc5,fc5⟩⟩:=qbi HPC.out;have cD:=qd0 cC HNS.out (.bool z1.b) (.slice z1.p z1.k z1.c) (.slice z1.q z1.j z1.d) (.bool z2.b) (.slice z2.p z2.k z2.c) (.slice z2.q z2.j z2.d);clear hn hb
       go_wp2_with fail;refine hK.out _ _ ?hS4 (fun hHeld4 => ?more4)
       case hS4=>exact cC
       clear hK
       refine' wpAnyH_take (i:=10) (v:=_) rfl (by kernel_rfl) (by kernel_rfl) (by kernel_rfl) (fun _ _ _ h=>h) (Or.inl ⟨by rfl, ?hy11⟩) hHeld4 ?rest11
       case hy11=>(intro w hSw;(try dsimp only at hSw);go_simp;(try with_reducible rfl))
       try simp only[Act.put,List.setIfInBounds_toArray,List.set_cons_zero,List.set_cons_succ]
       refine wpAnyH_ready (rs:=[11]) (by kernel_rfl) (by simp) ?_;refine AllReadyH.cons rfl (fun K hK => ?step12) ?next12
       case step12=>
        go_simp;refine hK.out _ _ ?hS5 (fun hHeld5 => ?more5)
        case hS5=>exact cD
        clear hK;refine wpAnyH_done (by kernel_rfl) ?_ _;have hput:=qe8.put (x':=z1) (y':=z2) HPC.out;have HPK4:=hid hput.1;have HNK4:Hid _:=hid (And.intro (hput.2.1 _ _ HZ1.out) (hput.2.1 _ _ HZ2.out));have HBW4:=hid (hput.2.2 w1.heap.size w1 (Nat.le_refl _) (HBW3.out.trans (HBC.out.mono HBW3.out.size)));clear hput;go_wp2_with fail;go_roundw
        case rel=>exact⟨k+1,by omega,by go_num,z1,z2,HBW4,HPK4,hid (by rw[HAK.out];exact HNK4.out)⟩
        case measure=>simp[intOf];omega
       exact AllReadyH.nil
      exact AllReadyH.nil
     exact AllReadyH.nil
    refine AllReadyH.cons rfl (fun K hK => ?step13) ?next13
    case step13=>
     go_simp;refine hK.out _ _ ?hS6 (fun hHeld6 => ?more6)
     case hS6=>exact hHeld0
     clear hK;refine wpAnyH_ready (rs:=[4]) (by kernel_rfl) (by simp) ?_;refine AllReadyH.cons rfl (fun K hK => ?step14) ?next14
     case step14=>
      go_simp
      go_at_call 51;(with_reducible refine(HT1.out _ HBX.out).mono ?_);rintro e wA ⟨⟨z1,rfl,hn⟩,hb⟩;have HV1:=hid hn;have HBA:=hid (HBX.out.trans (hb.mono HBX.out.size));have pA:=HPM3.out.later (HBA.out.mono HPM3.out.1);have cA:wA.cell? ⟨gs,0,none⟩=some (.bool x.b)∧wA.cell? ⟨gs,1,none⟩=some (.slice x.p x.k x.c)∧wA.cell? ⟨gs,2,none⟩=some (.slice x.q x.j x.d)∧wA.cell? ⟨gs,3,none⟩=some (.bool y.b)∧wA.cell? ⟨gs,4,none⟩=some (.slice y.p y.k y.c)∧wA.cell? ⟨gs,5,none⟩=some (.slice y.q y.j y.d):=qe8.cells (HPS.out.later (HBA.out.mono HPS.out.1));obtain⟨⟨ma0,fa0⟩,⟨ma1,fa1⟩,⟨ma2,fa2⟩,⟨ma3,fa3⟩,⟨ma4,fa4⟩,⟨ma5,fa5⟩⟩:=qbi pA;clear hn hb pA
      go_wp2_with fail;refine hK.out _ _ ?hS7 (fun hHeld7 => ?more7)
      case hS7=>exact cA
      clear hK;refine wpAnyH_ready (rs:=[9]) (by kernel_rfl) (by simp) ?_;refine AllReadyH.cons rfl (fun K hK => ?step15) ?next15
      case step15=>
       go_simp
       go_at_call 52;(with_reducible refine(HT2.out _ HBA.out).mono ?_);rintro e wC ⟨⟨z2,rfl,hn⟩,hb⟩;have HZ2:=hid hn;have HZ1:=hid (HV1.out.later hb);have HBC:=hid (HBA.out.trans (hb.mono HBA.out.size));have HPC:=hid (HPM3.out.later (HBC.out.mono HPM3.out.1));have cC:wC.cell? ⟨gs,0,none⟩=some (.bool x.b)∧wC.cell? ⟨gs,1,none⟩=some (.slice x.p x.k x.c)∧wC.cell? ⟨gs,2,none⟩=some (.slice x.q x.j x.d)∧wC.cell? ⟨gs,3,none⟩=some (.bool y.b)∧wC.cell? ⟨gs,4,none⟩=some (.slice y.p y.k y.c)∧wC.cell? ⟨gs,5,none⟩=some (.slice y.q y.j y.d):=qe8.cells (HPS.out.later (HBC.out.mono HPS.out.1));obtain⟨⟨mc0,fc0⟩,⟨mc1,fc1⟩,⟨mc2,fc2⟩,⟨mc3,fc3⟩,⟨mc4,fc4⟩,⟨mc5,fc5⟩⟩:=qbi HPC.out;have cD:=qd0 cC HNS.out (.bool z1.b) (.slice z1.p z1.k z1.c) (.slice z1.q z1.j z1.d) (.bool z2.b) (.slice z2.p z2.k z2.c) (.slice z2.q z2.j z2.d);clear hn hb
       go_wp2_with fail;refine hK.out _ _ ?hS8 (fun hHeld8 => ?more8)
       case hS8=>exact cC
       clear hK
       refine' wpAnyH_take (i:=10) (v:=_) rfl (by kernel_rfl) (by kernel_rfl) (by kernel_rfl) (fun _ _ _ h=>h) (Or.inl ⟨by rfl, ?hy16⟩) hHeld8 ?rest16
       case hy16=>(intro w hSw;(try dsimp only at hSw);go_simp;(try with_reducible rfl))
       try simp only[Act.put,List.setIfInBounds_toArray,List.set_cons_zero,List.set_cons_succ]
       refine wpAnyH_ready (rs:=[11]) (by kernel_rfl) (by simp) ?_;refine AllReadyH.cons rfl (fun K hK => ?step17) ?next17
       case step17=>
        go_simp;refine hK.out _ _ ?hS9 (fun hHeld9 => ?more9)
        case hS9=>exact cD
        clear hK;refine wpAnyH_done (by kernel_rfl) ?_ _;have hput:=qe8.put (x':=z1) (y':=z2) HPC.out;have HPK4:=hid hput.1;have HNK4:Hid _:=hid (And.intro (hput.2.1 _ _ HZ1.out) (hput.2.1 _ _ HZ2.out));have HBW4:=hid (hput.2.2 w1.heap.size w1 (Nat.le_refl _) (HBW3.out.trans (HBC.out.mono HBW3.out.size)));clear hput;go_wp2_with fail;go_roundw
        case rel=>exact⟨k+1,by omega,by go_num,z1,z2,HBW4,HPK4,hid (by rw[HAK.out];exact HNK4.out)⟩
        case measure=>simp[intOf];omega
       exact AllReadyH.nil
      exact AllReadyH.nil
     exact AllReadyH.nil
    exact AllReadyH.nil
   refine AllReadyH.cons rfl (fun K hK => ?step18) ?next18
   case step18=>
    go_simp;refine hK.out _ _ ?hS10 (fun hHeld10 => ?more10)
    case hS10=>exact hHeld0
    clear hK;refine wpAnyH_ready (rs:=[1]) (by kernel_rfl) (by simp) ?_;refine AllReadyH.cons rfl (fun K hK => ?step19) ?next19
    case step19=>
     go_simp;refine hK.out _ _ ?hS11 (fun hHeld11 => ?more11)
     case hS11=>exact hHeld0
     clear hK;refine wpAnyH_ready (rs:=[4]) (by kernel_rfl) (by simp) ?_;refine AllReadyH.cons rfl (fun K hK => ?step20) ?next20
     case step20=>
      go_simp
      go_at_call 51;(with_reducible refine(HT1.out _ HBX.out).mono ?_);rintro e wA ⟨⟨z1,rfl,hn⟩,hb⟩;have HV1:=hid hn;have HBA:=hid (HBX.out.trans (hb.mono HBX.out.size));have pA:=HPM3.out.later (HBA.out.mono HPM3.out.1);have cA:wA.cell? ⟨gs,0,none⟩=some (.bool x.b)∧wA.cell? ⟨gs,1,none⟩=some (.slice x.p x.k x.c)∧wA.cell? ⟨gs,2,none⟩=some (.slice x.q x.j x.d)∧wA.cell? ⟨gs,3,none⟩=some (.bool y.b)∧wA.cell? ⟨gs,4,none⟩=some (.slice y.p y.k y.c)∧wA.cell? ⟨gs,5,none⟩=some (.slice y.q y.j y.d):=qe8.cells (HPS.out.later (HBA.out.mono HPS.out.1));obtain⟨⟨ma0,fa0⟩,⟨ma1,fa1⟩,⟨ma2,fa2⟩,⟨ma3,fa3⟩,⟨ma4,fa4⟩,⟨ma5,fa5⟩⟩:=qbi pA;clear hn hb pA
      go_wp2_with fail;refine hK.out _ _ ?hS12 (fun hHeld12 => ?more12)
      case hS12=>exact cA
      clear hK;refine wpAnyH_ready (rs:=[9]) (by kernel_rfl) (by simp) ?_;refine AllReadyH.cons rfl (fun K hK => ?step21) ?next21
      case step21=>
       go_simp
       go_at_call 52;(with_reducible refine(HT2.out _ HBA.out).mono ?_);rintro e wC ⟨⟨z2,rfl,hn⟩,hb⟩;have HZ2:=hid hn;have HZ1:=hid (HV1.out.later hb);have HBC:=hid (HBA.out.trans (hb.mono HBA.out.size));have HPC:=hid (HPM3.out.later (HBC.out.mono HPM3.out.1));have cC:wC.cell? ⟨gs,0,none⟩=some (.bool x.b)∧wC.cell? ⟨gs,1,none⟩=some (.slice x.p x.k x.c)∧wC.cell? ⟨gs,2,none⟩=some (.slice x.q x.j x.d)∧wC.cell? ⟨gs,3,none⟩=some (.bool y.b)∧wC.cell? ⟨gs,4,none⟩=some (.slice y.p y.k y.c)∧wC.cell? ⟨gs,5,none⟩=some (.slice y.q y.j y.d):=qe8.cells (HPS.out.later (HBC.out.mono HPS.out.1));obtain⟨⟨mc0,fc0⟩,⟨mc1,fc1⟩,⟨mc2,fc2⟩,⟨mc3,fc3⟩,⟨mc4,fc4⟩,⟨mc5,fc5⟩⟩:=qbi HPC.out;have cD:=qd0 cC HNS.out (.bool z1.b) (.slice z1.p z1.k z1.c) (.slice z1.q z1.j z1.d) (.bool z2.b) (.slice z2.p z2.k z2.c) (.slice z2.q z2.j z2.d);clear hn hb
       go_wp2_with fail;refine hK.out _ _ ?hS13 (fun hHeld13 => ?more13)
       case hS13=>exact cC
       clear hK
       refine' wpAnyH_take (i:=10) (v:=_) rfl (by kernel_rfl) (by kernel_rfl) (by kernel_rfl) (fun _ _ _ h=>h) (Or.inl ⟨by rfl, ?hy22⟩) hHeld13 ?rest22
       case hy22=>(intro w hSw;(try dsimp only at hSw);go_simp;(try with_reducible rfl))
       try simp only[Act.put,List.setIfInBounds_toArray,List.set_cons_zero,List.set_cons_succ]
       refine wpAnyH_ready (rs:=[11]) (by kernel_rfl) (by simp) ?_;refine AllReadyH.cons rfl (fun K hK => ?step23) ?next23
       case step23=>
        go_simp;refine hK.out _ _ ?hS14 (fun hHeld14 => ?more14)
        case hS14=>exact cD
        clear hK;refine wpAnyH_done (by kernel_rfl) ?_ _;have hput:=qe8.put (x':=z1) (y':=z2) HPC.out;have HPK4:=hid hput.1;have HNK4:Hid _:=hid (And.intro (hput.2.1 _ _ HZ1.out) (hput.2.1 _ _ HZ2.out));have HBW4:=hid (hput.2.2 w1.heap.size w1 (Nat.le_refl _) (HBW3.out.trans (HBC.out.mono HBW3.out.size)));clear hput;go_wp2_with fail;go_roundw
        case rel=>exact⟨k+1,by omega,by go_num,z1,z2,HBW4,HPK4,hid (by rw[HAK.out];exact HNK4.out)⟩
        case measure=>simp[intOf];omega
       exact AllReadyH.nil
      exact AllReadyH.nil
     exact AllReadyH.nil
    exact AllReadyH.nil
   exact AllReadyH.nil
  ·have hke:k=n:=by omega
   have HNF:Hid (qai wr (.agg #[.bool xm.b,.slice xm.p xm.k xm.c,.slice xm.q xm.j xm.d]) (qcm qs).1∧qai wr (.agg #[.bool ym.b,.slice ym.p ym.k ym.c,.slice ym.q ym.j ym.d]) (qcm qs).2):=hid (by rw[←HAN.out,←hke];exact HNK.out);have ba:=HAB.out n;rw[HAN.out] at ba;clear hke;have HBZ:=hid (HB.out.trans (HBW.out.mono HB.out.size));have HRES3:=hid (HRES1.out.later (HBW.out.mono HRES1.out.1));obtain⟨m0,m1,m2,m3,m4,m5⟩:=qe8.cells HPK.out;have HCM:=hid (qb1 _ _ _ _ wr HNF.out.1 HNF.out.2 (by have:=ba.1.rs;have:=ba.2.rs;unfold Cap;omega));have hle:=@qf0 (qcm qs).1 (qcm qs).2;generalize hcq:qcp (qcm qs).1 (qcm qs).2=cq at *;by_cases hm:(qcm qs).1≤(qcm qs).2
   ·have hc:¬0<cq:=by have:=hle.2 hm;omega
    have HM:=hid hm;clear hle hm hcq;go_wp2_with fail;refine HCM.out.mono ?_;rintro e w4 ⟨rfl,hb⟩;have HNX:Hid (qai w4 (.agg #[.bool xm.b,.slice xm.p xm.k xm.c,.slice xm.q xm.j xm.d]) (qcm qs).1∧qai w4 (.agg #[.bool ym.b,.slice ym.p ym.k ym.c,.slice ym.q ym.j ym.d]) (qcm qs).2):=hid ⟨HNF.out.1.later hb,HNF.out.2.later hb⟩;have HRX:=hid (HRES3.out.later (hb.mono HRES3.out.1));have HBV:=hid (HBZ.out.trans (hb.mono HBZ.out.size));obtain⟨p0,p1,p2,p3,p4,p5⟩:=qe8.cells (HPK.out.later (hb.mono HPK.out.1));clear hb HCM m0 m1 m2 m3 m4 m5;have HWR:=hid (qdz _ _ _ w4 (qfm HNX.out.1 HNX.out.2) (by have:=ba.1.rs;unfold Cap;omega) (by have:=ba.2.rs;unfold Cap;omega));go_wp2_with fail;refine HWR.out.mono ?_;rintro e wC h;obtain⟨s1,s2,ec,rfl,h2⟩:=qdr h;have HF3:=hid h2;have HRC:=hid (HRX.out.later (h2.2.mono HRX.out.1));obtain⟨⟨r0,g0⟩,⟨r1,g1⟩⟩:=qcn HRC.out;have HBF:=hid (qbt (HBV.out.trans (h2.2.mono HBV.out.size)) (Nat.le_refl _) (.string s1) (.string s2));clear h h2 HWR;go_wp2_with fail;refine bodyPost_ret (v := .tuple #[.agg #[.string s1,.string s2],.int .i64 ec]) ?_ rfl ?_
    ·simp[results,Tryz.results17,go_sem,r0,r1]
    ·unfold qvs
     rw[if_pos HM.out];exact⟨HF3.out.1,HBF.out⟩
   ·have hc:0<cq:=by
     rcases Int.lt_or_le 0 cq with h|h
     ·exact h
     ·exact absurd (hle.1 h) hm
    have HM:=hid hm;clear hle hm hcq;go_wp2_with fail;refine HCM.out.mono ?_;rintro e w4 ⟨rfl,hb⟩;have HRC:=hid (HRES3.out.later (hb.mono HRES3.out.1));obtain⟨⟨r0,g0⟩,⟨r1,g1⟩⟩:=qcn HRC.out;have HBF:=hid (qbt (HBZ.out.trans (hb.mono HBZ.out.size)) (Nat.le_refl _) (.string ⟨#[]⟩) (.string ⟨#[]⟩));clear hb HCM m0 m1 m2 m3 m4 m5;go_wp2_with fail;refine bodyPost_ret (v := .tuple #[.agg #[.string ⟨#[]⟩,.string ⟨#[]⟩],.int .i64 15]) ?_ rfl ?_
    ·simp[results,Tryz.results17,go_sem,r0,r1]
    ·unfold qvs
     rw[if_neg HM.out];exact⟨rfl,HBF.out⟩
end Go.Proofs.YtlinhlkgdlfefaaGreatDoor
