/- Mix answers the mixture; the sizes of MeasureMixed. -/
import Derived.Test.YtmcfcpgglfimjaaGreatDoorMRefMix
import Derived.Test.YtmcfcpgglfimjaaGreatDoorMMixes
set_option linter.all false
namespace Go.Proofs.YtmcfcpgglfimjaaGreatDoor
open Go.RowKit
def lk:QL→BA→Rat
 | [],_=>0
 | p::L,s=>if p.1=s then p.2 else lk L s
theorem qpu{s:BA}:∀ {L:QL},(∀p ∈ L,p.1≠s)→lk L s=0
 | [],_=>rfl
 | p::L,h=>by
  show(if p.1=s then p.2 else lk L s)=0;rw[if_neg (h p (List.mem_cons_self ..))];exact qpu fun q hq=>h q (List.mem_cons_of_mem _ hq)
theorem q4d{a b:BA}(h:bl a b=true):a≠b:=by
 rintro rfl;rw[qip] at h;cases h
theorem qwl{p:BA × Rat}{L:QL}(h:Srt (p::L)):lk L p.1=0:=qpu fun q hq=>Ne.symm (q4d ((List.pairwise_cons.1 h).1 q hq))
theorem qwm:∀ {A B:QL},Srt A→Srt B→(∀p ∈ A,p.2≠0)→(∀p ∈ B,p.2≠0)→(∀s,lk A s=lk B s)→A=B
 | [],[],_,_,_,_,_=>rfl
 | [],b::B,_,_,_,hB,h=>by
  have h1:=h b.1;have h2:lk (b::B) b.1=b.2:=if_pos rfl;rw[h2] at h1;exact absurd h1.symm (hB b (List.mem_cons_self ..))
 | a::A,[],_,_,hA,_,h=>by
  have h1:=h a.1;have h2:lk (a::A) a.1=a.2:=if_pos rfl;rw[h2] at h1;exact absurd h1 (hA a (List.mem_cons_self ..))
 | a::A,b::B,sA,sB,hA,hB,h=>by
  obtain⟨a1,a2⟩:=List.pairwise_cons.1 sA;obtain⟨b1,b2⟩:=List.pairwise_cons.1 sB
  have key:a.1=b.1:=Classical.byContradiction fun hne=>by
   cases hc:bl a.1 b.1 with
   | true=>
    have h1:=h a.1;have h2:lk (a::A) a.1=a.2:=if_pos rfl
    have h3:lk (b::B) a.1=0:=qpu fun q hq=>by
     rcases List.mem_cons.1 hq with rfl|hq
     ·exact Ne.symm hne
     ·exact Ne.symm (q4d (qg2 hc (b1 q hq)))
    rw[h2,h3] at h1;exact hA a (List.mem_cons_self ..) h1
   | false=>
    have hd:=qpp hc hne;have h1:=h b.1;have h2:lk (b::B) b.1=b.2:=if_pos rfl
    have h3:lk (a::A) b.1=0:=qpu fun q hq=>by
     rcases List.mem_cons.1 hq with rfl|hq
     ·exact hne
     ·exact Ne.symm (q4d (qg2 hd (a1 q hq)))
    rw[h2,h3] at h1;exact hB b (List.mem_cons_self ..) h1.symm
  have hv:a.2=b.2:=by
   have h1:=h a.1;have h2:lk (a::A) a.1=a.2:=if_pos rfl;have h3:lk (b::B) a.1=b.2:=if_pos key.symm;rw[h2,h3] at h1;exact h1
  have mH:a=b:=Prod.ext key hv;subst mH;rw[qwm a2 b2 (fun p hp=>hA p (List.mem_cons_of_mem _ hp)) (fun p hp=>hB p (List.mem_cons_of_mem _ hp)) fun s => ?_];by_cases hs:a.1=s
  ·subst hs
   rw[qwl sA,qwl sB]
  ·have h1:=h s
   have h2:lk (a::A) s=lk A s:=if_neg hs;have h3:lk (a::B) s=lk B s:=if_neg hs;rw[h2,h3] at h1;exact h1
theorem q7g{k s:BA}{d:Rat}:∀ {L:QL},Srt L→lk (qij L k d) s=lk L s+if k=s then d else 0
 | [],_=>by
  show(if k=s then d else 0)=0+_;rw[Rat.zero_add]
 | p::L,h=>by
  obtain⟨h1,h2⟩:=List.pairwise_cons.1 h;have ih:=q7g (k:=k) (s:=s) (d:=d) h2;have hc:lk (p::L) s=if p.1=s then p.2 else lk L s:=rfl
  unfold qij;split
  ·rename_i hb
   show(if p.1=s then p.2 else lk (qij L k d) s)=_;rw[hc,ih];by_cases hs:p.1=s
   ·rw[if_pos hs,if_pos hs,if_neg fun e=>q4d hb (hs.trans e.symm),Rat.add_zero]
   ·rw[if_neg hs,if_neg hs]
  ·rename_i hb
   split
   ·rename_i he
    show(if p.1=s then p.2+d else lk L s)=_;rw[hc];by_cases hs:p.1=s
    ·rw[if_pos hs,if_pos hs,if_pos (he▸hs)]
    ·rw[if_neg hs,if_neg hs,if_neg (fun e=>hs (he.trans e)),Rat.add_zero]
   ·rename_i hn
    have hk:=qpp (by simpa using hb) hn;show(if k=s then d else lk (p::L) s)=_;by_cases hs:k=s
    ·subst hs
     rw[if_pos rfl,if_pos rfl,qpu fun q hq => ?_,Rat.zero_add];rcases List.mem_cons.1 hq with rfl|hq
     ·exact hn
     ·exact Ne.symm (q4d (qg2 hk (h1 q hq)))
    ·rw[if_neg hs,if_neg hs,Rat.add_zero]
def cn:List (BA × BA)→BA→Rat
 | [],_=>0
 | t::ss,s=>(if t.1=s then qbk t else 0)+cn ss s
def Wt:List Lay→BA→Rat
 | [],_=>0
 | x::l,s=>cn x.shares s*((x.mass:Int):Rat)+Wt l s
theorem qjn(s:BA)(m:List Lay):∀l:List Lay,Wt (l++m) s=Wt l s+Wt m s
 | []=>by
  show Wt m s=0+_;rw[Rat.zero_add]
 | x::l=>by
  show cn x.shares s*((x.mass:Int):Rat)+Wt (l++m) s=cn x.shares s*((x.mass:Int):Rat)+Wt l s+Wt m s;rw[qjn s m l,Rat.add_assoc]
theorem q4e{m:Int}{s:BA}:∀(ss:List (BA × BA)) {L:QL},Srt L→lk (qez m L ss) s=lk L s+cn ss s*((m:Int):Rat)
 | [],L,_=>by
  show lk L s=lk L s+0*_;rw[Rat.zero_mul,Rat.add_zero]
 | t::ss,L,h=>by
  show lk (qez m (qij L t.1 (qbk t*((m:Int):Rat))) ss) s=lk L s+((if t.1=s then qbk t else 0)+cn ss s)*((m:Int):Rat);rw[q4e ss (qlw h),q7g h];by_cases hs:t.1=s
  ·rw[if_pos hs,if_pos hs];grind
  ·rw[if_neg hs,if_neg hs];grind
theorem qn5(s:BA):∀l:List Lay,lk (qci l) s=Wt l s:=by
 intro l
 induction l using qb3 with
 | h0=>rfl
 | h1 l x ih=>
  rw[qfa,q4e x.shares (qdz l).1,ih,qjn];show _=_+(_+0);rw[Rat.add_zero]
theorem q6u{k:BA}{d:Rat}{L:QL}(hs:Srt L)(h:∀p ∈ L,0<p.2)(hd:0<d):∀p ∈ qij L k d,0<p.2:=fun p hp=>by
 rcases qsd hs hp with⟨_,h1|⟨q,hq,_,h2⟩⟩|⟨_,h1⟩
 ·rw[h1];exact hd
 ·have:=h q hq
  rw[h2]
  grind
 ·exact h p h1
def tot:QL→Rat
 | []=>0
 | p::L=>p.2+tot L
theorem q4f{k:BA}{d:Rat}:∀ {L:QL},tot (qij L k d)=tot L+d
 | []=>by
  show d+0=0+d
  grind
 | p::L=>by
  have ih:=q4f (k:=k) (d:=d) (L:=L);unfold qij;split
  ·show p.2+tot (qij L k d)=p.2+tot L+d
   rw[ih,Rat.add_assoc]
  ·split
   ·show p.2+d+tot L=p.2+tot L+d
    grind
   ·show d+(p.2+tot L)=p.2+tot L+d
    grind
def quk:List (BA × BA)→Rat
 | []=>0
 | s::ss=>qbk s+quk ss
theorem qq3{m:Int}(hm:0<m):∀(ss:List (BA × BA)) {L:QL},Srt L→(∀p ∈ L,0<p.2)→(∀s ∈ ss,0<qbk s)→(∀p ∈ qez m L ss,0<p.2)∧tot (qez m L ss)=tot L+quk ss*((m:Int):Rat)
 | [],L,_,hp,_=>⟨hp,by
   show tot L=tot L+0*_
   rw[Rat.zero_mul,Rat.add_zero]⟩
 | t::ss,L,hs,hp,ht=>by
  have hmq:(0:Rat)<((m:Int):Rat):=by exact_mod_cast hm
  have hd:0<qbk t*((m:Int):Rat):=Rat.mul_pos (ht t (List.mem_cons_self ..)) hmq;obtain⟨h1,h2⟩:=qq3 hm ss (qlw (k:=t.1) (d:=qbk t*((m:Int):Rat)) hs) (q6u hs hp hd) fun s h=>ht s (List.mem_cons_of_mem _ h);refine⟨h1, ?_⟩;show tot (qez m (qij L t.1 (qbk t*((m:Int):Rat))) ss)=tot L+(qbk t+quk ss)*((m:Int):Rat);rw[h2,q4f]
  grind
theorem ql0(p:BA × Rat):qbk (rtS p)=p.2:=qm1 p.2
theorem qpv(m:List (BA × BA)):∀l,quk (l++m)=quk l+quk m
 | []=>by
  show quk m=0+quk m;rw[Rat.zero_add]
 | s::l=>by
  show qbk s+quk (l++m)=qbk s+quk l+quk m;rw[qpv m l,Rat.add_assoc]
theorem qul:∀l:List (BA × BA),qgn l=quk l:=by
 intro l
 induction l using qb3 with
 | h0=>rfl
 | h1 l s ih=>
  rw[qlr,qpv,ih];show quk l+qbk s=quk l+(qbk s+0);rw[Rat.add_zero]
theorem qx7{q:Rat}:0<q.num↔0<q:=by
 constructor
 ·intro h
  rw[←Rat.not_le];intro dS;have h1:0≤(-q).num:=Rat.num_nonneg.2 (by grind);rw[Rat.neg_num] at h1;omega
 ·intro h
  have h1:0≤q.num:=Rat.num_nonneg.2 (by grind)
  have h2:q.num≠0:=fun e=>by
   rw[Rat.num_eq_zero.1 e] at h;exact absurd h Rat.lt_irrefl
  omega
theorem q0g{b:BA}{s:BA × BA}(h:qak b s=0):qbx s.1.data.toList=true∧0<qbk s:=by
 unfold qak at h;split at h
 ·cases h
 ·rename_i h1
  split at h
  ·cases h
  ·split at h
   ·rename_i h2;exact absurd h h2
   ·split at h
    ·cases h
    ·rename_i h3
     refine⟨by simpa using h1, ?_⟩;have h4:0<(qbk s).num:=by show 0<(qa9 s.2.data.toList).num;omega
     exact qx7.1 h4
theorem qpw:∀(l:List (BA × BA)) (b:BA),qai (qay b l)=0→∀s ∈ l,qbx s.1.data.toList=true∧0<qbk s
 | [],_,_,s,hs=>by cases hs
 | t::l,b,h,s,hs=>by
  have h1:(if qak b t=0 then qai (qay t.1 l) else qak b t)=0:=h;by_cases h0:qak b t=0
  ·rw[if_pos h0] at h1
   rcases List.mem_cons.1 hs with rfl|hs
   ·exact q0g h0
   ·exact qpw l t.1 h1 s hs
  ·rw[if_neg h0] at h1
   exact absurd h1 h0
theorem qil{x:Lay}(h:qbc x=0):qbx x.grain.data.toList=true∧quk x.shares=1∧∀s ∈ x.shares,qbx s.1.data.toList=true∧0<qbk s:=by
 have h1:=qpw _ _ (qey h);unfold qbc at h;split at h
 ·cases h
 ·rename_i hn
  split at h
  ·cases h
  ·unfold qbd at h
   split at h
   ·cases h
   ·split at h
    ·cases h
    ·split at h
     ·rename_i h2;exact absurd h h2
     ·split at h
      ·rename_i h2
       exact⟨by simpa using hn,by rw[←qul];exact h2,h1⟩
      ·cases h
theorem qpx{m:Int}:∀(ss:List (BA × BA)) {L:QL},(∀p ∈ L,qbx p.1.data.toList=true)→(∀s ∈ ss,qbx s.1.data.toList=true)→∀p ∈ qez m L ss,qbx p.1.data.toList=true
 | [],_,h,_=>h
 | t::ss,L,h,hs=>qpx ss (L:=qij L t.1 (qbk t*((m:Int):Rat))) (fun p hp=>by
   rcases qsc hp with e|⟨q,hq,e⟩
   ·rw[e];exact hs t (List.mem_cons_self ..)
   ·rw[←e];exact h q hq) fun s h'=>hs s (List.mem_cons_of_mem _ h')
theorem qf9:∀l:List Lay,(∀x ∈ l,qbc x=0)→(∀p ∈ qci l,0<p.2∧qbx p.1.data.toList=true)∧tot (qci l)=((qaq l:Int):Rat):=by
 intro l
 induction l using qb3 with
 | h0=>exact fun _=>⟨fun p hp=>(by cases hp),rfl⟩
 | h1 l x ih=>
  intro h;obtain⟨h1,h2⟩:=ih fun y hy=>h y (List.mem_append_left _ hy);have hx:=h x (by simp);obtain⟨m1,_⟩:=qbq hx;obtain⟨_,e2,e3⟩:=qil hx;obtain⟨h3,h4⟩:=qq3 m1 x.shares (qdz l).1 (fun p hp=>(h1 p hp).1) fun s hs=>(e3 s hs).2;rw[qfa,qds];refine⟨fun p hp=>⟨h3 p hp,qpx _ (fun q hq=>(h1 q hq).2) (fun s hs=>(e3 s hs).1) p hp⟩, ?_⟩;rw[h4,h2,e2,Rat.one_mul,Rat.intCast_add]
theorem qwn:∀ {A:QL},Srt A→∀s,cn (A.map rtS) s=lk A s
 | [],_,_=>rfl
 | p::A,h,s=>by
  obtain⟨h1,h2⟩:=List.pairwise_cons.1 h;show(if p.1=s then qbk (rtS p) else 0)+cn (A.map rtS) s=if p.1=s then p.2 else lk A s
  rw[ql0,qwn h2];by_cases hs:p.1=s
  ·subst hs
   rw[if_pos rfl,if_pos rfl,qwl h,Rat.add_zero]
  ·rw[if_neg hs,if_neg hs,Rat.zero_add]
theorem qum:∀ {A:QL} (b:BA),Srt A→(∀p ∈ A,bl b p.1=true)→(∀p ∈ A,0<p.2∧qbx p.1.data.toList=true∧qbr p.2 600=true)→qai (qay b (A.map rtS))=0
 | [],_,_,_,_=>rfl
 | p::A,b,hs,hb,h=>by
  obtain⟨h1,h2⟩:=List.pairwise_cons.1 hs;obtain⟨p1,p2,p3⟩:=h p (List.mem_cons_self ..)
  have dS:¬qmw p.1 b=true:=fun e=>by
   have h3:=hb p (List.mem_cons_self ..);unfold qmw at e;rw[Bool.or_eq_true] at e;rcases e with e|e
   ·have h4:=qg2 h3 e
    rw[qip] at h4;cases h4
   ·rw[beq_iff_eq] at e
    have h5:bl b p.1=bl p.1 p.1:=by unfold bl;rw[e]
    rw[h5,qip] at h3;cases h3
  have h0:qak b (rtS p)=0:=by
   unfold qak;rw[if_neg (by show ¬qbx p.1.data.toList=false;rw[p2];simp),if_neg (show ¬qmw (rtS p).1 b=true from dS),if_neg (by show ¬qah (rt p.2).data.toList≠0;rw[q6o p3];simp),if_neg];show ¬(qa9 (rt p.2).data.toList).num≤0;rw[qm1];have:=qx7.2 p1;omega
  show(if qak b (rtS p)=0 then qai (qay p.1 (A.map rtS)) else qak b (rtS p))=0;rw[if_pos h0];exact qum p.1 h2 h1 fun q hq=>h q (List.mem_cons_of_mem _ hq)
def qdj(l:List Lay):Lay:=⟨qct l,qaq l,(qgq l).map rtS⟩
theorem ql1(l:List Lay):Srt (qgq l):=List.pairwise_map.2 (qdz l).1
theorem q4g{M:Rat}{s:BA}:∀A:QL,lk (A.map fun p=>(p.1,p.2/M)) s=lk A s/M
 | []=>by
  show(0:Rat)=0/M
  grind
 | p::A=>by
  show(if p.1=s then p.2/M else lk (A.map fun p=>(p.1,p.2/M)) s)=(if p.1=s then p.2 else lk A s)/M;rw[q4g A];split<;>rfl
theorem q4h{M:Rat}:∀A:QL,tot (A.map fun p=>(p.1,p.2/M))=tot A/M
 | []=>by
  show(0:Rat)=0/M
  grind
 | p::A=>by
  show p.2/M+tot (A.map fun p=>(p.1,p.2/M))=(p.2+tot A)/M;rw[q4h A]
  grind
theorem qun:∀A:QL,quk (A.map rtS)=tot A
 | []=>rfl
 | p::A=>by
  show qbk (rtS p)+quk (A.map rtS)=p.2+tot A;rw[ql0,qun A]
theorem q4i{l:List Lay}(hM:((qaq l:Int):Rat)≠0)(s:BA):Wt [qdj l] s=Wt l s:=by
 show cn ((qgq l).map rtS) s*((qaq l:Int):Rat)+0=Wt l s;rw[qwn (ql1 l),←qn5 s l];unfold qgq;rw[q4g]
 grind
theorem qpy{z:Int}(h:0<z):((z:Int):Rat)≠0:=fun e=>by
 have:z=0:=by exact_mod_cast e
 omega
theorem q89{l:List Lay}{x:Lay}(hl:l.head? = some x)(cV:∀y ∈ l,qbc y=0)(hM:0<qaq l)(hM2:qaq l≤999999999)(hn:(qci l).length≤64)(hne:qci l≠[])(hf:∀p ∈ qgq l,qbr p.2 600=true):qbc (qdj l)=0:=by
 obtain⟨h1,h2⟩:=qf9 l cV
 have hg:qbx (qct l).data.toList=true:=by
  match l,hl with
  | y::_,hl=>
   exact(qil (cV y (List.mem_cons_self ..))).1
 have hMp:(0:Rat)<((qaq l:Int):Rat):=by exact_mod_cast hM
 have aE:((qgq l).map rtS).length=(qci l).length:=by unfold qgq;rw[List.length_map,List.length_map]
 have jN:0<(qci l).length:=List.length_pos_iff.2 hne
 have Fq:∀p ∈ qgq l,0<p.2∧qbx p.1.data.toList=true∧qbr p.2 600=true:=fun p hp=>by
  have h3:=hf p hp;unfold qgq at hp;obtain⟨q,hq,rfl⟩:=List.mem_map.1 hp;obtain⟨h4,h5⟩:=h1 q hq;exact⟨by rw[Rat.div_def];exact Rat.mul_pos h4 (Rat.inv_pos.2 hMp),h5,h3⟩
 have hb:∀p ∈ qgq l,bl ⟨#[]⟩ p.1=true:=fun p hp=>by
  have h3:=qpm (Fq p hp).2.1;unfold qmw at h3;rw[Bool.or_eq_false_iff] at h3;refine qpp (a:=p.1) h3.1 fun e => ?_;rw[e] at h3;have:=h3.2;simp at this
 have hfe:=qum ⟨#[]⟩ (ql1 l) hb Fq
 have bX:qgn ((qgq l).map rtS)=1:=by
  rw[qul,qun];unfold qgq;rw[q4h,h2]
  grind
 unfold qbc;rw[if_neg (by show ¬qbx (qct l).data.toList=false;rw[hg];simp),if_neg (by show ¬(qaq l<1∨999999999<qaq l);omega)];show qbd ((qgq l).map rtS)=0;unfold qbd;rw[if_neg (by omega),if_neg (by omega),if_neg (by rw[hfe];simp),if_pos bX]
theorem qx8{l m:List Lay}(hm:∀x ∈ m,qbc x=0)(hl:∀x ∈ l,qbc x=0)(h:∀s,Wt m s=Wt l s):qci m=qci l:=
 qwm (qdz m).1 (qdz l).1 (fun p hp=>by have:=((qf9 m hm).1 p hp).1;grind) (fun p hp=>by have:=((qf9 l hl).1 p hp).1;grind) fun s=>by rw[qn5,qn5,h]
theorem qkd(m:List Lay):∀l,qaq (l++m)=qaq l+qaq m:=by
 intro l
 induction m using qb3 with
 | h0=>rw[List.append_nil];show qaq l=qaq l+0;omega
 | h1 m x ih=>rw[←List.append_assoc,qds,qds,ih];omega
theorem q9a{a b:List Lay}(ha:∀x ∈ a,qbc x=0)(hb:∀x ∈ b,qbc x=0)(ya:qbc (qdj a)=0)(yb:qbc (qdj b)=0)(ma:0<qaq a)(mb:0<qaq b)(hne:a≠[]):qdj [qdj a,qdj b]=qdj (a++b)∧qci [qdj a,qdj b]=qci (a++b):=by
 have h1:qci [qdj a,qdj b]=qci (a++b):=qx8 (fun x hx=>by
  rcases List.mem_cons.1 hx with rfl|hx
  ·exact ya
  ·rw[List.mem_singleton.1 hx];exact yb) (fun x hx=>by
  rcases List.mem_append.1 hx with hx|hx
  ·exact ha x hx
  ·exact hb x hx) fun s=>by
  rw[qjn,←q4i (qpy ma) s,←q4i (qpy mb) s,←qjn];rfl
 have h2:qaq [qdj a,qdj b]=qaq (a++b):=by
  rw[qkd];show 0+qaq a+qaq b=_;omega
 have h3:qct [qdj a,qdj b]=qct (a++b):=by
  match a,hne with
  | x::a,_=>rfl
 refine⟨?_,h1⟩;unfold qdj qgq at *;rw[h1,h2,h3]
theorem q9b{x:Lay}(h:qbc x=0)(hp:∀s ∈ x.shares,s.2=rt (qbk s)):qdj [x]=x:=by
 obtain⟨m1,_⟩:=qbq h;obtain⟨_,_,e3⟩:=qil h;have hup:=(qjm _ _ (qey h)).2;have hM:qaq [x]=x.mass:=by show 0+x.mass=x.mass;omega
 have hS:Srt (x.shares.map fun s=>(s.1,qbk s)):=List.pairwise_map.2 hup;have cV:∀y ∈ [x],qbc y=0:=fun y hy=>by rw[List.mem_singleton.1 hy];exact h
 have aB:(x.shares.map fun s=>(s.1,qbk s)).map rtS=x.shares:=by
  rw[List.map_map];refine(List.map_congr_left fun s hs => ?_).trans (List.map_id _);show(s.1,rt (qbk s))=s;rw[←hp s hs]
 have hq:qgq [x]=x.shares.map fun s=>(s.1,qbk s):=by
  refine qwm (ql1 _) hS (fun p oX => ?_) (fun p oX => ?_) fun s => ?_
  ·unfold qgq at oX
   obtain⟨q,hq,rfl⟩:=List.mem_map.1 oX;have h4:=((qf9 [x] cV).1 q hq).1;have h5:=qpy m1;rw[hM];intro e;have h6:q.2/((x.mass:Int):Rat)=0:=e;have h7:q.2=0:=by grind
   grind
  ·obtain⟨t,ht,rfl⟩:=List.mem_map.1 oX
   have:=(e3 t ht).2;show qbk t≠0
   grind
  ·rw[←qwn hS,aB]
   unfold qgq;rw[q4g,qn5,hM];show(cn x.shares s*((x.mass:Int):Rat)+0)/((x.mass:Int):Rat)=cn x.shares s;have h5:=qpy m1
   grind
 unfold qdj;rw[hq,aB,hM];rfl
end Go.Proofs.YtmcfcpgglfimjaaGreatDoor
namespace Go.Proofs.YtmcfcpgglfimjaaGreatDoor
open Go.RowKit
theorem q6v{m:List Lay}{j:Nat}(hS:SmL (qci m) j)(h1:1≤j)(hj:j≤500)(hm:0<qaq m)(fP:qaq m≤999999999):(∀s,sm (qgp (qcu m) s/((qaq m:Int):Rat)) (j+9))∧∀ss:List (List UInt8),ss.Perm ((qcu m).map fun p=>p.1.data.toList)→((qcd ss).map fun s=>(s,qcz (qgp (qcu m) s/((qaq m:Int):Rat))))=(qdj m).shares:=by
 have lH:sm ((qaq m:Int):Rat) 9:=⟨by show(qaq m).natAbs<10^9;omega,by show 1<10^9;decide⟩;have oU:((qaq m:Int):Rat).num≠0:=by show qaq m≠0;omega
 have bM:∀s,sm (qgp (qcu m) s/((qaq m:Int):Rat)) (j+9):=fun s=>q2a (q88 hS h1 s) lH oU;refine⟨bM,fun ss hp => ?_⟩;rw[q34 hp];show _=(qgq m).map rtS;unfold qgq;rw[List.map_map,List.map_map];refine List.map_congr_left fun q hq => ?_;show(q.1,qcz (qgp (qcu m) q.1/((qaq m:Int):Rat)))=(q.1,rt (q.2/((qaq m:Int):Rat)));rw[(qx6 (bM q.1) (by omega)).1,q35 q hq]
theorem q6w(m:List Lay)(b o c j:Nat)(W:World)(hg:GW W)(aB:qec W b o m)(h1:1≤m.length)(h2:m.length≤64)(hc:c≤maxLen)(hs9:∀x ∈ m,∀s ∈ x.shares,s.1.size≤1073741824∧s.2.size≤1073741824)
  (cV:∀x ∈ m,qbc x=0) (rW:∀x ∈ m,x.grain=qct m) (bX:qaq m≤999999999) (oW:(qci m).length≤64) (xN:1≤j) (hj:j≤500) (hS:SmL (qci m) j):
  zbg 8 (.slice (some ⟨b,o,none⟩) m.length c) (qct m) (qaq m) 0 (qdj m).shares W:=by
 obtain⟨fD,fP⟩:=qhq m cV;obtain⟨bM,mU⟩:=q6v hS xN hj (by omega) bX;refine(qxw m (qct m) b o c W hg aB h1 h2 hc hs9 cV rW bX (by rw[←(qdz m).2.length_eq];exact oW) fun s=>(qx6 (bM s) (by omega)).2).mono fun e w' h => ?_;obtain⟨ss,g,hp,_,he,hr,hb⟩:=h;have cQ:(qcd ss).length=(qdj m).shares.length:=by rw[←mU ss hp,List.length_map]
 rw[mU ss hp] at hr;exact⟨⟨_,_,_,he,cQ,.inr ⟨g,rfl,qwj hr⟩⟩,hb⟩
theorem quo{s:BA}(h:qbx s.data.toList=true):s.size≤24:=by
 unfold qbx at h;rw[Bool.and_eq_true] at h;have:=of_decide_eq_true h.2;have e:s.data.toList.length=s.size:=by simp
 omega
theorem qwo{l:List Lay}(cV:∀x ∈ l,qbc x=0)(oK:1≤l.length)(hl:l.length≤5)(bX:qaq l≤999999999)(Ru:∀x ∈ l,x.shares.length≤4∧∀s ∈ x.shares,q4t s.2 4=true):
  SmL (qci l) 70∧(qci l).length≤20∧SmP (qdj l).shares 79∧(∀s ∈ (qdj l).shares,s.1.size≤24∧s.2.size≤200)∧(∀p ∈ qgq l,sm p.2 79)∧∀x ∈ l,∀s ∈ x.shares,s.2=rt (qbk s)∧sm (qbk s) 4:=by
 have hp:∀x ∈ l,∀s ∈ x.shares,s.2=rt (qbk s)∧sm (qbk s) 4:=fun x hx s hs=>by
  obtain⟨_,h2,h3⟩:=quc ((Ru x hx).2 s hs) (by decide);exact⟨h2,h3⟩
 have h1:SmL (qci l) 70:=fun p oX=>qfr (qsf l cV (fun x hx s hs=>(hp x hx s hs).2) p oX) (by omega)
 have h2:(qci l).length≤20:=by
  have:=qpq l fun x hx=>(Ru x hx).1;omega
 obtain⟨fD,_⟩:=qhq l cV;have lH:sm ((qaq l:Int):Rat) 9:=⟨by show(qaq l).natAbs<10^9;omega,by show 1<10^9;decide⟩;have oU:((qaq l:Int):Rat).num≠0:=by show qaq l≠0;omega
 have h3:∀p ∈ qgq l,sm p.2 79∧qbx p.1.data.toList=true:=fun p oX=>by
  unfold qgq at oX;obtain⟨q,hq,rfl⟩:=List.mem_map.1 oX;exact⟨q2a (h1 q hq) lH oU,((qf9 l cV).1 q hq).2⟩
 refine⟨h1,h2,fun s hs _ => ?_,fun s hs => ?_,fun p oX=>(h3 p oX).1,hp⟩
 ·obtain⟨p,oX,rfl⟩:=List.mem_map.1 hs
  rw[ql0];exact(h3 p oX).1
 ·obtain⟨p,oX,rfl⟩:=List.mem_map.1 hs
  exact⟨quo (h3 p oX).2,by have:=qgh (h3 p oX).1;show(rt p.2).size≤200;omega⟩
end Go.Proofs.YtmcfcpgglfimjaaGreatDoor
