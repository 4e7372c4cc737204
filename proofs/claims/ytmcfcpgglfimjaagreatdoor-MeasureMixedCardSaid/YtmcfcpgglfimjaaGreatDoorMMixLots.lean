/- The reference's PutShare and LotMasses. -/
import Derived.Test.YtmcfcpgglfimjaaGreatDoorMRounded
import Derived.Test.YtmcfcpgglfimjaaGreatDoorMKeeps
import Derived.Deep.RegionHeld3
import Derived.Test.YtmcfcpgglfimjaaGreatDoorMBase
import Derived.WalkKit
import Derived.Test.YtmcfcpgglfimjaaGreatDoorMReadRule
import Derived.Test.YtmcfcpgglfimjaaGreatDoorMSpans
import Derived.Test.YtmcfcpgglfimjaaGreatDoorMRefK
import Derived.Test.YtmcfcpgglfimjaaGreatDoorMNv
import Derived.Test.YtmcfcpgglfimjaaGreatDoorMMix
import Derived.Test.YtmcfcpgglfimjaaGreatDoorMRefC
import Derived.Test.YtmcfcpgglfimjaaGreatDoorMMatter
import Derived.OwnWalk
import Derived.Laws.OwnMore
set_option linter.all false
namespace Go.Proofs.YtmcfcpgglfimjaaGreatDoor
open Go.RowKit
open Go.RowKit
end Go.Proofs.YtmcfcpgglfimjaaGreatDoor
namespace Go.Proofs.YtmcfcpgglfimjaaGreatDoor
theorem q37{l:List Oper}{i:Nat}{oi:Oper}{rest:List Oper}(h:l.drop i=oi::rest):l.toArray[i]? = some oi:=by
 have e:(l.drop i)[0]? = l[i+0]? := List.getElem?_drop;rw[h] at e;rw[List.getElem?_toArray];exact e.symm
theorem tkw{P:Program}{l:List Oper}{Q:Exit→Act→World→Prop}{md:Region.Mode}{S:World→Prop}(i:Nat){oi:Oper}{rest:List Oper}{v:Value}{fuel:Nat}{listed:Array Bool}{a:Act}{w:World}(hi:l.drop i=oi::rest)
  (hc:(Region.noSelect l.toArray&&Region.free md l.toArray listed i&&(Region.ready md l.toArray listed).contains i)=true) (hw:Region.wanted oi (yielded l.toArray a.tmps)=true) (hS:S w)
  (hQ:∀c a w,Q (.panic c) (a.put oi.dst v) w→Q (.panic c) a w) (hy:∀w,S w→(execOp a.eval oi).run P w = .ok (.value v) w) (h:wpAnyH P md l.toArray Q S fuel (listed.setIfInBounds i true) (a.put oi.dst v) w):wpAnyH P md l.toArray Q S (fuel+1) listed a w:=by
 rw[Bool.and_eq_true,Bool.and_eq_true] at hc;exact wpAnyH_take (q37 hi) hc.1.1 hc.1.2 hc.2 hQ (Or.inl ⟨hw,hy⟩) hS h
open Go.RowKit
end Go.Proofs.YtmcfcpgglfimjaaGreatDoor
namespace Go.Proofs.YtmcfcpgglfimjaaGreatDoor
open Go.RowKit
def Bxs(w:World)(L:List (Nat × BA × BA))(W:World):Prop:=
 Below w.heap.size w W∧∀r ∈ L,Own W r.1 2 (qvs (.string r.2.1) (.string r.2.2))
theorem Bxs.later{w W W':World}{L:List (Nat × BA × BA)}(h:Bxs w L W)(hb:Below W.heap.size W W'):Bxs w L W':=
 ⟨h.1.trans (hb.mono h.1.size),fun r hr=>(h.2 r hr).later (hb.mono (h.2 r hr).1)⟩
end Go.Proofs.YtmcfcpgglfimjaaGreatDoor
namespace Go.Proofs.YtmcfcpgglfimjaaGreatDoor
open Go.RowKit
end Go.Proofs.YtmcfcpgglfimjaaGreatDoor
namespace Go.Proofs.YtmcfcpgglfimjaaGreatDoor
open Go.RowKit
def za7(w:World)(a b:BA × BA)(W:World):Prop:=
 Below w.heap.size w W∧Own W w.heap.size 2 (qvs (.string a.1) (.string a.2))∧Own W (w.heap.size+1) 2 (qvs (.string b.1) (.string b.2))
theorem za7.later{w W W':World}{a b:BA × BA}(h:za7 w a b W)(hb:Below W.heap.size W W'):za7 w a b W':=
 ⟨h.1.trans (hb.mono h.1.size),h.2.1.later (hb.mono h.2.1.1),h.2.2.later (hb.mono h.2.2.1)⟩
end Go.Proofs.YtmcfcpgglfimjaaGreatDoor
namespace Go.Proofs.YtmcfcpgglfimjaaGreatDoor
open Go.RowKit
open Go.RowKit
open Go.RowKit
end Go.Proofs.YtmcfcpgglfimjaaGreatDoor
namespace Go.Proofs.YtmcfcpgglfimjaaGreatDoor
open Go.RowKit
def bl(a b:BA):Bool:=Op.bytesLess a.toList b.toList
theorem q6r(x:List UInt8):∀y,Op.bytesLess x y=true↔x<y:=by
 induction x with
 | nil=>intro y;cases y<;>simp[Op.bytesLess]
 | cons a x ih=>
  intro y;cases y with
  | nil=>simp[Op.bytesLess]
  | cons b y=>
   have h:=ih y;rw[Op.bytesLess,List.cons_lt_cons_iff,Bool.or_eq_true,Bool.and_eq_true,decide_eq_true_iff,beq_iff_eq,h]
theorem qpo{a b:BA}:bl a b=true↔a.data.toList<b.data.toList:=by
 unfold bl;rw[q6r,Lib.toList_data,Lib.toList_data]
theorem qip(a:BA):bl a a=false:=by
 rw[Bool.eq_false_iff];exact fun h=>List.lt_irrefl _ (qpo.1 h)
theorem qg2{a b c:BA}(h1:bl a b=true)(h2:bl b c=true):bl a c=true:=qpo.2 (List.lt_trans (qpo.1 h1) (qpo.1 h2))
theorem qpp{a b:BA}(h1:bl a b=false)(hne:a≠b):bl b a=true:=by
 rw[qpo];refine Classical.byContradiction fun h2=>hne ?_;have h3:¬a.data.toList<b.data.toList:=fun h=>by rw[qpo.2 h] at h1;cases h1
 have h4:=List.le_antisymm (List.not_lt.1 h2) (List.not_lt.1 h3);rw[←qnj a,←qnj b,h4]
abbrev QL:=List (BA × Rat)
def Srt(L:QL):Prop:=L.Pairwise fun p q=>bl p.1 q.1=true
def qij:QL→BA→Rat→QL
 | [],k,d=>[(k,d)]
 | p::L,k,d=>if bl p.1 k then p::qij L k d else if p.1=k then(p.1,p.2+d)::L else(k,d)::p::L
theorem q32(k:BA)(d:Rat):∀(L:QL) (i:Nat),(∀j p,j<i→L[j]? = some p→bl p.1 k=true)→
  (∀p,L[i]? = some p→bl p.1 k=false→p.1=k→qij L k d=L.take i++(p.1,p.2+d)::L.drop (i+1))∧((L[i]? = none∨∃p,L[i]? = some p∧bl p.1 k=false∧p.1≠k)→i≤L.length→qij L k d=L.take i++(k,d)::L.drop i)
 | [],i,_=>⟨fun p hp=>(by simp at hp),fun _ hi=>by
   obtain rfl:i=0:=by simpa using hi
   rfl⟩
 | p::L,0,_=>by
  constructor
  ·intro q hq h1 h2
   simp only[List.getElem?_cons_zero,Option.some.injEq] at hq;subst hq;show(if bl p.1 k then p::qij L k d else if p.1=k then(p.1,p.2+d)::L else(k,d)::p::L)=_;rw[h1,if_neg (by simp),if_pos h2];rfl
  ·rintro(h|⟨q,hq,h1,h2⟩) _
   ·simp at h
   ·simp only[List.getElem?_cons_zero,Option.some.injEq] at hq
    subst hq;show(if bl p.1 k then p::qij L k d else if p.1=k then(p.1,p.2+d)::L else(k,d)::p::L)=_;rw[h1,if_neg (by simp),if_neg h2];rfl
 | p::L,i+1,h=>by
  have h0:=h 0 p (by omega) rfl;have ih:=q32 k d L i fun j q hj hq=>h (j+1) q (by omega) (by simpa using hq)
  have hu:qij (p::L) k d=p::qij L k d:=by
   show(if bl p.1 k then p::qij L k d else if p.1=k then(p.1,p.2+d)::L else(k,d)::p::L)=_;rw[if_pos h0]
  constructor
  ·intro q hq h1 h2
   rw[hu,ih.1 q (by simpa using hq) h1 h2];rfl
  ·intro h1 h2
   rw[hu,ih.2 (by simpa using h1) (by simpa using h2)];rfl
theorem qsc{k:BA}{d:Rat}:∀ {L:QL} {p},p ∈ qij L k d→p.1=k∨∃q ∈ L,q.1=p.1
 | [],p,h => .inl (by rw[List.mem_singleton.1 h])
 | q::L,p,h=>by
  unfold qij at h;split at h
  ·rcases List.mem_cons.1 h with rfl|h
   ·exact .inr ⟨_,List.mem_cons_self ..,rfl⟩
   ·rcases qsc h with h|⟨r,hr,e⟩
    ·exact .inl h
    ·exact .inr ⟨r,List.mem_cons_of_mem _ hr,e⟩
  ·split at h
   ·rcases List.mem_cons.1 h with rfl|h
    ·exact .inr ⟨_,List.mem_cons_self ..,rfl⟩
    ·exact .inr ⟨p,List.mem_cons_of_mem _ h,rfl⟩
   ·rcases List.mem_cons.1 h with rfl|h
    ·exact .inl rfl
    ·exact .inr ⟨p,h,rfl⟩
theorem qlw{k:BA}{d:Rat}:∀ {L:QL},Srt L→Srt (qij L k d)
 | [],_=>List.pairwise_singleton ..
 | q::L,h=>by
  obtain⟨h1,h2⟩:=List.pairwise_cons.1 h;unfold qij;split
  ·rename_i hb
   refine List.pairwise_cons.2 ⟨fun p hp => ?_,qlw h2⟩;rcases qsc hp with e|⟨r,hr,e⟩
   ·rw[e];exact hb
   ·rw[←e];exact h1 r hr
  ·rename_i hb
   split
   ·exact List.pairwise_cons.2 ⟨h1,h2⟩
   ·rename_i hn
    have hk:=qpp (by simpa using hb) hn;refine List.pairwise_cons.2 ⟨fun p hp => ?_,h⟩;rcases List.mem_cons.1 hp with rfl|hp
    ·exact hk
    ·exact qg2 hk (h1 p hp)
theorem q33{L D:QL}(k:BA)(d:Rat)(h:L.Perm D):(qr9 L k d).Perm (qr9 D k d):=by
 have e:L.any (fun p=>k==p.1)=D.any (fun p=>k==p.1):=by
  rw[Bool.eq_iff_iff,List.any_eq_true,List.any_eq_true];exact⟨fun⟨p,h1,h2⟩=>⟨p,h.mem_iff.1 h1,h2⟩,fun⟨p,h1,h2⟩=>⟨p,h.mem_iff.2 h1,h2⟩⟩
 unfold qr9;rw[e];split
 ·exact h.map _
 ·exact h.append_right _
theorem q6s{k:BA}{d:Rat}{L:QL}(h:∀p ∈ L,p.1≠k):L.map (fun p=>if k==p.1 then(p.1,p.2+d) else p)=L:=by
 refine(List.map_congr_left fun p hp => ?_).trans (List.map_id L);rw[if_neg (fun e=>h p hp ((qbw _ _).1 e).symm)];rfl
theorem quf{k:BA}{d:Rat}:∀ {L:QL},Srt L→(qij L k d).Perm (qr9 L k d)
 | [],_=>by
  unfold qr9;rw[Rat.zero_add];exact List.Perm.refl _
 | q::L,h=>by
  obtain⟨h1,h2⟩:=List.pairwise_cons.1 h;have ih:=quf (k:=k) (d:=d) h2;unfold qij;split
  ·rename_i hb
   have sC:q.1≠k:=by rintro rfl;rw[qip] at hb;cases hb
   have hn:(k==q.1)=false:=by
    rw[Bool.eq_false_iff];exact fun e=>sC ((qbw _ _).1 e).symm
   refine(ih.cons q).trans (List.Perm.of_eq ?_);unfold qr9;rw[List.any_cons,hn,Bool.false_or];split
   ·rw[List.map_cons,hn];rfl
   ·rfl
  ·rename_i hb
   split
   ·rename_i he
    subst he;unfold qr9
    have hk:=q6s (k:=q.1) (d:=d) (L:=L) fun p hp e=>by
     have:=h1 p hp;rw[e,qip] at this;cases this
    rw[List.any_cons,(qbw q.1 q.1).2 rfl,Bool.true_or,if_pos rfl,List.map_cons,if_pos ((qbw q.1 q.1).2 rfl),hk]
   ·rename_i hn
    have hk:=qpp (by simpa using hb) hn
    have hno:(q::L).any (fun p=>k==p.1)=false:=by
     rw[List.any_eq_false];intro p hp e;have e:=(qbw _ _).1 e;rcases List.mem_cons.1 hp with rfl|hp
     ·exact hn e.symm
     ·have:=qg2 hk (h1 p hp)
      rw[e,qip] at this;cases this
    unfold qr9;rw[hno,Rat.zero_add];exact(List.perm_append_singleton _ _).symm
def qez(m:Int)(L:QL)(ss:List (BA × BA)):QL:=ss.foldl (fun L s=>qij L s.1 (qbk s*((m:Int):Rat))) L
def qci(l:List Lay):QL:=l.foldl (fun L x=>qez x.mass L x.shares) []
theorem qfa(l:List Lay)(x:Lay):qci (l++[x])=qez x.mass (qci l) x.shares:=by unfold qci;rw[List.foldl_append];rfl
theorem qq1(m:Int)(L:QL)(ss:List (BA × BA))(s:BA × BA):qez m L (ss++[s])=qij (qez m L ss) s.1 (qbk s*((m:Int):Rat)):=by unfold qez;rw[List.foldl_append];rfl
theorem qx0(m:Int):∀(ss:List (BA × BA)) {L D:QL},Srt L→L.Perm D→Srt (qez m L ss)∧(qez m L ss).Perm (qe9 m D ss)
 | [],_,_,h1,h2=>⟨h1,h2⟩
 | s::ss,L,D,h1,h2=>qx0 m ss (qlw h1) ((quf h1).trans (q33 s.1 (qbk s*((m:Int):Rat)) h2))
theorem qdz(l:List Lay):Srt (qci l)∧(qci l).Perm (qcu l):=by
 induction l using qb3 with
 | h0=>exact⟨List.Pairwise.nil,List.Perm.refl _⟩
 | h1 l x ih=>
  rw[qfa,qj5];exact qx0 _ _ ih.1 ih.2
theorem q34{l:List Lay}{ss:List (List UInt8)}(h:ss.Perm ((qcu l).map fun p=>p.1.data.toList)):qcd ss=(qci l).map Prod.fst:=by
 obtain⟨h1,h2⟩:=qdz l
 have e:ss.mergeSort (fun x y=>decide (x≤y))=(qci l).map fun p=>p.1.data.toList:=by
  refine List.Perm.eq_of_pairwise (le:=fun x y:List UInt8=>x≤y) (fun a b _ _ x y=>List.le_antisymm x y) ?_ ?_ ((List.mergeSort_perm _ _).trans (h.trans (h2.symm.map _)))
  ·exact(List.pairwise_mergeSort (le:=fun x y:List UInt8=>decide (x≤y)) (fun a b c x y=>qag (List.le_trans (of_decide_eq_true x) (of_decide_eq_true y))) (fun a b=>by
    rw[Bool.or_eq_true];rcases List.le_total a b with h|h
    ·exact .inl (qag h)
    ·exact .inr (qag h)) ss).imp fun h=>of_decide_eq_true h
  ·exact List.pairwise_map.2 (h1.imp fun h=>List.not_lt.1 fun hh=>List.lt_irrefl _ (List.lt_trans hh (qpo.1 h)))
 unfold qcd;rw[e,List.map_map];rfl
theorem q35{l:List Lay}:∀p ∈ qci l,qgp (qcu l) p.1=p.2:=by
 intro p hp;obtain⟨h1,h2⟩:=qdz l;have hm:=h2.mem_iff.1 hp;unfold qgp;cases hf:(qcu l).find? (fun q=>p.1==q.1) with
 | none=>exact absurd ((qbw p.1 p.1).2 rfl) (by simpa using List.find?_eq_none.1 hf p hm)
 | some q=>
  have hq:=List.mem_of_find?_eq_some hf;have hk:=(qbw _ _).1 (List.find?_some (p:=fun q:BA × Rat=>p.1==q.1) hf);have gT:=h2.mem_iff.2 hq;obtain⟨i,hi⟩:=List.getElem?_of_mem hp;obtain⟨j,hj⟩:=List.getElem?_of_mem gT
  have key:∀(a b:Nat) (x y:BA × Rat),a<b→(qci l)[a]? = some x→(qci l)[b]? = some y→x.1≠y.1:=fun a b x y mH hx hy e=>by
   obtain⟨ha,hx⟩:=List.getElem?_eq_some_iff.1 hx;obtain⟨hb,hy⟩:=List.getElem?_eq_some_iff.1 hy;have:=List.pairwise_iff_getElem.1 h1 a b ha hb mH;rw[hx,hy,e,qip] at this;cases this
  rcases Nat.lt_trichotomy i j with h|h|h
  ·exact absurd hk (key i j p q h hi hj)
  ·subst h
   rw[hi] at hj;cases hj
   rfl
  ·exact absurd hk.symm (key j i q p h hj hi)
theorem q6t{b:BA}{s:BA × BA}(h:qak b s=0):bl b s.1=true:=by
 unfold qak at h;split at h
 ·cases h
 ·split at h
  ·cases h
  ·rename_i hs
   have h1:(Op.bytesLess s.1.toList b.toList||s.1.toList==b.toList)=false:=by simpa [qmw] using hs
   rw[Bool.or_eq_false_iff] at h1;refine qpp (a:=s.1) h1.1 fun e => ?_;rw[e] at h1;have:=h1.2;simp at this
theorem qjm:∀(l:List (BA × BA)) (b:BA),qai (qay b l)=0→(∀s ∈ l,bl b s.1=true)∧l.Pairwise fun s t=>bl s.1 t.1=true
 | [],_,_=>⟨fun s h=>(by cases h),List.Pairwise.nil⟩
 | s::l,b,h=>by
  have h1:(if qak b s=0 then qai (qay s.1 l) else qak b s)=0:=h;by_cases h0:qak b s=0
  ·rw[if_pos h0] at h1
   obtain⟨h2,h3⟩:=qjm l s.1 h1;have hu:=q6t h0;refine⟨fun t ht => ?_,List.pairwise_cons.2 ⟨h2,h3⟩⟩;rcases List.mem_cons.1 ht with rfl|ht
   ·exact hu
   ·exact qg2 hu (h2 t ht)
  ·rw[if_neg h0] at h1
   exact absurd h1 h0
theorem qey{x:Lay}(h:qbc x=0):qai (qay ⟨#[]⟩ x.shares)=0:=by
 unfold qbc at h;split at h
 ·cases h
 ·split at h
  ·cases h
  ·unfold qbd at h
   split at h
   ·cases h
   ·split at h
    ·cases h
    ·split at h
     ·rename_i h1;exact absurd h h1
     ·rename_i h1;simpa using h1
theorem qsd{k:BA}{d:Rat}:∀ {L:QL} {p},Srt L→p ∈ qij L k d→(p.1=k∧(p.2=d∨∃q ∈ L,q.1=k∧p.2=q.2+d))∨(p.1≠k∧p ∈ L)
 | [],p,_,h=>by
  rw[List.mem_singleton.1 h];exact .inl ⟨rfl,.inl rfl⟩
 | q::L,p,hs,h=>by
  obtain⟨h1,h2⟩:=List.pairwise_cons.1 hs;unfold qij at h;split at h
  ·rename_i hb
   rcases List.mem_cons.1 h with rfl|h
   ·exact .inr ⟨fun e=>(by rw[e,qip] at hb;cases hb),List.mem_cons_self ..⟩
   ·rcases qsd h2 h with⟨e,h|⟨r,hr,e1,e2⟩⟩|⟨e,h⟩
    ·exact .inl ⟨e,.inl h⟩
    ·exact .inl ⟨e,.inr ⟨r,List.mem_cons_of_mem _ hr,e1,e2⟩⟩
    ·exact .inr ⟨e,List.mem_cons_of_mem _ h⟩
  ·rename_i hb
   split at h
   ·rename_i he
    rcases List.mem_cons.1 h with rfl|h
    ·exact .inl ⟨he,.inr ⟨q,List.mem_cons_self ..,he,rfl⟩⟩
    ·exact .inr ⟨fun e=>(by have:=h1 p h;rw[e,he,qip] at this;cases this),List.mem_cons_of_mem _ h⟩
   ·rename_i hn
    have hk:=qpp (by simpa using hb) hn;rcases List.mem_cons.1 h with rfl|h
    ·exact .inl ⟨rfl,.inl rfl⟩
    ·refine .inr ⟨fun e => ?_,h⟩
     rcases List.mem_cons.1 h with rfl|h
     ·exact hn e
     ·have:=qg2 hk (h1 p h)
      rw[e,qip] at this;cases this
def SmL(L:QL)(k:Nat):Prop:=∀p ∈ L,sm p.2 k
theorem q36{q:Rat}{m:Int}{j:Nat}(h:sm q j)(h1:0<m)(h2:m≤999999999):sm (q*((m:Int):Rat)) (j+9):=
 q19 (a:=j) (b:=9) h ⟨by show m.natAbs<10^9;omega,by show 1<10^9;decide⟩
theorem qse{m:Int}{K j:Nat}(h1:0<m)(h2:m≤999999999){L:QL}(hs:Srt L)(hL:SmL L K):∀(ss:List (BA × BA)),(ss.Pairwise fun s t=>bl s.1 t.1=true)→(∀s ∈ ss,sm (qbk s) j)→
  Srt (qez m L ss)∧∀p ∈ qez m L ss,sm p.2 (K+(j+10))∧((∀s ∈ ss,s.1≠p.1)→sm p.2 K):=by
 intro ss
 induction ss using qb3 with
 | h0=>exact fun _ _=>⟨hs,fun p hp=>⟨qfr (hL p hp) (by omega),fun _=>hL p hp⟩⟩
 | h1 ss s ih=>
  intro hp Aj;rw[List.pairwise_append] at hp;obtain⟨i1,i2⟩:=ih hp.1 fun t ht=>Aj t (List.mem_append_left _ ht);rw[qq1];refine⟨qlw i1,fun p oX => ?_⟩;have hd:sm (qbk s*((m:Int):Rat)) (j+9):=q36 (Aj s (by simp)) h1 h2;rcases qsd i1 oX with⟨e,h⟩|⟨e,h⟩
  ·refine⟨?_,fun hn=>absurd e.symm (hn s (by simp))⟩
   rcases h with h|⟨q,hq,e1,e2⟩
   ·rw[h];exact qfr hd (by omega)
   ·rw[e2]
    have h9:sm q.2 K:=(i2 q hq).2 fun t ht e3=>by
     have:=hp.2.2 t ht s (by simp);rw[e3,e1,qip] at this;cases this
    exact qfr (q69 h9 hd) (by omega)
  ·exact⟨(i2 p h).1,fun hn=>(i2 p h).2 fun t ht=>hn t (List.mem_append_left _ ht)⟩
theorem qsf{j:Nat}:∀(l:List Lay),(∀x ∈ l,qbc x=0)→(∀x ∈ l,∀s ∈ x.shares,sm (qbk s) j)→SmL (qci l) ((j+10)*l.length):=by
 intro l
 induction l using qb3 with
 | h0=>exact fun _ _ p hp=>by cases hp
 | h1 l x ih=>
  intro h1 h2;have i1:=ih (fun y hy=>h1 y (List.mem_append_left _ hy)) fun y hy=>h2 y (List.mem_append_left _ hy);have hx:=h1 x (by simp);obtain⟨m1,m2,_⟩:=qbq hx;rw[qfa];intro p hp;have:=((qse m1 m2 (qdz l).1 i1 x.shares (qjm _ _ (qey hx)).2 (h2 x (by simp))).2 p hp).1;rw[List.length_append,List.length_singleton];rw[Nat.mul_add,Nat.mul_one];exact this
end Go.Proofs.YtmcfcpgglfimjaaGreatDoor
namespace Go.Proofs.YtmcfcpgglfimjaaGreatDoor
open Go.RowKit
set_option maxRecDepth 100000
set_option maxHeartbeats 8000000
def rtS(p:BA × Rat):BA × BA:=(p.1,rt p.2)
theorem qx1(k:BA)(d:Rat):∀L:QL,(qij L k d).length≤L.length+1
 | []=>qac _
 | p::L=>by
  have:=qx1 k d L;unfold qij;split
  ·simp only[List.length_cons];omega
  ·split
   ·simp
   ·simp
theorem q86(k:BA)(d:Rat):∀L:QL,qij L k d≠[]
 | []=>by unfold qij;simp
 | p::L=>by
  unfold qij;split
  ·simp
  ·split<;>simp
theorem qlx(m:Int):∀(ss:List (BA × BA)) (L:QL),(qez m L ss).length≤L.length+ss.length
 | [],_=>qac _
 | s::ss,L=>by
  have h1:=qlx m ss (qij L s.1 (qbk s*((m:Int):Rat)));have h2:=qx1 s.1 (qbk s*((m:Int):Rat)) L;show(qez m (qij L s.1 (qbk s*((m:Int):Rat))) ss).length≤_;rw[List.length_cons];omega
theorem qpq{B:Nat}:∀(l:List Lay),(∀x ∈ l,x.shares.length≤B)→(qci l).length≤B*l.length:=by
 intro l
 induction l using qb3 with
 | h0=>intro _;exact qac _
 | h1 l x ih=>
  intro h;have h1:=ih fun y hy=>h y (List.mem_append_left _ hy);have h2:=qlx x.mass x.shares (qci l);have h3:=h x (by simp);rw[qfa,List.length_append,List.length_singleton,Nat.mul_add,Nat.mul_one];omega
def LV(W:World)(v:Value)(L:QL):Prop:=(L=[]∧v = .slice none 0 0)∨∃g c,v = .slice (some ⟨g,0,none⟩) L.length c∧0<L.length∧L.length≤c∧c≤maxLen∧qb0 W g 0 (L.map rtS)
theorem LV.later{W W':World}{v:Value}{L:QL}(h:LV W v L)(hb:Below W.heap.size W W'):LV W' v L:=by
 rcases h with h|⟨g,c,h1,h2,h3,h4,h5⟩
 ·exact .inl h
 ·exact .inr ⟨g,c,h1,h2,h3,h4,h5.later hb⟩
def qnl(L:QL):List Value:=L.flatMap fun p=>[.string p.1,.string (rt p.2)]
theorem qik:∀L:QL,(qnl L).length=L.length*2
 | []=>rfl
 | p::L=>by
  show(.string p.1 :: .string (rt p.2)::qnl L:List Value).length=_;rw[List.length_cons,List.length_cons,qik L,List.length_cons];omega
theorem qx2:∀(L:QL) u,u ∈ qnl L→u.oneCell'=true:=fun L u hu=>by
 obtain⟨p,_,hp⟩:=List.mem_flatMap.1 hu;rcases List.mem_cons.1 hp with rfl|hp
 ·rfl
 ·rw[List.mem_singleton.1 hp];rfl
theorem qly:∀(L:QL) (j:Nat) (p:BA × Rat),L[j]? = some p→(qnl L)[j*2]? = some (.string p.1)∧(qnl L)[j*2+1]? = some (.string (rt p.2))
 | [],_,_,h=>by simp at h
 | q::L,0,p,h=>by
  simp only[List.getElem?_cons_zero,Option.some.injEq] at h;subst h;exact⟨rfl,rfl⟩
 | q::L,j+1,p,h=>by
  have h1:=qly L j p (by simpa using h);rw[show(j+1)*2=j*2+1+1 by omega];exact h1
theorem qpr(L M:QL):qnl (L++M)=qnl L++qnl M:=List.flatMap_append
theorem qx3{W:World}{g o:Nat}{L:QL}(h:qb0 W g o (L.map rtS)):∀j u,(qnl L)[j]? = some u→W.cell? ((⟨g,o,none⟩:Addr).add j)=some u:=by
 intro j u hj;have xF:=(List.getElem?_eq_some_iff.1 hj).1;rw[qik] at xF;have hL:L[j/2]? = some (L[j/2]'(by omega)):=qat _;obtain⟨c0,c1⟩:=qly L (j/2) _ hL;obtain⟨s0,s1⟩:=h (j/2) (rtS (L[j/2]'(by omega))) (by rw[List.getElem?_map,hL];rfl);rw[Addr.add_lit];rcases Nat.mod_two_eq_zero_or_one j with e|e
 ·have e2:j=j/2*2:=by omega
  rw[←e2] at c0 s0;rw[hj] at c0;cases c0
  exact s0
 ·have e2:j=j/2*2+1:=by omega
  rw[←e2] at c1;rw[Nat.add_assoc,←e2] at s1;rw[hj] at c1;cases c1
  exact s1
def qsg(base:Nat)(W:World)(v:Value)(L:QL):Prop:=W.ownsRow base 32 2 v L.length (qnl L)
theorem q38{base:Nat}{W:World}{v:Value}{L:QL}(h:qsg base W v L)(hne:L≠[]):∃g c,v = .slice (some ⟨g,0,none⟩) L.length c∧base≤g∧0<L.length∧L.length≤c∧c≤maxLen∧qb0 W g 0 (L.map rtS):=by
 have jN:0<L.length:=List.length_pos_iff.2 hne;unfold qsg at h;rcases h.2 with⟨_,h0⟩|⟨g,cap,cur,rfl,hb,hg,bO,bJ,Nv,Bp⟩
 ·omega
 ·refine⟨g,cap,rfl,hb,jN,bO,bJ,fun j s hj => ?_⟩
  rw[List.getElem?_map] at hj;cases hp:L[j]? with
  | none=>rw[hp] at hj;cases hj
  | some p=>
   rw[hp] at hj;simp only[Option.map_some,Option.some.injEq] at hj;subst hj;have xF:j<L.length:=(List.getElem?_eq_some_iff.1 hp).1;obtain⟨c0,c1⟩:=qly L j p hp;rw[←Bp] at c0 c1;rw[List.getElem?_take,if_pos (by omega)] at c0 c1;rw[Nat.zero_add,cell_of_row W g _ cur 32 (0,0) hg,cell_of_row W g _ cur 32 (0,0) hg,←Array.getElem?_toList,←Array.getElem?_toList];exact⟨c0,c1⟩
theorem zam{ops:Array Oper}{rest:List Oper}{o:Oper}{a:Act}{Q:Exit→Act→World→Prop}(xP:o.guard=none)(s x:Operand)
  (ho:o.op = .call { callee := .builtin .append,args:=#[s,x],argTypes:=#[26,26] })
  (W:World) (base:Nat) (v:Value) (L M:QL) (g oo c:Nat) (hs:a.eval s=v) (aT:qsg base W v L) (kH:base≤W.heap.size)
  (hx:a.eval x = .slice (some ⟨g,oo,none⟩) M.length c) (hM:qb0 W g oo (M.map rtS)) (h1:L.length≤1048576) (h2:M.length≤1048576)
  (h:∀v' w',qsg base w' v' (L++M)→Below base W w'→wpList Tryz.prog ops Q rest (a.put o.dst v') w'):
  wpList Tryz.prog ops Q (o::rest) a W:=by
 obtain⟨i0,hi,cP,dV,eF⟩:=info_parts (show(Tryz.prog.info? 32).map (fun i=>(i.zero,i.size,i.bytes))=some (some (.agg #[.string ⟨#[]⟩,.string ⟨#[]⟩]),2,32) by kernel_rfl);unfold qsg at *;refine wpList_append_own _ xP s x 26 ho base 32 i0 _ 2 32 Tryz.underlying26 hi cP dV eF rfl (by decide) v L.length _ hs aT ⟨g,oo,none⟩ M.length c (qnl M) hx (qik M) (qx3 hM) (qx2 M) (by unfold maxLen;omega) (by omega) kH ?_;intro v' w' hown' bK _;refine h v' w' ?_ ((qaa base W).grown bK kH (fun q hq=>(aT.lt q hq).1));rw[List.length_append,qpr];exact hown'
theorem qps(W:World)(k:BA)(d:Rat)(t:TypeId):qb0 (W.alloc (.cells #[.string k,.string (rt d)] t)) W.heap.size 0 ([(k,d)].map rtS):=fun j s hj=>by
 match j,hj with
 | 0,hj=>
  cases hj
  rw[World.cell?_alloc_at _ _ _ _ rfl,World.cell?_alloc_at _ _ _ _ rfl];exact⟨rfl,rfl⟩
theorem qsh(base:Nat)(W:World)(hb:base≤W.heap.size):qsg base (W.alloc (.cells #[] 32)) (.slice (some ⟨W.heap.size,0,none⟩) 0 0) []:=World.ownsRow_made W #[] 0 hb (Nat.zero_le _) rfl
def ShV(W:World)(v:Value)(M:QL):Prop:=(M=[]∧v = .slice none 0 0)∨∃g o c,v = .slice (some ⟨g,o,none⟩) M.length c∧qb0 W g o (M.map rtS)
theorem ShV.later{W W':World}{v:Value}{M:QL}(h:ShV W v M)(hb:Below W.heap.size W W'):ShV W' v M:=by
 rcases h with h|⟨g,o,c,h1,h2⟩
 ·exact .inl h
 ·exact .inr ⟨g,o,c,h1,h2.later hb⟩
def za8(v:Value)(W W':World):Prop:=∀g o l,qb0 W g o l→v.ownBlock≠some g→qb0 W' g o l
theorem qda{ops:Array Oper}{o:Oper}{a:Act}{K:Act→World→Prop}{Q:Exit→Act→World→Prop}{E:Prop}(xP:o.guard=none)(s x:Operand)
  (ho:o.op = .call { callee := .builtin .append,args:=#[s,x],argTypes:=#[26,26] })
  (W:World) (base:Nat) (v vx:Value) (L M:QL) (hs:a.eval s=v) (aT:qsg base W v L) (kH:base≤W.heap.size)
  (hx:a.eval x=vx) (hM:ShV W vx M) (h1:L.length≤1048576) (h2:M.length≤1048576)
  (h:∀v' w',qsg base w' v' (L++M)→Below base W w'→za8 v W w'→K (a.put o.dst v') w'):
  if Region.wanted o (yielded ops a.tmps)=true then Oper.wp Tryz.prog o a W K Q else E:=by
 have hw:Region.wanted o (yielded ops a.tmps)=true:=by simp[Region.wanted,xP]
 rw[if_pos hw];obtain⟨i0,hi,cP,dV,eF⟩:=info_parts (show(Tryz.prog.info? 32).map (fun i=>(i.zero,i.size,i.bytes))=some (some (.agg #[.string ⟨#[]⟩,.string ⟨#[]⟩]),2,32) by kernel_rfl);unfold qsg at *;rcases hM with⟨rfl,rfl⟩|⟨g,oo,c,rfl,hM⟩
 ·have nF:=run_append_owned_none (P:=Tryz.prog) (w:=W) base 26 o.type 32 i0 2 Tryz.underlying26 hi v L.length _ aT
  have hK:=h v W (by rw[List.append_nil];exact aT) (qaa _ _) fun _ _ _ h _=>h;unfold Oper.wp;simp[execOp,ho,resolve,invoke,builtin,hs,hx,nF,Result.andThen];exact hK
 ·refine wp_append_own W s x 26 ho base 32 i0 _ 2 32 Tryz.underlying26 hi cP dV eF rfl (by decide) v L.length _ hs aT ⟨g,oo,none⟩ M.length c (qnl M) hx (qik M) (qx3 hM) (qx2 M) (by unfold maxLen;omega) (by omega) kH ?_
  intro v' w' hown' bK _;refine h v' w' ?_ ((qaa base W).grown bK kH (fun q hq=>(aT.lt q hq).1)) fun g' o' l' hl hne j t ht => ?_
  ·rw[List.length_append,qpr]
   exact hown'
  ·obtain⟨e0,e1⟩:=hl j t ht
   rw[bK.cell_far _ (qaf W _ e0) (Ne.symm hne),bK.cell_far _ (qaf W _ e1) (Ne.symm hne)];exact⟨e0,e1⟩
theorem qug(p:BA × Rat)(L:QL):qnl (p::L) = .string p.1 :: .string (rt p.2)::qnl L:=rfl
theorem qx4:∀(L:QL) (i:Nat) (p:BA × Rat) (q:Rat),L[i]? = some p→qnl (L.take i++(p.1,q)::L.drop (i+1))=(qnl L).set (i*2+1) (.string (rt q))
 | [],_,_,_,h=>by simp at h
 | a::L,0,p,q,h=>by
  simp only[List.getElem?_cons_zero,Option.some.injEq] at h;subst h;rfl
 | a::L,i+1,p,q,h=>by
  have ih:=qx4 L i p q (by simpa using h);rw[show(i+1)*2+1=(i*2+1)+1+1 by omega];show qnl (a::(L.take i++(p.1,q)::L.drop (i+1)))=_;rw[qug,ih,qug];rfl
theorem q39{base:Nat}{W:World}{v:Value}{L:QL}(h:qsg base W v L)(hne:L≠[]):∃g c,v = .slice (some ⟨g,0,none⟩) L.length c∧base≤g∧0<L.length∧L.length≤c∧c≤maxLen∧Own W g (L.length*2) (fun i=>(qnl L).getD i (.bool false)):=by
 obtain⟨g,c,h1,h2,h3,h4,h5,h6⟩:=q38 h hne;refine⟨g,c,h1,h2,h3,h4,h5, ?_⟩;unfold qsg at h;rw[h1] at h;have lO:=fun i=>h.frozenAt i;rcases h.2 with⟨_,h0⟩|⟨g',cap,cur,hv,hb,hg,bO,bJ,Nv,Bp⟩
 ·omega
 ·cases hv
  refine⟨lt_of_block hg,fun i hi=>⟨?_, ?_⟩⟩
  ·have hL:(qnl L)[i]? = some ((qnl L)[i]'(by rw[qik];omega)):=qat _
   rw[cell_of_row W g i cur 32 (0,0) hg,←Array.getElem?_toList];show _=some ((qnl L).getD i (.bool false));rw[qba,hL,Option.getD_some];have hL2:(cur.toList.take (L.length*2))[i]? = some ((qnl L)[i]'(by rw[qik];omega)):=by rw[Bp];exact hL
   rw[List.getElem?_take,if_pos (by omega)] at hL2;exact hL2
  ·exact lO i
theorem q4a{W:World}{g:Nat}{L:QL}(h:Own W g (L.length*2) (fun i=>(qnl L).getD i (.bool false))):qb0 W g 0 (L.map rtS):=fun j s hj=>by
 rw[List.getElem?_map] at hj;cases hp:L[j]? with
 | none=>rw[hp] at hj;cases hj
 | some p=>
  rw[hp] at hj;simp only[Option.map_some,Option.some.injEq] at hj;subst hj;have xF:j<L.length:=(List.getElem?_eq_some_iff.1 hp).1;obtain⟨c0,c1⟩:=qly L j p hp;have e0:=(h.2 (j*2) (by omega)).1;have e1:=(h.2 (j*2+1) (by omega)).1;simp only[qba,c0,c1,Option.getD_some] at e0 e1;rw[Nat.zero_add];exact⟨e0,e1⟩
theorem q0e{W:World}{g i:Nat}{L:QL}{p:BA × Rat}{q:Rat}(h:Own W g (L.length*2) (fun i=>(qnl L).getD i (.bool false)))(hi:L[i]? = some p):qb0 (W.setCell ⟨g,i*2+1,none⟩ (.string (rt q))) g 0 ((L.take i++(p.1,q)::L.drop (i+1)).map rtS):=by
 have Cu:i<L.length:=(List.getElem?_eq_some_iff.1 hi).1
 have hl:(L.take i++(p.1,q)::L.drop (i+1)).length=L.length:=by
  rw[List.length_append,List.length_take,List.length_cons,List.length_drop];omega
 refine q4a ?_;rw[hl,qx4 L i p q hi];refine(h.set (i*2+1) (by omega) (.string (rt q))).congr fun j hj => ?_;have hcl:=qik L;by_cases e:j=i*2+1
 ·rw[if_pos e,e,qba,List.getElem?_set_self (by omega)]
  rfl
 ·rw[if_neg e,qba,qba,List.getElem?_set_ne (Ne.symm e)]
theorem quh(k:BA):∀L:QL,∃i,i≤L.length∧(∀j p,j<i→L[j]? = some p→bl p.1 k=true)∧(i=L.length∨∃p,L[i]? = some p∧bl p.1 k=false)
 | []=>⟨0,qac _,fun j p hj=>(by omega),.inl rfl⟩
 | q::L=>by
  cases hb:bl q.1 k with
  | false=>exact⟨0,Nat.zero_le _,fun j p hj=>(by omega),.inr ⟨q,rfl,hb⟩⟩
  | true=>
   obtain⟨i,h1,h2,h3⟩:=quh k L;refine⟨i+1,by rw[List.length_cons];omega,fun j p hj hp => ?_, ?_⟩
   ·match j,hp with
    | 0,hp=>
     simp only[List.getElem?_cons_zero,Option.some.injEq] at hp;subst hp;exact hb
    | j+1,hp=>exact h2 j p (by omega) (by simpa using hp)
   ·rcases h3 with h3|⟨p,hp,h⟩
    ·exact .inl (by rw[List.length_cons,h3])
    ·exact .inr ⟨p,by simpa using hp,h⟩
def q87(w:World)(p:Option Addr)(k:BA)(i:Nat):Prop:=∀j,j<i→∃(g:Nat) (p1:BA),p=some ⟨g,0,none⟩∧w.cell? ⟨g,j*2,none⟩=some (.string p1)∧Op.bytesLess p1.toList k.toList=true
theorem qwi(p:Option Addr)(n c i:Nat)(k:BA)(d:Rat)(A B:QL)(w:World)(hi:i≤n)(hn:n≤c)(hc:c≤9223372036854775807)(zY:Hid (q87 w p k i))
  (hp:i=n∨(i<n∧∃g p1,p=some ⟨g,0,none⟩∧w.cell? ⟨g,i*2,none⟩=some (.string p1)∧Op.bytesLess p1.toList k.toList=false∧(p1.toList==k.toList)=false))
  (eJ:Hid (∀W,Below w.heap.size w W→ShV W (.slice p i c) A)) (cO:Hid (∀W,Below w.heap.size w W→ShV W (.slice (if c=i then p else p.map fun x=>x.add (i*2)) (n-i) (c-i)) B))
  (wI:Hid (A.length≤1048576∧B.length≤1048576∧(A++[(k,d)]).length≤1048576)):
  Calls Tryz.prog 34 #[.slice p n c,.string k,.string (rt d)] w fun e w'=>(∃v',e = .returned v'∧qsg w.heap.size w' v' (A++(k,d)::B))∧Below w.heap.size w w':=by
 have Jv:(0:Int)≤(i:Int):=by omega
 have Dc:(i:Int)≤(n:Int):=by omega
 have hic:i≤c:=by omega
 rcases hp with rfl|⟨h1,g,p1,rfl,x0,x1,x2⟩
 all_goals first|(rw[Nat.sub_self] at cO)|(have oG:¬c=i:=(by omega);rw[if_neg oG,Option.map_some,Addr.add_lit,Nat.zero_add] at cO)
 all_goals
  go_enter Tryz.func34,Tryz.ntmps34;go_wp2_with fail
  go_loop [7] (fun s=>∃j:Nat,j≤i∧s = .int .i64 j) (fun s=>i-(intOf s).toNat)
  case atStart=>exact⟨0,Nat.zero_le _,rfl⟩
  case round=>
   obtain⟨j,hj,rfl⟩:=hrel;by_cases bC:j<i
   ·obtain⟨g',p',hpg,y0,hb⟩:=zY.out j bC
    have Ge:(0:Int)≤(j:Int):=by omega
    first
     | (have xN:(j:Int)<(n:Int):=(by omega);have Ku:decide ((j:Int)<(n:Int))=true:=(qag xN))
     | (have xN:(j:Int)<(i:Int):=(by omega);have Ku:decide ((j:Int)<(i:Int))=true:=(qag xN))
    clear zY eJ cO wI;cases hpg
    go_wp2_with fail;go_round
    case rel=>exact⟨j+1,by omega,by go_num⟩
    case measure=>simp[intOf];omega
   obtain rfl:j=i:=by omega
   clear zY bC
   first
    | (have z1:(j:Int)<(n:Int):=(by omega);have z2:decide ((j:Int)<(n:Int))=true:=(qag z1))
    | skip
   go_wp2_with fail;refine wp_region_held_drew (S:=fun _=>True) (by kernel_rfl) trivial (fun gR => ?_)
   refine' tkw 1 (v:=_) rfl (by kernel_rfl) (by kernel_rfl) trivial (fun _ _ _ h=>h) ?_ ?_
   rotate_left
   ·intro w hSw;(try dsimp only at hSw);go_simp;(try with_reducible rfl)
   try simp only[Act.put,List.setIfInBounds_toArray,List.set_cons_zero,List.set_cons_succ]
   refine' tkw 2 (v:=_) rfl (by kernel_rfl) (by kernel_rfl) trivial (fun _ _ _ h=>h) ?_ ?_
   rotate_left
   ·intro w hSw;(try dsimp only at hSw);go_simp;(try with_reducible rfl)
   try simp only[Act.put,List.setIfInBounds_toArray,List.set_cons_zero,List.set_cons_succ]
   refine' tkw 3 (v:=_) rfl (by kernel_rfl) (by kernel_rfl) trivial (fun _ _ _ h=>h) ?_ ?_
   rotate_left
   ·intro w hSw;(try dsimp only at hSw);go_simp;(try with_reducible rfl)
   try simp only[Act.put,List.setIfInBounds_toArray,List.set_cons_zero,List.set_cons_succ]
   refine' tkw 5 (v:=_) rfl (by kernel_rfl) (by kernel_rfl) trivial (fun _ _ _ h=>h) ?_ ?_
   rotate_left
   ·intro w hSw;(try dsimp only at hSw);go_simp;(try with_reducible rfl)
   try simp only[Act.put,List.setIfInBounds_toArray,List.set_cons_zero,List.set_cons_succ]
   refine' tkw 6 (v:=_) rfl (by kernel_rfl) (by kernel_rfl) trivial (fun _ _ _ h=>h) ?_ ?_
   rotate_left
   ·intro w hSw;(try dsimp only at hSw);go_simp;(try with_reducible rfl)
   try simp only[Act.put,List.setIfInBounds_toArray,List.set_cons_zero,List.set_cons_succ]
   refine' tkw 7 (v:=_) rfl (by kernel_rfl) (by kernel_rfl) trivial (fun _ _ _ h=>h) ?_ ?_
   rotate_left
   ·intro w hSw;(try dsimp only at hSw);go_simp;(try with_reducible rfl)
   try simp only[Act.put,List.setIfInBounds_toArray,List.set_cons_zero,List.set_cons_succ]
   refine' tkw 10 (v:=_) rfl (by kernel_rfl) (by kernel_rfl) trivial (fun _ _ _ h=>h) ?_ ?_
   rotate_left
   ·intro w hSw;(try dsimp only at hSw);go_simp;(try with_reducible rfl)
   try simp only[Act.put,List.setIfInBounds_toArray,List.set_cons_zero,List.set_cons_succ]
   refine' tkw 11 (v:=_) rfl (by kernel_rfl) (by kernel_rfl) trivial (fun _ _ _ h=>h) ?_ ?_
   rotate_left
   ·intro w hSw;(try dsimp only at hSw);go_simp;(try with_reducible rfl)
   try simp only[Act.put,List.setIfInBounds_toArray,List.set_cons_zero,List.set_cons_succ]
   refine' tkw 12 (v:=_) rfl (by kernel_rfl) (by kernel_rfl) trivial (fun _ _ _ h=>h) ?_ ?_
   rotate_left
   ·intro w hSw;(try dsimp only at hSw);go_simp;(try with_reducible rfl)
   try simp only[Act.put,List.setIfInBounds_toArray,List.set_cons_zero,List.set_cons_succ]
   refine wpAnyH_ready (rs:=[0,8]) (by kernel_rfl) (by simp) ?_;refine AllReadyH.cons rfl (fun K hK => ?_) ?_
   ·go_simp
    have HE:=hid (qsh w.heap.size w.drew (qac _));have dJ:Hid (Below w.heap.size w (w.drew.alloc (.cells #[] 32))):=hid ((qaa w.heap.size w).drew.alloc (qac _) _);refine hK.out _ _ trivial (fun hHeld => ?_);clear hK;refine wpAnyH_ready (rs:=[4,8]) (by kernel_rfl) (by simp) ?_;refine AllReadyH.cons rfl (fun K hK => ?_) ?_
    ·refine qda (by rfl) _ _ (by rfl) _ w.heap.size (.slice (some ⟨w.heap.size,0,none⟩) 0 0) _ [] A (by rfl) HE.out dJ.out.size (by rfl) (eJ.out _ dJ.out) (Nat.zero_le _) wI.out.1 ?_
     intro v4 w4 ho hb hk;have zC:Hid (qsg w.heap.size w4 v4 A):=hid ho;have dJ:=hid (dJ.out.trans hb);clear ho hb hk;go_simp;refine hK.out _ _ trivial (fun hHeld => ?_);clear hK;refine wpAnyH_ready (rs:=[8]) (by kernel_rfl) (by simp) ?_;refine AllReadyH.cons rfl (fun K hK => ?_) ?_
     ·go_simp
      have pS:=hid (qps w4 k d 32);have zC:Hid (qsg w.heap.size (w4.alloc (.cells #[.string k,.string (rt d)] 32)) v4 A):=hid (World.ownsRow.alloc zC.out _);have dJ:=hid (dJ.out.alloc dJ.out.size (.cells #[.string k,.string (rt d)] 32));refine hK.out _ _ trivial (fun hHeld => ?_);clear hK;refine wpAnyH_ready (rs:=[9]) (by kernel_rfl) (by simp) ?_;refine AllReadyH.cons rfl (fun K hK => ?_) ?_
      ·refine qda (by rfl) _ _ (by rfl) _ w.heap.size v4 (.slice (some ⟨w4.heap.size,0,none⟩) 1 1) A [(k,d)] (by rfl) zC.out dJ.out.size (by rfl) (.inr ⟨_,0,1,rfl,pS.out⟩) wI.out.1 (by simp) ?_
       intro v9 w9 ho hb hk;have Gd:=hid ho;have dJ:=hid (dJ.out.trans hb);clear ho hb hk;go_simp;refine hK.out _ _ trivial (fun hHeld => ?_);clear hK;refine wpAnyH_ready (rs:=[13]) (by kernel_rfl) (by simp) ?_;refine AllReadyH.cons rfl (fun K hK => ?_) ?_
       ·refine qda (by rfl) _ _ (by rfl) _ w.heap.size v9 _ _ B (by rfl) Gd.out dJ.out.size (by rfl) (cO.out _ dJ.out) wI.out.2.2 wI.out.2.1 ?_
        intro v13 w13 ho hb hk;have zZ:=hid ho;have dJ:=hid (dJ.out.trans hb);clear ho hb hk;go_simp;refine hK.out _ _ trivial (fun hHeld => ?_);clear hK
        refine' tkw 14 (v:=_) rfl (by kernel_rfl) (by kernel_rfl) trivial (fun _ _ _ h=>h) ?_ ?_
        rotate_left
        ·intro w hSw;(try dsimp only at hSw);go_simp;(try with_reducible rfl)
        try simp only[Act.put,List.setIfInBounds_toArray,List.set_cons_zero,List.set_cons_succ]
        refine wpAnyH_done (by kernel_rfl) ?_ _;go_wp2_with fail
        all_goals(go_ret;exact⟨⟨v13,rfl,by rw[List.append_cons];exact zZ.out⟩,dJ.out⟩)
       exact AllReadyH.nil
      exact AllReadyH.nil
     exact AllReadyH.nil
    refine AllReadyH.cons rfl (fun K hK => ?_) ?_
    ·go_simp
     have pS:Hid (qb0 ((w.drew.alloc (.cells #[] 32)).alloc (.cells #[.string k,.string (rt d)] 32)) (w.heap.size+1) 0 ([(k,d)].map rtS)):=hid (by have h:=qps (w.drew.alloc (.cells #[] 32)) k d 32;rw[qab] at h;exact h);have HE:Hid (qsg w.heap.size ((w.drew.alloc (.cells #[] 32)).alloc (.cells #[.string k,.string (rt d)] 32)) (.slice (some ⟨w.heap.size,0,none⟩) 0 0) []):=hid (World.ownsRow.alloc HE.out _);have dJ:=hid (dJ.out.alloc dJ.out.size (.cells #[.string k,.string (rt d)] 32));refine hK.out _ _ trivial (fun hHeld => ?_);clear hK;refine wpAnyH_ready (rs:=[4]) (by kernel_rfl) (by simp) ?_;refine AllReadyH.cons rfl (fun K hK => ?_) ?_
     ·refine qda (by rfl) _ _ (by rfl) _ w.heap.size (.slice (some ⟨w.heap.size,0,none⟩) 0 0) _ [] A (by rfl) HE.out dJ.out.size (by rfl) (eJ.out _ dJ.out) (Nat.zero_le _) wI.out.1 ?_
      intro v4 w4 ho hb hk;have zC:Hid (qsg w.heap.size w4 v4 A):=hid ho;have pS:=hid (hk _ _ _ pS.out (by simp[Value.ownBlock]));have dJ:=hid (dJ.out.trans hb);clear ho hb hk;go_simp;refine hK.out _ _ trivial (fun hHeld => ?_);clear hK;refine wpAnyH_ready (rs:=[9]) (by kernel_rfl) (by simp) ?_;refine AllReadyH.cons rfl (fun K hK => ?_) ?_
      ·refine qda (by rfl) _ _ (by rfl) _ w.heap.size v4 (.slice (some ⟨(w.heap.size+1),0,none⟩) 1 1) A [(k,d)] (by rfl) zC.out dJ.out.size (by rfl) (.inr ⟨_,0,1,rfl,pS.out⟩) wI.out.1 (by simp) ?_
       intro v9 w9 ho hb hk;have Gd:=hid ho;have dJ:=hid (dJ.out.trans hb);clear ho hb hk;go_simp;refine hK.out _ _ trivial (fun hHeld => ?_);clear hK;refine wpAnyH_ready (rs:=[13]) (by kernel_rfl) (by simp) ?_;refine AllReadyH.cons rfl (fun K hK => ?_) ?_
       ·refine qda (by rfl) _ _ (by rfl) _ w.heap.size v9 _ _ B (by rfl) Gd.out dJ.out.size (by rfl) (cO.out _ dJ.out) wI.out.2.2 wI.out.2.1 ?_
        intro v13 w13 ho hb hk;have zZ:=hid ho;have dJ:=hid (dJ.out.trans hb);clear ho hb hk;go_simp;refine hK.out _ _ trivial (fun hHeld => ?_);clear hK
        refine' tkw 14 (v:=_) rfl (by kernel_rfl) (by kernel_rfl) trivial (fun _ _ _ h=>h) ?_ ?_
        rotate_left
        ·intro w hSw;(try dsimp only at hSw);go_simp;(try with_reducible rfl)
        try simp only[Act.put,List.setIfInBounds_toArray,List.set_cons_zero,List.set_cons_succ]
        refine wpAnyH_done (by kernel_rfl) ?_ _;go_wp2_with fail
        all_goals(go_ret;exact⟨⟨v13,rfl,by rw[List.append_cons];exact zZ.out⟩,dJ.out⟩)
       exact AllReadyH.nil
      exact AllReadyH.nil
     exact AllReadyH.nil
    exact AllReadyH.nil
   refine AllReadyH.cons rfl (fun K hK => ?_) ?_
   ·go_simp
    have pS:Hid (qb0 (w.drew.alloc (.cells #[.string k,.string (rt d)] 32)) w.heap.size 0 ([(k,d)].map rtS)):=hid (qps w.drew k d _);have dJ:Hid (Below w.heap.size w (w.drew.alloc (.cells #[.string k,.string (rt d)] 32))):=hid ((qaa w.heap.size w).drew.alloc (qac _) _);refine hK.out _ _ trivial (fun hHeld => ?_);clear hK;refine wpAnyH_ready (rs:=[0]) (by kernel_rfl) (by simp) ?_;refine AllReadyH.cons rfl (fun K hK => ?_) ?_
    ·go_simp
     have HE:Hid (qsg w.heap.size ((w.drew.alloc (.cells #[.string k,.string (rt d)] 32)).alloc (.cells #[] 32)) (.slice (some ⟨w.heap.size+1,0,none⟩) 0 0) []):=hid (by have h:=qsh w.heap.size (w.drew.alloc (.cells #[.string k,.string (rt d)] 32)) (by rw[qab];exact Nat.le_succ _);rw[qab] at h;exact h);have pS:=hid (qb0.later pS.out ((qaa _ _).alloc (qac _) (.cells #[] 32)));have dJ:=hid (dJ.out.alloc dJ.out.size (.cells #[] 32));refine hK.out _ _ trivial (fun hHeld => ?_);clear hK;refine wpAnyH_ready (rs:=[4]) (by kernel_rfl) (by simp) ?_;refine AllReadyH.cons rfl (fun K hK => ?_) ?_
     ·refine qda (by rfl) _ _ (by rfl) _ w.heap.size (.slice (some ⟨(w.heap.size+1),0,none⟩) 0 0) _ [] A (by rfl) HE.out dJ.out.size (by rfl) (eJ.out _ dJ.out) (Nat.zero_le _) wI.out.1 ?_
      intro v4 w4 ho hb hk;have zC:Hid (qsg w.heap.size w4 v4 A):=hid ho;have pS:=hid (hk _ _ _ pS.out (by simp[Value.ownBlock]));have dJ:=hid (dJ.out.trans hb);clear ho hb hk;go_simp;refine hK.out _ _ trivial (fun hHeld => ?_);clear hK;refine wpAnyH_ready (rs:=[9]) (by kernel_rfl) (by simp) ?_;refine AllReadyH.cons rfl (fun K hK => ?_) ?_
      ·refine qda (by rfl) _ _ (by rfl) _ w.heap.size v4 (.slice (some ⟨w.heap.size,0,none⟩) 1 1) A [(k,d)] (by rfl) zC.out dJ.out.size (by rfl) (.inr ⟨_,0,1,rfl,pS.out⟩) wI.out.1 (by simp) ?_
       intro v9 w9 ho hb hk;have Gd:=hid ho;have dJ:=hid (dJ.out.trans hb);clear ho hb hk;go_simp;refine hK.out _ _ trivial (fun hHeld => ?_);clear hK;refine wpAnyH_ready (rs:=[13]) (by kernel_rfl) (by simp) ?_;refine AllReadyH.cons rfl (fun K hK => ?_) ?_
       ·refine qda (by rfl) _ _ (by rfl) _ w.heap.size v9 _ _ B (by rfl) Gd.out dJ.out.size (by rfl) (cO.out _ dJ.out) wI.out.2.2 wI.out.2.1 ?_
        intro v13 w13 ho hb hk;have zZ:=hid ho;have dJ:=hid (dJ.out.trans hb);clear ho hb hk;go_simp;refine hK.out _ _ trivial (fun hHeld => ?_);clear hK
        refine' tkw 14 (v:=_) rfl (by kernel_rfl) (by kernel_rfl) trivial (fun _ _ _ h=>h) ?_ ?_
        rotate_left
        ·intro w hSw;(try dsimp only at hSw);go_simp;(try with_reducible rfl)
        try simp only[Act.put,List.setIfInBounds_toArray,List.set_cons_zero,List.set_cons_succ]
        refine wpAnyH_done (by kernel_rfl) ?_ _;go_wp2_with fail
        all_goals(go_ret;exact⟨⟨v13,rfl,by rw[List.append_cons];exact zZ.out⟩,dJ.out⟩)
       exact AllReadyH.nil
      exact AllReadyH.nil
     exact AllReadyH.nil
    exact AllReadyH.nil
   exact AllReadyH.nil
theorem q4b(g c i:Nat)(L:QL)(k:BA)(q d:Rat)(w:World)(hp:L[i]? = some (k,q))(hn:L.length≤c)(hc:c≤maxLen)(aB:qb0 w g 0 (L.map rtS))(zY:Hid (q87 w (some ⟨g,0,none⟩) k i))(hL:L.length≤1000000)(s1:sm q 500)(s2:sm d 500):
  Calls Tryz.prog 34 #[.slice (some ⟨g,0,none⟩) L.length c,.string k,.string (rt d)] w fun e w'=>(∃v',e = .returned v'∧LV w' v' (L.take i++(k,q+d)::L.drop (i+1)))∧Below w.heap.size w w':=by
 have hi:i<L.length:=(List.getElem?_eq_some_iff.1 hp).1
 have uQ:Hid (∀g2 c2 W,L.length≤c2→c2≤maxLen→w.heap.size≤g2→Own W g2 (L.length*2) (fun i=>(qnl L).getD i (.bool false))→Below w.heap.size w W→(∃v'',Ending.returned (.slice (some ⟨g2,0,none⟩) L.length c2) = .returned v''∧LV (W.setCell ⟨g2,i*2+1,none⟩ (.string (rt (q+d)))) v'' (L.take i++(k,q+d)::L.drop (i+1)))∧Below w.heap.size w (W.setCell ⟨g2,i*2+1,none⟩ (.string (rt (q+d))))):=hid fun g2 c2 W h1 h2 h3 h4 h5=>by
  have hl:(L.take i++(k,q+d)::L.drop (i+1)).length=L.length:=by
   rw[List.length_append,List.length_take,List.length_cons,List.length_drop];omega
  exact⟨⟨_,rfl,.inr ⟨g2,c2,by rw[hl],by omega,by omega,h2,q0e (p:=(k,q)) h4 hp⟩⟩,h5.setCell (p:=⟨g2,i*2+1,none⟩) h3 _⟩
 have sV:=hid fun W=>q26 q d 500 W s1 s2 (by decide);have HE:=hid (qsh w.heap.size w (qac _));have HEB:Hid (Below w.heap.size w (w.alloc (.cells #[] 32))):=hid (qad _ _);have HCG:=hid (qly L i _ hp);have mO:=hid (show L≠[] by rintro rfl;exact absurd hi (Nat.not_lt_zero _));have bP:=hid aB;have HC:=hid hc;obtain⟨x0,-⟩:=aB i (rtS (k,q)) (by rw[List.getElem?_map,hp];rfl);rw[Nat.zero_add] at x0;have x1:w.cell? ⟨g,i*2,none⟩=some (.string k):=x0;have eE:Op.bytesLess k.toList k.toList=false:=qip k;have Jv:(0:Int)≤(i:Int):=by omega
 have zK:(i:Int)<(L.length:Int):=by omega
 have Mj:decide ((i:Int)<(L.length:Int))=true:=qag zK;unfold maxLen at hc;unfold qus at sV;clear hp aB s1 s2 x0;generalize rt (q+d)=ts at *;generalize rt q=p2 at *;generalize rt d=dt at *;go_enter Tryz.func34,Tryz.ntmps34;go_wp2_with fail
 go_loop [7] (fun s=>∃j:Nat,j≤i∧s = .int .i64 j) (fun s=>i-(intOf s).toNat)
 case atStart=>exact⟨0,Nat.zero_le _,rfl⟩
 case round=>
  obtain⟨j,hj,rfl⟩:=hrel;by_cases bC:j<i
  ·obtain⟨g',p',hpg,y0,hb⟩:=zY.out j bC
   have Ge:(0:Int)≤(j:Int):=by omega
   have xN:(j:Int)<(L.length:Int):=by omega
   have Ku:decide ((j:Int)<(L.length:Int))=true:=qag xN;clear zY;cases hpg
   go_wp2_with fail;go_round
   case rel=>exact⟨j+1,by omega,by go_num⟩
   case measure=>simp[intOf];omega
  obtain rfl:j=i:=by omega
  clear zY bC;go_wp2_with (at_builtin;refine zam rfl _ _ rfl _ w.heap.size (.slice (some ⟨w.heap.size,0,none⟩) 0 0) [] L g 0 c rfl HE.out HEB.out.size rfl (bP.out.later HEB.out) (Nat.zero_le _) (by omega) ?_);intro v' w' ho aR;obtain⟨g2,c2,rfl,h1,h2,h3,h4,h5⟩:=q39 ho mO.out;have aK:=hid (HEB.out.trans aR);have oN:=hid h5;have HG:=hid (show w.heap.size≤g2∧L.length≤c2∧c2≤maxLen from⟨h1,h3,h4⟩);have hm:w'.cell? ⟨g2,j*2+1,none⟩=some ((qnl L).getD (j*2+1) (.bool false)):=(h5.2 (j*2+1) (by omega)).1;rw[qba,HCG.out.2,Option.getD_some] at hm;clear ho aR h1 h2 h3 h4 h5 HCG;go_wp2_with fail;refine(sV.out _).mono ?_;rintro e w3 ⟨rfl,cJ⟩;have bR:=hid (aK.out.trans (cJ.mono aK.out.size));have Bn:=hid (oN.out.later (cJ.mono oN.out.1));obtain⟨fP,Ka⟩:=Bn.out.2 (j*2+1) (by omega);clear hm cJ sV oN aK;go_wp2_with fail;go_ret;exact uQ.out g2 c2 w3 HG.out.2.1 HG.out.2.2 HG.out.1 Bn.out bR.out
theorem q4c(v:Value)(L:QL)(k:BA)(d:Rat)(w:World)(hv:LV w v L)(hL:L.length≤1000000)(Aj:SmL L 500)(hd:sm d 500):
  Calls Tryz.prog 34 #[v,.string k,.string (rt d)] w fun e w'=>(∃v',e = .returned v'∧LV w' v' (qij L k d))∧Below w.heap.size w w':=by
 obtain⟨i,hi,Fo,Jx⟩:=quh k L;obtain⟨q1,q2⟩:=q32 k d L i Fo
 have jS:∀ {w' v' M},qij L k d=M→qsg w.heap.size w' v' M→LV w' v' (qij L k d):=fun{w' v' M} hM ho=>by
  have hne:M≠[]:=by rw[←hM];exact q86 k d L
  obtain⟨g,c,h1,h2,h3,h4,h5,h6⟩:=q38 ho hne;rw[hM];exact .inr ⟨g,c,h1,h3,h4,h5,h6⟩
 have dS:Hid ((L.take i).length≤1048576∧(L.drop i).length≤1048576∧(L.take i++[(k,d)]).length≤1048576):=hid (by
  rw[List.length_append,List.length_singleton,List.length_take,List.length_drop]
  omega)
 rcases hv with⟨rfl,rfl⟩|⟨g,c,rfl,qU,bO,bJ,aB⟩
 ·obtain rfl:i=0:=by simpa using hi
  refine(qwi none 0 0 0 k d [] [] w (qac _) (qac _) (by decide) (hid fun j hj=>absurd hj (Nat.not_lt_zero _)) (.inl rfl) (hid fun _ _ => .inl ⟨rfl,rfl⟩) (hid fun _ _ => .inl ⟨rfl,rfl⟩) (hid ⟨by simp,by simp,by simp⟩)).mono ?_;rintro e w' ⟨⟨v',rfl,ho⟩,hb⟩;exact⟨⟨v',rfl,jS (q2 (.inl rfl) (qac _)) ho⟩,hb⟩
 ·have zY:Hid (q87 w (some ⟨g,0,none⟩) k i):=hid fun j hj=>by
   obtain⟨p,hp⟩:∃p,L[j]? = some p:=⟨_,qat (by omega)⟩;obtain⟨e0,-⟩:=aB j (rtS p) (by rw[List.getElem?_map,hp];rfl);rw[Nat.zero_add] at e0;exact⟨g,p.1,rfl,e0,Fo j p hj hp⟩
  have eJ:Hid (∀W,Below w.heap.size w W→ShV W (.slice (some ⟨g,0,none⟩) i c) (L.take i)):=hid fun W hW => .inr ⟨g,0,c,by rw[List.length_take,Nat.min_eq_left hi],fun j s hj=>(aB.later hW) j s (by
   rw[List.map_take,List.getElem?_take] at hj;split at hj
   ·exact hj
   ·cases hj)⟩
  have cO:Hid (∀W,Below w.heap.size w W→ShV W (.slice (if c=i then some ⟨g,0,none⟩ else(some (⟨g,0,none⟩:Addr)).map fun x=>x.add (i*2)) (L.length-i) (c-i)) (L.drop i)):=hid fun W hW=>by
   by_cases oG:c=i
   ·rw[if_pos oG]
    refine .inr ⟨g,0,c-i,by rw[List.length_drop],fun j s hj => ?_⟩;rw[List.drop_eq_nil_of_le (by omega)] at hj;simp at hj
   ·rw[if_neg oG,Option.map_some,Addr.add_lit,Nat.zero_add]
    refine .inr ⟨g,i*2,c-i,by rw[List.length_drop],fun j s hj => ?_⟩;rw[List.map_drop,List.getElem?_drop] at hj;have h:=(aB.later hW) (i+j) s hj;rw[Nat.zero_add,Nat.add_mul] at h;exact h
  rcases Jx with Jx|⟨p,hp,hb⟩
  ·refine(qwi _ L.length c i k d _ _ w hi bO (by unfold maxLen at bJ;omega) zY (.inl Jx) eJ cO dS).mono ?_
   rintro e w' ⟨⟨v',rfl,ho⟩,hb⟩;exact⟨⟨v',rfl,jS (q2 (.inl (List.getElem?_eq_none (by omega))) hi) ho⟩,hb⟩
  ·by_cases he:p.1=k
   ·subst he
    rw[q1 p hp hb rfl];exact q4b g c i L p.1 p.2 d w hp bO bJ aB zY hL (Aj p (qbj hp)) hd
   ·have Cu:i<L.length:=(List.getElem?_eq_some_iff.1 hp).1
    obtain⟨e0,-⟩:=aB i (rtS p) (by rw[List.getElem?_map,hp];rfl);rw[Nat.zero_add] at e0;refine(qwi _ L.length c i k d _ _ w hi bO (by unfold maxLen at bJ;omega) zY (.inr ⟨Cu,g,p.1,rfl,e0,hb,qan fun e=>he (qb5 (by rw[←Lib.toList_data,←Lib.toList_data,e]))⟩) eJ cO dS).mono ?_;rintro e w' ⟨⟨v',rfl,ho⟩,hb⟩;exact⟨⟨v',rfl,jS (q2 (.inr ⟨p,hp,by assumption,he⟩) hi) ho⟩,hb⟩
theorem qq2(v:Value)(l:List Lay)(w:World)(hv:qr6 w v l)(aE:l.length≤64)
  (hx:∀x ∈ l,x.shares.length≤64∧0≤x.mass∧x.mass≤999999999∧∀s ∈ x.shares,s.2=rt (qbk s)∧sm (qbk s) 400)
  (Aj:∀k x j,l[k]? = some x→SmL (qez x.mass (qci (l.take k)) (x.shares.take j)) 500)
  (Ji:∀k x j,l[k]? = some x→(qez x.mass (qci (l.take k)) (x.shares.take j)).length≤1000000):
  Calls Tryz.prog 10 #[v] w fun e w'=>(∃v',e = .returned v'∧LV w' v' (qci l))∧Below w.heap.size w w':=by
 obtain⟨p,c,rfl,bO,bJ,aA⟩:=hv;unfold maxLen at bJ;have HC:=hid aA;have HX:=hid hx;have Al:=hid Aj;have mO:=hid Ji;clear aA hx Aj Ji;go_enter Tryz.func10,Tryz.ntmps10;go_wp2_with fail
 go_loopw [3,4] (fun ov i wr=>∃k:Nat,k≤l.length∧i = .int .i64 k∧Hid (LV wr ov (qci (l.take k)))∧Hid (Below w.heap.size w wr)) (fun _ i _=>l.length-(intOf i).toNat)
 case atStart=>exact⟨0,Nat.zero_le _,rfl,hid (.inl ⟨rfl,rfl⟩),hid (qaa _ _)⟩
 case round=>
  obtain⟨k,hk,rfl,HL,HB⟩:=hrel;by_cases bC:k<l.length
  ·rcases HC.out with h0|⟨b,o,rfl,aB⟩
   ·omega
   obtain⟨x,cI⟩:∃x,l[k]? = some x:=⟨_,qat bC⟩;obtain⟨-,e1,q,cq,e2,Jw⟩:=aB k x cI;obtain⟨q',cq',hqe,tI,nN,Cf⟩:=Jw;cases hqe
   obtain⟨hn64,mC,fD,Fp⟩:=HX.out x (qbj cI);have gV:Hid (qci (l.take (k+1))=qez x.mass (qci (l.take k)) x.shares):=hid (by rw[qbp cI,qfa]);have HSMk:=hid fun j=>Al.out k x j cI;have HLNk:=hid fun j=>mO.out k x j cI
   have Ht:Hid (∀W,Below w.heap.size w W→W.cell? ⟨b,o+k*3+1,none⟩=some (.int .i64 x.mass)∧W.cell? ⟨b,o+k*3+2,none⟩=some (.slice q x.shares.length cq)):=hid fun W hW=>by
    rw[hW.cell (qaf w _ e1),hW.cell (qaf w _ e2)];exact⟨e1,e2⟩
   have Hh:=hid Fp;have qC:=hid Cf;have Jv:(0:Int)≤(k:Int):=by omega
   have zK:(k:Int)<(l.length:Int):=by omega
   unfold maxLen at nN;clear e1 e2 cI aB Fp Cf;generalize qci (l.take k)=L0 at *;generalize x.shares=ss at *;generalize x.mass=ms at *;have HF:=hid fun W=>q6q ms W mC (by omega);have lH:sm ((ms:Int):Rat) 9:=⟨by show ms.natAbs<10^9;omega,by show 1<10^9;decide⟩;have HMS:=hid lH;clear lH;go_wp2_with fail
   go_loopw [3,5] (fun ov i wi=>∃j:Nat,j≤ss.length∧i = .int .i64 j∧Hid (LV wi ov (qez ms L0 (ss.take j)))∧Hid (Below w.heap.size w wi)) (fun _ i _=>ss.length-(intOf i).toNat)
   case atStart=>exact⟨0,Nat.zero_le _,rfl,HL,HB⟩
   case round=>
    obtain⟨j,hj,rfl,uB,aK⟩:=hrel;clear HL HB;have eC:=Ht.out _ aK.out;by_cases xF:j<ss.length
    ·rcases qC.out with h0|⟨b2,o2,rfl,mY⟩
     ·omega
     obtain⟨s,hs⟩:∃s,ss[j]? = some s:=⟨_,qat xF⟩;obtain⟨f0,f1⟩:=mY j s hs;obtain⟨fN,hpq⟩:=Hh.out s (qbj hs)
     have bT:Hid (∀W,Below w.heap.size w W→W.cell? ⟨b,o+k*3+1,none⟩=some (.int .i64 ms)∧W.cell? ⟨b,o+k*3+2,none⟩=some (.slice (some ⟨b2,o2,none⟩) ss.length cq)∧W.cell? ⟨b2,o2+j*2,none⟩=some (.string s.1)∧W.cell? ⟨b2,o2+j*2+1,none⟩=some (.string s.2)):=hid fun W hW=>by
      obtain⟨a1,a2⟩:=Ht.out W hW;rw[hW.cell (qaf w _ f0),hW.cell (qaf w _ f1)];exact⟨a1,a2,f0,f1⟩
     have HM:=hid fun W=>q99 (qbk s) ((ms:Int):Rat) 400 W hpq (qfr HMS.out (by decide)) (by decide);rw[←fN] at HM;have HPU:=hid fun ov W hW=>q4c ov (qez ms L0 (ss.take j)) s.1 (qbk s*((ms:Int):Rat)) W hW (HLNk.out j) (HSMk.out j) (qfr (q19 hpq HMS.out) (by decide));have jD:Hid (qij (qez ms L0 (ss.take j)) s.1 (qbk s*((ms:Int):Rat))=qez ms L0 (ss.take (j+1))):=hid (by rw[qbp hs,qq1]);rw[jD.out] at HPU;obtain⟨Lk,hLk⟩:∃t,qez ms L0 (ss.take (j+1))=t:=⟨_,rfl⟩;have HLK:=hid hLk;rw[hLk] at HPU jD;unfold qus at HF HM;have Rt:=hid (uB.out.later (qaa _ _).drew);have dJ:=hid aK.out.drew;have Ge:(0:Int)≤(j:Int):=by omega
     have xN:(j:Int)<(ss.length:Int):=by omega
     clear hs mY f0 f1 fN hpq jD uB aK hLk;generalize qez ms L0 (ss.take j)=Lj at *;generalize rt (qbk s*((ms:Int):Rat))=tm at *;generalize rt ((ms:Int):Rat)=tx at *;generalize s.2=s2 at *;generalize s.1=s1 at *;have eZ:=bT.out _ dJ.out;go_wp2_with fail
     go_region_held3 (fun W=>W.cell? ⟨b,o+k*3+1,none⟩=some (.int .i64 ms)∧W.cell? ⟨b,o+k*3+2,none⟩=some (.slice (some ⟨b2,o2,none⟩) ss.length cq)∧W.cell? ⟨b2,o2+j*2,none⟩=some (.string s1)∧W.cell? ⟨b2,o2+j*2+1,none⟩=some (.string s2)) (exact bT.out _ dJ.out)
      (first
       | (go_at_call 36;((with_reducible refine(HF.out _).mono ?_);rintro e wA ⟨rfl,hb⟩;have Rt:=hid (Rt.out.later hb);have dJ:=hid (dJ.out.trans (hb.mono dJ.out.size));clear hb))
       | (go_at_call 35;((with_reducible refine(HM.out _).mono ?_);rintro e wB ⟨rfl,hb⟩;have Rt:=hid (Rt.out.later hb);have dJ:=hid (dJ.out.trans (hb.mono dJ.out.size));clear hb))
       | (go_at_call 34;((with_reducible refine(HPU.out _ _ Rt.out).mono ?_);rintro e wC ⟨⟨v',rfl,hl⟩,hb⟩;have kQ:=hid hl;have dJ:=hid (dJ.out.trans (hb.mono dJ.out.size));clear hb hl)))
     all_goals
      go_wp2_with fail;go_roundw
      case rel=>exact⟨j+1,by omega,by go_num,hid (by rw[HLK.out];exact kQ.out),dJ⟩
      case measure=>simp[intOf];omega
    ·have kN:j=ss.length:=by omega
     have HL3:=uB;rw[kN,List.take_length,←gV.out] at HL3;clear kN uB qC Hh;go_wp2_with fail;go_roundw
     case rel=>exact⟨k+1,by omega,by go_num,HL3,aK⟩
     case measure=>simp[intOf];omega
  ·have kT:k=l.length:=by omega
   rw[kT,List.take_length] at HL;clear kT;go_wp2_with fail;go_ret;exact⟨⟨_,rfl,HL.out⟩,HB.out⟩
end Go.Proofs.YtmcfcpgglfimjaaGreatDoor
