/- The reference's PutShare and LotMasses. -/
import Derived.Test.YtlkdlffhmakbgaaGreatDoorMRounded
import Derived.Test.YtlkdlffhmakbgaaGreatDoorMKeeps
import Derived.Deep.RegionHeld3
import Derived.Test.YtlkdlffhmakbgaaGreatDoorMBase
import Derived.WalkKit
import Derived.Test.YtlkdlffhmakbgaaGreatDoorMReadRule
import Derived.Test.YtlkdlffhmakbgaaGreatDoorMSpans
import Derived.Test.YtlkdlffhmakbgaaGreatDoorMRefK
import Derived.Test.YtlkdlffhmakbgaaGreatDoorMNv
import Derived.Test.YtlkdlffhmakbgaaGreatDoorMMix
import Derived.Test.YtlkdlffhmakbgaaGreatDoorMRefC
import Derived.Test.YtlkdlffhmakbgaaGreatDoorMMatter
import Derived.OwnWalk
import Derived.Laws.OwnMore
set_option linter.all false
namespace Go.Proofs.YtlkdlffhmakbgaaGreatDoor
open Go.RowKit
open Go.RowKit
end Go.Proofs.YtlkdlffhmakbgaaGreatDoor
namespace Go.Proofs.YtlkdlffhmakbgaaGreatDoor
theorem q37{l:List Oper}{i:Nat}{oi:Oper}{rest:List Oper}(h:l.drop i=oi::rest):l.toArray[i]? = some oi:=by
 have e:(l.drop i)[0]? = l[i+0]? := List.getElem?_drop;rw[h] at e;rw[List.getElem?_toArray];exact e.symm
theorem tkw{P:Program}{l:List Oper}{Q:Exit→Act→World→Prop}{md:Region.Mode}{S:World→Prop}(i:Nat){oi:Oper}{rest:List Oper}{v:Value}{fuel:Nat}{listed:Array Bool}{a:Act}{w:World}(hi:l.drop i=oi::rest)
  (hc:(Region.noSelect l.toArray&&Region.free md l.toArray listed i&&(Region.ready md l.toArray listed).contains i)=true) (hw:Region.wanted oi (yielded l.toArray a.tmps)=true) (hS:S w)
  (hQ:∀c a w,Q (.panic c) (a.put oi.dst v) w→Q (.panic c) a w) (hy:∀w,S w→(execOp a.eval oi).run P w = .ok (.value v) w) (h:wpAnyH P md l.toArray Q S fuel (listed.setIfInBounds i true) (a.put oi.dst v) w):wpAnyH P md l.toArray Q S (fuel+1) listed a w:=by
 rw[Bool.and_eq_true,Bool.and_eq_true] at hc;exact wpAnyH_take (q37 hi) hc.1.1 hc.1.2 hc.2 hQ (Or.inl ⟨hw,hy⟩) hS h
open Go.RowKit
end Go.Proofs.YtlkdlffhmakbgaaGreatDoor
namespace Go.Proofs.YtlkdlffhmakbgaaGreatDoor
open Go.RowKit
def Bxs(w:World)(L:List (Nat × BA × BA))(W:World):Prop:=
 Below w.heap.size w W∧∀r ∈ L,Own W r.1 2 (qu8 (.string r.2.1) (.string r.2.2))
theorem Bxs.later{w W W':World}{L:List (Nat × BA × BA)}(h:Bxs w L W)(hb:Below W.heap.size W W'):Bxs w L W':=
 ⟨h.1.trans (hb.mono h.1.size),fun r hr=>(h.2 r hr).later (hb.mono (h.2 r hr).1)⟩
theorem qj5{I:World→Prop}{f:FuncId}{args:Array Value}{v:Value}(h:qj6 I f args v):Hid (∀W,I W→Calls Tryz.prog f args W fun e w'=>e = .returned v∧I w'):=hid h
def za0(w:World)(a b:BA × BA)(W:World):Prop:=
 Below w.heap.size w W∧Own W w.heap.size 2 (qu8 (.string a.1) (.string a.2))∧Own W (w.heap.size+1) 2 (qu8 (.string b.1) (.string b.2))
theorem za0.later{w W W':World}{a b:BA × BA}(h:za0 w a b W)(hb:Below W.heap.size W W'):za0 w a b W':=
 ⟨h.1.trans (hb.mono h.1.size),h.2.1.later (hb.mono h.2.1.1),h.2.2.later (hb.mono h.2.2.1)⟩
end Go.Proofs.YtlkdlffhmakbgaaGreatDoor
namespace Go.Proofs.YtlkdlffhmakbgaaGreatDoor
open Go.RowKit
open Go.RowKit
open Go.RowKit
end Go.Proofs.YtlkdlffhmakbgaaGreatDoor
namespace Go.Proofs.YtlkdlffhmakbgaaGreatDoor
open Go.RowKit
def bl(a b:BA):Bool:=Op.bytesLess a.toList b.toList
theorem q6i(x:List UInt8):∀y,Op.bytesLess x y=true↔x<y:=by
 induction x with
 | nil=>intro y;cases y<;>simp[Op.bytesLess]
 | cons a x ih=>
  intro y;cases y with
  | nil=>simp[Op.bytesLess]
  | cons b y=>
   have h:=ih y;rw[Op.bytesLess,List.cons_lt_cons_iff,Bool.or_eq_true,Bool.and_eq_true,decide_eq_true_iff,beq_iff_eq,h]
theorem qpt{a b:BA}:bl a b=true↔a.data.toList<b.data.toList:=by
 unfold bl;rw[q6i,Lib.toList_data,Lib.toList_data]
theorem ql3(a:BA):bl a a=false:=by
 rw[Bool.eq_false_iff];exact fun h=>List.lt_irrefl _ (qpt.1 h)
theorem qob{a b c:BA}(h1:bl a b=true)(h2:bl b c=true):bl a c=true:=qpt.2 (List.lt_trans (qpt.1 h1) (qpt.1 h2))
theorem qxz{a b:BA}(h1:bl a b=false)(hne:a≠b):bl b a=true:=by
 rw[qpt];refine Classical.byContradiction fun h2=>hne ?_;have h3:¬a.data.toList<b.data.toList:=fun h=>by rw[qpt.2 h] at h1;cases h1
 have h4:=List.le_antisymm (List.not_lt.1 h2) (List.not_lt.1 h3);rw[←qgw a,←qgw b,h4]
abbrev QL:=List (BA × Rat)
def Srt(L:QL):Prop:=L.Pairwise fun p q=>bl p.1 q.1=true
def ql4:QL→BA→Rat→QL
 | [],k,d=>[(k,d)]
 | p::L,k,d=>if bl p.1 k then p::ql4 L k d else if p.1=k then(p.1,p.2+d)::L else(k,d)::p::L
theorem q33(k:BA)(d:Rat):∀(L:QL) (i:Nat),(∀j p,j<i→L[j]? = some p→bl p.1 k=true)→
  (∀p,L[i]? = some p→bl p.1 k=false→p.1=k→ql4 L k d=L.take i++(p.1,p.2+d)::L.drop (i+1))∧((L[i]? = none∨∃p,L[i]? = some p∧bl p.1 k=false∧p.1≠k)→i≤L.length→ql4 L k d=L.take i++(k,d)::L.drop i)
 | [],i,_=>⟨fun p hp=>(by simp at hp),fun _ hi=>by
   obtain rfl:i=0:=by simpa using hi
   rfl⟩
 | p::L,0,_=>by
  constructor
  ·intro q hq h1 h2
   simp only[List.getElem?_cons_zero,Option.some.injEq] at hq;subst hq;show(if bl p.1 k then p::ql4 L k d else if p.1=k then(p.1,p.2+d)::L else(k,d)::p::L)=_;rw[h1,if_neg (by simp),if_pos h2];rfl
  ·rintro(h|⟨q,hq,h1,h2⟩) _
   ·simp at h
   ·simp only[List.getElem?_cons_zero,Option.some.injEq] at hq
    subst hq;show(if bl p.1 k then p::ql4 L k d else if p.1=k then(p.1,p.2+d)::L else(k,d)::p::L)=_;rw[h1,if_neg (by simp),if_neg h2];rfl
 | p::L,i+1,h=>by
  have h0:=h 0 p (by omega) rfl;have ih:=q33 k d L i fun j q hj hq=>h (j+1) q (by omega) (by simpa using hq)
  have hu:ql4 (p::L) k d=p::ql4 L k d:=by
   show(if bl p.1 k then p::ql4 L k d else if p.1=k then(p.1,p.2+d)::L else(k,d)::p::L)=_;rw[if_pos h0]
  constructor
  ·intro q hq h1 h2
   rw[hu,ih.1 q (by simpa using hq) h1 h2];rfl
  ·intro h1 h2
   rw[hu,ih.2 (by simpa using h1) (by simpa using h2)];rfl
theorem qx0{k:BA}{d:Rat}:∀ {L:QL} {p},p ∈ ql4 L k d→p.1=k∨∃q ∈ L,q.1=p.1
 | [],p,h => .inl (by rw[List.mem_singleton.1 h])
 | q::L,p,h=>by
  unfold ql4 at h;split at h
  ·rcases List.mem_cons.1 h with rfl|h
   ·exact .inr ⟨_,List.mem_cons_self ..,rfl⟩
   ·rcases qx0 h with h|⟨r,hr,e⟩
    ·exact .inl h
    ·exact .inr ⟨r,List.mem_cons_of_mem _ hr,e⟩
  ·split at h
   ·rcases List.mem_cons.1 h with rfl|h
    ·exact .inr ⟨_,List.mem_cons_self ..,rfl⟩
    ·exact .inr ⟨p,List.mem_cons_of_mem _ h,rfl⟩
   ·rcases List.mem_cons.1 h with rfl|h
    ·exact .inl rfl
    ·exact .inr ⟨p,h,rfl⟩
theorem qsf{k:BA}{d:Rat}:∀ {L:QL},Srt L→Srt (ql4 L k d)
 | [],_=>List.pairwise_singleton ..
 | q::L,h=>by
  obtain⟨h1,h2⟩:=List.pairwise_cons.1 h;unfold ql4;split
  ·rename_i hb
   refine List.pairwise_cons.2 ⟨fun p hp => ?_,qsf h2⟩;rcases qx0 hp with e|⟨r,hr,e⟩
   ·rw[e];exact hb
   ·rw[←e];exact h1 r hr
  ·rename_i hb
   split
   ·exact List.pairwise_cons.2 ⟨h1,h2⟩
   ·rename_i hn
    have hk:=qxz (by simpa using hb) hn;refine List.pairwise_cons.2 ⟨fun p hp => ?_,h⟩;rcases List.mem_cons.1 hp with rfl|hp
    ·exact hk
    ·exact qob hk (h1 p hp)
theorem q34{L D:QL}(k:BA)(d:Rat)(h:L.Perm D):(qsb L k d).Perm (qsb D k d):=by
 have e:L.any (fun p=>k==p.1)=D.any (fun p=>k==p.1):=by
  rw[Bool.eq_iff_iff,List.any_eq_true,List.any_eq_true];exact⟨fun⟨p,h1,h2⟩=>⟨p,h.mem_iff.1 h1,h2⟩,fun⟨p,h1,h2⟩=>⟨p,h.mem_iff.2 h1,h2⟩⟩
 unfold qsb;rw[e];split
 ·exact h.map _
 ·exact h.append_right _
theorem q6j{k:BA}{d:Rat}{L:QL}(h:∀p ∈ L,p.1≠k):L.map (fun p=>if k==p.1 then(p.1,p.2+d) else p)=L:=by
 refine(List.map_congr_left fun p hp => ?_).trans (List.map_id L);rw[if_neg (fun e=>h p hp ((qbu _ _).1 e).symm)];rfl
theorem quj{k:BA}{d:Rat}:∀ {L:QL},Srt L→(ql4 L k d).Perm (qsb L k d)
 | [],_=>by
  unfold qsb;rw[Rat.zero_add];exact List.Perm.refl _
 | q::L,h=>by
  obtain⟨h1,h2⟩:=List.pairwise_cons.1 h;have ih:=quj (k:=k) (d:=d) h2;unfold ql4;split
  ·rename_i hb
   have sT:q.1≠k:=by rintro rfl;rw[ql3] at hb;cases hb
   have hn:(k==q.1)=false:=by
    rw[Bool.eq_false_iff];exact fun e=>sT ((qbu _ _).1 e).symm
   refine(ih.cons q).trans (List.Perm.of_eq ?_);unfold qsb;rw[List.any_cons,hn,Bool.false_or];split
   ·rw[List.map_cons,hn];rfl
   ·rfl
  ·rename_i hb
   split
   ·rename_i he
    subst he;unfold qsb
    have hk:=q6j (k:=q.1) (d:=d) (L:=L) fun p hp e=>by
     have:=h1 p hp;rw[e,ql3] at this;cases this
    rw[List.any_cons,(qbu q.1 q.1).2 rfl,Bool.true_or,if_pos rfl,List.map_cons,if_pos ((qbu q.1 q.1).2 rfl),hk]
   ·rename_i hn
    have hk:=qxz (by simpa using hb) hn
    have hno:(q::L).any (fun p=>k==p.1)=false:=by
     rw[List.any_eq_false];intro p hp e;have e:=(qbu _ _).1 e;rcases List.mem_cons.1 hp with rfl|hp
     ·exact hn e.symm
     ·have:=qob hk (h1 p hp)
      rw[e,ql3] at this;cases this
    unfold qsb;rw[hno,Rat.zero_add];exact(List.perm_append_singleton _ _).symm
def qgm(m:Int)(L:QL)(ss:List (BA × BA)):QL:=ss.foldl (fun L s=>ql4 L s.1 (qcu s*((m:Int):Rat))) L
def qd7(l:List Lay):QL:=l.foldl (fun L x=>qgm x.mass L x.shares) []
theorem qj4(l:List Lay)(x:Lay):qd7 (l++[x])=qgm x.mass (qd7 l) x.shares:=by unfold qd7;rw[List.foldl_append];rfl
theorem qq4(m:Int)(L:QL)(ss:List (BA × BA))(s:BA × BA):qgm m L (ss++[s])=ql4 (qgm m L ss) s.1 (qcu s*((m:Int):Rat)):=by unfold qgm;rw[List.foldl_append];rfl
theorem qx1(m:Int):∀(ss:List (BA × BA)) {L D:QL},Srt L→L.Perm D→Srt (qgm m L ss)∧(qgm m L ss).Perm (qfb m D ss)
 | [],_,_,h1,h2=>⟨h1,h2⟩
 | s::ss,L,D,h1,h2=>qx1 m ss (qsf h1) ((quj h1).trans (q34 s.1 (qcu s*((m:Int):Rat)) h2))
theorem qij(l:List Lay):Srt (qd7 l)∧(qd7 l).Perm (qci l):=by
 induction l using qda with
 | h0=>exact⟨List.Pairwise.nil,List.Perm.refl _⟩
 | h1 l x ih=>
  rw[qj4,qj2];exact qx1 _ _ ih.1 ih.2
theorem q35{l:List Lay}{ss:List (List UInt8)}(h:ss.Perm ((qci l).map fun p=>p.1.data.toList)):qcc ss=(qd7 l).map Prod.fst:=by
 obtain⟨h1,h2⟩:=qij l
 have e:ss.mergeSort (fun x y=>decide (x≤y))=(qd7 l).map fun p=>p.1.data.toList:=by
  refine List.Perm.eq_of_pairwise (le:=fun x y:List UInt8=>x≤y) (fun a b _ _ x y=>List.le_antisymm x y) ?_ ?_ ((List.mergeSort_perm _ _).trans (h.trans (h2.symm.map _)))
  ·exact(List.pairwise_mergeSort (le:=fun x y:List UInt8=>decide (x≤y)) (fun a b c x y=>qag (List.le_trans (of_decide_eq_true x) (of_decide_eq_true y))) (fun a b=>by
    rw[Bool.or_eq_true];rcases List.le_total a b with h|h
    ·exact .inl (qag h)
    ·exact .inr (qag h)) ss).imp fun h=>of_decide_eq_true h
  ·exact List.pairwise_map.2 (h1.imp fun h=>List.not_lt.1 fun hh=>List.lt_irrefl _ (List.lt_trans hh (qpt.1 h)))
 unfold qcc;rw[e,List.map_map];rfl
theorem q36{l:List Lay}:∀p ∈ qd7 l,qg4 (qci l) p.1=p.2:=by
 intro p hp;obtain⟨h1,h2⟩:=qij l;have hm:=h2.mem_iff.1 hp;unfold qg4;cases hf:(qci l).find? (fun q=>p.1==q.1) with
 | none=>exact absurd ((qbu p.1 p.1).2 rfl) (by simpa using List.find?_eq_none.1 hf p hm)
 | some q=>
  have hq:=List.mem_of_find?_eq_some hf;have hk:=(qbu _ _).1 (List.find?_some (p:=fun q:BA × Rat=>p.1==q.1) hf);have iG:=h2.mem_iff.2 hq;obtain⟨i,hi⟩:=List.getElem?_of_mem hp;obtain⟨j,hj⟩:=List.getElem?_of_mem iG
  have key:∀(a b:Nat) (x y:BA × Rat),a<b→(qd7 l)[a]? = some x→(qd7 l)[b]? = some y→x.1≠y.1:=fun a b x y oJ hx hy e=>by
   obtain⟨ha,hx⟩:=List.getElem?_eq_some_iff.1 hx;obtain⟨hb,hy⟩:=List.getElem?_eq_some_iff.1 hy;have:=List.pairwise_iff_getElem.1 h1 a b ha hb oJ;rw[hx,hy,e,ql3] at this;cases this
  rcases Nat.lt_trichotomy i j with h|h|h
  ·exact absurd hk (key i j p q h hi hj)
  ·subst h
   rw[hi] at hj;cases hj
   rfl
  ·exact absurd hk.symm (key j i q p h hj hi)
theorem q6k{b:BA}{s:BA × BA}(h:qao b s=0):bl b s.1=true:=by
 unfold qao at h;split at h
 ·cases h
 ·split at h
  ·cases h
  ·rename_i hs
   have h1:(Op.bytesLess s.1.toList b.toList||s.1.toList==b.toList)=false:=by simpa [qrt] using hs
   rw[Bool.or_eq_false_iff] at h1;refine qxz (a:=s.1) h1.1 fun e => ?_;rw[e] at h1;have:=h1.2;simp at this
theorem qpu:∀(l:List (BA × BA)) (b:BA),qaj (qa4 b l)=0→(∀s ∈ l,bl b s.1=true)∧l.Pairwise fun s t=>bl s.1 t.1=true
 | [],_,_=>⟨fun s h=>(by cases h),List.Pairwise.nil⟩
 | s::l,b,h=>by
  have h1:(if qao b s=0 then qaj (qa4 s.1 l) else qao b s)=0:=h;by_cases h0:qao b s=0
  ·rw[if_pos h0] at h1
   obtain⟨h2,h3⟩:=qpu l s.1 h1;have hu:=q6k h0;refine⟨fun t ht => ?_,List.pairwise_cons.2 ⟨h2,h3⟩⟩;rcases List.mem_cons.1 ht with rfl|ht
   ·exact hu
   ·exact qob hu (h2 t ht)
  ·rw[if_neg h0] at h1
   exact absurd h1 h0
theorem ql5{x:Lay}(h:qbj x=0):qaj (qa4 ⟨#[]⟩ x.shares)=0:=by
 unfold qbj at h;split at h
 ·cases h
 ·split at h
  ·cases h
  ·unfold qbe at h
   split at h
   ·cases h
   ·split at h
    ·cases h
    ·split at h
     ·rename_i h1;exact absurd h h1
     ·rename_i h1;simpa using h1
theorem qx2{k:BA}{d:Rat}:∀ {L:QL} {p},Srt L→p ∈ ql4 L k d→(p.1=k∧(p.2=d∨∃q ∈ L,q.1=k∧p.2=q.2+d))∨(p.1≠k∧p ∈ L)
 | [],p,_,h=>by
  rw[List.mem_singleton.1 h];exact .inl ⟨rfl,.inl rfl⟩
 | q::L,p,hs,h=>by
  obtain⟨h1,h2⟩:=List.pairwise_cons.1 hs;unfold ql4 at h;split at h
  ·rename_i hb
   rcases List.mem_cons.1 h with rfl|h
   ·exact .inr ⟨fun e=>(by rw[e,ql3] at hb;cases hb),List.mem_cons_self ..⟩
   ·rcases qx2 h2 h with⟨e,h|⟨r,hr,e1,e2⟩⟩|⟨e,h⟩
    ·exact .inl ⟨e,.inl h⟩
    ·exact .inl ⟨e,.inr ⟨r,List.mem_cons_of_mem _ hr,e1,e2⟩⟩
    ·exact .inr ⟨e,List.mem_cons_of_mem _ h⟩
  ·rename_i hb
   split at h
   ·rename_i he
    rcases List.mem_cons.1 h with rfl|h
    ·exact .inl ⟨he,.inr ⟨q,List.mem_cons_self ..,he,rfl⟩⟩
    ·exact .inr ⟨fun e=>(by have:=h1 p h;rw[e,he,ql3] at this;cases this),List.mem_cons_of_mem _ h⟩
   ·rename_i hn
    have hk:=qxz (by simpa using hb) hn;rcases List.mem_cons.1 h with rfl|h
    ·exact .inl ⟨rfl,.inl rfl⟩
    ·refine .inr ⟨fun e => ?_,h⟩
     rcases List.mem_cons.1 h with rfl|h
     ·exact hn e
     ·have:=qob hk (h1 p h)
      rw[e,ql3] at this;cases this
def SmL(L:QL)(k:Nat):Prop:=∀p ∈ L,sm p.2 k
theorem q8x{q:Rat}{m:Int}(h:sm q 20)(h1:0<m)(h2:m≤999999999):sm (q*((m:Int):Rat)) 29:=
 q2w (a:=20) (b:=9) h ⟨by show m.natAbs<10^9;omega,by show 1<10^9;decide⟩
theorem qx3{m:Int}{K:Nat}(h1:0<m)(h2:m≤999999999){L:QL}(hs:Srt L)(hL:SmL L K):∀(ss:List (BA × BA)),(ss.Pairwise fun s t=>bl s.1 t.1=true)→(∀s ∈ ss,sm (qcu s) 20)→
  Srt (qgm m L ss)∧∀p ∈ qgm m L ss,sm p.2 (K+30)∧((∀s ∈ ss,s.1≠p.1)→sm p.2 K):=by
 intro ss
 induction ss using qda with
 | h0=>exact fun _ _=>⟨hs,fun p hp=>⟨qek (hL p hp) (by omega),fun _=>hL p hp⟩⟩
 | h1 ss s ih=>
  intro hp Bw;rw[List.pairwise_append] at hp;obtain⟨i1,i2⟩:=ih hp.1 fun t ht=>Bw t (List.mem_append_left _ ht);rw[qq4];refine⟨qsf i1,fun p hpp => ?_⟩;have hd:sm (qcu s*((m:Int):Rat)) 29:=q8x (Bw s (by simp)) h1 h2;rcases qx2 i1 hpp with⟨e,h⟩|⟨e,h⟩
  ·refine⟨?_,fun hn=>absurd e.symm (hn s (by simp))⟩
   rcases h with h|⟨q,hq,e1,e2⟩
   ·rw[h];exact qek hd (by omega)
   ·rw[e2]
    refine q60 (a:=K) (b:=29) ((i2 q hq).2 fun t ht e3 => ?_) hd;have:=hp.2.2 t ht s (by simp);rw[e3,e1,ql3] at this;cases this
  ·exact⟨(i2 p h).1,fun hn=>(i2 p h).2 fun t ht=>hn t (List.mem_append_left _ ht)⟩
theorem qsg:∀(l:List Lay),(∀x ∈ l,qbj x=0)→(∀x ∈ l,∀s ∈ x.shares,sm (qcu s) 20)→SmL (qd7 l) (30*l.length):=by
 intro l
 induction l using qda with
 | h0=>exact fun _ _ p hp=>by cases hp
 | h1 l x ih=>
  intro h1 h2;have i1:=ih (fun y hy=>h1 y (List.mem_append_left _ hy)) fun y hy=>h2 y (List.mem_append_left _ hy);have hx:=h1 x (by simp);obtain⟨m1,m2,_⟩:=qbo hx;rw[qj4];intro p hp;have:=((qx3 m1 m2 (qij l).1 i1 x.shares (qpu _ _ (ql5 hx)).2 (h2 x (by simp))).2 p hp).1;rw[List.length_append,List.length_singleton];exact qek this (by omega)
end Go.Proofs.YtlkdlffhmakbgaaGreatDoor
namespace Go.Proofs.YtlkdlffhmakbgaaGreatDoor
open Go.RowKit
set_option maxRecDepth 100000
set_option maxHeartbeats 8000000
def rtS(p:BA × Rat):BA × BA:=(p.1,rt p.2)
theorem qx4(k:BA)(d:Rat):∀L:QL,(ql4 L k d).length≤L.length+1
 | []=>qac _
 | p::L=>by
  have:=qx4 k d L;unfold ql4;split
  ·simp only[List.length_cons];omega
  ·split
   ·simp
   ·simp
theorem q8y(k:BA)(d:Rat):∀L:QL,ql4 L k d≠[]
 | []=>by unfold ql4;simp
 | p::L=>by
  unfold ql4;split
  ·simp
  ·split<;>simp
theorem qpv(m:Int):∀(ss:List (BA × BA)) (L:QL),(qgm m L ss).length≤L.length+ss.length
 | [],_=>qac _
 | s::ss,L=>by
  have h1:=qpv m ss (ql4 L s.1 (qcu s*((m:Int):Rat)));have h2:=qx4 s.1 (qcu s*((m:Int):Rat)) L;show(qgm m (ql4 L s.1 (qcu s*((m:Int):Rat))) ss).length≤_;rw[List.length_cons];omega
theorem qpw:∀(l:List Lay),(∀x ∈ l,x.shares.length≤64)→(qd7 l).length≤64*l.length:=by
 intro l
 induction l using qda with
 | h0=>intro _;exact qac _
 | h1 l x ih=>
  intro h;have h1:=ih fun y hy=>h y (List.mem_append_left _ hy);have h2:=qpv x.mass x.shares (qd7 l);have h3:=h x (by simp);rw[qj4,List.length_append,List.length_singleton];omega
def LV(W:World)(v:Value)(L:QL):Prop:=(L=[]∧v = .slice none 0 0)∨∃g c,v = .slice (some ⟨g,0,none⟩) L.length c∧0<L.length∧L.length≤c∧c≤maxLen∧qbm W g 0 (L.map rtS)
theorem LV.later{W W':World}{v:Value}{L:QL}(h:LV W v L)(hb:Below W.heap.size W W'):LV W' v L:=by
 rcases h with h|⟨g,c,h1,h2,h3,h4,h5⟩
 ·exact .inl h
 ·exact .inr ⟨g,c,h1,h2,h3,h4,h5.later hb⟩
def qnr(L:QL):List Value:=L.flatMap fun p=>[.string p.1,.string (rt p.2)]
theorem qik:∀L:QL,(qnr L).length=L.length*2
 | []=>rfl
 | p::L=>by
  show(.string p.1 :: .string (rt p.2)::qnr L:List Value).length=_;rw[List.length_cons,List.length_cons,qik L,List.length_cons];omega
theorem qx5:∀(L:QL) u,u ∈ qnr L→u.oneCell'=true:=fun L u hu=>by
 obtain⟨p,_,hp⟩:=List.mem_flatMap.1 hu;rcases List.mem_cons.1 hp with rfl|hp
 ·rfl
 ·rw[List.mem_singleton.1 hp];rfl
theorem ql6:∀(L:QL) (j:Nat) (p:BA × Rat),L[j]? = some p→(qnr L)[j*2]? = some (.string p.1)∧(qnr L)[j*2+1]? = some (.string (rt p.2))
 | [],_,_,h=>by simp at h
 | q::L,0,p,h=>by
  simp only[List.getElem?_cons_zero,Option.some.injEq] at h;subst h;exact⟨rfl,rfl⟩
 | q::L,j+1,p,h=>by
  have h1:=ql6 L j p (by simpa using h);rw[show(j+1)*2=j*2+1+1 by omega];exact h1
theorem qpx(L M:QL):qnr (L++M)=qnr L++qnr M:=List.flatMap_append
theorem qx6{W:World}{g o:Nat}{L:QL}(h:qbm W g o (L.map rtS)):∀j u,(qnr L)[j]? = some u→W.cell? ((⟨g,o,none⟩:Addr).add j)=some u:=by
 intro j u hj;have yD:=(List.getElem?_eq_some_iff.1 hj).1;rw[qik] at yD;have hL:L[j/2]? = some (L[j/2]'(by omega)):=qap _;obtain⟨c0,c1⟩:=ql6 L (j/2) _ hL;obtain⟨s0,s1⟩:=h (j/2) (rtS (L[j/2]'(by omega))) (by rw[List.getElem?_map,hL];rfl);rw[Addr.add_lit];rcases Nat.mod_two_eq_zero_or_one j with e|e
 ·have e2:j=j/2*2:=by omega
  rw[←e2] at c0 s0;rw[hj] at c0;cases c0
  exact s0
 ·have e2:j=j/2*2+1:=by omega
  rw[←e2] at c1;rw[Nat.add_assoc,←e2] at s1;rw[hj] at c1;cases c1
  exact s1
def qm5(base:Nat)(W:World)(v:Value)(L:QL):Prop:=W.ownsRow base 58 2 v L.length (qnr L)
theorem qpy{base:Nat}{W:World}{v:Value}{L:QL}(h:qm5 base W v L)(hne:L≠[]):∃g c,v = .slice (some ⟨g,0,none⟩) L.length c∧base≤g∧0<L.length∧L.length≤c∧c≤maxLen∧qbm W g 0 (L.map rtS):=by
 have lM:0<L.length:=List.length_pos_iff.2 hne;unfold qm5 at h;rcases h.2 with⟨_,h0⟩|⟨g,cap,cur,rfl,hb,hg,bO,bG,Oo,Cw⟩
 ·omega
 ·refine⟨g,cap,rfl,hb,lM,bO,bG,fun j s hj => ?_⟩
  rw[List.getElem?_map] at hj;cases hp:L[j]? with
  | none=>rw[hp] at hj;cases hj
  | some p=>
   rw[hp] at hj;simp only[Option.map_some,Option.some.injEq] at hj;subst hj;have yD:j<L.length:=(List.getElem?_eq_some_iff.1 hp).1;obtain⟨c0,c1⟩:=ql6 L j p hp;rw[←Cw] at c0 c1;rw[List.getElem?_take,if_pos (by omega)] at c0 c1;rw[Nat.zero_add,cell_of_row W g _ cur 58 (0,0) hg,cell_of_row W g _ cur 58 (0,0) hg,←Array.getElem?_toList,←Array.getElem?_toList];exact⟨c0,c1⟩
theorem zag{ops:Array Oper}{rest:List Oper}{o:Oper}{a:Act}{Q:Exit→Act→World→Prop}(vJ:o.guard=none)(s x:Operand)
  (ho:o.op = .call { callee := .builtin .append,args:=#[s,x],argTypes:=#[27,27] })
  (W:World) (base:Nat) (v:Value) (L M:QL) (g oo c:Nat) (hs:a.eval s=v) (aU:qm5 base W v L) (kX:base≤W.heap.size)
  (hx:a.eval x = .slice (some ⟨g,oo,none⟩) M.length c) (hM:qbm W g oo (M.map rtS)) (h1:L.length≤1048576) (h2:M.length≤1048576)
  (h:∀v' w',qm5 base w' v' (L++M)→Below base W w'→wpList Tryz.prog ops Q rest (a.put o.dst v') w'):
  wpList Tryz.prog ops Q (o::rest) a W:=by
 obtain⟨i0,hi,cU,eE,eK⟩:=info_parts (show(Tryz.prog.info? 58).map (fun i=>(i.zero,i.size,i.bytes))=some (some (.agg #[.string ⟨#[]⟩,.string ⟨#[]⟩]),2,32) by kernel_rfl);unfold qm5 at *;refine wpList_append_own _ vJ s x 27 ho base 58 i0 _ 2 32 Tryz.underlying27 hi cU eE eK rfl (by decide) v L.length _ hs aU ⟨g,oo,none⟩ M.length c (qnr M) hx (qik M) (qx6 hM) (qx5 M) (by unfold maxLen;omega) (by omega) kX ?_;intro v' w' hown' bN _;refine h v' w' ?_ ((qaa base W).grown bN kX (fun q hq=>(aU.lt q hq).1));rw[List.length_append,qpx];exact hown'
theorem ql7(W:World)(k:BA)(d:Rat)(t:TypeId):qbm (W.alloc (.cells #[.string k,.string (rt d)] t)) W.heap.size 0 ([(k,d)].map rtS):=fun j s hj=>by
 match j,hj with
 | 0,hj=>
  cases hj
  rw[World.cell?_alloc_at _ _ _ _ rfl,World.cell?_alloc_at _ _ _ _ rfl];exact⟨rfl,rfl⟩
theorem qsh(base:Nat)(W:World)(hb:base≤W.heap.size):qm5 base (W.alloc (.cells #[] 58)) (.slice (some ⟨W.heap.size,0,none⟩) 0 0) []:=World.ownsRow_made W #[] 0 hb (Nat.zero_le _) rfl
def ShV(W:World)(v:Value)(M:QL):Prop:=(M=[]∧v = .slice none 0 0)∨∃g o c,v = .slice (some ⟨g,o,none⟩) M.length c∧qbm W g o (M.map rtS)
theorem ShV.later{W W':World}{v:Value}{M:QL}(h:ShV W v M)(hb:Below W.heap.size W W'):ShV W' v M:=by
 rcases h with h|⟨g,o,c,h1,h2⟩
 ·exact .inl h
 ·exact .inr ⟨g,o,c,h1,h2.later hb⟩
def za1(v:Value)(W W':World):Prop:=∀g o l,qbm W g o l→v.ownBlock≠some g→qbm W' g o l
theorem qcj{ops:Array Oper}{o:Oper}{a:Act}{K:Act→World→Prop}{Q:Exit→Act→World→Prop}{E:Prop}(vJ:o.guard=none)(s x:Operand)
  (ho:o.op = .call { callee := .builtin .append,args:=#[s,x],argTypes:=#[27,27] })
  (W:World) (base:Nat) (v vx:Value) (L M:QL) (hs:a.eval s=v) (aU:qm5 base W v L) (kX:base≤W.heap.size)
  (hx:a.eval x=vx) (hM:ShV W vx M) (h1:L.length≤1048576) (h2:M.length≤1048576)
  (h:∀v' w',qm5 base w' v' (L++M)→Below base W w'→za1 v W w'→K (a.put o.dst v') w'):
  if Region.wanted o (yielded ops a.tmps)=true then Oper.wp Tryz.prog o a W K Q else E:=by
 have hw:Region.wanted o (yielded ops a.tmps)=true:=by simp[Region.wanted,vJ]
 rw[if_pos hw];obtain⟨i0,hi,cU,eE,eK⟩:=info_parts (show(Tryz.prog.info? 58).map (fun i=>(i.zero,i.size,i.bytes))=some (some (.agg #[.string ⟨#[]⟩,.string ⟨#[]⟩]),2,32) by kernel_rfl);unfold qm5 at *;rcases hM with⟨rfl,rfl⟩|⟨g,oo,c,rfl,hM⟩
 ·have nU:=run_append_owned_none (P:=Tryz.prog) (w:=W) base 27 o.type 58 i0 2 Tryz.underlying27 hi v L.length _ aU
  have hK:=h v W (by rw[List.append_nil];exact aU) (qaa _ _) fun _ _ _ h _=>h;unfold Oper.wp;simp[execOp,ho,resolve,invoke,builtin,hs,hx,nU,Result.andThen];exact hK
 ·refine wp_append_own W s x 27 ho base 58 i0 _ 2 32 Tryz.underlying27 hi cU eE eK rfl (by decide) v L.length _ hs aU ⟨g,oo,none⟩ M.length c (qnr M) hx (qik M) (qx6 hM) (qx5 M) (by unfold maxLen;omega) (by omega) kX ?_
  intro v' w' hown' bN _;refine h v' w' ?_ ((qaa base W).grown bN kX (fun q hq=>(aU.lt q hq).1)) fun g' o' l' hl hne j t ht => ?_
  ·rw[List.length_append,qpx]
   exact hown'
  ·obtain⟨e0,e1⟩:=hl j t ht
   rw[bN.cell_far _ (qae W _ e0) (Ne.symm hne),bN.cell_far _ (qae W _ e1) (Ne.symm hne)];exact⟨e0,e1⟩
theorem quk(p:BA × Rat)(L:QL):qnr (p::L) = .string p.1 :: .string (rt p.2)::qnr L:=rfl
theorem qx7:∀(L:QL) (i:Nat) (p:BA × Rat) (q:Rat),L[i]? = some p→qnr (L.take i++(p.1,q)::L.drop (i+1))=(qnr L).set (i*2+1) (.string (rt q))
 | [],_,_,_,h=>by simp at h
 | a::L,0,p,q,h=>by
  simp only[List.getElem?_cons_zero,Option.some.injEq] at h;subst h;rfl
 | a::L,i+1,p,q,h=>by
  have ih:=qx7 L i p q (by simpa using h);rw[show(i+1)*2+1=(i*2+1)+1+1 by omega];show qnr (a::(L.take i++(p.1,q)::L.drop (i+1)))=_;rw[quk,ih,quk];rfl
theorem q38{base:Nat}{W:World}{v:Value}{L:QL}(h:qm5 base W v L)(hne:L≠[]):∃g c,v = .slice (some ⟨g,0,none⟩) L.length c∧base≤g∧0<L.length∧L.length≤c∧c≤maxLen∧Own W g (L.length*2) (fun i=>(qnr L).getD i (.bool false)):=by
 obtain⟨g,c,h1,h2,h3,h4,h5,h6⟩:=qpy h hne;refine⟨g,c,h1,h2,h3,h4,h5, ?_⟩;unfold qm5 at h;rw[h1] at h;have mJ:=fun i=>h.frozenAt i;rcases h.2 with⟨_,h0⟩|⟨g',cap,cur,hv,hb,hg,bO,bG,Oo,Cw⟩
 ·omega
 ·cases hv
  refine⟨lt_of_block hg,fun i hi=>⟨?_, ?_⟩⟩
  ·have hL:(qnr L)[i]? = some ((qnr L)[i]'(by rw[qik];omega)):=qap _
   rw[cell_of_row W g i cur 58 (0,0) hg,←Array.getElem?_toList];show _=some ((qnr L).getD i (.bool false));rw[qba,hL,Option.getD_some];have hL2:(cur.toList.take (L.length*2))[i]? = some ((qnr L)[i]'(by rw[qik];omega)):=by rw[Cw];exact hL
   rw[List.getElem?_take,if_pos (by omega)] at hL2;exact hL2
  ·exact mJ i
theorem q39{W:World}{g:Nat}{L:QL}(h:Own W g (L.length*2) (fun i=>(qnr L).getD i (.bool false))):qbm W g 0 (L.map rtS):=fun j s hj=>by
 rw[List.getElem?_map] at hj;cases hp:L[j]? with
 | none=>rw[hp] at hj;cases hj
 | some p=>
  rw[hp] at hj;simp only[Option.map_some,Option.some.injEq] at hj;subst hj;have yD:j<L.length:=(List.getElem?_eq_some_iff.1 hp).1;obtain⟨c0,c1⟩:=ql6 L j p hp;have e0:=(h.2 (j*2) (by omega)).1;have e1:=(h.2 (j*2+1) (by omega)).1;simp only[qba,c0,c1,Option.getD_some] at e0 e1;rw[Nat.zero_add];exact⟨e0,e1⟩
theorem q0c{W:World}{g i:Nat}{L:QL}{p:BA × Rat}{q:Rat}(h:Own W g (L.length*2) (fun i=>(qnr L).getD i (.bool false)))(hi:L[i]? = some p):qbm (W.setCell ⟨g,i*2+1,none⟩ (.string (rt q))) g 0 ((L.take i++(p.1,q)::L.drop (i+1)).map rtS):=by
 have Eg:i<L.length:=(List.getElem?_eq_some_iff.1 hi).1
 have hl:(L.take i++(p.1,q)::L.drop (i+1)).length=L.length:=by
  rw[List.length_append,List.length_take,List.length_cons,List.length_drop];omega
 refine q39 ?_;rw[hl,qx7 L i p q hi];refine(h.set (i*2+1) (by omega) (.string (rt q))).congr fun j hj => ?_;have hcl:=qik L;by_cases e:j=i*2+1
 ·rw[if_pos e,e,qba,List.getElem?_set_self (by omega)]
  rfl
 ·rw[if_neg e,qba,qba,List.getElem?_set_ne (Ne.symm e)]
theorem qul(k:BA):∀L:QL,∃i,i≤L.length∧(∀j p,j<i→L[j]? = some p→bl p.1 k=true)∧(i=L.length∨∃p,L[i]? = some p∧bl p.1 k=false)
 | []=>⟨0,qac _,fun j p hj=>(by omega),.inl rfl⟩
 | q::L=>by
  cases hb:bl q.1 k with
  | false=>exact⟨0,Nat.zero_le _,fun j p hj=>(by omega),.inr ⟨q,rfl,hb⟩⟩
  | true=>
   obtain⟨i,h1,h2,h3⟩:=qul k L;refine⟨i+1,by rw[List.length_cons];omega,fun j p hj hp => ?_, ?_⟩
   ·match j,hp with
    | 0,hp=>
     simp only[List.getElem?_cons_zero,Option.some.injEq] at hp;subst hp;exact hb
    | j+1,hp=>exact h2 j p (by omega) (by simpa using hp)
   ·rcases h3 with h3|⟨p,hp,h⟩
    ·exact .inl (by rw[List.length_cons,h3])
    ·exact .inr ⟨p,by simpa using hp,h⟩
def q8z(w:World)(p:Option Addr)(k:BA)(i:Nat):Prop:=∀j,j<i→∃(g:Nat) (p1:BA),p=some ⟨g,0,none⟩∧w.cell? ⟨g,j*2,none⟩=some (.string p1)∧Op.bytesLess p1.toList k.toList=true
theorem qwl(p:Option Addr)(n c i:Nat)(k:BA)(d:Rat)(A B:QL)(w:World)(hi:i≤n)(hn:n≤c)(hc:c≤9223372036854775807)(Bf:Hid (q8z w p k i))
  (hp:i=n∨(i<n∧∃g p1,p=some ⟨g,0,none⟩∧w.cell? ⟨g,i*2,none⟩=some (.string p1)∧Op.bytesLess p1.toList k.toList=false∧(p1.toList==k.toList)=false))
  (dN:Hid (∀W,Below w.heap.size w W→ShV W (.slice p i c) A)) (cL:Hid (∀W,Below w.heap.size w W→ShV W (.slice (if c=i then p else p.map fun x=>x.add (i*2)) (n-i) (c-i)) B))
  (xW:Hid (A.length≤1048576∧B.length≤1048576∧(A++[(k,d)]).length≤1048576)):
  Calls Tryz.prog 81 #[.slice p n c,.string k,.string (rt d)] w fun e w'=>(∃v',e = .returned v'∧qm5 w.heap.size w' v' (A++(k,d)::B))∧Below w.heap.size w w':=by
 have Cc:(0:Int)≤(i:Int):=by omega
 have Fm:(i:Int)≤(n:Int):=by omega
 have hic:i≤c:=by omega
 rcases hp with rfl|⟨h1,g,p1,rfl,x0,x1,x2⟩
 all_goals first|(rw[Nat.sub_self] at cL)|(have pH:¬c=i:=(by omega);rw[if_neg pH,Option.map_some,Addr.add_lit,Nat.zero_add] at cL)
 all_goals
  go_enter Tryz.func81,Tryz.ntmps81;go_wp2_with fail
  go_loop [7] (fun s=>∃j:Nat,j≤i∧s = .int .i64 j) (fun s=>i-(intOf s).toNat)
  case atStart=>exact⟨0,Nat.zero_le _,rfl⟩
  case round=>
   obtain⟨j,hj,rfl⟩:=hrel;by_cases aY:j<i
   ·obtain⟨g',p',hpg,y0,hb⟩:=Bf.out j aY
    have Is:(0:Int)≤(j:Int):=by omega
    first
     | (have Bu:(j:Int)<(n:Int):=(by omega);have hj2:decide ((j:Int)<(n:Int))=true:=(qag Bu))
     | (have Bu:(j:Int)<(i:Int):=(by omega);have hj2:decide ((j:Int)<(i:Int))=true:=(qag Bu))
    clear Bf dN cL xW;cases hpg
    go_wp2_with fail;go_round
    case rel=>exact⟨j+1,by omega,by go_num⟩
    case measure=>simp[intOf];omega
   obtain rfl:j=i:=by omega
   clear Bf aY
   first
    | (have z1:(j:Int)<(n:Int):=(by omega);have z2:decide ((j:Int)<(n:Int))=true:=(qag z1))
    | skip
   go_wp2_with fail;refine wp_region_held_drew (S:=fun _=>True) (by kernel_rfl) trivial (fun dE => ?_)
   refine' tkw 1 (v:=_) rfl (by kernel_rfl) (by kernel_rfl) trivial (fun _ _ _ h=>h) ?_ ?_
   rotate_left
   ·intro w hSw;(try dsimp only at hSw);go_simp;(try with_reducible rfl)
   try simp only[Act.put,List.setIfInBounds_toArray,List.set_cons_zero,List.set_cons_succ]
   refine' tkw 2 (v:=_) rfl (by kernel_rfl) (by kernel_rfl) trivial (fun _ _ _ h=>h) ?_ ?_
   rotate_left
   ·intro w hSw;(try dsimp only at hSw);go_simp;(try with_reducible rfl)
   try simp only[Act.put,List.setIfInBounds_toArray,List.set_cons_zero,List.set_cons_succ]
   refine' tkw 3 (v:=_) rfl (by kernel_rfl) (by kernel_rfl) trivial (fun _ _ _ h=>h) ?_ ?_
   rotate_left
   ·intro w hSw;(try dsimp only at hSw);go_simp;(try with_reducible rfl)
   try simp only[Act.put,List.setIfInBounds_toArray,List.set_cons_zero,List.set_cons_succ]
   refine' tkw 5 (v:=_) rfl (by kernel_rfl) (by kernel_rfl) trivial (fun _ _ _ h=>h) ?_ ?_
   rotate_left
   ·intro w hSw;(try dsimp only at hSw);go_simp;(try with_reducible rfl)
   try simp only[Act.put,List.setIfInBounds_toArray,List.set_cons_zero,List.set_cons_succ]
   refine' tkw 6 (v:=_) rfl (by kernel_rfl) (by kernel_rfl) trivial (fun _ _ _ h=>h) ?_ ?_
   rotate_left
   ·intro w hSw;(try dsimp only at hSw);go_simp;(try with_reducible rfl)
   try simp only[Act.put,List.setIfInBounds_toArray,List.set_cons_zero,List.set_cons_succ]
   refine' tkw 7 (v:=_) rfl (by kernel_rfl) (by kernel_rfl) trivial (fun _ _ _ h=>h) ?_ ?_
   rotate_left
   ·intro w hSw;(try dsimp only at hSw);go_simp;(try with_reducible rfl)
   try simp only[Act.put,List.setIfInBounds_toArray,List.set_cons_zero,List.set_cons_succ]
   refine' tkw 10 (v:=_) rfl (by kernel_rfl) (by kernel_rfl) trivial (fun _ _ _ h=>h) ?_ ?_
   rotate_left
   ·intro w hSw;(try dsimp only at hSw);go_simp;(try with_reducible rfl)
   try simp only[Act.put,List.setIfInBounds_toArray,List.set_cons_zero,List.set_cons_succ]
   refine' tkw 11 (v:=_) rfl (by kernel_rfl) (by kernel_rfl) trivial (fun _ _ _ h=>h) ?_ ?_
   rotate_left
   ·intro w hSw;(try dsimp only at hSw);go_simp;(try with_reducible rfl)
   try simp only[Act.put,List.setIfInBounds_toArray,List.set_cons_zero,List.set_cons_succ]
   refine' tkw 12 (v:=_) rfl (by kernel_rfl) (by kernel_rfl) trivial (fun _ _ _ h=>h) ?_ ?_
   rotate_left
   ·intro w hSw;(try dsimp only at hSw);go_simp;(try with_reducible rfl)
   try simp only[Act.put,List.setIfInBounds_toArray,List.set_cons_zero,List.set_cons_succ]
   refine wpAnyH_ready (rs:=[0,8]) (by kernel_rfl) (by simp) ?_;refine AllReadyH.cons rfl (fun K hK => ?_) ?_
   ·go_simp
    have HE:=hid (qsh w.heap.size w.drew (qac _));have cH:Hid (Below w.heap.size w (w.drew.alloc (.cells #[] 58))):=hid ((qaa w.heap.size w).drew.alloc (qac _) _);refine hK.out _ _ trivial (fun hHeld => ?_);clear hK;refine wpAnyH_ready (rs:=[4,8]) (by kernel_rfl) (by simp) ?_;refine AllReadyH.cons rfl (fun K hK => ?_) ?_
    ·refine qcj (by rfl) _ _ (by rfl) _ w.heap.size (.slice (some ⟨w.heap.size,0,none⟩) 0 0) _ [] A (by rfl) HE.out cH.out.size (by rfl) (dN.out _ cH.out) (Nat.zero_le _) xW.out.1 ?_
     intro v4 w4 ho hb hk;have tR:Hid (qm5 w.heap.size w4 v4 A):=hid ho;have cH:=hid (cH.out.trans hb);clear ho hb hk;go_simp;refine hK.out _ _ trivial (fun hHeld => ?_);clear hK;refine wpAnyH_ready (rs:=[8]) (by kernel_rfl) (by simp) ?_;refine AllReadyH.cons rfl (fun K hK => ?_) ?_
     ·go_simp
      have nR:=hid (ql7 w4 k d 58);have tR:Hid (qm5 w.heap.size (w4.alloc (.cells #[.string k,.string (rt d)] 58)) v4 A):=hid (World.ownsRow.alloc tR.out _);have cH:=hid (cH.out.alloc cH.out.size (.cells #[.string k,.string (rt d)] 58));refine hK.out _ _ trivial (fun hHeld => ?_);clear hK;refine wpAnyH_ready (rs:=[9]) (by kernel_rfl) (by simp) ?_;refine AllReadyH.cons rfl (fun K hK => ?_) ?_
      ·refine qcj (by rfl) _ _ (by rfl) _ w.heap.size v4 (.slice (some ⟨w4.heap.size,0,none⟩) 1 1) A [(k,d)] (by rfl) tR.out cH.out.size (by rfl) (.inr ⟨_,0,1,rfl,nR.out⟩) xW.out.1 (by simp) ?_
       intro v9 w9 ho hb hk;have Ir:=hid ho;have cH:=hid (cH.out.trans hb);clear ho hb hk;go_simp;refine hK.out _ _ trivial (fun hHeld => ?_);clear hK;refine wpAnyH_ready (rs:=[13]) (by kernel_rfl) (by simp) ?_;refine AllReadyH.cons rfl (fun K hK => ?_) ?_
       ·refine qcj (by rfl) _ _ (by rfl) _ w.heap.size v9 _ _ B (by rfl) Ir.out cH.out.size (by rfl) (cL.out _ cH.out) xW.out.2.2 xW.out.2.1 ?_
        intro v13 w13 ho hb hk;have Bg:=hid ho;have cH:=hid (cH.out.trans hb);clear ho hb hk;go_simp;refine hK.out _ _ trivial (fun hHeld => ?_);clear hK
        refine' tkw 14 (v:=_) rfl (by kernel_rfl) (by kernel_rfl) trivial (fun _ _ _ h=>h) ?_ ?_
        rotate_left
        ·intro w hSw;(try dsimp only at hSw);go_simp;(try with_reducible rfl)
        try simp only[Act.put,List.setIfInBounds_toArray,List.set_cons_zero,List.set_cons_succ]
        refine wpAnyH_done (by kernel_rfl) ?_ _;go_wp2_with fail
        all_goals(go_ret;exact⟨⟨v13,rfl,by rw[List.append_cons];exact Bg.out⟩,cH.out⟩)
       exact AllReadyH.nil
      exact AllReadyH.nil
     exact AllReadyH.nil
    refine AllReadyH.cons rfl (fun K hK => ?_) ?_
    ·go_simp
     have nR:Hid (qbm ((w.drew.alloc (.cells #[] 58)).alloc (.cells #[.string k,.string (rt d)] 58)) (w.heap.size+1) 0 ([(k,d)].map rtS)):=hid (by have h:=ql7 (w.drew.alloc (.cells #[] 58)) k d 58;rw[qab] at h;exact h);have HE:Hid (qm5 w.heap.size ((w.drew.alloc (.cells #[] 58)).alloc (.cells #[.string k,.string (rt d)] 58)) (.slice (some ⟨w.heap.size,0,none⟩) 0 0) []):=hid (World.ownsRow.alloc HE.out _);have cH:=hid (cH.out.alloc cH.out.size (.cells #[.string k,.string (rt d)] 58));refine hK.out _ _ trivial (fun hHeld => ?_);clear hK;refine wpAnyH_ready (rs:=[4]) (by kernel_rfl) (by simp) ?_;refine AllReadyH.cons rfl (fun K hK => ?_) ?_
     ·refine qcj (by rfl) _ _ (by rfl) _ w.heap.size (.slice (some ⟨w.heap.size,0,none⟩) 0 0) _ [] A (by rfl) HE.out cH.out.size (by rfl) (dN.out _ cH.out) (Nat.zero_le _) xW.out.1 ?_
      intro v4 w4 ho hb hk;have tR:Hid (qm5 w.heap.size w4 v4 A):=hid ho;have nR:=hid (hk _ _ _ nR.out (by simp[Value.ownBlock]));have cH:=hid (cH.out.trans hb);clear ho hb hk;go_simp;refine hK.out _ _ trivial (fun hHeld => ?_);clear hK;refine wpAnyH_ready (rs:=[9]) (by kernel_rfl) (by simp) ?_;refine AllReadyH.cons rfl (fun K hK => ?_) ?_
      ·refine qcj (by rfl) _ _ (by rfl) _ w.heap.size v4 (.slice (some ⟨(w.heap.size+1),0,none⟩) 1 1) A [(k,d)] (by rfl) tR.out cH.out.size (by rfl) (.inr ⟨_,0,1,rfl,nR.out⟩) xW.out.1 (by simp) ?_
       intro v9 w9 ho hb hk;have Ir:=hid ho;have cH:=hid (cH.out.trans hb);clear ho hb hk;go_simp;refine hK.out _ _ trivial (fun hHeld => ?_);clear hK;refine wpAnyH_ready (rs:=[13]) (by kernel_rfl) (by simp) ?_;refine AllReadyH.cons rfl (fun K hK => ?_) ?_
       ·refine qcj (by rfl) _ _ (by rfl) _ w.heap.size v9 _ _ B (by rfl) Ir.out cH.out.size (by rfl) (cL.out _ cH.out) xW.out.2.2 xW.out.2.1 ?_
        intro v13 w13 ho hb hk;have Bg:=hid ho;have cH:=hid (cH.out.trans hb);clear ho hb hk;go_simp;refine hK.out _ _ trivial (fun hHeld => ?_);clear hK
        refine' tkw 14 (v:=_) rfl (by kernel_rfl) (by kernel_rfl) trivial (fun _ _ _ h=>h) ?_ ?_
        rotate_left
        ·intro w hSw;(try dsimp only at hSw);go_simp;(try with_reducible rfl)
        try simp only[Act.put,List.setIfInBounds_toArray,List.set_cons_zero,List.set_cons_succ]
        refine wpAnyH_done (by kernel_rfl) ?_ _;go_wp2_with fail
        all_goals(go_ret;exact⟨⟨v13,rfl,by rw[List.append_cons];exact Bg.out⟩,cH.out⟩)
       exact AllReadyH.nil
      exact AllReadyH.nil
     exact AllReadyH.nil
    exact AllReadyH.nil
   refine AllReadyH.cons rfl (fun K hK => ?_) ?_
   ·go_simp
    have nR:Hid (qbm (w.drew.alloc (.cells #[.string k,.string (rt d)] 58)) w.heap.size 0 ([(k,d)].map rtS)):=hid (ql7 w.drew k d _);have cH:Hid (Below w.heap.size w (w.drew.alloc (.cells #[.string k,.string (rt d)] 58))):=hid ((qaa w.heap.size w).drew.alloc (qac _) _);refine hK.out _ _ trivial (fun hHeld => ?_);clear hK;refine wpAnyH_ready (rs:=[0]) (by kernel_rfl) (by simp) ?_;refine AllReadyH.cons rfl (fun K hK => ?_) ?_
    ·go_simp
     have HE:Hid (qm5 w.heap.size ((w.drew.alloc (.cells #[.string k,.string (rt d)] 58)).alloc (.cells #[] 58)) (.slice (some ⟨w.heap.size+1,0,none⟩) 0 0) []):=hid (by have h:=qsh w.heap.size (w.drew.alloc (.cells #[.string k,.string (rt d)] 58)) (by rw[qab];exact Nat.le_succ _);rw[qab] at h;exact h);have nR:=hid (qbm.later nR.out ((qaa _ _).alloc (qac _) (.cells #[] 58)));have cH:=hid (cH.out.alloc cH.out.size (.cells #[] 58));refine hK.out _ _ trivial (fun hHeld => ?_);clear hK;refine wpAnyH_ready (rs:=[4]) (by kernel_rfl) (by simp) ?_;refine AllReadyH.cons rfl (fun K hK => ?_) ?_
     ·refine qcj (by rfl) _ _ (by rfl) _ w.heap.size (.slice (some ⟨(w.heap.size+1),0,none⟩) 0 0) _ [] A (by rfl) HE.out cH.out.size (by rfl) (dN.out _ cH.out) (Nat.zero_le _) xW.out.1 ?_
      intro v4 w4 ho hb hk;have tR:Hid (qm5 w.heap.size w4 v4 A):=hid ho;have nR:=hid (hk _ _ _ nR.out (by simp[Value.ownBlock]));have cH:=hid (cH.out.trans hb);clear ho hb hk;go_simp;refine hK.out _ _ trivial (fun hHeld => ?_);clear hK;refine wpAnyH_ready (rs:=[9]) (by kernel_rfl) (by simp) ?_;refine AllReadyH.cons rfl (fun K hK => ?_) ?_
      ·refine qcj (by rfl) _ _ (by rfl) _ w.heap.size v4 (.slice (some ⟨w.heap.size,0,none⟩) 1 1) A [(k,d)] (by rfl) tR.out cH.out.size (by rfl) (.inr ⟨_,0,1,rfl,nR.out⟩) xW.out.1 (by simp) ?_
       intro v9 w9 ho hb hk;have Ir:=hid ho;have cH:=hid (cH.out.trans hb);clear ho hb hk;go_simp;refine hK.out _ _ trivial (fun hHeld => ?_);clear hK;refine wpAnyH_ready (rs:=[13]) (by kernel_rfl) (by simp) ?_;refine AllReadyH.cons rfl (fun K hK => ?_) ?_
       ·refine qcj (by rfl) _ _ (by rfl) _ w.heap.size v9 _ _ B (by rfl) Ir.out cH.out.size (by rfl) (cL.out _ cH.out) xW.out.2.2 xW.out.2.1 ?_
        intro v13 w13 ho hb hk;have Bg:=hid ho;have cH:=hid (cH.out.trans hb);clear ho hb hk;go_simp;refine hK.out _ _ trivial (fun hHeld => ?_);clear hK
        refine' tkw 14 (v:=_) rfl (by kernel_rfl) (by kernel_rfl) trivial (fun _ _ _ h=>h) ?_ ?_
        rotate_left
        ·intro w hSw;(try dsimp only at hSw);go_simp;(try with_reducible rfl)
        try simp only[Act.put,List.setIfInBounds_toArray,List.set_cons_zero,List.set_cons_succ]
        refine wpAnyH_done (by kernel_rfl) ?_ _;go_wp2_with fail
        all_goals(go_ret;exact⟨⟨v13,rfl,by rw[List.append_cons];exact Bg.out⟩,cH.out⟩)
       exact AllReadyH.nil
      exact AllReadyH.nil
     exact AllReadyH.nil
    exact AllReadyH.nil
   exact AllReadyH.nil
theorem q4a(g c i:Nat)(L:QL)(k:BA)(q d:Rat)(w:World)(hp:L[i]? = some (k,q))(hn:L.length≤c)(hc:c≤maxLen)(aB:qbm w g 0 (L.map rtS))(Bf:Hid (q8z w (some ⟨g,0,none⟩) k i))(hL:L.length≤1000000)(s1:sm q 500)(s2:sm d 500):
  Calls Tryz.prog 81 #[.slice (some ⟨g,0,none⟩) L.length c,.string k,.string (rt d)] w fun e w'=>(∃v',e = .returned v'∧LV w' v' (L.take i++(k,q+d)::L.drop (i+1)))∧Below w.heap.size w w':=by
 have hi:i<L.length:=(List.getElem?_eq_some_iff.1 hp).1
 have wK:Hid (∀g2 c2 W,L.length≤c2→c2≤maxLen→w.heap.size≤g2→Own W g2 (L.length*2) (fun i=>(qnr L).getD i (.bool false))→Below w.heap.size w W→(∃v'',Ending.returned (.slice (some ⟨g2,0,none⟩) L.length c2) = .returned v''∧LV (W.setCell ⟨g2,i*2+1,none⟩ (.string (rt (q+d)))) v'' (L.take i++(k,q+d)::L.drop (i+1)))∧Below w.heap.size w (W.setCell ⟨g2,i*2+1,none⟩ (.string (rt (q+d))))):=hid fun g2 c2 W h1 h2 h3 h4 h5=>by
  have hl:(L.take i++(k,q+d)::L.drop (i+1)).length=L.length:=by
   rw[List.length_append,List.length_take,List.length_cons,List.length_drop];omega
  exact⟨⟨_,rfl,.inr ⟨g2,c2,by rw[hl],by omega,by omega,h2,q0c (p:=(k,q)) h4 hp⟩⟩,h5.setCell (p:=⟨g2,i*2+1,none⟩) h3 _⟩
 have tJ:=hid fun W=>q27 q d 500 W s1 s2 (by decide);have HE:=hid (qsh w.heap.size w (qac _));have HEB:Hid (Below w.heap.size w (w.alloc (.cells #[] 58))):=hid (qad _ _);have HCG:=hid (ql6 L i _ hp);have kQ:=hid (show L≠[] by rintro rfl;exact absurd hi (Nat.not_lt_zero _));have bL:=hid aB;have HC:=hid hc;obtain⟨x0,-⟩:=aB i (rtS (k,q)) (by rw[List.getElem?_map,hp];rfl);rw[Nat.zero_add] at x0;have x1:w.cell? ⟨g,i*2,none⟩=some (.string k):=x0;have dS:Op.bytesLess k.toList k.toList=false:=ql3 k;have Cc:(0:Int)≤(i:Int):=by omega
 have tO:(i:Int)<(L.length:Int):=by omega
 have Nd:decide ((i:Int)<(L.length:Int))=true:=qag tO;unfold maxLen at hc;unfold qq0 at tJ;clear hp aB s1 s2 x0;generalize rt (q+d)=ts at *;generalize rt q=p2 at *;generalize rt d=dt at *;go_enter Tryz.func81,Tryz.ntmps81;go_wp2_with fail
 go_loop [7] (fun s=>∃j:Nat,j≤i∧s = .int .i64 j) (fun s=>i-(intOf s).toNat)
 case atStart=>exact⟨0,Nat.zero_le _,rfl⟩
 case round=>
  obtain⟨j,hj,rfl⟩:=hrel;by_cases aY:j<i
  ·obtain⟨g',p',hpg,y0,hb⟩:=Bf.out j aY
   have Is:(0:Int)≤(j:Int):=by omega
   have Bu:(j:Int)<(L.length:Int):=by omega
   have hj2:decide ((j:Int)<(L.length:Int))=true:=qag Bu;clear Bf;cases hpg
   go_wp2_with fail;go_round
   case rel=>exact⟨j+1,by omega,by go_num⟩
   case measure=>simp[intOf];omega
  obtain rfl:j=i:=by omega
  clear Bf aY;go_wp2_with (at_builtin;refine zag rfl _ _ rfl _ w.heap.size (.slice (some ⟨w.heap.size,0,none⟩) 0 0) [] L g 0 c rfl HE.out HEB.out.size rfl (bL.out.later HEB.out) (Nat.zero_le _) (by omega) ?_);intro v' w' ho aR;obtain⟨g2,c2,rfl,h1,h2,h3,h4,h5⟩:=q38 ho kQ.out;have aK:=hid (HEB.out.trans aR);have lT:=hid h5;have HG:=hid (show w.heap.size≤g2∧L.length≤c2∧c2≤maxLen from⟨h1,h3,h4⟩);have hm:w'.cell? ⟨g2,j*2+1,none⟩=some ((qnr L).getD (j*2+1) (.bool false)):=(h5.2 (j*2+1) (by omega)).1;rw[qba,HCG.out.2,Option.getD_some] at hm;clear ho aR h1 h2 h3 h4 h5 HCG;go_wp2_with fail;refine(tJ.out _).mono ?_;rintro e w3 ⟨rfl,cN⟩;have bR:=hid (aK.out.trans (cN.mono aK.out.size));have qC:=hid (lT.out.later (cN.mono lT.out.1));obtain⟨fL,hf2⟩:=qC.out.2 (j*2+1) (by omega);clear hm cN tJ lT aK;go_wp2_with fail;go_ret;exact wK.out g2 c2 w3 HG.out.2.1 HG.out.2.2 HG.out.1 qC.out bR.out
theorem q4b(v:Value)(L:QL)(k:BA)(d:Rat)(w:World)(hv:LV w v L)(hL:L.length≤1000000)(Bw:SmL L 500)(hd:sm d 500):
  Calls Tryz.prog 81 #[v,.string k,.string (rt d)] w fun e w'=>(∃v',e = .returned v'∧LV w' v' (ql4 L k d))∧Below w.heap.size w w':=by
 obtain⟨i,hi,Gt,Kv⟩:=qul k L;obtain⟨q1,q2⟩:=q33 k d L i Gt
 have kG:∀ {w' v' M},ql4 L k d=M→qm5 w.heap.size w' v' M→LV w' v' (ql4 L k d):=fun{w' v' M} hM ho=>by
  have hne:M≠[]:=by rw[←hM];exact q8y k d L
  obtain⟨g,c,h1,h2,h3,h4,h5,h6⟩:=qpy ho hne;rw[hM];exact .inr ⟨g,c,h1,h3,h4,h5,h6⟩
 have dY:Hid ((L.take i).length≤1048576∧(L.drop i).length≤1048576∧(L.take i++[(k,d)]).length≤1048576):=hid (by
  rw[List.length_append,List.length_singleton,List.length_take,List.length_drop]
  omega)
 rcases hv with⟨rfl,rfl⟩|⟨g,c,rfl,rT,bO,bG,aB⟩
 ·obtain rfl:i=0:=by simpa using hi
  refine(qwl none 0 0 0 k d [] [] w (qac _) (qac _) (by decide) (hid fun j hj=>absurd hj (Nat.not_lt_zero _)) (.inl rfl) (hid fun _ _ => .inl ⟨rfl,rfl⟩) (hid fun _ _ => .inl ⟨rfl,rfl⟩) (hid ⟨by simp,by simp,by simp⟩)).mono ?_;rintro e w' ⟨⟨v',rfl,ho⟩,hb⟩;exact⟨⟨v',rfl,kG (q2 (.inl rfl) (qac _)) ho⟩,hb⟩
 ·have Bf:Hid (q8z w (some ⟨g,0,none⟩) k i):=hid fun j hj=>by
   obtain⟨p,hp⟩:∃p,L[j]? = some p:=⟨_,qap (by omega)⟩;obtain⟨e0,-⟩:=aB j (rtS p) (by rw[List.getElem?_map,hp];rfl);rw[Nat.zero_add] at e0;exact⟨g,p.1,rfl,e0,Gt j p hj hp⟩
  have dN:Hid (∀W,Below w.heap.size w W→ShV W (.slice (some ⟨g,0,none⟩) i c) (L.take i)):=hid fun W hW => .inr ⟨g,0,c,by rw[List.length_take,Nat.min_eq_left hi],fun j s hj=>(aB.later hW) j s (by
   rw[List.map_take,List.getElem?_take] at hj;split at hj
   ·exact hj
   ·cases hj)⟩
  have cL:Hid (∀W,Below w.heap.size w W→ShV W (.slice (if c=i then some ⟨g,0,none⟩ else(some (⟨g,0,none⟩:Addr)).map fun x=>x.add (i*2)) (L.length-i) (c-i)) (L.drop i)):=hid fun W hW=>by
   by_cases pH:c=i
   ·rw[if_pos pH]
    refine .inr ⟨g,0,c-i,by rw[List.length_drop],fun j s hj => ?_⟩;rw[List.drop_eq_nil_of_le (by omega)] at hj;simp at hj
   ·rw[if_neg pH,Option.map_some,Addr.add_lit,Nat.zero_add]
    refine .inr ⟨g,i*2,c-i,by rw[List.length_drop],fun j s hj => ?_⟩;rw[List.map_drop,List.getElem?_drop] at hj;have h:=(aB.later hW) (i+j) s hj;rw[Nat.zero_add,Nat.add_mul] at h;exact h
  rcases Kv with Kv|⟨p,hp,hb⟩
  ·refine(qwl _ L.length c i k d _ _ w hi bO (by unfold maxLen at bG;omega) Bf (.inl Kv) dN cL dY).mono ?_
   rintro e w' ⟨⟨v',rfl,ho⟩,hb⟩;exact⟨⟨v',rfl,kG (q2 (.inl (List.getElem?_eq_none (by omega))) hi) ho⟩,hb⟩
  ·by_cases he:p.1=k
   ·subst he
    rw[q1 p hp hb rfl];exact q4a g c i L p.1 p.2 d w hp bO bG aB Bf hL (Bw p (qbh hp)) hd
   ·have Eg:i<L.length:=(List.getElem?_eq_some_iff.1 hp).1
    obtain⟨e0,-⟩:=aB i (rtS p) (by rw[List.getElem?_map,hp];rfl);rw[Nat.zero_add] at e0;refine(qwl _ L.length c i k d _ _ w hi bO (by unfold maxLen at bG;omega) Bf (.inr ⟨Eg,g,p.1,rfl,e0,hb,qam fun e=>he (qca (by rw[←Lib.toList_data,←Lib.toList_data,e]))⟩) dN cL dY).mono ?_;rintro e w' ⟨⟨v',rfl,ho⟩,hb⟩;exact⟨⟨v',rfl,kG (q2 (.inr ⟨p,hp,by assumption,he⟩) hi) ho⟩,hb⟩
theorem qq5(v:Value)(l:List Lay)(w:World)(hv:qpa w v l)(aE:l.length≤64)
  (hx:∀x ∈ l,x.shares.length≤64∧0≤x.mass∧x.mass≤999999999∧∀s ∈ x.shares,s.2=rt (qcu s)∧sm (qcu s) 20)
  (Bw:∀k x j,l[k]? = some x→SmL (qgm x.mass (qd7 (l.take k)) (x.shares.take j)) 500)
  (Ba:∀k x j,l[k]? = some x→(qgm x.mass (qd7 (l.take k)) (x.shares.take j)).length≤1000000):
  Calls Tryz.prog 34 #[v] w fun e w'=>(∃v',e = .returned v'∧LV w' v' (qd7 l))∧Below w.heap.size w w':=by
 obtain⟨p,c,rfl,bO,bG,aA⟩:=hv;unfold maxLen at bG;have HC:=hid aA;have HX:=hid hx;have Bz:=hid Bw;have kQ:=hid Ba;clear aA hx Bw Ba;go_enter Tryz.func34,Tryz.ntmps34;go_wp2_with fail
 go_loopw [3,4] (fun ov i wr=>∃k:Nat,k≤l.length∧i = .int .i64 k∧Hid (LV wr ov (qd7 (l.take k)))∧Hid (Below w.heap.size w wr)) (fun _ i _=>l.length-(intOf i).toNat)
 case atStart=>exact⟨0,Nat.zero_le _,rfl,hid (.inl ⟨rfl,rfl⟩),hid (qaa _ _)⟩
 case round=>
  obtain⟨k,hk,rfl,HL,HB⟩:=hrel;by_cases aY:k<l.length
  ·rcases HC.out with h0|⟨b,o,rfl,aB⟩
   ·omega
   obtain⟨x,bV⟩:∃x,l[k]? = some x:=⟨_,qap aY⟩;obtain⟨-,e1,q,cq,e2,yM⟩:=aB k x bV;obtain⟨q',cq',hqe,uA,oE,Dj⟩:=yM;cases hqe
   obtain⟨hn64,mT,eU,Gu⟩:=HX.out x (qbh bV);have fW:Hid (qd7 (l.take (k+1))=qgm x.mass (qd7 (l.take k)) x.shares):=hid (by rw[qbl bV,qj4]);have HSMk:=hid fun j=>Bz.out k x j bV;have HLNk:=hid fun j=>kQ.out k x j bV
   have yG:Hid (∀W,Below w.heap.size w W→W.cell? ⟨b,o+k*3+1,none⟩=some (.int .i64 x.mass)∧W.cell? ⟨b,o+k*3+2,none⟩=some (.slice q x.shares.length cq)):=hid fun W hW=>by
    rw[hW.cell (qae w _ e1),hW.cell (qae w _ e2)];exact⟨e1,e2⟩
   have zT:=hid Gu;have oG:=hid Dj;have Cc:(0:Int)≤(k:Int):=by omega
   have tO:(k:Int)<(l.length:Int):=by omega
   unfold maxLen at oE;clear e1 e2 bV aB Gu Dj;generalize qd7 (l.take k)=L0 at *;generalize x.shares=ss at *;generalize x.mass=ms at *;have HF:=hid fun W=>qxw ms W mT (by omega);have jM:sm ((ms:Int):Rat) 9:=⟨by show ms.natAbs<10^9;omega,by show 1<10^9;decide⟩;have Su:=hid jM;clear jM;go_wp2_with fail
   go_loopw [3,5] (fun ov i wi=>∃j:Nat,j≤ss.length∧i = .int .i64 j∧Hid (LV wi ov (qgm ms L0 (ss.take j)))∧Hid (Below w.heap.size w wi)) (fun _ i _=>ss.length-(intOf i).toNat)
   case atStart=>exact⟨0,Nat.zero_le _,rfl,HL,HB⟩
   case round=>
    obtain⟨j,hj,rfl,uU,aK⟩:=hrel;clear HL HB;have eC:=yG.out _ aK.out;by_cases yD:j<ss.length
    ·rcases oG.out with h0|⟨b2,o2,rfl,sJ⟩
     ·omega
     obtain⟨s,hs⟩:∃s,ss[j]? = some s:=⟨_,qap yD⟩;obtain⟨f0,f1⟩:=sJ j s hs;obtain⟨fS,hpq⟩:=zT.out s (qbh hs)
     have bA:Hid (∀W,Below w.heap.size w W→W.cell? ⟨b,o+k*3+1,none⟩=some (.int .i64 ms)∧W.cell? ⟨b,o+k*3+2,none⟩=some (.slice (some ⟨b2,o2,none⟩) ss.length cq)∧W.cell? ⟨b2,o2+j*2,none⟩=some (.string s.1)∧W.cell? ⟨b2,o2+j*2+1,none⟩=some (.string s.2)):=hid fun W hW=>by
      obtain⟨a1,a2⟩:=yG.out W hW;rw[hW.cell (qae w _ f0),hW.cell (qae w _ f1)];exact⟨a1,a2,f0,f1⟩
     have HM:=hid fun W=>q63 (qcu s) ((ms:Int):Rat) 100 W (qek hpq (by decide)) (qek Su.out (by decide)) (by decide);rw[←fS] at HM;have HPU:=hid fun ov W hW=>q4b ov (qgm ms L0 (ss.take j)) s.1 (qcu s*((ms:Int):Rat)) W hW (HLNk.out j) (HSMk.out j) (qek (q2w hpq Su.out) (by decide));have iW:Hid (ql4 (qgm ms L0 (ss.take j)) s.1 (qcu s*((ms:Int):Rat))=qgm ms L0 (ss.take (j+1))):=hid (by rw[qbl hs,qq4]);rw[iW.out] at HPU;obtain⟨Lk,hLk⟩:∃t,qgm ms L0 (ss.take (j+1))=t:=⟨_,rfl⟩;have HLK:=hid hLk;rw[hLk] at HPU iW;unfold qq0 at HF HM;have Sv:=hid (uU.out.later (qaa _ _).drew);have cH:=hid aK.out.drew;have Is:(0:Int)≤(j:Int):=by omega
     have Bu:(j:Int)<(ss.length:Int):=by omega
     clear hs sJ f0 f1 fS hpq iW uU aK hLk;generalize qgm ms L0 (ss.take j)=Lj at *;generalize rt (qcu s*((ms:Int):Rat))=tm at *;generalize rt ((ms:Int):Rat)=tx at *;generalize s.2=s2 at *;generalize s.1=s1 at *;have eZ:=bA.out _ cH.out;go_wp2_with fail
     go_region_held3 (fun W=>W.cell? ⟨b,o+k*3+1,none⟩=some (.int .i64 ms)∧W.cell? ⟨b,o+k*3+2,none⟩=some (.slice (some ⟨b2,o2,none⟩) ss.length cq)∧W.cell? ⟨b2,o2+j*2,none⟩=some (.string s1)∧W.cell? ⟨b2,o2+j*2+1,none⟩=some (.string s2)) (exact bA.out _ cH.out)
      (first
       | (go_at_call 36;((with_reducible refine(HF.out _).mono ?_);rintro e wA ⟨rfl,hb⟩;have Sv:=hid (Sv.out.later hb);have cH:=hid (cH.out.trans (hb.mono cH.out.size));clear hb))
       | (go_at_call 82;((with_reducible refine(HM.out _).mono ?_);rintro e wB ⟨rfl,hb⟩;have Sv:=hid (Sv.out.later hb);have cH:=hid (cH.out.trans (hb.mono cH.out.size));clear hb))
       | (go_at_call 81;((with_reducible refine(HPU.out _ _ Sv.out).mono ?_);rintro e wC ⟨⟨v',rfl,hl⟩,hb⟩;have lF:=hid hl;have cH:=hid (cH.out.trans (hb.mono cH.out.size));clear hb hl)))
     all_goals
      go_wp2_with fail;go_roundw
      case rel=>exact⟨j+1,by omega,by go_num,hid (by rw[HLK.out];exact lF.out),cH⟩
      case measure=>simp[intOf];omega
    ·have lC:j=ss.length:=by omega
     have HL3:=uU;rw[lC,List.take_length,←fW.out] at HL3;clear lC uU oG zT;go_wp2_with fail;go_roundw
     case rel=>exact⟨k+1,by omega,by go_num,HL3,aK⟩
     case measure=>simp[intOf];omega
  ·have iM:k=l.length:=by omega
   rw[iM,List.take_length] at HL;clear iM;go_wp2_with fail;go_ret;exact⟨⟨_,rfl,HL.out⟩,HB.out⟩
end Go.Proofs.YtlkdlffhmakbgaaGreatDoor
