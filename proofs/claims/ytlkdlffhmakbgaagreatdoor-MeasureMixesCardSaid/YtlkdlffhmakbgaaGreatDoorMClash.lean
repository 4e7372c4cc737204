/- MulSpans. -/
import Derived.Test.YtlkdlffhmakbgaaGreatDoorMNv
import Derived.Test.YtlkdlffhmakbgaaGreatDoorMMinMax
import Derived.Deep.LoopGhost
import Derived.Outline
set_option linter.all false
namespace Go.Proofs.YtlkdlffhmakbgaaGreatDoor
open Go.RowKit
set_option maxRecDepth 100000
set_option maxHeartbeats 8000000
theorem qkc(f:Rat→Rat→Rat)(hf:∀m a,f m a=m∨f m a=a)(l:List Rat)(m:Rat):l.foldl f m=m∨l.foldl f m ∈ l:=by
 induction l generalizing m with
 | nil=>exact .inl rfl
 | cons a l ih=>
  rw[List.foldl_cons];rcases ih (f m a) with h|h
  ·rw[h]
   rcases hf m a with e|e
   ·exact .inl e
   ·rw[e];exact .inr (by simp)
  ·exact .inr (List.mem_cons_of_mem _ h)
theorem q5x(l:List Rat)(h:l≠[]):qln l ∈ l:=by
 cases l with
 | nil=>exact absurd rfl h
 | cons q l=>
  rcases qkc (fun m a=>if a<m then a else m) (fun m a=>by split<;>simp) l q with e|e
  ·show List.foldl _ q l ∈ _;rw[e];simp
  ·exact List.mem_cons_of_mem _ e
theorem q5y(l:List Rat)(h:l≠[]):qky l ∈ l:=by
 cases l with
 | nil=>exact absurd rfl h
 | cons q l=>
  rcases qkc (fun m a=>if m<a then a else m) (fun m a=>by split<;>simp) l q with e|e
  ·show List.foldl _ q l ∈ _;rw[e];simp
  ·exact List.mem_cons_of_mem _ e
theorem q3b{a b c d:Rat}{m:Nat}(ba:bd a m)(bb:bd b m)(bc:bd c m)(bdd:bd d m):∀p ∈ [a*c,a*d,b*c,b*d],bd p (m+m):=by
 intro p hp;simp only[List.mem_cons,List.not_mem_nil,or_false] at hp;rcases hp with rfl|rfl|rfl|rfl
 ·exact qe3 ba bc
 ·exact qe3 ba bdd
 ·exact qe3 bb bc
 ·exact qe3 bb bdd
theorem qpk(a b:BA × BA)(w:World)(hg:GW w)(ha:a.1.size≤1073741824∧a.2.size≤1073741824)(hb:b.1.size≤1073741824∧b.2.size≤1073741824):
  Calls Tryz.prog 48 #[.agg #[.string a.1,.string a.2],.agg #[.string b.1,.string b.2],.func (.func 49) #[] #[]] w (qkq (qln [(spQ a).1*(spQ b).1,(spQ a).1*(spQ b).2,(spQ a).2*(spQ b).1,(spQ a).2*(spQ b).2]) (qky [(spQ a).1*(spQ b).1,(spQ a).1*(spQ b).2,(spQ a).2*(spQ b).1,(spQ a).2*(spQ b).2]) a b w):=by
 have aM:=hid (qxf w a b 46 46 46);have dK:=q7s w (.cells #[.string a.1,.string a.2] 46) (.cells #[.string b.1,.string b.2] 46) (.cells #[.string ⟨#[]⟩,.string ⟨#[]⟩] 46);have Mf:=hid (q7t aM.out dK hg ha hb);obtain⟨s0,s1⟩:=qaq aM.out.2.1;obtain⟨s2,s3⟩:=qaq aM.out.2.2.1;by_cases h0:qaj [qdh a,qdh b]=0
 ·have aF:Hid (∀e w',qe9 (qln [(spQ a).1*(spQ b).1,(spQ a).1*(spQ b).2,(spQ a).2*(spQ b).1,(spQ a).2*(spQ b).2]) (qky [(spQ a).1*(spQ b).1,(spQ a).1*(spQ b).2,(spQ a).2*(spQ b).1,(spQ a).2*(spQ b).2]) w e w'→qkq (qln [(spQ a).1*(spQ b).1,(spQ a).1*(spQ b).2,(spQ a).2*(spQ b).1,(spQ a).2*(spQ b).2]) (qky [(spQ a).1*(spQ b).1,(spQ a).1*(spQ b).2,(spQ a).2*(spQ b).1,(spQ a).2*(spQ b).2]) a b w e w'):=hid fun e w' h=>by
   unfold qkq;rw[if_neg (by omega)];exact h
  simp only[if_pos h0] at Mf;obtain⟨e1,e2⟩:=qmu h0;obtain⟨ba1,ba2,_⟩:=qrs e1;obtain⟨bb1,bb2,_⟩:=qrs e2
  have Jd:Hid (∀W va vb,qgl W va (spQ a).1 (spQ a).2→qgl W vb (spQ b).1 (spQ b).2→Calls Tryz.prog 49 #[va,vb] W fun e w'=>(∃v',e = .returned v'∧qgl w' v' (qln [(spQ a).1*(spQ b).1,(spQ a).1*(spQ b).2,(spQ a).2*(spQ b).1,(spQ a).2*(spQ b).2]) (qky [(spQ a).1*(spQ b).1,(spQ a).1*(spQ b).2,(spQ a).2*(spQ b).1,(spQ a).2*(spQ b).2]))∧Below W.heap.size W w'):=
   hid fun W va vb uQ tN=>qvm va vb _ _ _ _ W 600 uQ tN ba1 ba2 bb1 bb2 (by omega)
  have Bt:Hid (∀W v,qgl W v (qln [(spQ a).1*(spQ b).1,(spQ a).1*(spQ b).2,(spQ a).2*(spQ b).1,(spQ a).2*(spQ b).2]) (qky [(spQ a).1*(spQ b).1,(spQ a).1*(spQ b).2,(spQ a).2*(spQ b).1,(spQ a).2*(spQ b).2])→Calls Tryz.prog 56 #[v] W (qe9 (qln [(spQ a).1*(spQ b).1,(spQ a).1*(spQ b).2,(spQ a).2*(spQ b).1,(spQ a).2*(spQ b).2]) (qky [(spQ a).1*(spQ b).1,(spQ a).1*(spQ b).2,(spQ a).2*(spQ b).1,(spQ a).2*(spQ b).2]) W)):=hid fun W v hv=>qll v _ _ W hv (by have:=(q3b ba1 ba2 bb1 bb2 _ (q5x _ (by simp))).rs;unfold Cap;omega) (by have:=(q3b ba1 ba2 bb1 bb2 _ (q5y _ (by simp))).rs;unfold Cap;omega);clear hg ha hb h0 dK aM ba1 ba2 bb1 bb2 e1 e2;generalize qln [(spQ a).1*(spQ b).1,(spQ a).1*(spQ b).2,(spQ a).2*(spQ b).1,(spQ a).2*(spQ b).2]=rlo at *;generalize qky [(spQ a).1*(spQ b).1,(spQ a).1*(spQ b).2,(spQ a).2*(spQ b).1,(spQ a).2*(spQ b).2]=rhi at *;go_enter Tryz.func48,Tryz.ntmps48;go_wp2_with fail;clear s0 s1 s2 s3;refine Mf.out.mono ?_;rintro e w1 ⟨⟨g,Do,rfl,hr⟩,hw⟩;obtain⟨x,y,x',y',hc,uQ,tN⟩:=q1u hr;have hd:Below w1.heap.size w1 w1.drew:=(qaa _ _).drew;have HC:=hid hc;have fR:=hc w1 (qaa _ _);have fB:=hid (Jd.out w1.drew _ _ (uQ.later hd) (tN.later hd));have dN:=hid hw;have eO:=hid hd;obtain⟨q0,q1,q2,q3,q4,q5,q6,q7,q8,q9,q10,q11⟩:=id fR;clear hr hw uQ tN hc hd Mf Jd;go_wp2_with fail
  go_region_held3 (fun W=>W.cell? ⟨g,0,none⟩=some (.bool x.b)∧W.cell? ⟨g,1,none⟩=some (.slice x.p x.k x.c)∧W.cell? ⟨g,2,none⟩=some (.slice x.q x.j x.d)∧W.cell? ⟨g,3,none⟩=some (.bool y.b)∧W.cell? ⟨g,4,none⟩=some (.slice y.p y.k y.c)∧W.cell? ⟨g,5,none⟩=some (.slice y.q y.j y.d)∧W.cell? ⟨g,6,none⟩=some (.bool x'.b)∧W.cell? ⟨g,7,none⟩=some (.slice x'.p x'.k x'.c)∧W.cell? ⟨g,8,none⟩=some (.slice x'.q x'.j x'.d)∧W.cell? ⟨g,9,none⟩=some (.bool y'.b)∧W.cell? ⟨g,10,none⟩=some (.slice y'.p y'.k y'.c)∧W.cell? ⟨g,11,none⟩=some (.slice y'.q y'.j y'.d)) (first|with_reducible exact qvi hcc3 (by omega) _ _|with_reducible exact HC.out _ xR.out|with_reducible exact HC.out _ jQ.out|exact fR)
   (first|(go_at_call 49;refine fB.out.mono ?_;rintro e w2 ⟨⟨v2,rfl,qD⟩,aR⟩;obtain⟨z1,z2,rfl,_,_⟩:=qD.nv;have cO:=hid qD;have jQ:Hid (Below w1.heap.size w1 w2):=hid (eO.out.trans (aR.mono eO.out.size));clear qD aR)|(go_at_call 56;refine(Bt.out _ _ cO.out).mono ?_;rintro e w3 h;obtain⟨t1,t2,ec,rfl,h2⟩:=qjb h;have xR:Hid (Below w1.heap.size w1 w3):=hid (jQ.out.trans (h2.2.mono jQ.out.size));have wK:=hid h2;have Bl:=hid (dN.out.later xR.out);have hcc3:=HC.out _ xR.out;obtain⟨⟨r0,g0⟩,⟨r1,g1⟩⟩:=qh4 Bl.out.2.2.2;clear h h2))
  all_goals
   have HB:=hid (qhi Bl.out.1 (show w.heap.size≤w.heap.size+1+1 by omega) (.string t1) (.string t2));go_wp2_with fail;refine bodyPost_ret (v := .tuple #[.agg #[.string t1,.string t2],.int .i64 ec]) ?_ rfl ?_
   ·simp[results,Tryz.results48,go_sem,r0,r1]
   ·exact aF.out _ _ ⟨wK.out.1,HB.out⟩
 ·have aF:Hid (∀w',Below w.heap.size w w'→qkq (qln [(spQ a).1*(spQ b).1,(spQ a).1*(spQ b).2,(spQ a).2*(spQ b).1,(spQ a).2*(spQ b).2]) (qky [(spQ a).1*(spQ b).1,(spQ a).1*(spQ b).2,(spQ a).2*(spQ b).1,(spQ a).2*(spQ b).2]) a b w (.returned (.tuple #[.agg #[.string ⟨#[]⟩,.string ⟨#[]⟩],.int .i64 (qaj [qdh a,qdh b]:Nat)])) w'):=hid fun w' h=>by
   unfold qkq;rw[if_pos h0];exact⟨rfl,h⟩
  simp only[if_neg h0] at Mf;have dS:((qaj [qdh a,qdh b]:Int)==0)=false:=qam (by omega);clear hg ha hb h0 dK aM;generalize qaj [qdh a,qdh b]=ck at *;go_enter Tryz.func48,Tryz.ntmps48;go_wp2_with fail;clear s0 s1 s2 s3;refine Mf.out.mono ?_;rintro e w1 ⟨rfl,hw⟩;obtain⟨⟨r0,g0⟩,⟨r1,g1⟩⟩:=qh4 hw.2.2.2;have HB:=hid (qhi hw.1 (show w.heap.size≤w.heap.size+1+1 by omega) (.string ⟨#[]⟩) (.string ⟨#[]⟩));clear hw Mf;go_wp2_with fail;refine bodyPost_ret (v := .tuple #[.agg #[.string ⟨#[]⟩,.string ⟨#[]⟩],.int .i64 ck]) ?_ rfl ?_
  ·simp[results,Tryz.results48,go_sem,r0,r1]
  ·exact aF.out _ HB.out
theorem qt8(a b:BA × BA)(w:World)(hg:GW w)(ha:a.1.size≤1073741824∧a.2.size≤1073741824)(hb:b.1.size≤1073741824∧b.2.size≤1073741824):
  Calls Tryz.prog 16 #[.agg #[.string a.1,.string a.2],.agg #[.string b.1,.string b.2]] w (qkq (qln [(spQ a).1*(spQ b).1,(spQ a).1*(spQ b).2,(spQ a).2*(spQ b).1,(spQ a).2*(spQ b).2]) (qky [(spQ a).1*(spQ b).1,(spQ a).1*(spQ b).2,(spQ a).2*(spQ b).1,(spQ a).2*(spQ b).2]) a b w):=by
 have aM:=hid (qxf w a b 46 46 46);have fE:=hid (qpk a b _ (hg.later aM.out.1) ha hb);obtain⟨s0,s1⟩:=qaq aM.out.2.1;obtain⟨s2,s3⟩:=qaq aM.out.2.2.1;clear hg ha hb;have aF:Hid (∀W w1 w' t1 t2 ec,qkq (qln [(spQ a).1*(spQ b).1,(spQ a).1*(spQ b).2,(spQ a).2*(spQ b).1,(spQ a).2*(spQ b).2]) (qky [(spQ a).1*(spQ b).1,(spQ a).1*(spQ b).2,(spQ a).2*(spQ b).1,(spQ a).2*(spQ b).2]) a b W (.returned (.tuple #[.agg #[.string t1,.string t2],.int .i64 ec])) w1→Below w.heap.size w w'→qkq (qln [(spQ a).1*(spQ b).1,(spQ a).1*(spQ b).2,(spQ a).2*(spQ b).1,(spQ a).2*(spQ b).2]) (qky [(spQ a).1*(spQ b).1,(spQ a).1*(spQ b).2,(spQ a).2*(spQ b).1,(spQ a).2*(spQ b).2]) a b w (.returned (.tuple #[.agg #[.string t1,.string t2],.int .i64 ec])) w'):=hid fun W w1 w' t1 t2 ec h hb=>qzg h hb;generalize qln [(spQ a).1*(spQ b).1,(spQ a).1*(spQ b).2,(spQ a).2*(spQ b).1,(spQ a).2*(spQ b).2]=rlo at *;generalize qky [(spQ a).1*(spQ b).1,(spQ a).1*(spQ b).2,(spQ a).2*(spQ b).1,(spQ a).2*(spQ b).2]=rhi at *;go_enter Tryz.func16,Tryz.ntmps16;go_wp2_with fail;refine fE.out.mono ?_;rintro e w1 h;obtain⟨t1,t2,ec,rfl,h2,hb⟩:=qzf h;have HF:=hid h2;have dN:=hid (aM.out.later hb);obtain⟨⟨r0,g0⟩,⟨r1,g1⟩⟩:=qh4 dN.out.2.2.2;have HB:=hid (qhi dN.out.1 (show w.heap.size≤w.heap.size+1+1 by omega) (.string t1) (.string t2));clear h h2 hb fE s0 s1 s2 s3;go_wp2_with fail;refine bodyPost_ret (v := .tuple #[.agg #[.string t1,.string t2],.int .i64 ec]) ?_ rfl ?_
 ·simp[results,Tryz.results16,go_sem,r0,r1]
 ·exact aF.out _ _ _ _ _ _ HF.out HB.out
def qin(p q:Rat × Rat):Bool:=decide (p.2<q.1)||decide (q.2<p.1)
def qm2(l:List (Rat × Rat))(i k:Nat):Prop:=
 i<k∧k<l.length∧qin (l.getD i (0,0)) (l.getD k (0,0))=true∧(∀j,i<j→j<k→qin (l.getD i (0,0)) (l.getD j (0,0))=false)∧∀h j,h<i→h<j→j<l.length→qin (l.getD h (0,0)) (l.getD j (0,0))=false
def qwc(l:List (Rat × Rat)):Prop:=∀h j,h<j→j<l.length→qin (l.getD h (0,0)) (l.getD j (0,0))=false
def qjh(l:List (BA × BA))(w:World)(e:Ending)(w':World):Prop:=
 (if qb7 l≠0 then e = .returned (.tuple #[.int .i64 0,.int .i64 0,.int .i64 (qb7 l:Nat)])
  else(∃i k,qm2 (l.map spQ) i k∧e = .returned (.tuple #[.int .i64 (i:Nat),.int .i64 (k:Nat),.int .i64 0]))∨(qwc (l.map spQ)∧e = .returned (.tuple #[.int .i64 0,.int .i64 0,.int .i64 7])))∧Below w.heap.size w w'
theorem qjz{l:List Nat}(h:qaj l=0):∀x ∈ l,x=0:=by
 induction l with
 | nil=>simp
 | cons a l ih=>
  have h1:(if a=0 then qaj l else a)=0:=h;intro x hx;by_cases ha:a=0
  ·rw[if_pos ha] at h1
   rcases List.mem_cons.1 hx with rfl|hx
   ·exact ha
   ·exact ih h1 x hx
  ·rw[if_neg ha] at h1;exact absurd h1 ha
theorem qih{l:List (BA × BA)}(h:qb7 l=0):1≤l.length∧l.length≤256∧∀s ∈ l,qdh s=0:=by
 unfold qb7 at h;split at h
 ·cases h
 ·split at h
  ·cases h
  ·exact⟨by omega,by omega,fun s hs=>qjz h _ (List.mem_map_of_mem hs)⟩
theorem q3c{l:List (BA × BA)}(h:qb7 l=0)(i:Nat)(q:Rat × Rat)(hi:(l.map spQ)[i]? = some q):bd q.1 600∧bd q.2 600∧q.1≤q.2:=by
 rw[List.getElem?_map] at hi;cases hs:l[i]? with
 | none=>rw[hs] at hi;cases hi
 | some s=>
  rw[hs] at hi;cases hi
  exact qrs ((qih h).2.2 s (qbh hs))
theorem qn7(w:World)(x y:NV)(t:TypeId):qka (w.alloc (.cells #[.bool x.b,.slice x.p x.k x.c,.slice x.q x.j x.d,.bool y.b,.slice y.p y.k y.c,.slice y.q y.j y.d] t)) w.heap.size x y:=qko _ _ _ _ _ _ _ _
theorem qsa{W:World}{g cap:Nat}{l:List (Rat × Rat)}(h:qdg ivK W g cap l)(j:Nat)(q:Rat × Rat)(hj:l[j]? = some q):∃x y:NV,
  (W.cell? ⟨g,j*6,none⟩=some (.bool x.b)∧W.cell? ⟨g,j*6+1,none⟩=some (.slice x.p x.k x.c)∧W.cell? ⟨g,j*6+2,none⟩=some (.slice x.q x.j x.d)∧
   W.cell? ⟨g,j*6+3,none⟩=some (.bool y.b)∧W.cell? ⟨g,j*6+4,none⟩=some (.slice y.p y.k y.c)∧W.cell? ⟨g,j*6+5,none⟩=some (.slice y.q y.j y.d))∧
  qau W (.agg #[.bool x.b,.slice x.p x.k x.c,.slice x.q x.j x.d]) q.1∧qau W (.agg #[.bool y.b,.slice y.p y.k y.c,.slice y.q y.j y.d]) q.2:=by
 obtain⟨cs,⟨x,y,rfl,h1,h2⟩,hc⟩:=h.get j q hj;exact⟨x,y,⟨hc 0 _ rfl,hc 1 _ rfl,hc 2 _ rfl,hc 3 _ rfl,hc 4 _ rfl,hc 5 _ rfl⟩,h1,h2⟩
theorem q5z(v:Value)(l:List (BA × BA))(w:World)(hg:GW w)(hv:qc9 w v l)(hs:∀s ∈ l,s.1.size≤1073741824∧s.2.size≤1073741824)(h0:qb7 l=0):
  Calls Tryz.prog 17 #[v] w (qjh l w):=by
 have dU:=hid ((qh6 v l w hg hv hs).mono (R':=fun e w'=>(∃g,e = .returned (.tuple #[.slice (some ⟨g,0,none⟩) l.length l.length,.int .i64 0])∧qdg ivK w' g l.length (l.map spQ))∧Below w.heap.size w w') (fun e w' h=>by
  unfold qfv at h;rw[if_pos h0] at h;obtain⟨⟨g,_,he,hr⟩,hb⟩:=h
  exact⟨⟨g,he,hr⟩,hb⟩))
 obtain⟨p,c,rfl,bO,bG,aA⟩:=hv;obtain⟨mS,pN,_⟩:=qih h0;have eO:=hid (q3c h0)
 have aF:Hid (∀w',Below w.heap.size w w'→(∀(i k:Nat) (z:Int),qm2 (l.map spQ) i k→z=(k:Int)→qjh l w (.returned (.tuple #[.int .i64 (i:Nat),.int .i64 z,.int .i64 0])) w')∧(qwc (l.map spQ)→qjh l w (.returned (.tuple #[.int .i64 0,.int .i64 0,.int .i64 7])) w')):=hid fun w' hb=>by
  constructor
  ·rintro i k z h rfl
   unfold qjh;rw[if_neg (by omega)];exact⟨.inl ⟨i,k,h,rfl⟩,hb⟩
  ·intro h
   unfold qjh;rw[if_neg (by omega)];exact⟨.inr ⟨h,rfl⟩,hb⟩
 have aX:Hid ((l.map spQ).length=l.length):=hid (List.length_map _);clear aA hg hs h0;generalize l.map spQ=qs at *;generalize hn:l.length=n at *;clear hn;go_enter Tryz.func17,Tryz.ntmps17;go_wp2_with fail
 go_step3
 go_wp2_with fail;refine dU.out.mono ?_;rintro e w1 ⟨⟨g,rfl,hr⟩,hb⟩;have HR:=hid hr;have HB:=hid hb;clear hr hb dU;go_wp2_with fail
 go_step3
 go_wp2_with fail
 go_loopw [7,8,23] (fun s7 s8 i wr=>∃k:Nat,k≤n∧s7 = .int .i64 0∧s8 = .int .i64 0∧i = .int .i64 k∧Hid (Below w1.heap.size w1 wr)∧Hid (∀h j,h<k→h<j→j<n→qin (qs.getD h (0,0)) (qs.getD j (0,0))=false)) (fun _ _ i _=>n-(intOf i).toNat)
 case atStart=>exact⟨0,Nat.zero_le _,rfl,rfl,rfl,hid (qaa _ _),hid (fun h j hh=>by omega)⟩
 case round=>
  obtain⟨k,hk,rfl,rfl,rfl,bM,sR⟩:=hrel;obtain⟨wu,rfl⟩:∃wu:World,wu=wr:=⟨_,rfl⟩;by_cases iM:k<n
  ·obtain⟨q,hq⟩:∃q,qs[k]? = some q:=⟨qs[k]'(by rw[aX.out];exact iM),qap _⟩
   have Dx:=HR.out.later qfu bM.out;obtain⟨x,y,⟨a0,a1,a2,a3,a4,a5⟩,hx,hy⟩:=qsa Dx k q hq;obtain⟨wo,hwo⟩:∃wo:World,wo=wu.alloc (.cells #[.bool x.b,.slice x.p x.k x.c,.slice x.q x.j x.d,.bool y.b,.slice y.p y.k y.c,.slice y.q y.j y.d] 103):=⟨_,rfl⟩;have HQ:=hid hq;have aD:Below wu.heap.size wu wo:=by rw[hwo];exact qad _ _
   have HX:=hid (hx.later aD);have HY:=hid (hy.later aD);have Bq:Hid (qka wo wu.heap.size x y):=hid (by rw[hwo];exact qn7 _ _ _ _);have aP:=hid (bM.out.trans (aD.mono bM.out.size));have pS:=hid (Dx.later qfu aD);clear hq Dx hx hy aD;subst hwo;by_cases uB:k+1=n
   ·have Kf:Hid (∀h j,h<k+1→h<j→j<n→qin (qs.getD h (0,0)) (qs.getD j (0,0))=false):=hid (fun h j hh hj lC=>by
     rcases Nat.lt_or_ge h k with h1|h1
     ·exact sR.out h j h1 hj lC
     ·exfalso;omega)
    go_wp2_with fail
    go_loopw [7,8,33] (fun s7 s8 i wq=>s7 = .int .i64 0∧s8 = .int .i64 0∧i = .int .i64 0∧wq=(wu.alloc (.cells #[.bool x.b,.slice x.p x.k x.c,.slice x.q x.j x.d,.bool y.b,.slice y.p y.k y.c,.slice y.q y.j y.d] 103))) (fun _ _ _ _=>0)
    case atStart=>exact⟨rfl,rfl,rfl,rfl⟩
    case round=>
     obtain⟨rfl,rfl,rfl,rfl⟩:=hrel;go_wp2_with fail;go_roundw
     case rel=>exact⟨k+1,by omega,rfl,rfl,by go_num,aP,Kf⟩
     case measure=>simp[intOf];omega
   ·obtain⟨r,hr⟩:∃r,r=n-(k+1):=⟨_,rfl⟩
    have hrk:k+1+r=n:=by omega
    have HRK:=hid hr;go_wp2_with fail;simp only[←hr];clear hr a0 a1 a2 a3 a4 a5
    go_loopw [7,8,33] (fun s7 s8 i wq=>∃m:Nat,m≤r∧s7 = .int .i64 0∧s8 = .int .i64 0∧i = .int .i64 m∧Hid (Below (wu.alloc (.cells #[.bool x.b,.slice x.p x.k x.c,.slice x.q x.j x.d,.bool y.b,.slice y.p y.k y.c,.slice y.q y.j y.d] 103)).heap.size (wu.alloc (.cells #[.bool x.b,.slice x.p x.k x.c,.slice x.q x.j x.d,.bool y.b,.slice y.p y.k y.c,.slice y.q y.j y.d] 103)) wq)∧Hid (∀j,k<j→j<k+1+m→qin (qs.getD k (0,0)) (qs.getD j (0,0))=false)) (fun _ _ i _=>r-(intOf i).toNat)
    case atStart=>exact⟨0,Nat.zero_le _,rfl,rfl,rfl,hid (qaa _ _),hid (fun j h1 h2=>by omega)⟩
    case round=>
     obtain⟨m,hm,rfl,rfl,rfl,uV,Me⟩:=hrel;by_cases hmr:m<r
     ·obtain⟨q',hq'⟩:∃q',qs[k+1+m]? = some q':=⟨qs[k+1+m]'(by rw[aX.out];omega),qap _⟩
      have Dx:=pS.out.later qfu uV.out;obtain⟨x',y',hb6,hx',hy'⟩:=qsa Dx (k+1+m) q' hq';have e6:(k+1+m)*6=(k+1)*6+m*6:=by omega
      rw[e6] at hb6;obtain⟨b0,b1,b2,b3,b4,b5⟩:=hb6;obtain⟨w2,mD⟩:∃w2:World,w2=wr.alloc (.cells #[.bool x'.b,.slice x'.p x'.k x'.c,.slice x'.q x'.j x'.d,.bool y'.b,.slice y'.p y'.k y'.c,.slice y'.q y'.j y'.d] 103):=⟨_,rfl⟩;have aD:Below wr.heap.size wr w2:=by rw[mD];exact qad _ _
      have yC:Hid (qka w2 wr.heap.size x' y'):=hid (by rw[mD];exact qn7 _ _ _ _);have sC:Hid (qka w2 wu.heap.size x y):=hid (Own.later Bq.out ((uV.out.trans (aD.mono uV.out.size)).mono Bq.out.1));have aK:=hid (uV.out.trans (aD.mono uV.out.size));have bq:=eO.out k q HQ.out;have bq':=eO.out _ q' hq';have jV:=hid (qdq (.agg #[.bool y.b,.slice y.p y.k y.c,.slice y.q y.j y.d]) (.agg #[.bool x'.b,.slice x'.p x'.k x'.c,.slice x'.q x'.j x'.d]) q.2 q'.1 w2 (HY.out.later aK.out) (hx'.later aD) (by have:=bq.2.1.rs;have:=bq'.1.rs;unfold Cap;omega));have iE:Hid (∀W,Below w2.heap.size w2 W→Calls Tryz.prog 51 #[.agg #[.bool y'.b,.slice y'.p y'.k y'.c,.slice y'.q y'.j y'.d],.agg #[.bool x.b,.slice x.p x.k x.c,.slice x.q x.j x.d]] W fun e w'=>e = .returned (.int .i64 (qfe q'.2 q.1))∧Below W.heap.size W w'):=hid fun W hW=>qdq _ _ q'.2 q.1 W ((hy'.later aD).later hW) ((HX.out.later aK.out).later hW) (by have:=bq'.2.1.rs;have:=bq.1.rs;unfold Cap;omega)
      have kE:Hid (qin (qs.getD k (0,0)) (qs.getD (k+1+m) (0,0))=(decide (qfe q.2 q'.1<0)||decide (qfe q'.2 q.1<0))):=hid (by
       rw[qba,HQ.out,qba,hq'];show(decide (q.2<q'.1)||decide (q'.2<q.1))=_
       rw[decide_eq_decide.2 (@qot q.2 q'.1),decide_eq_decide.2 (@qot q'.2 q.1)])
      obtain⟨p0,p1,p2,p3,p4,p5⟩:=sC.out.cells;obtain⟨t0,t1,t2,t3,t4,t5⟩:=yC.out.cells;clear Dx hx' hy' aD hq' bq bq' e6;generalize qfe q.2 q'.1=r1 at *;generalize qfe q'.2 q.1=r2 at *;have hz:((k:Int)+1+m==0)=false:=qam (by omega);have HFC:Hid (r1<0∨r2<0→qm2 qs k (k+1+m)):=hid (fun h=>⟨by omega,by rw[aX.out];omega,by rw[kE.out];rcases h with h|h<;>simp[h],fun j h1 h2=>Me.out j h1 h2,fun h' j h1 h2 h3=>sR.out h' j h1 h2 (by rw[←aX.out];exact h3)⟩);have cZ:=hid (HB.out.trans ((aP.out.trans (aK.out.mono aP.out.size)).mono HB.out.size));have Ds:=aK;subst mD;by_cases h1:r1<0
      ·go_wp2_with fail
       refine jV.out.mono ?_;rintro e w3 ⟨rfl,cN⟩;have Mg:=hid (cZ.out.trans (cN.mono cZ.out.size));clear cN p0 p1 p2 p3 p4 p5 t0 t1 t2 t3 t4 t5 jV iE;go_wp2_with fail;rw[Exit.noGoto_ret]
       go_ret3
       exact(aF.out _ Mg.out).1 k (k+1+m) _ (HFC.out (.inl h1)) (by omega)
      ·by_cases h2:r2<0
       ·go_wp2_with fail
        refine jV.out.mono ?_;rintro e w3 ⟨rfl,cN⟩;have bR:=hid cN;have Mg:=hid (cZ.out.trans (cN.mono cZ.out.size));have pa:=sC.out.later (cN.mono sC.out.1);have pb:=yC.out.later (cN.mono yC.out.1);have Kg:=hid pa;have Kh:=hid pb;clear cN pa pb p0 p1 p2 p3 p4 p5 t0 t1 t2 t3 t4 t5 jV;obtain⟨p0,p1,p2,p3,p4,p5⟩:=qka.cells Kg.out;obtain⟨t0,t1,t2,t3,t4,t5⟩:=qka.cells Kh.out;go_wp2_with fail;refine(iE.out _ bR.out).mono ?_;rintro e w4 ⟨rfl,lL⟩;have HFB4:=hid (Mg.out.trans (lL.mono Mg.out.size));clear lL p0 p1 p2 p3 p4 p5 t0 t1 t2 t3 t4 t5 iE;go_wp2_with fail;rw[Exit.noGoto_ret]
        go_ret3
        exact(aF.out _ HFB4.out).1 k (k+1+m) _ (HFC.out (.inr h2)) (by omega)
       ·go_wp2_with fail
        refine jV.out.mono ?_;rintro e w3 ⟨rfl,cN⟩;have bR:=hid cN;have pa:=sC.out.later (cN.mono sC.out.1);have pb:=yC.out.later (cN.mono yC.out.1);have Kg:=hid pa;have Kh:=hid pb;have xR:=hid (aK.out.trans (cN.mono aK.out.size));clear cN pa pb p0 p1 p2 p3 p4 p5 t0 t1 t2 t3 t4 t5 jV;obtain⟨p0,p1,p2,p3,p4,p5⟩:=qka.cells Kg.out;obtain⟨t0,t1,t2,t3,t4,t5⟩:=qka.cells Kh.out;go_wp2_with fail;refine(iE.out _ bR.out).mono ?_;rintro e w4 ⟨rfl,lL⟩;have HBB4:=hid (xR.out.trans (lL.mono xR.out.size))
        have zao:Hid (∀j,k<j→j<k+1+(m+1)→qin (qs.getD k (0,0)) (qs.getD j (0,0))=false):=hid (fun j Bu hj2=>by
         rcases Nat.lt_or_ge j (k+1+m) with h3|h3
         ·exact Me.out j Bu h3
         ·obtain rfl:k+1+m=j:=by omega
          rw[kE.out];simp[h1,h2])
        clear lL p0 p1 p2 p3 p4 p5 t0 t1 t2 t3 t4 t5 iE;go_wp2_with fail;go_roundw
        case rel=>exact⟨m+1,by omega,rfl,rfl,by go_num,HBB4,zao⟩
        case measure=>simp[intOf];omega
     ·have Kf:Hid (∀h j,h<k+1→h<j→j<n→qin (qs.getD h (0,0)) (qs.getD j (0,0))=false):=hid (fun h j hh hj lC=>by
       rcases Nat.lt_or_ge h k with h1|h1
       ·exact sR.out h j h1 hj lC
       ·obtain rfl:k=h:=by omega
        exact Me.out j hj (by omega))
      have bR:=hid (aP.out.trans (uV.out.mono aP.out.size));go_wp2_with fail;go_roundw
      case rel=>exact⟨k+1,by omega,rfl,rfl,by go_num,bR,Kf⟩
      case measure=>simp[intOf];omega
  ·have HFA:Hid (qwc qs):=hid (fun h j hh hj=>sR.out h j (by rw[aX.out] at hj;omega) hh (by rw[←aX.out];exact hj))
   have Mg:=hid (HB.out.trans (bM.out.mono HB.out.size));go_wp2_with fail;rw[Exit.noGoto_ret]
   go_ret3
   exact(aF.out _ Mg.out).2 HFA.out
theorem q3d(v:Value)(l:List (BA × BA))(w:World)(hg:GW w)(hv:qc9 w v l)(hs:∀s ∈ l,s.1.size≤1073741824∧s.2.size≤1073741824):
  Calls Tryz.prog 17 #[v] w (qjh l w):=by
 by_cases h0:qb7 l=0
 ·exact q5z v l w hg hv hs h0
 have dU:=hid ((qh6 v l w hg hv hs).mono (R':=fun e w'=>e = .returned (.tuple #[.slice none 0 0,.int .i64 (qb7 l:Nat)])∧Below w.heap.size w w') (fun e w' h=>by
  unfold qfv at h;rw[if_neg h0] at h
  exact h))
 have aF:Hid (∀w',Below w.heap.size w w'→qjh l w (.returned (.tuple #[.int .i64 0,.int .i64 0,.int .i64 (qb7 l:Nat)])) w'):=hid fun w' hb=>by
  unfold qjh;rw[if_pos h0];exact⟨rfl,hb⟩
 have dS:((qb7 l:Int)==0)=false:=qam (by omega);obtain⟨p,c,rfl,bO,bG,aA⟩:=hv;clear aA hg hs h0;generalize qb7 l=ck at *;go_enter Tryz.func17,Tryz.ntmps17;go_wp2_with fail
 go_step3
 go_wp2_with fail;refine dU.out.mono ?_;rintro e w1 ⟨rfl,hb⟩;have HB:=hid hb;clear hb dU;go_wp2_with fail;rw[Exit.noGoto_ret]
 go_ret3
 exact aF.out _ HB.out
end Go.Proofs.YtlkdlffhmakbgaaGreatDoor
