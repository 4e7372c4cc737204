/- MulSpans. -/
import Derived.Test.YtclimablgihlhaaGreatDoorMNv
import Derived.Test.YtclimablgihlhaaGreatDoorMMinMax
import Derived.Deep.LoopGhost
import Derived.Outline
set_option linter.all false
namespace Go.Proofs.YtclimablgihlhaaGreatDoor
open Go.RowKit
set_option maxRecDepth 100000
set_option maxHeartbeats 8000000
theorem qjz(f:Rat→Rat→Rat)(hf:∀m a,f m a=m∨f m a=a)(l:List Rat)(m:Rat):l.foldl f m=m∨l.foldl f m ∈ l:=by
 induction l generalizing m with
 | nil=>exact .inl rfl
 | cons a l ih=>
  rw[List.foldl_cons];rcases ih (f m a) with h|h
  ·rw[h]
   rcases hf m a with e|e
   ·exact .inl e
   ·rw[e];exact .inr (by simp)
  ·exact .inr (List.mem_cons_of_mem _ h)
theorem q49(l:List Rat)(h:l≠[]):qlm l ∈ l:=by
 cases l with
 | nil=>exact absurd rfl h
 | cons q l=>
  rcases qjz (fun m a=>if a<m then a else m) (fun m a=>by split<;>simp) l q with e|e
  ·show List.foldl _ q l ∈ _;rw[e];simp
  ·exact List.mem_cons_of_mem _ e
theorem q5a(l:List Rat)(h:l≠[]):qkp l ∈ l:=by
 cases l with
 | nil=>exact absurd rfl h
 | cons q l=>
  rcases qjz (fun m a=>if m<a then a else m) (fun m a=>by split<;>simp) l q with e|e
  ·show List.foldl _ q l ∈ _;rw[e];simp
  ·exact List.mem_cons_of_mem _ e
theorem q2e{a b c d:Rat}{m:Nat}(ba:bd a m)(bb:bd b m)(bc:bd c m)(bdd:bd d m):∀p ∈ [a*c,a*d,b*c,b*d],bd p (m+m):=by
 intro p hp;simp only[List.mem_cons,List.not_mem_nil,or_false] at hp;rcases hp with rfl|rfl|rfl|rfl
 ·exact qex ba bc
 ·exact qex ba bdd
 ·exact qex bb bc
 ·exact qex bb bdd
theorem qo7(a b:BA × BA)(w:World)(hg:GW w)(ha:a.1.size≤1073741824∧a.2.size≤1073741824)(hb:b.1.size≤1073741824∧b.2.size≤1073741824):
  Calls Tryz.prog 54 #[.agg #[.string a.1,.string a.2],.agg #[.string b.1,.string b.2],.func (.func 55) #[] #[]] w (qkk (qlm [(spQ a).1*(spQ b).1,(spQ a).1*(spQ b).2,(spQ a).2*(spQ b).1,(spQ a).2*(spQ b).2]) (qkp [(spQ a).1*(spQ b).1,(spQ a).1*(spQ b).2,(spQ a).2*(spQ b).1,(spQ a).2*(spQ b).2]) a b w):=by
 have aO:=hid (qw4 w a b 28 28 28);have dM:=q7x w (.cells #[.string a.1,.string a.2] 28) (.cells #[.string b.1,.string b.2] 28) (.cells #[.string ⟨#[]⟩,.string ⟨#[]⟩] 28);have Ok:=hid (q7y aO.out dM hg ha hb);obtain⟨s0,s1⟩:=qag aO.out.2.1;obtain⟨s2,s3⟩:=qag aO.out.2.2.1;by_cases h0:qac [qb1 a,qb1 b]=0
 ·have aG:Hid (∀e w',qdw (qlm [(spQ a).1*(spQ b).1,(spQ a).1*(spQ b).2,(spQ a).2*(spQ b).1,(spQ a).2*(spQ b).2]) (qkp [(spQ a).1*(spQ b).1,(spQ a).1*(spQ b).2,(spQ a).2*(spQ b).1,(spQ a).2*(spQ b).2]) w e w'→qkk (qlm [(spQ a).1*(spQ b).1,(spQ a).1*(spQ b).2,(spQ a).2*(spQ b).1,(spQ a).2*(spQ b).2]) (qkp [(spQ a).1*(spQ b).1,(spQ a).1*(spQ b).2,(spQ a).2*(spQ b).1,(spQ a).2*(spQ b).2]) a b w e w'):=hid fun e w' h=>by
   unfold qkk;rw[if_neg (by omega)];exact h
  simp only[if_pos h0] at Ok;obtain⟨e1,e2⟩:=qjn h0;obtain⟨ba1,ba2,_⟩:=qrp e1;obtain⟨bb1,bb2,_⟩:=qrp e2
  have Lz:Hid (∀W va vb,qgm W va (spQ a).1 (spQ a).2→qgm W vb (spQ b).1 (spQ b).2→Calls Tryz.prog 55 #[va,vb] W fun e w'=>(∃v',e = .returned v'∧qgm w' v' (qlm [(spQ a).1*(spQ b).1,(spQ a).1*(spQ b).2,(spQ a).2*(spQ b).1,(spQ a).2*(spQ b).2]) (qkp [(spQ a).1*(spQ b).1,(spQ a).1*(spQ b).2,(spQ a).2*(spQ b).1,(spQ a).2*(spQ b).2]))∧Below W.heap.size W w'):=
   hid fun W va vb xP uV=>qvr va vb _ _ _ _ W 600 xP uV ba1 ba2 bb1 bb2 (by omega)
  have Dj:Hid (∀W v,qgm W v (qlm [(spQ a).1*(spQ b).1,(spQ a).1*(spQ b).2,(spQ a).2*(spQ b).1,(spQ a).2*(spQ b).2]) (qkp [(spQ a).1*(spQ b).1,(spQ a).1*(spQ b).2,(spQ a).2*(spQ b).1,(spQ a).2*(spQ b).2])→Calls Tryz.prog 32 #[v] W (qdw (qlm [(spQ a).1*(spQ b).1,(spQ a).1*(spQ b).2,(spQ a).2*(spQ b).1,(spQ a).2*(spQ b).2]) (qkp [(spQ a).1*(spQ b).1,(spQ a).1*(spQ b).2,(spQ a).2*(spQ b).1,(spQ a).2*(spQ b).2]) W)):=hid fun W v hv=>qf3 v _ _ W hv (by have:=(q2e ba1 ba2 bb1 bb2 _ (q49 _ (by simp))).rs;unfold Cap;omega) (by have:=(q2e ba1 ba2 bb1 bb2 _ (q5a _ (by simp))).rs;unfold Cap;omega);clear hg ha hb h0 dM aO ba1 ba2 bb1 bb2 e1 e2;generalize qlm [(spQ a).1*(spQ b).1,(spQ a).1*(spQ b).2,(spQ a).2*(spQ b).1,(spQ a).2*(spQ b).2]=rlo at *;generalize qkp [(spQ a).1*(spQ b).1,(spQ a).1*(spQ b).2,(spQ a).2*(spQ b).1,(spQ a).2*(spQ b).2]=rhi at *;go_enter Tryz.func54,Tryz.ntmps54;go_wp2_with fail;clear s0 s1 s2 s3;refine Ok.out.mono ?_;rintro e w1 ⟨⟨g,Dq,rfl,hr⟩,hw⟩;obtain⟨x,y,x',y',hc,xP,uV⟩:=q17 hr;have hd:Below w1.heap.size w1 w1.drew:=(zan _ _).drew;have HC:=hid hc;have gA:=hc w1 (zan _ _);have jS:=hid (Lz.out w1.drew _ _ (xP.later hd) (uV.later hd));have eH:=hid hw;have eE:=hid hd;obtain⟨q0,q1,q2,q3,q4,q5,q6,q7,q8,q9,q10,q11⟩:=id gA;clear hr hw xP uV hc hd Ok Lz;go_wp2_with fail
  go_region_held3 (fun W=>W.cell? ⟨g,0,none⟩=some (.bool x.b)∧W.cell? ⟨g,1,none⟩=some (.slice x.p x.k x.c)∧W.cell? ⟨g,2,none⟩=some (.slice x.q x.j x.d)∧W.cell? ⟨g,3,none⟩=some (.bool y.b)∧W.cell? ⟨g,4,none⟩=some (.slice y.p y.k y.c)∧W.cell? ⟨g,5,none⟩=some (.slice y.q y.j y.d)∧W.cell? ⟨g,6,none⟩=some (.bool x'.b)∧W.cell? ⟨g,7,none⟩=some (.slice x'.p x'.k x'.c)∧W.cell? ⟨g,8,none⟩=some (.slice x'.q x'.j x'.d)∧W.cell? ⟨g,9,none⟩=some (.bool y'.b)∧W.cell? ⟨g,10,none⟩=some (.slice y'.p y'.k y'.c)∧W.cell? ⟨g,11,none⟩=some (.slice y'.q y'.j y'.d)) (first|with_reducible exact qvn hcc3 (by omega) _ _|with_reducible exact HC.out _ zA.out|with_reducible exact HC.out _ kK.out|exact gA)
   (first|(go_at_call 55;refine jS.out.mono ?_;rintro e w2 ⟨⟨v2,rfl,qN⟩,aT⟩;obtain⟨z1,z2,rfl,_,_⟩:=qN.nv;have cO:=hid qN;have kK:Hid (Below w1.heap.size w1 w2):=hid (eE.out.trans (aT.mono eE.out.size));clear qN aT)|(go_at_call 32;refine(Dj.out _ _ cO.out).mono ?_;rintro e w3 h;obtain⟨t1,t2,ec,rfl,h2⟩:=qfk h;have zA:Hid (Below w1.heap.size w1 w3):=hid (kK.out.trans (h2.2.mono kK.out.size));have uC:=hid h2;have zN:=hid (eH.out.later zA.out);have hcc3:=HC.out _ zA.out;obtain⟨⟨r0,g0⟩,⟨r1,g1⟩⟩:=qas zN.out.2.2.2;clear h h2))
  all_goals
   have HB:=hid (qbk zN.out.1 (show w.heap.size≤w.heap.size+1+1 by omega) (.string t1) (.string t2));go_wp2_with fail;refine bodyPost_ret (v := .tuple #[.agg #[.string t1,.string t2],.int .i64 ec]) ?_ rfl ?_
   ·simp[results,Tryz.results54,go_sem,r0,r1]
   ·exact aG.out _ _ ⟨uC.out.1,HB.out⟩
 ·have aG:Hid (∀w',Below w.heap.size w w'→qkk (qlm [(spQ a).1*(spQ b).1,(spQ a).1*(spQ b).2,(spQ a).2*(spQ b).1,(spQ a).2*(spQ b).2]) (qkp [(spQ a).1*(spQ b).1,(spQ a).1*(spQ b).2,(spQ a).2*(spQ b).1,(spQ a).2*(spQ b).2]) a b w (.returned (.tuple #[.agg #[.string ⟨#[]⟩,.string ⟨#[]⟩],.int .i64 (qac [qb1 a,qb1 b]:Nat)])) w'):=hid fun w' h=>by
   unfold qkk;rw[if_pos h0];exact⟨rfl,h⟩
  simp only[if_neg h0] at Ok;have dL:((qac [qb1 a,qb1 b]:Int)==0)=false:=zat (by omega);clear hg ha hb h0 dM aO;generalize qac [qb1 a,qb1 b]=ck at *;go_enter Tryz.func54,Tryz.ntmps54;go_wp2_with fail;clear s0 s1 s2 s3;refine Ok.out.mono ?_;rintro e w1 ⟨rfl,hw⟩;obtain⟨⟨r0,g0⟩,⟨r1,g1⟩⟩:=qas hw.2.2.2;have HB:=hid (qbk hw.1 (show w.heap.size≤w.heap.size+1+1 by omega) (.string ⟨#[]⟩) (.string ⟨#[]⟩));clear hw Ok;go_wp2_with fail;refine bodyPost_ret (v := .tuple #[.agg #[.string ⟨#[]⟩,.string ⟨#[]⟩],.int .i64 ck]) ?_ rfl ?_
  ·simp[results,Tryz.results54,go_sem,r0,r1]
  ·exact aG.out _ HB.out
theorem qtv(a b:BA × BA)(w:World)(hg:GW w)(ha:a.1.size≤1073741824∧a.2.size≤1073741824)(hb:b.1.size≤1073741824∧b.2.size≤1073741824):
  Calls Tryz.prog 21 #[.agg #[.string a.1,.string a.2],.agg #[.string b.1,.string b.2]] w (qkk (qlm [(spQ a).1*(spQ b).1,(spQ a).1*(spQ b).2,(spQ a).2*(spQ b).1,(spQ a).2*(spQ b).2]) (qkp [(spQ a).1*(spQ b).1,(spQ a).1*(spQ b).2,(spQ a).2*(spQ b).1,(spQ a).2*(spQ b).2]) a b w):=by
 have aO:=hid (qw4 w a b 28 28 28);have fJ:=hid (qo7 a b _ (hg.later aO.out.1) ha hb);obtain⟨s0,s1⟩:=qag aO.out.2.1;obtain⟨s2,s3⟩:=qag aO.out.2.2.1;clear hg ha hb;have aG:Hid (∀W w1 w' t1 t2 ec,qkk (qlm [(spQ a).1*(spQ b).1,(spQ a).1*(spQ b).2,(spQ a).2*(spQ b).1,(spQ a).2*(spQ b).2]) (qkp [(spQ a).1*(spQ b).1,(spQ a).1*(spQ b).2,(spQ a).2*(spQ b).1,(spQ a).2*(spQ b).2]) a b W (.returned (.tuple #[.agg #[.string t1,.string t2],.int .i64 ec])) w1→Below w.heap.size w w'→qkk (qlm [(spQ a).1*(spQ b).1,(spQ a).1*(spQ b).2,(spQ a).2*(spQ b).1,(spQ a).2*(spQ b).2]) (qkp [(spQ a).1*(spQ b).1,(spQ a).1*(spQ b).2,(spQ a).2*(spQ b).1,(spQ a).2*(spQ b).2]) a b w (.returned (.tuple #[.agg #[.string t1,.string t2],.int .i64 ec])) w'):=hid fun W w1 w' t1 t2 ec h hb=>qyw h hb;generalize qlm [(spQ a).1*(spQ b).1,(spQ a).1*(spQ b).2,(spQ a).2*(spQ b).1,(spQ a).2*(spQ b).2]=rlo at *;generalize qkp [(spQ a).1*(spQ b).1,(spQ a).1*(spQ b).2,(spQ a).2*(spQ b).1,(spQ a).2*(spQ b).2]=rhi at *;go_enter Tryz.func21,Tryz.ntmps21;go_wp2_with fail;refine fJ.out.mono ?_;rintro e w1 h;obtain⟨t1,t2,ec,rfl,h2,hb⟩:=qyv h;have HF:=hid h2;have eH:=hid (aO.out.later hb);obtain⟨⟨r0,g0⟩,⟨r1,g1⟩⟩:=qas eH.out.2.2.2;have HB:=hid (qbk eH.out.1 (show w.heap.size≤w.heap.size+1+1 by omega) (.string t1) (.string t2));clear h h2 hb fJ s0 s1 s2 s3;go_wp2_with fail;refine bodyPost_ret (v := .tuple #[.agg #[.string t1,.string t2],.int .i64 ec]) ?_ rfl ?_
 ·simp[results,Tryz.results21,go_sem,r0,r1]
 ·exact aG.out _ _ _ _ _ _ HF.out HB.out
def qdj(p q:Rat × Rat):Bool:=decide (p.2<q.1)||decide (q.2<p.1)
def qdr(l:List (Rat × Rat))(i k:Nat):Prop:=
 i<k∧k<l.length∧qdj (l.getD i (0,0)) (l.getD k (0,0))=true∧(∀j,i<j→j<k→qdj (l.getD i (0,0)) (l.getD j (0,0))=false)∧∀h j,h<i→h<j→j<l.length→qdj (l.getD h (0,0)) (l.getD j (0,0))=false
def qkl(l:List (Rat × Rat)):Prop:=∀h j,h<j→j<l.length→qdj (l.getD h (0,0)) (l.getD j (0,0))=false
def qgj(l:List (BA × BA))(w:World)(e:Ending)(w':World):Prop:=
 (if qak l≠0 then e = .returned (.tuple #[.int .i64 0,.int .i64 0,.int .i64 (qak l:Nat)])
  else(∃i k,qdr (l.map spQ) i k∧e = .returned (.tuple #[.int .i64 (i:Nat),.int .i64 (k:Nat),.int .i64 0]))∨(qkl (l.map spQ)∧e = .returned (.tuple #[.int .i64 0,.int .i64 0,.int .i64 7])))∧Below w.heap.size w w'
theorem qy1{l:List Nat}(h:qac l=0):∀x ∈ l,x=0:=by
 induction l with
 | nil=>simp
 | cons a l ih=>
  have h1:(if a=0 then qac l else a)=0:=h;intro x hx;by_cases ha:a=0
  ·rw[if_pos ha] at h1
   rcases List.mem_cons.1 hx with rfl|hx
   ·exact ha
   ·exact ih h1 x hx
  ·rw[if_neg ha] at h1;exact absurd h1 ha
theorem qct{l:List (BA × BA)}(h:qak l=0):1≤l.length∧l.length≤256∧∀s ∈ l,qb1 s=0:=by
 unfold qak at h;split at h
 ·cases h
 ·split at h
  ·cases h
  ·exact⟨by omega,by omega,fun s hs=>qy1 h _ (List.mem_map_of_mem hs)⟩
theorem qqm{l:List (BA × BA)}(h:qak l=0)(i:Nat)(q:Rat × Rat)(hi:(l.map spQ)[i]? = some q):bd q.1 600∧bd q.2 600∧q.1≤q.2:=by
 rw[List.getElem?_map] at hi;cases hs:l[i]? with
 | none=>rw[hs] at hi;cases hi
 | some s=>
  rw[hs] at hi;cases hi
  exact qrp ((qct h).2.2 s (zax hs))
theorem qgv(w:World)(x y:NV)(t:TypeId):qew (w.alloc (.cells #[.bool x.b,.slice x.p x.k x.c,.slice x.q x.j x.d,.bool y.b,.slice y.p y.k y.c,.slice y.q y.j y.d] t)) w.heap.size x y:=qki _ _ _ _ _ _ _ _
theorem qh9{W:World}{g cap:Nat}{l:List (Rat × Rat)}(h:qcz ivK W g cap l)(j:Nat)(q:Rat × Rat)(hj:l[j]? = some q):∃x y:NV,
  (W.cell? ⟨g,j*6,none⟩=some (.bool x.b)∧W.cell? ⟨g,j*6+1,none⟩=some (.slice x.p x.k x.c)∧W.cell? ⟨g,j*6+2,none⟩=some (.slice x.q x.j x.d)∧
   W.cell? ⟨g,j*6+3,none⟩=some (.bool y.b)∧W.cell? ⟨g,j*6+4,none⟩=some (.slice y.p y.k y.c)∧W.cell? ⟨g,j*6+5,none⟩=some (.slice y.q y.j y.d))∧
  qaj W (.agg #[.bool x.b,.slice x.p x.k x.c,.slice x.q x.j x.d]) q.1∧qaj W (.agg #[.bool y.b,.slice y.p y.k y.c,.slice y.q y.j y.d]) q.2:=by
 obtain⟨cs,⟨x,y,rfl,h1,h2⟩,hc⟩:=h.get j q hj;exact⟨x,y,⟨hc 0 _ rfl,hc 1 _ rfl,hc 2 _ rfl,hc 3 _ rfl,hc 4 _ rfl,hc 5 _ rfl⟩,h1,h2⟩
theorem q5b(v:Value)(l:List (BA × BA))(w:World)(hg:GW w)(hv:qbq w v l)(hs:∀s ∈ l,s.1.size≤1073741824∧s.2.size≤1073741824)(h0:qak l=0):
  Calls Tryz.prog 8 #[v] w (qgj l w):=by
 have cU:=hid ((qbw v l w hg hv hs).mono (R':=fun e w'=>(∃g,e = .returned (.tuple #[.slice (some ⟨g,0,none⟩) l.length l.length,.int .i64 0])∧qcz ivK w' g l.length (l.map spQ))∧Below w.heap.size w w') (fun e w' h=>by
  unfold qcs at h;rw[if_pos h0] at h;obtain⟨⟨g,_,he,hr⟩,hb⟩:=h
  exact⟨⟨g,he,hr⟩,hb⟩))
 obtain⟨p,c,rfl,bP,bK,aA⟩:=hv;obtain⟨mC,mL,_⟩:=qct h0;have eE:=hid (qqm h0)
 have aG:Hid (∀w',Below w.heap.size w w'→(∀(i k:Nat) (z:Int),qdr (l.map spQ) i k→z=(k:Int)→qgj l w (.returned (.tuple #[.int .i64 (i:Nat),.int .i64 z,.int .i64 0])) w')∧(qkl (l.map spQ)→qgj l w (.returned (.tuple #[.int .i64 0,.int .i64 0,.int .i64 7])) w')):=hid fun w' hb=>by
  constructor
  ·rintro i k z h rfl
   unfold qgj;rw[if_neg (by omega)];exact⟨.inl ⟨i,k,h,rfl⟩,hb⟩
  ·intro h
   unfold qgj;rw[if_neg (by omega)];exact⟨.inr ⟨h,rfl⟩,hb⟩
 have aU:Hid ((l.map spQ).length=l.length):=hid (List.length_map _);clear aA hg hs h0;generalize l.map spQ=qs at *;generalize hn:l.length=n at *;clear hn;go_enter Tryz.func8,Tryz.ntmps8;go_wp2_with fail
 go_step3
 go_wp2_with fail;refine cU.out.mono ?_;rintro e w1 ⟨⟨g,rfl,hr⟩,hb⟩;have HR:=hid hr;have HB:=hid hb;clear hr hb cU;go_wp2_with fail
 go_step3
 go_wp2_with fail
 go_loopw [7,8,23] (fun s7 s8 i wr=>∃k:Nat,k≤n∧s7 = .int .i64 0∧s8 = .int .i64 0∧i = .int .i64 k∧Hid (Below w1.heap.size w1 wr)∧Hid (∀h j,h<k→h<j→j<n→qdj (qs.getD h (0,0)) (qs.getD j (0,0))=false)) (fun _ _ i _=>n-(intOf i).toNat)
 case atStart=>exact⟨0,Nat.zero_le _,rfl,rfl,rfl,hid (zan _ _),hid (fun h j hh=>by omega)⟩
 case round=>
  obtain⟨k,hk,rfl,rfl,rfl,bR,yN⟩:=hrel;obtain⟨wu,rfl⟩:∃wu:World,wu=wr:=⟨_,rfl⟩;by_cases jG:k<n
  ·obtain⟨q,hq⟩:∃q,qs[k]? = some q:=⟨qs[k]'(by rw[aU.out];exact jG),zau _⟩
   have rR:=HR.out.later qeu bR.out;obtain⟨x,y,⟨a0,a1,a2,a3,a4,a5⟩,hx,hy⟩:=qh9 rR k q hq;obtain⟨wo,hwo⟩:∃wo:World,wo=wu.alloc (.cells #[.bool x.b,.slice x.p x.k x.c,.slice x.q x.j x.d,.bool y.b,.slice y.p y.k y.c,.slice y.q y.j y.d] 76):=⟨_,rfl⟩;have HQ:=hid hq;have aD:Below wu.heap.size wu wo:=by rw[hwo];exact zam _ _
   have HX:=hid (hx.later aD);have HY:=hid (hy.later aD);have Dg:Hid (qew wo wu.heap.size x y):=hid (by rw[hwo];exact qgv _ _ _ _);have aQ:=hid (bR.out.trans (aD.mono bR.out.size));have qA:=hid (rR.later qeu aD);clear hq rR hx hy aD;subst hwo;by_cases wO:k+1=n
   ·have Ma:Hid (∀h j,h<k+1→h<j→j<n→qdj (qs.getD h (0,0)) (qs.getD j (0,0))=false):=hid (fun h j hh hj pM=>by
     rcases Nat.lt_or_ge h k with h1|h1
     ·exact yN.out h j h1 hj pM
     ·exfalso;omega)
    go_wp2_with fail
    go_loopw [7,8,33] (fun s7 s8 i wq=>s7 = .int .i64 0∧s8 = .int .i64 0∧i = .int .i64 0∧wq=(wu.alloc (.cells #[.bool x.b,.slice x.p x.k x.c,.slice x.q x.j x.d,.bool y.b,.slice y.p y.k y.c,.slice y.q y.j y.d] 76))) (fun _ _ _ _=>0)
    case atStart=>exact⟨rfl,rfl,rfl,rfl⟩
    case round=>
     obtain⟨rfl,rfl,rfl,rfl⟩:=hrel;go_wp2_with fail;go_roundw
     case rel=>exact⟨k+1,by omega,rfl,rfl,by go_num,aQ,Ma⟩
     case measure=>simp[intOf];omega
   ·obtain⟨r,hr⟩:∃r,r=n-(k+1):=⟨_,rfl⟩
    have hrk:k+1+r=n:=by omega
    have HRK:=hid hr;go_wp2_with fail;simp only[←hr];clear hr a0 a1 a2 a3 a4 a5
    go_loopw [7,8,33] (fun s7 s8 i wq=>∃m:Nat,m≤r∧s7 = .int .i64 0∧s8 = .int .i64 0∧i = .int .i64 m∧Hid (Below (wu.alloc (.cells #[.bool x.b,.slice x.p x.k x.c,.slice x.q x.j x.d,.bool y.b,.slice y.p y.k y.c,.slice y.q y.j y.d] 76)).heap.size (wu.alloc (.cells #[.bool x.b,.slice x.p x.k x.c,.slice x.q x.j x.d,.bool y.b,.slice y.p y.k y.c,.slice y.q y.j y.d] 76)) wq)∧Hid (∀j,k<j→j<k+1+m→qdj (qs.getD k (0,0)) (qs.getD j (0,0))=false)) (fun _ _ i _=>r-(intOf i).toNat)
    case atStart=>exact⟨0,Nat.zero_le _,rfl,rfl,rfl,hid (zan _ _),hid (fun j h1 h2=>by omega)⟩
    case round=>
     obtain⟨m,hm,rfl,rfl,rfl,Ol,Oj⟩:=hrel;by_cases hmr:m<r
     ·obtain⟨q',hq'⟩:∃q',qs[k+1+m]? = some q':=⟨qs[k+1+m]'(by rw[aU.out];omega),zau _⟩
      have rR:=qA.out.later qeu Ol.out;obtain⟨x',y',hb6,hx',hy'⟩:=qh9 rR (k+1+m) q' hq';have e6:(k+1+m)*6=(k+1)*6+m*6:=by omega
      rw[e6] at hb6;obtain⟨b0,b1,b2,b3,b4,b5⟩:=hb6;obtain⟨w2,mI⟩:∃w2:World,w2=wr.alloc (.cells #[.bool x'.b,.slice x'.p x'.k x'.c,.slice x'.q x'.j x'.d,.bool y'.b,.slice y'.p y'.k y'.c,.slice y'.q y'.j y'.d] 76):=⟨_,rfl⟩;have aD:Below wr.heap.size wr w2:=by rw[mI];exact zam _ _
      have zR:Hid (qew w2 wr.heap.size x' y'):=hid (by rw[mI];exact qgv _ _ _ _);have sV:Hid (qew w2 wu.heap.size x y):=hid (Own.later Dg.out ((Ol.out.trans (aD.mono Ol.out.size)).mono Dg.out.1));have aR:=hid (Ol.out.trans (aD.mono Ol.out.size));have bq:=eE.out k q HQ.out;have bq':=eE.out _ q' hq';have gG:=hid (qb5 (.agg #[.bool y.b,.slice y.p y.k y.c,.slice y.q y.j y.d]) (.agg #[.bool x'.b,.slice x'.p x'.k x'.c,.slice x'.q x'.j x'.d]) q.2 q'.1 w2 (HY.out.later aR.out) (hx'.later aD) (by have:=bq.2.1.rs;have:=bq'.1.rs;unfold Cap;omega));have eU:Hid (∀W,Below w2.heap.size w2 W→Calls Tryz.prog 33 #[.agg #[.bool y'.b,.slice y'.p y'.k y'.c,.slice y'.q y'.j y'.d],.agg #[.bool x.b,.slice x.p x.k x.c,.slice x.q x.j x.d]] W fun e w'=>e = .returned (.int .i64 (qcq q'.2 q.1))∧Below W.heap.size W w'):=hid fun W hW=>qb5 _ _ q'.2 q.1 W ((hy'.later aD).later hW) ((HX.out.later aR.out).later hW) (by have:=bq'.2.1.rs;have:=bq.1.rs;unfold Cap;omega)
      have fX:Hid (qdj (qs.getD k (0,0)) (qs.getD (k+1+m) (0,0))=(decide (qcq q.2 q'.1<0)||decide (qcq q'.2 q.1<0))):=hid (by
       rw[zaw,HQ.out,zaw,hq'];show(decide (q.2<q'.1)||decide (q'.2<q.1))=_
       rw[decide_eq_decide.2 (@qoh q.2 q'.1),decide_eq_decide.2 (@qoh q'.2 q.1)])
      obtain⟨p0,p1,p2,p3,p4,p5⟩:=sV.out.cells;obtain⟨t0,t1,t2,t3,t4,t5⟩:=zR.out.cells;clear rR hx' hy' aD hq' bq bq' e6;generalize qcq q.2 q'.1=r1 at *;generalize qcq q'.2 q.1=r2 at *;have hz:((k:Int)+1+m==0)=false:=zat (by omega);have HFC:Hid (r1<0∨r2<0→qdr qs k (k+1+m)):=hid (fun h=>⟨by omega,by rw[aU.out];omega,by rw[fX.out];rcases h with h|h<;>simp[h],fun j h1 h2=>Oj.out j h1 h2,fun h' j h1 h2 h3=>yN.out h' j h1 h2 (by rw[←aU.out];exact h3)⟩);have dP:=hid (HB.out.trans ((aQ.out.trans (aR.out.mono aQ.out.size)).mono HB.out.size));have Fb:=aR;subst mI;by_cases h1:r1<0
      ·go_wp2_with fail
       refine gG.out.mono ?_;rintro e w3 ⟨rfl,cW⟩;have Om:=hid (dP.out.trans (cW.mono dP.out.size));clear cW p0 p1 p2 p3 p4 p5 t0 t1 t2 t3 t4 t5 gG eU;go_wp2_with fail;rw[Exit.noGoto_ret]
       go_ret3
       exact(aG.out _ Om.out).1 k (k+1+m) _ (HFC.out (.inl h1)) (by omega)
      ·by_cases h2:r2<0
       ·go_wp2_with fail
        refine gG.out.mono ?_;rintro e w3 ⟨rfl,cW⟩;have bY:=hid cW;have Om:=hid (dP.out.trans (cW.mono dP.out.size));have pa:=sV.out.later (cW.mono sV.out.1);have pb:=zR.out.later (cW.mono zR.out.1);have Mb:=hid pa;have Mc:=hid pb;clear cW pa pb p0 p1 p2 p3 p4 p5 t0 t1 t2 t3 t4 t5 gG;obtain⟨p0,p1,p2,p3,p4,p5⟩:=qew.cells Mb.out;obtain⟨t0,t1,t2,t3,t4,t5⟩:=qew.cells Mc.out;go_wp2_with fail;refine(eU.out _ bY.out).mono ?_;rintro e w4 ⟨rfl,qC⟩;have HFB4:=hid (Om.out.trans (qC.mono Om.out.size));clear qC p0 p1 p2 p3 p4 p5 t0 t1 t2 t3 t4 t5 eU;go_wp2_with fail;rw[Exit.noGoto_ret]
        go_ret3
        exact(aG.out _ HFB4.out).1 k (k+1+m) _ (HFC.out (.inr h2)) (by omega)
       ·go_wp2_with fail
        refine gG.out.mono ?_;rintro e w3 ⟨rfl,cW⟩;have bY:=hid cW;have pa:=sV.out.later (cW.mono sV.out.1);have pb:=zR.out.later (cW.mono zR.out.1);have Mb:=hid pa;have Mc:=hid pb;have zA:=hid (aR.out.trans (cW.mono aR.out.size));clear cW pa pb p0 p1 p2 p3 p4 p5 t0 t1 t2 t3 t4 t5 gG;obtain⟨p0,p1,p2,p3,p4,p5⟩:=qew.cells Mb.out;obtain⟨t0,t1,t2,t3,t4,t5⟩:=qew.cells Mc.out;go_wp2_with fail;refine(eU.out _ bY.out).mono ?_;rintro e w4 ⟨rfl,qC⟩;have HBB4:=hid (zA.out.trans (qC.mono zA.out.size))
        have zae:Hid (∀j,k<j→j<k+1+(m+1)→qdj (qs.getD k (0,0)) (qs.getD j (0,0))=false):=hid (fun j hj1 Ky=>by
         rcases Nat.lt_or_ge j (k+1+m) with h3|h3
         ·exact Oj.out j hj1 h3
         ·obtain rfl:k+1+m=j:=by omega
          rw[fX.out];simp[h1,h2])
        clear qC p0 p1 p2 p3 p4 p5 t0 t1 t2 t3 t4 t5 eU;go_wp2_with fail;go_roundw
        case rel=>exact⟨m+1,by omega,rfl,rfl,by go_num,HBB4,zae⟩
        case measure=>simp[intOf];omega
     ·have Ma:Hid (∀h j,h<k+1→h<j→j<n→qdj (qs.getD h (0,0)) (qs.getD j (0,0))=false):=hid (fun h j hh hj pM=>by
       rcases Nat.lt_or_ge h k with h1|h1
       ·exact yN.out h j h1 hj pM
       ·obtain rfl:k=h:=by omega
        exact Oj.out j hj (by omega))
      have bY:=hid (aQ.out.trans (Ol.out.mono aQ.out.size));go_wp2_with fail;go_roundw
      case rel=>exact⟨k+1,by omega,rfl,rfl,by go_num,bY,Ma⟩
      case measure=>simp[intOf];omega
  ·have HFA:Hid (qkl qs):=hid (fun h j hh hj=>yN.out h j (by rw[aU.out] at hj;omega) hh (by rw[←aU.out];exact hj))
   have Om:=hid (HB.out.trans (bR.out.mono HB.out.size));go_wp2_with fail;rw[Exit.noGoto_ret]
   go_ret3
   exact(aG.out _ Om.out).2 HFA.out
theorem qo8(v:Value)(l:List (BA × BA))(w:World)(hg:GW w)(hv:qbq w v l)(hs:∀s ∈ l,s.1.size≤1073741824∧s.2.size≤1073741824):
  Calls Tryz.prog 8 #[v] w (qgj l w):=by
 by_cases h0:qak l=0
 ·exact q5b v l w hg hv hs h0
 have cU:=hid ((qbw v l w hg hv hs).mono (R':=fun e w'=>e = .returned (.tuple #[.slice none 0 0,.int .i64 (qak l:Nat)])∧Below w.heap.size w w') (fun e w' h=>by
  unfold qcs at h;rw[if_neg h0] at h
  exact h))
 have aG:Hid (∀w',Below w.heap.size w w'→qgj l w (.returned (.tuple #[.int .i64 0,.int .i64 0,.int .i64 (qak l:Nat)])) w'):=hid fun w' hb=>by
  unfold qgj;rw[if_pos h0];exact⟨rfl,hb⟩
 have dL:((qak l:Int)==0)=false:=zat (by omega);obtain⟨p,c,rfl,bP,bK,aA⟩:=hv;clear aA hg hs h0;generalize qak l=ck at *;go_enter Tryz.func8,Tryz.ntmps8;go_wp2_with fail
 go_step3
 go_wp2_with fail;refine cU.out.mono ?_;rintro e w1 ⟨rfl,hb⟩;have HB:=hid hb;clear hb cU;go_wp2_with fail;rw[Exit.noGoto_ret]
 go_ret3
 exact aG.out _ HB.out
end Go.Proofs.YtclimablgihlhaaGreatDoor
