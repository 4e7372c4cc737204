/- MulSpans. -/
import Derived.Test.YtmcfcpgglfimjaaGreatDoorMNv
import Derived.Test.YtmcfcpgglfimjaaGreatDoorMMinMax
import Derived.Deep.LoopGhost
import Derived.Outline
set_option linter.all false
namespace Go.Proofs.YtmcfcpgglfimjaaGreatDoor
open Go.RowKit
set_option maxRecDepth 100000
set_option maxHeartbeats 8000000
theorem qkc(f:Rat→Rat→Rat)(hf:∀m a,f m a=m∨f m a=a)(l:List Rat)(m:Rat):l.foldl f m=m∨l.foldl f m ∈ l:=by
 induction l generalizing m with
 | nil=>exact .inl rfl
 | cons a l ih=>
  rw[List.foldl_cons];rcases ih (f m a) with h|h
  ·rw[h]
   rcases hf m a with e|e
   ·exact .inl e
   ·rw[e];exact .inr (by simp)
  ·exact .inr (List.mem_cons_of_mem _ h)
theorem q55(l:List Rat)(h:l≠[]):qlp l ∈ l:=by
 cases l with
 | nil=>exact absurd rfl h
 | cons q l=>
  rcases qkc (fun m a=>if a<m then a else m) (fun m a=>by split<;>simp) l q with e|e
  ·show List.foldl _ q l ∈ _;rw[e];simp
  ·exact List.mem_cons_of_mem _ e
theorem q56(l:List Rat)(h:l≠[]):qkx l ∈ l:=by
 cases l with
 | nil=>exact absurd rfl h
 | cons q l=>
  rcases qkc (fun m a=>if m<a then a else m) (fun m a=>by split<;>simp) l q with e|e
  ·show List.foldl _ q l ∈ _;rw[e];simp
  ·exact List.mem_cons_of_mem _ e
theorem q3a{a b c d:Rat}{m:Nat}(ba:bd a m)(bb:bd b m)(bc:bd c m)(bdd:bd d m):∀p ∈ [a*c,a*d,b*c,b*d],bd p (m+m):=by
 intro p hp;simp only[List.mem_cons,List.not_mem_nil,or_false] at hp;rcases hp with rfl|rfl|rfl|rfl
 ·exact qe0 ba bc
 ·exact qe0 ba bdd
 ·exact qe0 bb bc
 ·exact qe0 bb bdd
theorem qpd(a b:BA × BA)(w:World)(hg:GW w)(ha:a.1.size≤1073741824∧a.2.size≤1073741824)(hb:b.1.size≤1073741824∧b.2.size≤1073741824):
  Calls Tryz.prog 46 #[.agg #[.string a.1,.string a.2],.agg #[.string b.1,.string b.2],.func (.func 47) #[] #[]] w (qku (qlp [(spQ a).1*(spQ b).1,(spQ a).1*(spQ b).2,(spQ a).2*(spQ b).1,(spQ a).2*(spQ b).2]) (qkx [(spQ a).1*(spQ b).1,(spQ a).1*(spQ b).2,(spQ a).2*(spQ b).1,(spQ a).2*(spQ b).2]) a b w):=by
 have aO:=hid (qxn w a b 47 47 47);have dG:=q8i w (.cells #[.string a.1,.string a.2] 47) (.cells #[.string b.1,.string b.2] 47) (.cells #[.string ⟨#[]⟩,.string ⟨#[]⟩] 47);have Lc:=hid (q8j aO.out dG hg ha hb);obtain⟨s0,s1⟩:=qap aO.out.2.1;obtain⟨s2,s3⟩:=qap aO.out.2.2.1;by_cases h0:qai [qdf a,qdf b]=0
 ·have aF:Hid (∀e w',qe8 (qlp [(spQ a).1*(spQ b).1,(spQ a).1*(spQ b).2,(spQ a).2*(spQ b).1,(spQ a).2*(spQ b).2]) (qkx [(spQ a).1*(spQ b).1,(spQ a).1*(spQ b).2,(spQ a).2*(spQ b).1,(spQ a).2*(spQ b).2]) w e w'→qku (qlp [(spQ a).1*(spQ b).1,(spQ a).1*(spQ b).2,(spQ a).2*(spQ b).1,(spQ a).2*(spQ b).2]) (qkx [(spQ a).1*(spQ b).1,(spQ a).1*(spQ b).2,(spQ a).2*(spQ b).1,(spQ a).2*(spQ b).2]) a b w e w'):=hid fun e w' h=>by
   unfold qku;rw[if_neg (by omega)];exact h
  simp only[if_pos h0] at Lc;obtain⟨e1,e2⟩:=qms h0;obtain⟨ba1,ba2,_⟩:=qr0 e1;obtain⟨bb1,bb2,_⟩:=qr0 e2
  have Iz:Hid (∀W va vb,qgo W va (spQ a).1 (spQ a).2→qgo W vb (spQ b).1 (spQ b).2→Calls Tryz.prog 47 #[va,vb] W fun e w'=>(∃v',e = .returned v'∧qgo w' v' (qlp [(spQ a).1*(spQ b).1,(spQ a).1*(spQ b).2,(spQ a).2*(spQ b).1,(spQ a).2*(spQ b).2]) (qkx [(spQ a).1*(spQ b).1,(spQ a).1*(spQ b).2,(spQ a).2*(spQ b).1,(spQ a).2*(spQ b).2]))∧Below W.heap.size W w'):=
   hid fun W va vb uC sX=>qv6 va vb _ _ _ _ W 600 uC sX ba1 ba2 bb1 bb2 (by omega)
  have Aq:Hid (∀W v,qgo W v (qlp [(spQ a).1*(spQ b).1,(spQ a).1*(spQ b).2,(spQ a).2*(spQ b).1,(spQ a).2*(spQ b).2]) (qkx [(spQ a).1*(spQ b).1,(spQ a).1*(spQ b).2,(spQ a).2*(spQ b).1,(spQ a).2*(spQ b).2])→Calls Tryz.prog 54 #[v] W (qe8 (qlp [(spQ a).1*(spQ b).1,(spQ a).1*(spQ b).2,(spQ a).2*(spQ b).1,(spQ a).2*(spQ b).2]) (qkx [(spQ a).1*(spQ b).1,(spQ a).1*(spQ b).2,(spQ a).2*(spQ b).1,(spQ a).2*(spQ b).2]) W)):=hid fun W v hv=>qln v _ _ W hv (by have:=(q3a ba1 ba2 bb1 bb2 _ (q55 _ (by simp))).rs;unfold Cap;omega) (by have:=(q3a ba1 ba2 bb1 bb2 _ (q56 _ (by simp))).rs;unfold Cap;omega);clear hg ha hb h0 dG aO ba1 ba2 bb1 bb2 e1 e2;generalize qlp [(spQ a).1*(spQ b).1,(spQ a).1*(spQ b).2,(spQ a).2*(spQ b).1,(spQ a).2*(spQ b).2]=rlo at *;generalize qkx [(spQ a).1*(spQ b).1,(spQ a).1*(spQ b).2,(spQ a).2*(spQ b).1,(spQ a).2*(spQ b).2]=rhi at *;go_enter Tryz.func46,Tryz.ntmps46;go_wp2_with fail;clear s0 s1 s2 s3;refine Lc.out.mono ?_;rintro e w1 ⟨⟨g,Cj,rfl,hr⟩,hw⟩;obtain⟨x,y,x',y',hc,uC,sX⟩:=q2s hr;have hd:Below w1.heap.size w1 w1.drew:=(qaa _ _).drew;have HC:=hid hc;have fL:=hc w1 (qaa _ _);have iI:=hid (Iz.out w1.drew _ _ (uC.later hd) (sX.later hd));have eJ:=hid hw;have fB:=hid hd;obtain⟨q0,q1,q2,q3,q4,q5,q6,q7,q8,q9,q10,q11⟩:=id fL;clear hr hw uC sX hc hd Lc Iz;go_wp2_with fail
  go_region_held3 (fun W=>W.cell? ⟨g,0,none⟩=some (.bool x.b)∧W.cell? ⟨g,1,none⟩=some (.slice x.p x.k x.c)∧W.cell? ⟨g,2,none⟩=some (.slice x.q x.j x.d)∧W.cell? ⟨g,3,none⟩=some (.bool y.b)∧W.cell? ⟨g,4,none⟩=some (.slice y.p y.k y.c)∧W.cell? ⟨g,5,none⟩=some (.slice y.q y.j y.d)∧W.cell? ⟨g,6,none⟩=some (.bool x'.b)∧W.cell? ⟨g,7,none⟩=some (.slice x'.p x'.k x'.c)∧W.cell? ⟨g,8,none⟩=some (.slice x'.q x'.j x'.d)∧W.cell? ⟨g,9,none⟩=some (.bool y'.b)∧W.cell? ⟨g,10,none⟩=some (.slice y'.p y'.k y'.c)∧W.cell? ⟨g,11,none⟩=some (.slice y'.q y'.j y'.d)) (first|with_reducible exact qv2 hcc3 (by omega) _ _|with_reducible exact HC.out _ vK.out|with_reducible exact HC.out _ jF.out|exact fL)
   (first|(go_at_call 47;refine iI.out.mono ?_;rintro e w2 ⟨⟨v2,rfl,pJ⟩,aR⟩;obtain⟨z1,z2,rfl,_,_⟩:=pJ.nv;have cK:=hid pJ;have jF:Hid (Below w1.heap.size w1 w2):=hid (fB.out.trans (aR.mono fB.out.size));clear pJ aR)|(go_at_call 54;refine(Aq.out _ _ cK.out).mono ?_;rintro e w3 h;obtain⟨t1,t2,ec,rfl,h2⟩:=qjh h;have vK:Hid (Below w1.heap.size w1 w3):=hid (jF.out.trans (h2.2.mono jF.out.size));have uQ:=hid h2;have Ag:=hid (eJ.out.later vK.out);have hcc3:=HC.out _ vK.out;obtain⟨⟨r0,g0⟩,⟨r1,g1⟩⟩:=qia Ag.out.2.2.2;clear h h2))
  all_goals
   have HB:=hid (qho Ag.out.1 (show w.heap.size≤w.heap.size+1+1 by omega) (.string t1) (.string t2));go_wp2_with fail;refine bodyPost_ret (v := .tuple #[.agg #[.string t1,.string t2],.int .i64 ec]) ?_ rfl ?_
   ·simp[results,Tryz.results46,go_sem,r0,r1]
   ·exact aF.out _ _ ⟨uQ.out.1,HB.out⟩
 ·have aF:Hid (∀w',Below w.heap.size w w'→qku (qlp [(spQ a).1*(spQ b).1,(spQ a).1*(spQ b).2,(spQ a).2*(spQ b).1,(spQ a).2*(spQ b).2]) (qkx [(spQ a).1*(spQ b).1,(spQ a).1*(spQ b).2,(spQ a).2*(spQ b).1,(spQ a).2*(spQ b).2]) a b w (.returned (.tuple #[.agg #[.string ⟨#[]⟩,.string ⟨#[]⟩],.int .i64 (qai [qdf a,qdf b]:Nat)])) w'):=hid fun w' h=>by
   unfold qku;rw[if_pos h0];exact⟨rfl,h⟩
  simp only[if_neg h0] at Lc;have eE:((qai [qdf a,qdf b]:Int)==0)=false:=qan (by omega);clear hg ha hb h0 dG aO;generalize qai [qdf a,qdf b]=ck at *;go_enter Tryz.func46,Tryz.ntmps46;go_wp2_with fail;clear s0 s1 s2 s3;refine Lc.out.mono ?_;rintro e w1 ⟨rfl,hw⟩;obtain⟨⟨r0,g0⟩,⟨r1,g1⟩⟩:=qia hw.2.2.2;have HB:=hid (qho hw.1 (show w.heap.size≤w.heap.size+1+1 by omega) (.string ⟨#[]⟩) (.string ⟨#[]⟩));clear hw Lc;go_wp2_with fail;refine bodyPost_ret (v := .tuple #[.agg #[.string ⟨#[]⟩,.string ⟨#[]⟩],.int .i64 ck]) ?_ rfl ?_
  ·simp[results,Tryz.results46,go_sem,r0,r1]
  ·exact aF.out _ HB.out
theorem qt3(a b:BA × BA)(w:World)(hg:GW w)(ha:a.1.size≤1073741824∧a.2.size≤1073741824)(hb:b.1.size≤1073741824∧b.2.size≤1073741824):
  Calls Tryz.prog 15 #[.agg #[.string a.1,.string a.2],.agg #[.string b.1,.string b.2]] w (qku (qlp [(spQ a).1*(spQ b).1,(spQ a).1*(spQ b).2,(spQ a).2*(spQ b).1,(spQ a).2*(spQ b).2]) (qkx [(spQ a).1*(spQ b).1,(spQ a).1*(spQ b).2,(spQ a).2*(spQ b).1,(spQ a).2*(spQ b).2]) a b w):=by
 have aO:=hid (qxn w a b 47 47 47);have eU:=hid (qpd a b _ (hg.later aO.out.1) ha hb);obtain⟨s0,s1⟩:=qap aO.out.2.1;obtain⟨s2,s3⟩:=qap aO.out.2.2.1;clear hg ha hb;have aF:Hid (∀W w1 w' t1 t2 ec,qku (qlp [(spQ a).1*(spQ b).1,(spQ a).1*(spQ b).2,(spQ a).2*(spQ b).1,(spQ a).2*(spQ b).2]) (qkx [(spQ a).1*(spQ b).1,(spQ a).1*(spQ b).2,(spQ a).2*(spQ b).1,(spQ a).2*(spQ b).2]) a b W (.returned (.tuple #[.agg #[.string t1,.string t2],.int .i64 ec])) w1→Below w.heap.size w w'→qku (qlp [(spQ a).1*(spQ b).1,(spQ a).1*(spQ b).2,(spQ a).2*(spQ b).1,(spQ a).2*(spQ b).2]) (qkx [(spQ a).1*(spQ b).1,(spQ a).1*(spQ b).2,(spQ a).2*(spQ b).1,(spQ a).2*(spQ b).2]) a b w (.returned (.tuple #[.agg #[.string t1,.string t2],.int .i64 ec])) w'):=hid fun W w1 w' t1 t2 ec h hb=>qzr h hb;generalize qlp [(spQ a).1*(spQ b).1,(spQ a).1*(spQ b).2,(spQ a).2*(spQ b).1,(spQ a).2*(spQ b).2]=rlo at *;generalize qkx [(spQ a).1*(spQ b).1,(spQ a).1*(spQ b).2,(spQ a).2*(spQ b).1,(spQ a).2*(spQ b).2]=rhi at *;go_enter Tryz.func15,Tryz.ntmps15;go_wp2_with fail;refine eU.out.mono ?_;rintro e w1 h;obtain⟨t1,t2,ec,rfl,h2,hb⟩:=qzq h;have HF:=hid h2;have eJ:=hid (aO.out.later hb);obtain⟨⟨r0,g0⟩,⟨r1,g1⟩⟩:=qia eJ.out.2.2.2;have HB:=hid (qho eJ.out.1 (show w.heap.size≤w.heap.size+1+1 by omega) (.string t1) (.string t2));clear h h2 hb eU s0 s1 s2 s3;go_wp2_with fail;refine bodyPost_ret (v := .tuple #[.agg #[.string t1,.string t2],.int .i64 ec]) ?_ rfl ?_
 ·simp[results,Tryz.results15,go_sem,r0,r1]
 ·exact aF.out _ _ _ _ _ _ HF.out HB.out
def qio(p q:Rat × Rat):Bool:=decide (p.2<q.1)||decide (q.2<p.1)
def qmy(l:List (Rat × Rat))(i k:Nat):Prop:=
 i<k∧k<l.length∧qio (l.getD i (0,0)) (l.getD k (0,0))=true∧(∀j,i<j→j<k→qio (l.getD i (0,0)) (l.getD j (0,0))=false)∧∀h j,h<i→h<j→j<l.length→qio (l.getD h (0,0)) (l.getD j (0,0))=false
def qwc(l:List (Rat × Rat)):Prop:=∀h j,h<j→j<l.length→qio (l.getD h (0,0)) (l.getD j (0,0))=false
def qjk(l:List (BA × BA))(w:World)(e:Ending)(w':World):Prop:=
 (if qb8 l≠0 then e = .returned (.tuple #[.int .i64 0,.int .i64 0,.int .i64 (qb8 l:Nat)])
  else(∃i k,qmy (l.map spQ) i k∧e = .returned (.tuple #[.int .i64 (i:Nat),.int .i64 (k:Nat),.int .i64 0]))∨(qwc (l.map spQ)∧e = .returned (.tuple #[.int .i64 0,.int .i64 0,.int .i64 7])))∧Below w.heap.size w w'
theorem qmz{l:List Nat}(h:qai l=0):∀x ∈ l,x=0:=by
 induction l with
 | nil=>simp
 | cons a l ih=>
  have h1:(if a=0 then qai l else a)=0:=h;intro x hx;by_cases ha:a=0
  ·rw[if_pos ha] at h1
   rcases List.mem_cons.1 hx with rfl|hx
   ·exact ha
   ·exact ih h1 x hx
  ·rw[if_neg ha] at h1;exact absurd h1 ha
theorem qig{l:List (BA × BA)}(h:qb8 l=0):1≤l.length∧l.length≤256∧∀s ∈ l,qdf s=0:=by
 unfold qb8 at h;split at h
 ·cases h
 ·split at h
  ·cases h
  ·exact⟨by omega,by omega,fun s hs=>qmz h _ (List.mem_map_of_mem hs)⟩
theorem q3b{l:List (BA × BA)}(h:qb8 l=0)(i:Nat)(q:Rat × Rat)(hi:(l.map spQ)[i]? = some q):bd q.1 600∧bd q.2 600∧q.1≤q.2:=by
 rw[List.getElem?_map] at hi;cases hs:l[i]? with
 | none=>rw[hs] at hi;cases hi
 | some s=>
  rw[hs] at hi;cases hi
  exact qr0 ((qig h).2.2 s (qbj hs))
theorem qn1(w:World)(x y:NV)(t:TypeId):qkb (w.alloc (.cells #[.bool x.b,.slice x.p x.k x.c,.slice x.q x.j x.d,.bool y.b,.slice y.p y.k y.c,.slice y.q y.j y.d] t)) w.heap.size x y:=qks _ _ _ _ _ _ _ _
theorem qr8{W:World}{g cap:Nat}{l:List (Rat × Rat)}(h:qdk ivK W g cap l)(j:Nat)(q:Rat × Rat)(hj:l[j]? = some q):∃x y:NV,
  (W.cell? ⟨g,j*6,none⟩=some (.bool x.b)∧W.cell? ⟨g,j*6+1,none⟩=some (.slice x.p x.k x.c)∧W.cell? ⟨g,j*6+2,none⟩=some (.slice x.q x.j x.d)∧
   W.cell? ⟨g,j*6+3,none⟩=some (.bool y.b)∧W.cell? ⟨g,j*6+4,none⟩=some (.slice y.p y.k y.c)∧W.cell? ⟨g,j*6+5,none⟩=some (.slice y.q y.j y.d))∧
  qaw W (.agg #[.bool x.b,.slice x.p x.k x.c,.slice x.q x.j x.d]) q.1∧qaw W (.agg #[.bool y.b,.slice y.p y.k y.c,.slice y.q y.j y.d]) q.2:=by
 obtain⟨cs,⟨x,y,rfl,h1,h2⟩,hc⟩:=h.get j q hj;exact⟨x,y,⟨hc 0 _ rfl,hc 1 _ rfl,hc 2 _ rfl,hc 3 _ rfl,hc 4 _ rfl,hc 5 _ rfl⟩,h1,h2⟩
theorem q57(v:Value)(l:List (BA × BA))(w:World)(hg:GW w)(hv:qdc w v l)(hs:∀s ∈ l,s.1.size≤1073741824∧s.2.size≤1073741824)(h0:qb8 l=0):
  Calls Tryz.prog 16 #[v] w (qjk l w):=by
 have dQ:=hid ((qic v l w hg hv hs).mono (R':=fun e w'=>(∃g,e = .returned (.tuple #[.slice (some ⟨g,0,none⟩) l.length l.length,.int .i64 0])∧qdk ivK w' g l.length (l.map spQ))∧Below w.heap.size w w') (fun e w' h=>by
  unfold qft at h;rw[if_pos h0] at h;obtain⟨⟨g,_,he,hr⟩,hb⟩:=h
  exact⟨⟨g,he,hr⟩,hb⟩))
 obtain⟨p,c,rfl,bO,bJ,aA⟩:=hv;obtain⟨oK,oL,_⟩:=qig h0;have fB:=hid (q3b h0)
 have aF:Hid (∀w',Below w.heap.size w w'→(∀(i k:Nat) (z:Int),qmy (l.map spQ) i k→z=(k:Int)→qjk l w (.returned (.tuple #[.int .i64 (i:Nat),.int .i64 z,.int .i64 0])) w')∧(qwc (l.map spQ)→qjk l w (.returned (.tuple #[.int .i64 0,.int .i64 0,.int .i64 7])) w')):=hid fun w' hb=>by
  constructor
  ·rintro i k z h rfl
   unfold qjk;rw[if_neg (by omega)];exact⟨.inl ⟨i,k,h,rfl⟩,hb⟩
  ·intro h
   unfold qjk;rw[if_neg (by omega)];exact⟨.inr ⟨h,rfl⟩,hb⟩
 have aW:Hid ((l.map spQ).length=l.length):=hid (List.length_map _);clear aA hg hs h0;generalize l.map spQ=qs at *;generalize hn:l.length=n at *;clear hn;go_enter Tryz.func16,Tryz.ntmps16;go_wp2_with fail
 go_step3
 go_wp2_with fail;refine dQ.out.mono ?_;rintro e w1 ⟨⟨g,rfl,hr⟩,hb⟩;have HR:=hid hr;have HB:=hid hb;clear hr hb dQ;go_wp2_with fail
 go_step3
 go_wp2_with fail
 go_loopw [7,8,23] (fun s7 s8 i wr=>∃k:Nat,k≤n∧s7 = .int .i64 0∧s8 = .int .i64 0∧i = .int .i64 k∧Hid (Below w1.heap.size w1 wr)∧Hid (∀h j,h<k→h<j→j<n→qio (qs.getD h (0,0)) (qs.getD j (0,0))=false)) (fun _ _ i _=>n-(intOf i).toNat)
 case atStart=>exact⟨0,Nat.zero_le _,rfl,rfl,rfl,hid (qaa _ _),hid (fun h j hh=>by omega)⟩
 case round=>
  obtain⟨k,hk,rfl,rfl,rfl,bU,rR⟩:=hrel;obtain⟨wu,rfl⟩:∃wu:World,wu=wr:=⟨_,rfl⟩;by_cases kT:k<n
  ·obtain⟨q,hq⟩:∃q,qs[k]? = some q:=⟨qs[k]'(by rw[aW.out];exact kT),qat _⟩
   have Co:=HR.out.later qfs bU.out;obtain⟨x,y,⟨a0,a1,a2,a3,a4,a5⟩,hx,hy⟩:=qr8 Co k q hq;obtain⟨wo,hwo⟩:∃wo:World,wo=wu.alloc (.cells #[.bool x.b,.slice x.p x.k x.c,.slice x.q x.j x.d,.bool y.b,.slice y.p y.k y.c,.slice y.q y.j y.d] 101):=⟨_,rfl⟩;have HQ:=hid hq;have aD:Below wu.heap.size wu wo:=by rw[hwo];exact qad _ _
   have HX:=hid (hx.later aD);have HY:=hid (hy.later aD);have An:Hid (qkb wo wu.heap.size x y):=hid (by rw[hwo];exact qn1 _ _ _ _);have aP:=hid (bU.out.trans (aD.mono bU.out.size));have oP:=hid (Co.later qfs aD);clear hq Co hx hy aD;subst hwo;by_cases tJ:k+1=n
   ·have Jf:Hid (∀h j,h<k+1→h<j→j<n→qio (qs.getD h (0,0)) (qs.getD j (0,0))=false):=hid (fun h j hh hj kN=>by
     rcases Nat.lt_or_ge h k with h1|h1
     ·exact rR.out h j h1 hj kN
     ·exfalso;omega)
    go_wp2_with fail
    go_loopw [7,8,33] (fun s7 s8 i wq=>s7 = .int .i64 0∧s8 = .int .i64 0∧i = .int .i64 0∧wq=(wu.alloc (.cells #[.bool x.b,.slice x.p x.k x.c,.slice x.q x.j x.d,.bool y.b,.slice y.p y.k y.c,.slice y.q y.j y.d] 101))) (fun _ _ _ _=>0)
    case atStart=>exact⟨rfl,rfl,rfl,rfl⟩
    case round=>
     obtain⟨rfl,rfl,rfl,rfl⟩:=hrel;go_wp2_with fail;go_roundw
     case rel=>exact⟨k+1,by omega,rfl,rfl,by go_num,aP,Jf⟩
     case measure=>simp[intOf];omega
   ·obtain⟨r,hr⟩:∃r,r=n-(k+1):=⟨_,rfl⟩
    have hrk:k+1+r=n:=by omega
    have HRK:=hid hr;go_wp2_with fail;simp only[←hr];clear hr a0 a1 a2 a3 a4 a5
    go_loopw [7,8,33] (fun s7 s8 i wq=>∃m:Nat,m≤r∧s7 = .int .i64 0∧s8 = .int .i64 0∧i = .int .i64 m∧Hid (Below (wu.alloc (.cells #[.bool x.b,.slice x.p x.k x.c,.slice x.q x.j x.d,.bool y.b,.slice y.p y.k y.c,.slice y.q y.j y.d] 101)).heap.size (wu.alloc (.cells #[.bool x.b,.slice x.p x.k x.c,.slice x.q x.j x.d,.bool y.b,.slice y.p y.k y.c,.slice y.q y.j y.d] 101)) wq)∧Hid (∀j,k<j→j<k+1+m→qio (qs.getD k (0,0)) (qs.getD j (0,0))=false)) (fun _ _ i _=>r-(intOf i).toNat)
    case atStart=>exact⟨0,Nat.zero_le _,rfl,rfl,rfl,hid (qaa _ _),hid (fun j h1 h2=>by omega)⟩
    case round=>
     obtain⟨m,hm,rfl,rfl,rfl,uD,Kz⟩:=hrel;by_cases hmr:m<r
     ·obtain⟨q',hq'⟩:∃q',qs[k+1+m]? = some q':=⟨qs[k+1+m]'(by rw[aW.out];omega),qat _⟩
      have Co:=oP.out.later qfs uD.out;obtain⟨x',y',hb6,hx',hy'⟩:=qr8 Co (k+1+m) q' hq';have e6:(k+1+m)*6=(k+1)*6+m*6:=by omega
      rw[e6] at hb6;obtain⟨b0,b1,b2,b3,b4,b5⟩:=hb6;obtain⟨w2,kZ⟩:∃w2:World,w2=wr.alloc (.cells #[.bool x'.b,.slice x'.p x'.k x'.c,.slice x'.q x'.j x'.d,.bool y'.b,.slice y'.p y'.k y'.c,.slice y'.q y'.j y'.d] 101):=⟨_,rfl⟩;have aD:Below wr.heap.size wr w2:=by rw[kZ];exact qad _ _
      have xE:Hid (qkb w2 wr.heap.size x' y'):=hid (by rw[kZ];exact qn1 _ _ _ _);have rJ:Hid (qkb w2 wu.heap.size x y):=hid (Own.later An.out ((uD.out.trans (aD.mono uD.out.size)).mono An.out.1));have aK:=hid (uD.out.trans (aD.mono uD.out.size));have bq:=fB.out k q HQ.out;have bq':=fB.out _ q' hq';have jJ:=hid (qdp (.agg #[.bool y.b,.slice y.p y.k y.c,.slice y.q y.j y.d]) (.agg #[.bool x'.b,.slice x'.p x'.k x'.c,.slice x'.q x'.j x'.d]) q.2 q'.1 w2 (HY.out.later aK.out) (hx'.later aD) (by have:=bq.2.1.rs;have:=bq'.1.rs;unfold Cap;omega));have gS:Hid (∀W,Below w2.heap.size w2 W→Calls Tryz.prog 49 #[.agg #[.bool y'.b,.slice y'.p y'.k y'.c,.slice y'.q y'.j y'.d],.agg #[.bool x.b,.slice x.p x.k x.c,.slice x.q x.j x.d]] W fun e w'=>e = .returned (.int .i64 (qfd q'.2 q.1))∧Below W.heap.size W w'):=hid fun W hW=>qdp _ _ q'.2 q.1 W ((hy'.later aD).later hW) ((HX.out.later aK.out).later hW) (by have:=bq'.2.1.rs;have:=bq.1.rs;unfold Cap;omega)
      have jR:Hid (qio (qs.getD k (0,0)) (qs.getD (k+1+m) (0,0))=(decide (qfd q.2 q'.1<0)||decide (qfd q'.2 q.1<0))):=hid (by
       rw[qba,HQ.out,qba,hq'];show(decide (q.2<q'.1)||decide (q'.2<q.1))=_
       rw[decide_eq_decide.2 (@qo0 q.2 q'.1),decide_eq_decide.2 (@qo0 q'.2 q.1)])
      obtain⟨p0,p1,p2,p3,p4,p5⟩:=rJ.out.cells;obtain⟨t0,t1,t2,t3,t4,t5⟩:=xE.out.cells;clear Co hx' hy' aD hq' bq bq' e6;generalize qfd q.2 q'.1=r1 at *;generalize qfd q'.2 q.1=r2 at *;have hz:((k:Int)+1+m==0)=false:=qan (by omega);have HFC:Hid (r1<0∨r2<0→qmy qs k (k+1+m)):=hid (fun h=>⟨by omega,by rw[aW.out];omega,by rw[jR.out];rcases h with h|h<;>simp[h],fun j h1 h2=>Kz.out j h1 h2,fun h' j h1 h2 h3=>rR.out h' j h1 h2 (by rw[←aW.out];exact h3)⟩);have cZ:=hid (HB.out.trans ((aP.out.trans (aK.out.mono aP.out.size)).mono HB.out.size));have Cb:=aK;subst kZ;by_cases h1:r1<0
      ·go_wp2_with fail
       refine jJ.out.mono ?_;rintro e w3 ⟨rfl,cJ⟩;have Ld:=hid (cZ.out.trans (cJ.mono cZ.out.size));clear cJ p0 p1 p2 p3 p4 p5 t0 t1 t2 t3 t4 t5 jJ gS;go_wp2_with fail;rw[Exit.noGoto_ret]
       go_ret3
       exact(aF.out _ Ld.out).1 k (k+1+m) _ (HFC.out (.inl h1)) (by omega)
      ·by_cases h2:r2<0
       ·go_wp2_with fail
        refine jJ.out.mono ?_;rintro e w3 ⟨rfl,cJ⟩;have bR:=hid cJ;have Ld:=hid (cZ.out.trans (cJ.mono cZ.out.size));have pa:=rJ.out.later (cJ.mono rJ.out.1);have pb:=xE.out.later (cJ.mono xE.out.1);have Jg:=hid pa;have Jh:=hid pb;clear cJ pa pb p0 p1 p2 p3 p4 p5 t0 t1 t2 t3 t4 t5 jJ;obtain⟨p0,p1,p2,p3,p4,p5⟩:=qkb.cells Jg.out;obtain⟨t0,t1,t2,t3,t4,t5⟩:=qkb.cells Jh.out;go_wp2_with fail;refine(gS.out _ bR.out).mono ?_;rintro e w4 ⟨rfl,kV⟩;have HFB4:=hid (Ld.out.trans (kV.mono Ld.out.size));clear kV p0 p1 p2 p3 p4 p5 t0 t1 t2 t3 t4 t5 gS;go_wp2_with fail;rw[Exit.noGoto_ret]
        go_ret3
        exact(aF.out _ HFB4.out).1 k (k+1+m) _ (HFC.out (.inr h2)) (by omega)
       ·go_wp2_with fail
        refine jJ.out.mono ?_;rintro e w3 ⟨rfl,cJ⟩;have bR:=hid cJ;have pa:=rJ.out.later (cJ.mono rJ.out.1);have pb:=xE.out.later (cJ.mono xE.out.1);have Jg:=hid pa;have Jh:=hid pb;have vK:=hid (aK.out.trans (cJ.mono aK.out.size));clear cJ pa pb p0 p1 p2 p3 p4 p5 t0 t1 t2 t3 t4 t5 jJ;obtain⟨p0,p1,p2,p3,p4,p5⟩:=qkb.cells Jg.out;obtain⟨t0,t1,t2,t3,t4,t5⟩:=qkb.cells Jh.out;go_wp2_with fail;refine(gS.out _ bR.out).mono ?_;rintro e w4 ⟨rfl,kV⟩;have HBB4:=hid (vK.out.trans (kV.mono vK.out.size))
        have za1:Hid (∀j,k<j→j<k+1+(m+1)→qio (qs.getD k (0,0)) (qs.getD j (0,0))=false):=hid (fun j xN Ku=>by
         rcases Nat.lt_or_ge j (k+1+m) with h3|h3
         ·exact Kz.out j xN h3
         ·obtain rfl:k+1+m=j:=by omega
          rw[jR.out];simp[h1,h2])
        clear kV p0 p1 p2 p3 p4 p5 t0 t1 t2 t3 t4 t5 gS;go_wp2_with fail;go_roundw
        case rel=>exact⟨m+1,by omega,rfl,rfl,by go_num,HBB4,za1⟩
        case measure=>simp[intOf];omega
     ·have Jf:Hid (∀h j,h<k+1→h<j→j<n→qio (qs.getD h (0,0)) (qs.getD j (0,0))=false):=hid (fun h j hh hj kN=>by
       rcases Nat.lt_or_ge h k with h1|h1
       ·exact rR.out h j h1 hj kN
       ·obtain rfl:k=h:=by omega
        exact Kz.out j hj (by omega))
      have bR:=hid (aP.out.trans (uD.out.mono aP.out.size));go_wp2_with fail;go_roundw
      case rel=>exact⟨k+1,by omega,rfl,rfl,by go_num,bR,Jf⟩
      case measure=>simp[intOf];omega
  ·have HFA:Hid (qwc qs):=hid (fun h j hh hj=>rR.out h j (by rw[aW.out] at hj;omega) hh (by rw[←aW.out];exact hj))
   have Ld:=hid (HB.out.trans (bU.out.mono HB.out.size));go_wp2_with fail;rw[Exit.noGoto_ret]
   go_ret3
   exact(aF.out _ Ld.out).2 HFA.out
theorem q3c(v:Value)(l:List (BA × BA))(w:World)(hg:GW w)(hv:qdc w v l)(hs:∀s ∈ l,s.1.size≤1073741824∧s.2.size≤1073741824):
  Calls Tryz.prog 16 #[v] w (qjk l w):=by
 by_cases h0:qb8 l=0
 ·exact q57 v l w hg hv hs h0
 have dQ:=hid ((qic v l w hg hv hs).mono (R':=fun e w'=>e = .returned (.tuple #[.slice none 0 0,.int .i64 (qb8 l:Nat)])∧Below w.heap.size w w') (fun e w' h=>by
  unfold qft at h;rw[if_neg h0] at h
  exact h))
 have aF:Hid (∀w',Below w.heap.size w w'→qjk l w (.returned (.tuple #[.int .i64 0,.int .i64 0,.int .i64 (qb8 l:Nat)])) w'):=hid fun w' hb=>by
  unfold qjk;rw[if_pos h0];exact⟨rfl,hb⟩
 have eE:((qb8 l:Int)==0)=false:=qan (by omega);obtain⟨p,c,rfl,bO,bJ,aA⟩:=hv;clear aA hg hs h0;generalize qb8 l=ck at *;go_enter Tryz.func16,Tryz.ntmps16;go_wp2_with fail
 go_step3
 go_wp2_with fail;refine dQ.out.mono ?_;rintro e w1 ⟨rfl,hb⟩;have HB:=hid hb;clear hb dQ;go_wp2_with fail;rw[Exit.noGoto_ret]
 go_ret3
 exact aF.out _ HB.out
end Go.Proofs.YtmcfcpgglfimjaaGreatDoor
