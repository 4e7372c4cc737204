/- MulSpans. -/
import Derived.Test.YthjagoogkkgelaaGreatDoorMNv
import Derived.Test.YthjagoogkkgelaaGreatDoorMMinMax
import Derived.Deep.LoopGhost
import Derived.Outline
set_option linter.all false
namespace Go.Proofs.YthjagoogkkgelaaGreatDoor
open Go.RowKit
set_option maxRecDepth 100000
set_option maxHeartbeats 8000000
theorem qkl(f:Rat→Rat→Rat)(hf:∀m a,f m a=m∨f m a=a)(l:List Rat)(m:Rat):l.foldl f m=m∨l.foldl f m ∈ l:=by
 induction l generalizing m with
 | nil=>exact .inl rfl
 | cons a l ih=>
  rw[List.foldl_cons];rcases ih (f m a) with h|h
  ·rw[h]
   rcases hf m a with e|e
   ·exact .inl e
   ·rw[e];exact .inr (by simp)
  ·exact .inr (List.mem_cons_of_mem _ h)
theorem q6i(l:List Rat)(h:l≠[]):qlz l ∈ l:=by
 cases l with
 | nil=>exact absurd rfl h
 | cons q l=>
  rcases qkl (fun m a=>if a<m then a else m) (fun m a=>by split<;>simp) l q with e|e
  ·show List.foldl _ q l ∈ _;rw[e];simp
  ·exact List.mem_cons_of_mem _ e
theorem q6j(l:List Rat)(h:l≠[]):qlb l ∈ l:=by
 cases l with
 | nil=>exact absurd rfl h
 | cons q l=>
  rcases qkl (fun m a=>if m<a then a else m) (fun m a=>by split<;>simp) l q with e|e
  ·show List.foldl _ q l ∈ _;rw[e];simp
  ·exact List.mem_cons_of_mem _ e
theorem q2u{a b c d:Rat}{m:Nat}(ba:bd a m)(bb:bd b m)(bc:bd c m)(bdd:bd d m):∀p ∈ [a*c,a*d,b*c,b*d],bd p (m+m):=by
 intro p hp;simp only[List.mem_cons,List.not_mem_nil,or_false] at hp;rcases hp with rfl|rfl|rfl|rfl
 ·exact qe8 ba bc
 ·exact qe8 ba bdd
 ·exact qe8 bb bc
 ·exact qe8 bb bdd
theorem qpp(a b:ByteArray × ByteArray)(w:World)(hg:GW w)(ha:a.1.size≤1073741824∧a.2.size≤1073741824)(hb:b.1.size≤1073741824∧b.2.size≤1073741824):
  Calls Tryz.prog 60 #[.agg #[.string a.1,.string a.2],.agg #[.string b.1,.string b.2],.func (.func 61) #[] #[]] w (qk2 (qlz [(spQ a).1*(spQ b).1,(spQ a).1*(spQ b).2,(spQ a).2*(spQ b).1,(spQ a).2*(spQ b).2]) (qlb [(spQ a).1*(spQ b).1,(spQ a).1*(spQ b).2,(spQ a).2*(spQ b).1,(spQ a).2*(spQ b).2]) a b w):=by
 have HW0:=hid (qx9 w a b 28 28 28);have hsz:=q89 w (.cells #[.string a.1,.string a.2] 28) (.cells #[.string b.1,.string b.2] 28) (.cells #[.string ⟨#[]⟩,.string ⟨#[]⟩] 28);have HRE:=hid (q9a HW0.out hsz hg ha hb);obtain⟨s0,s1⟩:=qag HW0.out.2.1;obtain⟨s2,s3⟩:=qag HW0.out.2.2.1;by_cases h0:qac [qb3 a,qb3 b]=0
 ·have HFIN:Hid (∀e w',qd0 (qlz [(spQ a).1*(spQ b).1,(spQ a).1*(spQ b).2,(spQ a).2*(spQ b).1,(spQ a).2*(spQ b).2]) (qlb [(spQ a).1*(spQ b).1,(spQ a).1*(spQ b).2,(spQ a).2*(spQ b).1,(spQ a).2*(spQ b).2]) w e w'→qk2 (qlz [(spQ a).1*(spQ b).1,(spQ a).1*(spQ b).2,(spQ a).2*(spQ b).1,(spQ a).2*(spQ b).2]) (qlb [(spQ a).1*(spQ b).1,(spQ a).1*(spQ b).2,(spQ a).2*(spQ b).1,(spQ a).2*(spQ b).2]) a b w e w'):=hid fun e w' h=>by
   unfold qk2;rw[if_neg (by omega)];exact h
  simp only[if_pos h0] at HRE;obtain⟨e1,e2⟩:=qj8 h0;obtain⟨ba1,ba2,_⟩:=qsc e1;obtain⟨bb1,bb2,_⟩:=qsc e2
  have HOP:Hid (∀W va vb,qg1 W va (spQ a).1 (spQ a).2→qg1 W vb (spQ b).1 (spQ b).2→Calls Tryz.prog 61 #[va,vb] W fun e w'=>(∃v',e = .returned v'∧qg1 w' v' (qlz [(spQ a).1*(spQ b).1,(spQ a).1*(spQ b).2,(spQ a).2*(spQ b).1,(spQ a).2*(spQ b).2]) (qlb [(spQ a).1*(spQ b).1,(spQ a).1*(spQ b).2,(spQ a).2*(spQ b).1,(spQ a).2*(spQ b).2]))∧Below W.heap.size W w'):=
   hid fun W va vb hva hvb=>qwf va vb _ _ _ _ W 600 hva hvb ba1 ba2 bb1 bb2 (by omega)
  have HWT:Hid (∀W v,qg1 W v (qlz [(spQ a).1*(spQ b).1,(spQ a).1*(spQ b).2,(spQ a).2*(spQ b).1,(spQ a).2*(spQ b).2]) (qlb [(spQ a).1*(spQ b).1,(spQ a).1*(spQ b).2,(spQ a).2*(spQ b).1,(spQ a).2*(spQ b).2])→Calls Tryz.prog 35 #[v] W (qd0 (qlz [(spQ a).1*(spQ b).1,(spQ a).1*(spQ b).2,(spQ a).2*(spQ b).1,(spQ a).2*(spQ b).2]) (qlb [(spQ a).1*(spQ b).1,(spQ a).1*(spQ b).2,(spQ a).2*(spQ b).1,(spQ a).2*(spQ b).2]) W)):=hid fun W v hv=>qgc v _ _ W hv (by have:=(q2u ba1 ba2 bb1 bb2 _ (q6i _ (by simp))).rs;unfold Cap;omega) (by have:=(q2u ba1 ba2 bb1 bb2 _ (q6j _ (by simp))).rs;unfold Cap;omega);clear hg ha hb h0 hsz HW0 ba1 ba2 bb1 bb2 e1 e2;generalize qlz [(spQ a).1*(spQ b).1,(spQ a).1*(spQ b).2,(spQ a).2*(spQ b).1,(spQ a).2*(spQ b).2]=rlo at *;generalize qlb [(spQ a).1*(spQ b).1,(spQ a).1*(spQ b).2,(spQ a).2*(spQ b).1,(spQ a).2*(spQ b).2]=rhi at *;go_enter Tryz.func60,Tryz.ntmps60;go_wp2_with fail;clear s0 s1 s2 s3;refine HRE.out.mono ?_;rintro e w1 ⟨⟨g,hgs,rfl,hr⟩,hw⟩;obtain⟨x,y,x',y',hc,hva,hvb⟩:=q2n hr;have hd:Below w1.heap.size w1 w1.drew:=(Below.refl _ _).drew;have HC:=hid hc;have hcc:=hc w1 (Below.refl _ _);have HO1:=hid (HOP.out w1.drew _ _ (hva.later hd) (hvb.later hd));have HS1:=hid hw;have HBD:=hid hd;obtain⟨q0,q1,q2,q3,q4,q5,q6,q7,q8,q9,q10,q11⟩:=id hcc;clear hr hw hva hvb hc hd HRE HOP;go_wp2_with fail
  go_region_held3 (fun W=>W.cell? ⟨g,0,none⟩=some (.bool x.b)∧W.cell? ⟨g,1,none⟩=some (.slice x.p x.k x.c)∧W.cell? ⟨g,2,none⟩=some (.slice x.q x.j x.d)∧W.cell? ⟨g,3,none⟩=some (.bool y.b)∧W.cell? ⟨g,4,none⟩=some (.slice y.p y.k y.c)∧W.cell? ⟨g,5,none⟩=some (.slice y.q y.j y.d)∧W.cell? ⟨g,6,none⟩=some (.bool x'.b)∧W.cell? ⟨g,7,none⟩=some (.slice x'.p x'.k x'.c)∧W.cell? ⟨g,8,none⟩=some (.slice x'.q x'.j x'.d)∧W.cell? ⟨g,9,none⟩=some (.bool y'.b)∧W.cell? ⟨g,10,none⟩=some (.slice y'.p y'.k y'.c)∧W.cell? ⟨g,11,none⟩=some (.slice y'.q y'.j y'.d)) (first|with_reducible exact qwb hcc3 (by omega) _ _|with_reducible exact HC.out _ HBB3.out|with_reducible exact HC.out _ HBB2.out|exact hcc)
   (first|(go_at_call 61;refine HO1.out.mono ?_;rintro e w2 ⟨⟨v2,rfl,hv2⟩,hb2⟩;obtain⟨z1,z2,rfl,_,_⟩:=hv2.nv;have HV2:=hid hv2;have HBB2:Hid (Below w1.heap.size w1 w2):=hid (HBD.out.trans (hb2.mono HBD.out.size));clear hv2 hb2)|(go_at_call 35;refine(HWT.out _ _ HV2.out).mono ?_;rintro e w3 h;obtain⟨t1,t2,ec,rfl,h2⟩:=qfp h;have HBB3:Hid (Below w1.heap.size w1 w3):=hid (HBB2.out.trans (h2.2.mono HBB2.out.size));have HF3:=hid h2;have HS3:=hid (HS1.out.later HBB3.out);have hcc3:=HC.out _ HBB3.out;obtain⟨⟨r0,g0⟩,⟨r1,g1⟩⟩:=qax HS3.out.2.2.2;clear h h2))
  all_goals
   have HB:=hid (qbk HS3.out.1 (show w.heap.size≤w.heap.size+1+1 by omega) (.string t1) (.string t2));go_wp2_with fail;refine bodyPost_ret (v := .tuple #[.agg #[.string t1,.string t2],.int .i64 ec]) ?_ rfl ?_
   ·simp[results,Tryz.results60,go_sem,r0,r1]
   ·exact HFIN.out _ _ ⟨HF3.out.1,HB.out⟩
 ·have HFIN:Hid (∀w',Below w.heap.size w w'→qk2 (qlz [(spQ a).1*(spQ b).1,(spQ a).1*(spQ b).2,(spQ a).2*(spQ b).1,(spQ a).2*(spQ b).2]) (qlb [(spQ a).1*(spQ b).1,(spQ a).1*(spQ b).2,(spQ a).2*(spQ b).1,(spQ a).2*(spQ b).2]) a b w (.returned (.tuple #[.agg #[.string ⟨#[]⟩,.string ⟨#[]⟩],.int .i64 (qac [qb3 a,qb3 b]:Nat)])) w'):=hid fun w' h=>by
   unfold qk2;rw[if_pos h0];exact⟨rfl,h⟩
  simp only[if_neg h0] at HRE;have hb0:((qac [qb3 a,qb3 b]:Int)==0)=false:=beq_eq_false_iff_ne.2 (by omega);clear hg ha hb h0 hsz HW0;generalize qac [qb3 a,qb3 b]=ck at *;go_enter Tryz.func60,Tryz.ntmps60;go_wp2_with fail;clear s0 s1 s2 s3;refine HRE.out.mono ?_;rintro e w1 ⟨rfl,hw⟩;obtain⟨⟨r0,g0⟩,⟨r1,g1⟩⟩:=qax hw.2.2.2;have HB:=hid (qbk hw.1 (show w.heap.size≤w.heap.size+1+1 by omega) (.string ⟨#[]⟩) (.string ⟨#[]⟩));clear hw HRE;go_wp2_with fail;refine bodyPost_ret (v := .tuple #[.agg #[.string ⟨#[]⟩,.string ⟨#[]⟩],.int .i64 ck]) ?_ rfl ?_
  ·simp[results,Tryz.results60,go_sem,r0,r1]
  ·exact HFIN.out _ HB.out
theorem qt8(a b:ByteArray × ByteArray)(w:World)(hg:GW w)(ha:a.1.size≤1073741824∧a.2.size≤1073741824)(hb:b.1.size≤1073741824∧b.2.size≤1073741824):
  Calls Tryz.prog 26 #[.agg #[.string a.1,.string a.2],.agg #[.string b.1,.string b.2]] w (qk2 (qlz [(spQ a).1*(spQ b).1,(spQ a).1*(spQ b).2,(spQ a).2*(spQ b).1,(spQ a).2*(spQ b).2]) (qlb [(spQ a).1*(spQ b).1,(spQ a).1*(spQ b).2,(spQ a).2*(spQ b).1,(spQ a).2*(spQ b).2]) a b w):=by
 have HW0:=hid (qx9 w a b 28 28 28);have HCALL:=hid (qpp a b _ (hg.later HW0.out.1) ha hb);obtain⟨s0,s1⟩:=qag HW0.out.2.1;obtain⟨s2,s3⟩:=qag HW0.out.2.2.1;clear hg ha hb;have HFIN:Hid (∀W w1 w' t1 t2 ec,qk2 (qlz [(spQ a).1*(spQ b).1,(spQ a).1*(spQ b).2,(spQ a).2*(spQ b).1,(spQ a).2*(spQ b).2]) (qlb [(spQ a).1*(spQ b).1,(spQ a).1*(spQ b).2,(spQ a).2*(spQ b).1,(spQ a).2*(spQ b).2]) a b W (.returned (.tuple #[.agg #[.string t1,.string t2],.int .i64 ec])) w1→Below w.heap.size w w'→qk2 (qlz [(spQ a).1*(spQ b).1,(spQ a).1*(spQ b).2,(spQ a).2*(spQ b).1,(spQ a).2*(spQ b).2]) (qlb [(spQ a).1*(spQ b).1,(spQ a).1*(spQ b).2,(spQ a).2*(spQ b).1,(spQ a).2*(spQ b).2]) a b w (.returned (.tuple #[.agg #[.string t1,.string t2],.int .i64 ec])) w'):=hid fun W w1 w' t1 t2 ec h hb=>qzz h hb;generalize qlz [(spQ a).1*(spQ b).1,(spQ a).1*(spQ b).2,(spQ a).2*(spQ b).1,(spQ a).2*(spQ b).2]=rlo at *;generalize qlb [(spQ a).1*(spQ b).1,(spQ a).1*(spQ b).2,(spQ a).2*(spQ b).1,(spQ a).2*(spQ b).2]=rhi at *;go_enter Tryz.func26,Tryz.ntmps26;go_wp2_with fail;refine HCALL.out.mono ?_;rintro e w1 h;obtain⟨t1,t2,ec,rfl,h2,hb⟩:=qzy h;have HF:=hid h2;have HS1:=hid (HW0.out.later hb);obtain⟨⟨r0,g0⟩,⟨r1,g1⟩⟩:=qax HS1.out.2.2.2;have HB:=hid (qbk HS1.out.1 (show w.heap.size≤w.heap.size+1+1 by omega) (.string t1) (.string t2));clear h h2 hb HCALL s0 s1 s2 s3;go_wp2_with fail;refine bodyPost_ret (v := .tuple #[.agg #[.string t1,.string t2],.int .i64 ec]) ?_ rfl ?_
 ·simp[results,Tryz.results26,go_sem,r0,r1]
 ·exact HFIN.out _ _ _ _ _ _ HF.out HB.out
def qdy(p q:Rat × Rat):Bool:=decide (p.2<q.1)||decide (q.2<p.1)
def qdv(l:List (Rat × Rat))(i k:Nat):Prop:=
 i<k∧k<l.length∧qdy (l.getD i (0,0)) (l.getD k (0,0))=true∧(∀j,i<j→j<k→qdy (l.getD i (0,0)) (l.getD j (0,0))=false)∧∀h j,h<i→h<j→j<l.length→qdy (l.getD h (0,0)) (l.getD j (0,0))=false
def qk3(l:List (Rat × Rat)):Prop:=∀h j,h<j→j<l.length→qdy (l.getD h (0,0)) (l.getD j (0,0))=false
def qgx(l:List (ByteArray × ByteArray))(w:World)(e:Ending)(w':World):Prop:=
 (if qak l≠0 then e = .returned (.tuple #[.int .i64 0,.int .i64 0,.int .i64 (qak l:Nat)])
  else(∃i k,qdv (l.map spQ) i k∧e = .returned (.tuple #[.int .i64 (i:Nat),.int .i64 (k:Nat),.int .i64 0]))∨(qk3 (l.map spQ)∧e = .returned (.tuple #[.int .i64 0,.int .i64 0,.int .i64 7])))∧Below w.heap.size w w'
theorem qz4{l:List Nat}(h:qac l=0):∀x ∈ l,x=0:=by
 induction l with
 | nil=>simp
 | cons a l ih=>
  have h1:(if a=0 then qac l else a)=0:=h;intro x hx;by_cases ha:a=0
  ·rw[if_pos ha] at h1
   rcases List.mem_cons.1 hx with rfl|hx
   ·exact ha
   ·exact ih h1 x hx
  ·rw[if_neg ha] at h1;exact absurd h1 ha
theorem qcx{l:List (ByteArray × ByteArray)}(h:qak l=0):1≤l.length∧l.length≤256∧∀s ∈ l,qb3 s=0:=by
 unfold qak at h;split at h
 ·cases h
 ·split at h
  ·cases h
  ·exact⟨by omega,by omega,fun s hs=>qz4 h _ (List.mem_map_of_mem hs)⟩
theorem qrc{l:List (ByteArray × ByteArray)}(h:qak l=0)(i:Nat)(q:Rat × Rat)(hi:(l.map spQ)[i]? = some q):bd q.1 600∧bd q.2 600∧q.1≤q.2:=by
 rw[List.getElem?_map] at hi;cases hs:l[i]? with
 | none=>rw[hs] at hi;cases hi
 | some s=>
  rw[hs] at hi;cases hi
  exact qsc ((qcx h).2.2 s (List.mem_of_getElem? hs))
theorem qg9(w:World)(x y:NV)(t:TypeId):qe7 (w.alloc (.cells #[.bool x.b,.slice x.p x.k x.c,.slice x.q x.j x.d,.bool y.b,.slice y.p y.k y.c,.slice y.q y.j y.d] t)) w.heap.size x y:=qk0 _ _ _ _ _ _ _ _
theorem qii{W:World}{g cap:Nat}{l:List (Rat × Rat)}(h:qdb ivK W g cap l)(j:Nat)(q:Rat × Rat)(hj:l[j]? = some q):∃x y:NV,
  (W.cell? ⟨g,j*6,none⟩=some (.bool x.b)∧W.cell? ⟨g,j*6+1,none⟩=some (.slice x.p x.k x.c)∧W.cell? ⟨g,j*6+2,none⟩=some (.slice x.q x.j x.d)∧
   W.cell? ⟨g,j*6+3,none⟩=some (.bool y.b)∧W.cell? ⟨g,j*6+4,none⟩=some (.slice y.p y.k y.c)∧W.cell? ⟨g,j*6+5,none⟩=some (.slice y.q y.j y.d))∧
  qaj W (.agg #[.bool x.b,.slice x.p x.k x.c,.slice x.q x.j x.d]) q.1∧qaj W (.agg #[.bool y.b,.slice y.p y.k y.c,.slice y.q y.j y.d]) q.2:=by
 obtain⟨cs,⟨x,y,rfl,h1,h2⟩,hc⟩:=h.get j q hj;exact⟨x,y,⟨hc 0 _ rfl,hc 1 _ rfl,hc 2 _ rfl,hc 3 _ rfl,hc 4 _ rfl,hc 5 _ rfl⟩,h1,h2⟩
theorem q6k(v:Value)(l:List (ByteArray × ByteArray))(w:World)(hg:GW w)(hv:qbr w v l)(hs:∀s ∈ l,s.1.size≤1073741824∧s.2.size≤1073741824)(h0:qak l=0):
  Calls Tryz.prog 10 #[v] w (qgx l w):=by
 have HRS:=hid ((qbw v l w hg hv hs).mono (R':=fun e w'=>(∃g,e = .returned (.tuple #[.slice (some ⟨g,0,none⟩) l.length l.length,.int .i64 0])∧qdb ivK w' g l.length (l.map spQ))∧Below w.heap.size w w') (fun e w' h=>by
  unfold qcw at h;rw[if_pos h0] at h;obtain⟨⟨g,_,he,hr⟩,hb⟩:=h
  exact⟨⟨g,he,hr⟩,hb⟩))
 obtain⟨p,c,rfl,hc1,hc2,hcells⟩:=hv;obtain⟨hl1,hl2,_⟩:=qcx h0;have HBD:=hid (qrc h0)
 have HFIN:Hid (∀w',Below w.heap.size w w'→(∀(i k:Nat) (z:Int),qdv (l.map spQ) i k→z=(k:Int)→qgx l w (.returned (.tuple #[.int .i64 (i:Nat),.int .i64 z,.int .i64 0])) w')∧(qk3 (l.map spQ)→qgx l w (.returned (.tuple #[.int .i64 0,.int .i64 0,.int .i64 7])) w')):=hid fun w' hb=>by
  constructor
  ·rintro i k z h rfl
   unfold qgx;rw[if_neg (by omega)];exact⟨.inl ⟨i,k,h,rfl⟩,hb⟩
  ·intro h
   unfold qgx;rw[if_neg (by omega)];exact⟨.inr ⟨h,rfl⟩,hb⟩
 have HLEN:Hid ((l.map spQ).length=l.length):=hid (List.length_map _);clear hcells hg hs h0;generalize l.map spQ=qs at *;generalize hn:l.length=n at *;clear hn;go_enter Tryz.func10,Tryz.ntmps10;go_wp2_with fail
 go_step3
 go_wp2_with fail;refine HRS.out.mono ?_;rintro e w1 ⟨⟨g,rfl,hr⟩,hb⟩;have HR:=hid hr;have HB:=hid hb;clear hr hb HRS;go_wp2_with fail
 go_step3
 go_wp2_with fail
 go_loopw [7,8,23] (fun s7 s8 i wr=>∃k:Nat,k≤n∧s7 = .int .i64 0∧s8 = .int .i64 0∧i = .int .i64 k∧Hid (Below w1.heap.size w1 wr)∧Hid (∀h j,h<k→h<j→j<n→qdy (qs.getD h (0,0)) (qs.getD j (0,0))=false)) (fun _ _ i _=>n-(intOf i).toNat)
 case atStart=>exact⟨0,Nat.zero_le _,rfl,rfl,rfl,hid (Below.refl _ _),hid (fun h j hh=>by omega)⟩
 case round=>
  obtain⟨k,hk,rfl,rfl,rfl,HBW,HNO⟩:=hrel;obtain⟨wu,rfl⟩:∃wu:World,wu=wr:=⟨_,rfl⟩;by_cases hkn:k<n
  ·obtain⟨q,hq⟩:∃q,qs[k]? = some q:=⟨qs[k]'(by rw[HLEN.out];exact hkn),List.getElem?_eq_getElem _⟩
   have hrw:=HR.out.later qe4 HBW.out;obtain⟨x,y,⟨a0,a1,a2,a3,a4,a5⟩,hx,hy⟩:=qii hrw k q hq;obtain⟨wo,hwo⟩:∃wo:World,wo=wu.alloc (.cells #[.bool x.b,.slice x.p x.k x.c,.slice x.q x.j x.d,.bool y.b,.slice y.p y.k y.c,.slice y.q y.j y.d] 82):=⟨_,rfl⟩;have HQ:=hid hq;have hal:Below wu.heap.size wu wo:=by rw[hwo];exact(Below.refl _ _).alloc (Nat.le_refl _) _
   have HX:=hid (hx.later hal);have HY:=hid (hy.later hal);have HPA:Hid (qe7 wo wu.heap.size x y):=hid (by rw[hwo];exact qg9 _ _ _ _);have HB1:=hid (HBW.out.trans (hal.mono HBW.out.size));have HRW:=hid (hrw.later qe4 hal);clear hq hrw hx hy hal;subst hwo;by_cases hlast:k+1=n
   ·have HNO2:Hid (∀h j,h<k+1→h<j→j<n→qdy (qs.getD h (0,0)) (qs.getD j (0,0))=false):=hid (fun h j hh hj hjn=>by
     rcases Nat.lt_or_ge h k with h1|h1
     ·exact HNO.out h j h1 hj hjn
     ·exfalso;omega)
    go_wp2_with fail
    go_loopw [7,8,33] (fun s7 s8 i wq=>s7 = .int .i64 0∧s8 = .int .i64 0∧i = .int .i64 0∧wq=(wu.alloc (.cells #[.bool x.b,.slice x.p x.k x.c,.slice x.q x.j x.d,.bool y.b,.slice y.p y.k y.c,.slice y.q y.j y.d] 82))) (fun _ _ _ _=>0)
    case atStart=>exact⟨rfl,rfl,rfl,rfl⟩
    case round=>
     obtain⟨rfl,rfl,rfl,rfl⟩:=hrel;go_wp2_with fail;go_roundw
     case rel=>exact⟨k+1,by omega,rfl,rfl,by go_num,HB1,HNO2⟩
     case measure=>simp[intOf];omega
   ·obtain⟨r,hr⟩:∃r,r=n-(k+1):=⟨_,rfl⟩
    have hrk:k+1+r=n:=by omega
    have HRK:=hid hr;go_wp2_with fail;simp only[←hr];clear hr a0 a1 a2 a3 a4 a5
    go_loopw [7,8,33] (fun s7 s8 i wq=>∃m:Nat,m≤r∧s7 = .int .i64 0∧s8 = .int .i64 0∧i = .int .i64 m∧Hid (Below (wu.alloc (.cells #[.bool x.b,.slice x.p x.k x.c,.slice x.q x.j x.d,.bool y.b,.slice y.p y.k y.c,.slice y.q y.j y.d] 82)).heap.size (wu.alloc (.cells #[.bool x.b,.slice x.p x.k x.c,.slice x.q x.j x.d,.bool y.b,.slice y.p y.k y.c,.slice y.q y.j y.d] 82)) wq)∧Hid (∀j,k<j→j<k+1+m→qdy (qs.getD k (0,0)) (qs.getD j (0,0))=false)) (fun _ _ i _=>r-(intOf i).toNat)
    case atStart=>exact⟨0,Nat.zero_le _,rfl,rfl,rfl,hid (Below.refl _ _),hid (fun j h1 h2=>by omega)⟩
    case round=>
     obtain⟨m,hm,rfl,rfl,rfl,HBQ,HNI⟩:=hrel;by_cases hmr:m<r
     ·obtain⟨q',hq'⟩:∃q',qs[k+1+m]? = some q':=⟨qs[k+1+m]'(by rw[HLEN.out];omega),List.getElem?_eq_getElem _⟩
      have hrw:=HRW.out.later qe4 HBQ.out;obtain⟨x',y',hb6,hx',hy'⟩:=qii hrw (k+1+m) q' hq';have e6:(k+1+m)*6=(k+1)*6+m*6:=by omega
      rw[e6] at hb6;obtain⟨b0,b1,b2,b3,b4,b5⟩:=hb6;obtain⟨w2,hw2⟩:∃w2:World,w2=wr.alloc (.cells #[.bool x'.b,.slice x'.p x'.k x'.c,.slice x'.q x'.j x'.d,.bool y'.b,.slice y'.p y'.k y'.c,.slice y'.q y'.j y'.d] 82):=⟨_,rfl⟩;have hal:Below wr.heap.size wr w2:=by rw[hw2];exact(Below.refl _ _).alloc (Nat.le_refl _) _
      have HPB:Hid (qe7 w2 wr.heap.size x' y'):=hid (by rw[hw2];exact qg9 _ _ _ _);have HPA2:Hid (qe7 w2 wu.heap.size x y):=hid (Own.later HPA.out ((HBQ.out.trans (hal.mono HBQ.out.size)).mono HPA.out.1));have HB2:=hid (HBQ.out.trans (hal.mono HBQ.out.size));have bq:=HBD.out k q HQ.out;have bq':=HBD.out _ q' hq';have HC1:=hid (qb7 (.agg #[.bool y.b,.slice y.p y.k y.c,.slice y.q y.j y.d]) (.agg #[.bool x'.b,.slice x'.p x'.k x'.c,.slice x'.q x'.j x'.d]) q.2 q'.1 w2 (HY.out.later HB2.out) (hx'.later hal) (by have:=bq.2.1.rs;have:=bq'.1.rs;unfold Cap;omega));have HC2:Hid (∀W,Below w2.heap.size w2 W→Calls Tryz.prog 36 #[.agg #[.bool y'.b,.slice y'.p y'.k y'.c,.slice y'.q y'.j y'.d],.agg #[.bool x.b,.slice x.p x.k x.c,.slice x.q x.j x.d]] W fun e w'=>e = .returned (.int .i64 (qcu q'.2 q.1))∧Below W.heap.size W w'):=hid fun W hW=>qb7 _ _ q'.2 q.1 W ((hy'.later hal).later hW) ((HX.out.later HB2.out).later hW) (by have:=bq'.2.1.rs;have:=bq.1.rs;unfold Cap;omega)
      have HCL:Hid (qdy (qs.getD k (0,0)) (qs.getD (k+1+m) (0,0))=(decide (qcu q.2 q'.1<0)||decide (qcu q'.2 q.1<0))):=hid (by
       rw[List.getD_eq_getElem?_getD,HQ.out,List.getD_eq_getElem?_getD,hq'];show(decide (q.2<q'.1)||decide (q'.2<q.1))=_
       rw[decide_eq_decide.2 (@qo9 q.2 q'.1),decide_eq_decide.2 (@qo9 q'.2 q.1)])
      obtain⟨p0,p1,p2,p3,p4,p5⟩:=HPA2.out.cells;obtain⟨t0,t1,t2,t3,t4,t5⟩:=HPB.out.cells;clear hrw hx' hy' hal hq' bq bq' e6;generalize qcu q.2 q'.1=r1 at *;generalize qcu q'.2 q.1=r2 at *;have hz:((k:Int)+1+m==0)=false:=beq_eq_false_iff_ne.2 (by omega);have HFC:Hid (r1<0∨r2<0→qdv qs k (k+1+m)):=hid (fun h=>⟨by omega,by rw[HLEN.out];omega,by rw[HCL.out];rcases h with h|h<;>simp[h],fun j h1 h2=>HNI.out j h1 h2,fun h' j h1 h2 h3=>HNO.out h' j h1 h2 (by rw[←HLEN.out];exact h3)⟩);have HBW2:=hid (HB.out.trans ((HB1.out.trans (HB2.out.mono HB1.out.size)).mono HB.out.size));have HBO2:=HB2;subst hw2;by_cases h1:r1<0
      ·go_wp2_with fail
       refine HC1.out.mono ?_;rintro e w3 ⟨rfl,hb3⟩;have HFB:=hid (HBW2.out.trans (hb3.mono HBW2.out.size));clear hb3 p0 p1 p2 p3 p4 p5 t0 t1 t2 t3 t4 t5 HC1 HC2;go_wp2_with fail;rw[Exit.noGoto_ret]
       go_ret3
       exact(HFIN.out _ HFB.out).1 k (k+1+m) _ (HFC.out (.inl h1)) (by omega)
      ·by_cases h2:r2<0
       ·go_wp2_with fail
        refine HC1.out.mono ?_;rintro e w3 ⟨rfl,hb3⟩;have HB3:=hid hb3;have HFB:=hid (HBW2.out.trans (hb3.mono HBW2.out.size));have pa:=HPA2.out.later (hb3.mono HPA2.out.1);have pb:=HPB.out.later (hb3.mono HPB.out.1);have HPA3:=hid pa;have HPB3:=hid pb;clear hb3 pa pb p0 p1 p2 p3 p4 p5 t0 t1 t2 t3 t4 t5 HC1;obtain⟨p0,p1,p2,p3,p4,p5⟩:=qe7.cells HPA3.out;obtain⟨t0,t1,t2,t3,t4,t5⟩:=qe7.cells HPB3.out;go_wp2_with fail;refine(HC2.out _ HB3.out).mono ?_;rintro e w4 ⟨rfl,hb4⟩;have HFB4:=hid (HFB.out.trans (hb4.mono HFB.out.size));clear hb4 p0 p1 p2 p3 p4 p5 t0 t1 t2 t3 t4 t5 HC2;go_wp2_with fail;rw[Exit.noGoto_ret]
        go_ret3
        exact(HFIN.out _ HFB4.out).1 k (k+1+m) _ (HFC.out (.inr h2)) (by omega)
       ·go_wp2_with fail
        refine HC1.out.mono ?_;rintro e w3 ⟨rfl,hb3⟩;have HB3:=hid hb3;have pa:=HPA2.out.later (hb3.mono HPA2.out.1);have pb:=HPB.out.later (hb3.mono HPB.out.1);have HPA3:=hid pa;have HPB3:=hid pb;have HBB3:=hid (HB2.out.trans (hb3.mono HB2.out.size));clear hb3 pa pb p0 p1 p2 p3 p4 p5 t0 t1 t2 t3 t4 t5 HC1;obtain⟨p0,p1,p2,p3,p4,p5⟩:=qe7.cells HPA3.out;obtain⟨t0,t1,t2,t3,t4,t5⟩:=qe7.cells HPB3.out;go_wp2_with fail;refine(HC2.out _ HB3.out).mono ?_;rintro e w4 ⟨rfl,hb4⟩;have HBB4:=hid (HBB3.out.trans (hb4.mono HBB3.out.size))
        have zb9:Hid (∀j,k<j→j<k+1+(m+1)→qdy (qs.getD k (0,0)) (qs.getD j (0,0))=false):=hid (fun j hj1 hj2=>by
         rcases Nat.lt_or_ge j (k+1+m) with h3|h3
         ·exact HNI.out j hj1 h3
         ·obtain rfl:k+1+m=j:=by omega
          rw[HCL.out];simp[h1,h2])
        clear hb4 p0 p1 p2 p3 p4 p5 t0 t1 t2 t3 t4 t5 HC2;go_wp2_with fail;go_roundw
        case rel=>exact⟨m+1,by omega,rfl,rfl,by go_num,HBB4,zb9⟩
        case measure=>simp[intOf];omega
     ·have HNO2:Hid (∀h j,h<k+1→h<j→j<n→qdy (qs.getD h (0,0)) (qs.getD j (0,0))=false):=hid (fun h j hh hj hjn=>by
       rcases Nat.lt_or_ge h k with h1|h1
       ·exact HNO.out h j h1 hj hjn
       ·obtain rfl:k=h:=by omega
        exact HNI.out j hj (by omega))
      have HB3:=hid (HB1.out.trans (HBQ.out.mono HB1.out.size));go_wp2_with fail;go_roundw
      case rel=>exact⟨k+1,by omega,rfl,rfl,by go_num,HB3,HNO2⟩
      case measure=>simp[intOf];omega
  ·have HFA:Hid (qk3 qs):=hid (fun h j hh hj=>HNO.out h j (by rw[HLEN.out] at hj;omega) hh (by rw[←HLEN.out];exact hj))
   have HFB:=hid (HB.out.trans (HBW.out.mono HB.out.size));go_wp2_with fail;rw[Exit.noGoto_ret]
   go_ret3
   exact(HFIN.out _ HFB.out).2 HFA.out
theorem qpq(v:Value)(l:List (ByteArray × ByteArray))(w:World)(hg:GW w)(hv:qbr w v l)(hs:∀s ∈ l,s.1.size≤1073741824∧s.2.size≤1073741824):
  Calls Tryz.prog 10 #[v] w (qgx l w):=by
 by_cases h0:qak l=0
 ·exact q6k v l w hg hv hs h0
 have HRS:=hid ((qbw v l w hg hv hs).mono (R':=fun e w'=>e = .returned (.tuple #[.slice none 0 0,.int .i64 (qak l:Nat)])∧Below w.heap.size w w') (fun e w' h=>by
  unfold qcw at h;rw[if_neg h0] at h
  exact h))
 have HFIN:Hid (∀w',Below w.heap.size w w'→qgx l w (.returned (.tuple #[.int .i64 0,.int .i64 0,.int .i64 (qak l:Nat)])) w'):=hid fun w' hb=>by
  unfold qgx;rw[if_pos h0];exact⟨rfl,hb⟩
 have hb0:((qak l:Int)==0)=false:=beq_eq_false_iff_ne.2 (by omega);obtain⟨p,c,rfl,hc1,hc2,hcells⟩:=hv;clear hcells hg hs h0;generalize qak l=ck at *;go_enter Tryz.func10,Tryz.ntmps10;go_wp2_with fail
 go_step3
 go_wp2_with fail;refine HRS.out.mono ?_;rintro e w1 ⟨rfl,hb⟩;have HB:=hid hb;clear hb HRS;go_wp2_with fail;rw[Exit.noGoto_ret]
 go_ret3
 exact HFIN.out _ HB.out
end Go.Proofs.YthjagoogkkgelaaGreatDoor
