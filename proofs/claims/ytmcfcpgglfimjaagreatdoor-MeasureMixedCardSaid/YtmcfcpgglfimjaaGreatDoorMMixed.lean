/- MeasureMixed. -/
import Derived.Test.YtmcfcpgglfimjaaGreatDoorMMixedAid
import Derived.BigQuiet
set_option linter.all false
namespace Go.Proofs.YtmcfcpgglfimjaaGreatDoor
open Go.RowKit
set_option maxHeartbeats 1000000
def zbl(x:Lay):Prop:=x.shares.length≤4∧∀s ∈ x.shares,q4t s.2 4=true
def zbw(v:Value)(L:QL)(W:World):Prop:=Calls Tryz.prog 10 #[v] W fun e w'=>(∃p n c,e = .returned (.slice p n c)∧LV w' (.slice p n c) L)∧Below W.heap.size W w'
def InB(W:World)(g o:Nat)(g0:BA)(M:Int)(p:Option Addr)(n c:Nat):Prop:=W.cell? ⟨g,o,none⟩=some (.string g0)∧W.cell? ⟨g,o+1,none⟩=some (.int .i64 M)∧W.cell? ⟨g,o+2,none⟩=some (.slice p n c)
def ShC(W:World)(p:Option Addr)(n q:Nat)(R:List (BA × BA)):Prop:=ShR W p n R∧q=n∧n≤1048576
theorem ShC.later{W W':World}{p:Option Addr}{n q:Nat}{R:List (BA × BA)}(h:ShC W p n q R)(hb:Below W.heap.size W W'):ShC W' p n q R:=⟨h.1.later hb,h.2⟩
theorem ShC.spans{W:World}{p:Option Addr}{n q:Nat}{R:List (BA × BA)}(h:ShC W p n q R):n=R.length∧qdc W (.slice p R.length q) R:=by
 obtain⟨⟨rfl,h⟩,rfl,hl⟩:=h;refine⟨rfl,p,_,rfl,qac _,by unfold maxLen;omega, ?_⟩;rcases h with rfl|⟨g,rfl,h⟩
 ·exact .inl rfl
 ·exact .inr ⟨g,0,rfl,h⟩
def zbm(v:Value)(g1:BA)(m1:Int)(R:List (BA × BA))(W:World):Prop:=
 Calls Tryz.prog 8 #[v] W fun e w'=>(∃p n c,e = .returned (.tuple #[.agg #[.string g1,.int .i64 m1,.slice p n c],.int .i64 0])∧ShC w' p n c R)∧Below W.heap.size W w'
theorem zbh(m:List Lay)(b o c j:Nat)(W:World)(hg:GW W)(aB:qec W b o m)(h1:1≤m.length)(h2:m.length≤64)(hc:c≤maxLen)(Sh:∀x ∈ m,∀s ∈ x.shares,s.1.size≤1073741824∧s.2.size≤1073741824)
  (cV:∀x ∈ m,qbc x=0) (rW:∀x ∈ m,x.grain=qct m) (bX:qaq m≤999999999) (oW:(qci m).length≤64) (xN:1≤j) (hj:j≤500) (hS:SmL (qci m) j):
  zbm (.slice (some ⟨b,o,none⟩) m.length c) (qct m) (qaq m) (qdj m).shares W:=by
 obtain⟨fD,fP⟩:=qhq m cV;obtain⟨bM,mU⟩:=q6v hS xN hj (by omega) bX
 have aE:(qdj m).shares.length≤64:=by
  show((qgq m).map rtS).length≤64;unfold qgq;rw[List.length_map,List.length_map];exact oW
 refine(qxw m (qct m) b o c W hg aB h1 h2 hc Sh cV rW bX (by rw[←(qdz m).2.length_eq];exact oW) fun s=>(qx6 (bM s) (by omega)).2).mono fun e w' h => ?_;obtain⟨ss,g,hp,_,he,hr,hb⟩:=h;have cQ:(qcd ss).length=(qdj m).shares.length:=by rw[←mU ss hp,List.length_map]
 rw[mU ss hp] at hr;exact⟨⟨_,_,_,he,⟨cQ,.inr ⟨g,rfl,qwj hr⟩⟩,rfl,by omega⟩,hb⟩
theorem zbt{l:List Lay}{j:Nat}(cV:∀x ∈ l,qbc x=0)(hl:l.length≤6)(hj:(j+10)*(l.length+1)≤500)(hp:∀x ∈ l,∀s ∈ x.shares,s.2=rt (qbk s)∧sm (qbk s) j):
  (∀x ∈ l,x.shares.length≤64∧0≤x.mass∧x.mass≤999999999∧∀s ∈ x.shares,s.2=rt (qbk s)∧sm (qbk s) 400)∧
  (∀k x i,l[k]? = some x→SmL (qez x.mass (qci (l.take k)) (x.shares.take i)) 500)∧(∀k x i,l[k]? = some x→(qez x.mass (qci (l.take k)) (x.shares.take i)).length≤1000000):=by
 have hj4:l≠[]→j≤400:=fun h=>by
  have h1:=List.length_pos_iff.2 h;have h2:(j+10)*2≤(j+10)*(l.length+1):=Nat.mul_le_mul_left _ (by omega);omega
 refine⟨fun x hx => ?_,fun k x i hk => ?_,fun k x i hk => ?_⟩
 ·obtain⟨h1,h2,h3,h4,h5⟩:=qbq (cV x hx)
  exact⟨h4,by omega,h2,fun s hs'=>⟨(hp x hx s hs').1,qfr (hp x hx s hs').2 (hj4 (List.ne_nil_of_mem hx))⟩⟩
 ·have hx:=qbj hk
  obtain⟨h1,h2,h3,h4,h5⟩:=qbq (cV x hx);have hK:=qsf (l.take k) (fun y hy=>cV y (List.mem_of_mem_take hy)) fun y hy s fM=>(hp y (List.mem_of_mem_take hy) s fM).2;have Sz:=(qjm _ _ (qey (cV x hx))).2;have h6:=(qse h1 h2 (qdz (l.take k)).1 hK (x.shares.take i) (Sz.sublist (List.take_sublist _ _)) fun s fM=>(hp x hx s (List.mem_of_mem_take fM)).2).2;refine fun p oX=>qfr (h6 p oX).1 (Nat.le_trans ?_ hj);rw[Nat.mul_add,Nat.mul_one];exact Nat.add_le_add_right (Nat.mul_le_mul_left _ (List.length_take_le' k l)) _
 ·have hx:=qbj hk
  have h1:=qlx x.mass (x.shares.take i) (qci (l.take k));have h2:=qpq (l.take k) fun y hy=>(qbq (cV y (List.mem_of_mem_take hy))).2.2.2.1;have h3:=(qbq (cV x hx)).2.2.2.1;have h6:64*(l.take k).length≤64*6:=Nat.mul_le_mul_left _ (by have:=List.length_take_le' k l;omega);have h7:=List.length_take_le' i x.shares;omega
theorem zbj{l:List Lay}(cV:∀x ∈ l,qbc x=0)(h1:1≤l.length)(h5:l.length≤5)(bX:qaq l≤999999999)(hf:∀x ∈ l,zbl x):
  qbc (qdj l)=0∧SmL (qci l) 70∧(qci l).length≤20∧SmP (qdj l).shares 79∧(∀s ∈ (qdj l).shares,s.1.size≤24∧s.2.size≤200)∧(∀s ∈ (qdj l).shares,s.2=rt (qbk s)∧sm (qbk s) 79)∧(∀x ∈ l,∀s ∈ x.shares,s.2=rt (qbk s)∧sm (qbk s) 4)∧0<qaq l∧(qdj l).shares.length≤20∧(qct l).size≤24:=by
 obtain⟨s1,s2,s3,s4,s5,s6⟩:=qwo cV h1 h5 bX hf;obtain⟨fD,_⟩:=qhq l cV;have hM:0<qaq l:=by omega
 obtain⟨y,hy⟩:∃y,l[0]? = some y:=⟨l[0]'(by omega),qat _⟩;have hne:qci l≠[]:=fun e=>qpy hM (by rw[←(qf9 l cV).2,e];rfl);have h0:=q89 (l:=l) (x:=y) (by rw[List.head?_eq_getElem?];exact hy) cV hM bX (by omega) hne fun p hp=>qm2 (s5 p hp) (by decide);refine⟨h0,s1,s2,s3,s4,fun s hs => ?_,s6,hM, ?_, ?_⟩
 ·obtain⟨p,hp,rfl⟩:=List.mem_map.1 hs
  rw[ql0];exact⟨rfl,s5 p hp⟩
 ·show((qgq l).map rtS).length≤20
  unfold qgq;rw[List.length_map,List.length_map];exact s2
 ·rw[←qkw hy]
  exact quo (qil (cV y (qbj hy))).1
theorem zbi{W:World}{b o:Nat}{y:Lay}{p:Option Addr}{n q:Nat}(h:InB W b o y.grain y.mass p n q)(hc:ShC W p n q y.shares):qec W b o [y]:=fun j x hj=>by
 obtain⟨rfl,Jw⟩:=hc.spans
 match j,hj with
 | 0,hj=>
  obtain rfl:y=x:=Option.some.inj hj;obtain⟨e0,e1,e2⟩:=h;exact⟨e0,e1,p,q,e2,Jw⟩
theorem zbp{W:World}{b:Nat}{y z:Lay}{p p':Option Addr}{n q n' q':Nat}(h:InB W b 0 y.grain y.mass p n q)(h':InB W b 3 z.grain z.mass p' n' q')(hc:ShC W p n q y.shares)(hc':ShC W p' n' q' z.shares):qec W b 0 [y,z]:=fun j x hj=>by
 match j,hj with
 | 0,hj=>
  obtain rfl:y=x:=Option.some.inj hj;exact zbi h hc 0 y rfl
 | 1,hj=>
  obtain rfl:z=x:=Option.some.inj hj;exact zbi h' hc' 0 z rfl
theorem zbn{W:World}{b o:Nat}{l:List Lay}(h:qec W b o l)(k:Nat):qec W b (o+k*3) (l.drop k):=fun j x hj=>by
 rw[List.getElem?_drop] at hj;have h1:=h (k+j) x hj;rw[show o+(k+j)*3=o+k*3+j*3 by omega] at h1;exact h1
theorem zbo{W:World}{b o:Nat}{l:List Lay}(h:qec W b o l)(k:Nat):qec W b o (l.take k):=fun j x hj=>by
 rw[List.getElem?_take] at hj;split at hj
 ·exact h j x hj
 ·cases hj
theorem zbq(l:List Lay)(b o c kk:Nat)(x0:Lay)(w:World)(hg:GW w)(hv:qr6 w (.slice (some ⟨b,o,none⟩) l.length c) l)(aB:qec w b o l)(oZ:l[0]? = some x0)(h1:1≤l.length)(h5:l.length≤5)(hc:c≤maxLen)(Ml:kk<l.length)
  (hs:∀x ∈ l,za9 x) (cV:∀x ∈ l,qbc x=0) (rW:∀x ∈ l,x.grain=qct l) (bX:qaq l≤999999999) (hf:∀x ∈ l,zbl x):
  (∀W,Below w.heap.size w W→zbm (.slice (some ⟨b,o,none⟩) l.length c) (qct l) (qaq l) (qdj l).shares W)∧
  (∀p n q W,Below w.heap.size w W→ShC W p n q (qdj l).shares→Calls Tryz.prog 9 #[.agg #[.string (qct l),.int .i64 (qaq l),.slice p n q]] W fun e w'=>e = .returned (.int .i64 0)∧Below W.heap.size W w')∧
  (∀g p n q W,Below w.heap.size w W→ShC W p n q (qdj l).shares→InB W g 0 (qct l) (qaq l) p n q→zbw (.slice (some ⟨g,0,none⟩) 1 1) (qci l) W)∧
  (∀W,Below w.heap.size w W→zbw (.slice (some ⟨b,o,none⟩) l.length c) (qci l) W)∧
  (kk=0→∀W,Below w.heap.size w W→zbm (.slice (some ⟨b,o,none⟩) 1 c) (qct l) x0.mass x0.shares W)∧
  (kk≠0→∀W,Below w.heap.size w W→zbm (.slice (some ⟨b,o,none⟩) kk c) (qct l) (qaq (l.take kk)) (qdj (l.take kk)).shares W)∧
  (kk≠0→∀W,Below w.heap.size w W→zbm (.slice (some ⟨b,o+kk*3,none⟩) (l.length-kk) (c-kk)) (qct l) (qaq (l.drop kk)) (qdj (l.drop kk)).shares W)∧
  (kk≠0→∀g p n q p' n' q' W,Below w.heap.size w W→ShC W p n q (qdj (l.take kk)).shares→ShC W p' n' q' (qdj (l.drop kk)).shares→InB W g 0 (qct l) (qaq (l.take kk)) p n q→InB W g 3 (qct l) (qaq (l.drop kk)) p' n' q'→zbm (.slice (some ⟨g,0,none⟩) 2 2) (qct l) (qaq l) (qdj l).shares W):=by
 obtain⟨f1,f2,f3,f4,f5,f6,f7,f8,f9,f10⟩:=zbj cV h1 h5 bX hf;have Sh:∀x ∈ l,∀s ∈ x.shares,s.1.size≤1073741824∧s.2.size≤1073741824:=fun x h s h2=>by have:=(hs x h).2 s h2;omega
 have hgx:x0.grain=qct l:=qkw oZ
 have Ta:∀v' W,(Calls Tryz.prog 10 #[v'] W fun e w'=>(∃v',e = .returned v'∧LV w' v' (qci l))∧Below W.heap.size W w')→zbw v' (qci l) W:=fun v' W h=>h.mono fun e w' h=>by
  obtain⟨⟨u,rfl,hl⟩,hb⟩:=h;refine⟨?_,hb⟩;rcases hl with⟨e1,rfl⟩|⟨g,c',rfl,e2⟩
  ·exact⟨_,_,_,rfl,.inl ⟨e1,rfl⟩⟩
  ·exact⟨_,_,_,rfl,.inr ⟨g,c',rfl,e2⟩⟩
 have hA:kk≠0→(∀x ∈ l.take kk,qbc x=0)∧(∀x ∈ l.drop kk,qbc x=0)∧1≤(l.take kk).length∧(l.take kk).length=kk∧(l.drop kk).length=l.length-kk∧qaq (l.take kk)+qaq (l.drop kk)=qaq l∧qct (l.take kk)=qct l∧qct (l.drop kk)=qct l:=fun h0=>by
  have oK:(l.take kk).length=kk:=by rw[List.length_take];omega
  have oL:(l.drop kk).length=l.length-kk:=List.length_drop;refine⟨fun x hx=>cV x (List.mem_of_mem_take hx),fun x hx=>cV x (List.mem_of_mem_drop hx),by omega,oK,oL,by rw[←qkd,List.take_append_drop], ?_, ?_⟩
  ·obtain⟨y,hy⟩:∃y,(l.take kk)[0]? = some y:=⟨(l.take kk)[0]'(by omega),qat _⟩
   rw[←qkw hy];exact rW y (List.mem_of_mem_take (qbj hy))
  ·obtain⟨y,hy⟩:∃y,(l.drop kk)[0]? = some y:=⟨(l.drop kk)[0]'(by omega),qat _⟩
   rw[←qkw hy];exact rW y (List.mem_of_mem_drop (qbj hy))
 have hT:kk≠0→qaq (l.take kk)≤999999999∧qaq (l.drop kk)≤999999999:=fun h0=>by
  obtain⟨a1,a2,a3,a4,a5,a6,a7,a8⟩:=hA h0;have b1:=(qhq _ a1).1;have b2:=(qhq _ a2).1;omega
 have hFT:kk≠0→_:=fun h0=>zbj (hA h0).1 (hA h0).2.2.1 (by have:=(hA h0).2.2.2.1;omega) (hT h0).1 fun x hx=>hf x (List.mem_of_mem_take hx);have hFD:kk≠0→_:=fun h0=>zbj (hA h0).2.1 (by have:=(hA h0).2.2.2.2.1;omega) (by have:=(hA h0).2.2.2.2.1;omega) (hT h0).2 fun x hx=>hf x (List.mem_of_mem_drop hx);refine⟨fun W hW => ?_,fun p n q W hW Sa => ?_,fun g p n q W hW Sa Dc => ?_,fun W hW => ?_,fun h0 W hW => ?_,fun h0 W hW => ?_,fun h0 W hW => ?_,fun h0 g p n q p' n' q' W hW Sa hsh' Dc hin' => ?_⟩
 ·exact zbh l b o c 70 W (hg.later hW) (aB.later hW) h1 (by omega) hc Sh cV rW bX (by omega) (by decide) (by decide) f2
 ·obtain⟨rfl,Jw⟩:=Sa.spans
  have h:=que (qdj l) p q W Jw (show(qct l).size≤5000 by omega) (fun s hs=>by have:=f5 s hs;omega) 79 f4 (.inr (by omega));rw[f1] at h;exact h
 ·have e:qci [qdj l]=qci l:=qx8 (fun x hx=>by rw[List.mem_singleton.1 hx];exact f1) cV fun s=>q4i (qpy f8) s
  obtain⟨q1,q2,q3⟩:=zbt (l:=[qdj l]) (j:=79) (fun x hx=>by rw[List.mem_singleton.1 hx];exact f1) (show 1≤6 by decide) (show(79+10)*(1+1)≤500 by decide) (fun x hx=>by rw[List.mem_singleton.1 hx];exact f6);have h:=qq2 _ [qdj l] W ⟨some ⟨g,0,none⟩,1,rfl,qac _,by decide,.inr ⟨g,0,rfl,zbi Dc Sa⟩⟩ (show 1≤64 by decide) q1 q2 q3;rw[e] at h;exact Ta _ W h
 ·obtain⟨q1,q2,q3⟩:=qx5 cV (by omega) hs
  exact Ta _ W (qq2 _ l W (hv.later hW) (by omega) q1 q2 q3)
 ·have hx:=qbj oZ
  have e:=q9b (cV x0 hx) fun s hs=>(f7 x0 hx s hs).1;have Tb:∀x ∈ [x0],qbc x=0:=fun x h=>by rw[List.mem_singleton.1 h];exact cV x0 hx
  have e1:qaq [x0]=x0.mass:=congrArg Lay.mass e;have e2:(qdj [x0]).shares=x0.shares:=congrArg Lay.shares e
  have hr1:qec w b o [x0]:=fun j x hj=>by
   match j,hj with
   | 0,hj=>
    obtain rfl:x0=x:=Option.some.inj hj;exact aB 0 x0 oZ
  have aE:(qci [x0]).length≤4:=by
   have:=qpq [x0] fun x h=>by rw[List.mem_singleton.1 h];exact(hf x0 hx).1
   exact this
  have hS1:SmL (qci [x0]) 14:=fun p hp=>qfr (qsf (j:=4) [x0] Tb (fun x h s fM=>by rw[List.mem_singleton.1 h] at fM;exact(f7 x0 hx s fM).2) p hp) (show(4+10)*(0+1)≤14 by decide);have h:=zbh [x0] b o c 14 W (hg.later hW) (hr1.later hW) (show 1≤1 by decide) (show 1≤64 by decide) hc (fun x h=>by rw[List.mem_singleton.1 h];exact Sh x0 hx) Tb (fun x h=>by rw[List.mem_singleton.1 h];rfl) (by rw[e1];exact(qbq (cV x0 hx)).2.1) (by omega) (by decide) (by decide) hS1;rw[e1,e2,show qct [x0]=x0.grain from rfl,hgx] at h;exact h
 ·obtain⟨a1,a2,a3,a4,a5,a6,a7,a8⟩:=hA h0
  have fa:=hFT h0;have h:=zbh (l.take kk) b o c 70 W (hg.later hW) ((zbo aB kk).later hW) a3 (by omega) hc (fun x hx=>Sh x (List.mem_of_mem_take hx)) a1 (fun x hx=>by rw[a7];exact rW x (List.mem_of_mem_take hx)) (hT h0).1 (by have:=fa.2.2.1;omega) (by decide) (by decide) fa.2.1;rw[a4,a7] at h;exact h
 ·obtain⟨a1,a2,a3,a4,a5,a6,a7,a8⟩:=hA h0
  have fb:=hFD h0;have h:=zbh (l.drop kk) b (o+kk*3) (c-kk) 70 W (hg.later hW) ((zbn aB kk).later hW) (by omega) (by omega) (Nat.le_trans (Nat.sub_le _ _) hc) (fun x hx=>Sh x (List.mem_of_mem_drop hx)) a2 (fun x hx=>by rw[a8];exact rW x (List.mem_of_mem_drop hx)) (hT h0).2 (by have:=fb.2.2.1;omega) (by decide) (by decide) fb.2.1;rw[a5,a8] at h;exact h
 ·obtain⟨a1,a2,a3,a4,a5,a6,a7,a8⟩:=hA h0
  have fa:=hFT h0;have fb:=hFD h0;obtain⟨e,eq⟩:=q9a a1 a2 fa.1 fb.1 fa.2.2.2.2.2.2.2.1 fb.2.2.2.2.2.2.2.1 (fun e=>by rw[e] at a3;exact absurd a3 (by decide));rw[List.take_append_drop] at e eq;have e1:qaq [qdj (l.take kk),qdj (l.drop kk)]=qaq l:=congrArg Lay.mass e;have e2:(qdj [qdj (l.take kk),qdj (l.drop kk)]).shares=(qdj l).shares:=congrArg Lay.shares e;have e3:qct [qdj (l.take kk),qdj (l.drop kk)]=qct l:=a7
  have both:∀ {P:Lay→Prop},P (qdj (l.take kk))→P (qdj (l.drop kk))→∀x ∈ [qdj (l.take kk),qdj (l.drop kk)],P x:=fun ha hb x hx=>by
   rcases List.mem_cons.1 hx with rfl|hx
   ·exact ha
   ·rw[List.mem_singleton.1 hx];exact hb
  have Sw:qec W g 0 [qdj (l.take kk),qdj (l.drop kk)]:=zbp (by rw[show(qdj (l.take kk)).grain=qct l from a7];exact Dc) (by rw[show(qdj (l.drop kk)).grain=qct l from a8];exact hin') Sa hsh'
  have h:=zbh [qdj (l.take kk),qdj (l.drop kk)] g 0 2 70 W (hg.later hW) Sw (show 1≤2 by decide) (show 2≤64 by decide) (by decide) (both (P:=fun x=>∀s ∈ x.shares,s.1.size≤1073741824∧s.2.size≤1073741824) (fun s hs=>by have:=fa.2.2.2.2.1 s hs;omega) (fun s hs=>by have:=fb.2.2.2.2.1 s hs;omega)) (both (P:=fun x=>qbc x=0) fa.1 fb.1)
   (by rw[e3];exact both (P:=fun x=>x.grain=qct l) a7 a8) (by rw[e1];exact bX) (by rw[eq];omega) (by decide) (by decide) (by rw[eq];exact f2)
  rw[e1,e2,e3] at h;exact h
end Go.Proofs.YtmcfcpgglfimjaaGreatDoor
namespace Go.Proofs.YtmcfcpgglfimjaaGreatDoor
open Go.RowKit
set_option maxRecDepth 100000
set_option maxHeartbeats 16000000
theorem mgo{I:World→Prop}{f:FuncId}{args:Array Value}{v:Value}{W:World}{Q:Ending→World→Prop}(K:zah I f args v)(h:Hid (I W))(k:∀W',Hid (I W')→Q (.returned v) W'):Calls Tryz.prog f args W Q:=
 (K W h.out).mono fun e W' hh=>by
  obtain⟨rfl,h2⟩:=hh;exact k W' (hid h2)
theorem zbr(p:Option Addr)(n c:Nat)(av:Int)(lb:Bool)(ck:Int)(w:World)(h:n=0∨5<n∨(1≤n∧n≤5∧(lb=false∨(lb=true∧ck≠0))))
  (Ry:Hid (zah (Below w.heap.size w) 4 #[] (.bool true))) (Se:Hid (zah (Below w.heap.size w) 5 #[.slice p n c] (.bool lb)))
  (tV:Hid (n≤5→lb=true→zah (Below w.heap.size w) 6 #[.slice p n c] (.int .i64 ck))):
  Calls Tryz.prog 3 #[.slice p n c,.int .u8 av] w fun e w'=>e = .returned (.bool true)∧Below w.heap.size w w':=by
 have HB:=hid (qaa w.heap.size w);rcases h with rfl|h|⟨h1,h2,rfl|⟨rfl,h3⟩⟩
 ·clear tV
  go_enter Tryz.func3,Tryz.ntmps3;go_wp2_with fail;refine mgo Ry.out HB fun wN HB => ?_;go_wp2_with fail;refine mgo Ry.out HB fun wN HB => ?_;go_wp2_with fail;go_ret;exact⟨rfl,HB.out⟩
 ·have g0:((n:Int)==0)=false:=qan (by omega)
  have g1:(5:Int)<(n:Int):=by omega
  clear tV;go_enter Tryz.func3,Tryz.ntmps3;go_wp2_with fail;refine mgo Ry.out HB fun wN HB => ?_;go_wp2_with fail;refine mgo Ry.out HB fun wN HB => ?_;go_wp2_with fail;go_ret;exact⟨rfl,HB.out⟩
 ·have g0:((n:Int)==0)=false:=qan (by omega)
  have g1:¬(5:Int)<(n:Int):=by omega
  clear tV;go_enter Tryz.func3,Tryz.ntmps3;go_wp2_with fail;refine mgo Ry.out HB fun wN HB => ?_;go_wp2_with fail;refine mgo Se.out HB fun wN HB => ?_;go_wp2_with fail;refine mgo Ry.out HB fun wN HB => ?_;go_wp2_with fail;go_ret;exact⟨rfl,HB.out⟩
 ·have g0:((n:Int)==0)=false:=qan (by omega)
  have g1:¬(5:Int)<(n:Int):=by omega
  have HCN:=hid (tV.out h2 rfl);clear tV;have g2:(ck != 0)=true:=by simpa using h3
  have g3:(ck==0)=false:=qan h3;clear h3;go_enter Tryz.func3,Tryz.ntmps3;go_wp2_with fail;refine mgo Ry.out HB fun wN HB => ?_;go_wp2_with fail;refine mgo Se.out HB fun wN HB => ?_;go_wp2_with fail;refine mgo HCN.out HB fun wN HB => ?_;go_wp2_with fail;refine mgo Ry.out HB fun wN HB => ?_;go_wp2_with fail;go_ret;exact⟨rfl,HB.out⟩
def BxL(W:World)(g:Nat)(g0:BA)(M:Int)(p:Option Addr)(n q:Nat)(R:List (BA × BA)):Prop:=
 (W.cell? ⟨g,0,none⟩=some (.string g0)∧W.cell? ⟨g,1,none⟩=some (.int .i64 M)∧W.cell? ⟨g,2,none⟩=some (.slice p n q))∧ShC W p n q R
theorem BxL.later{W W':World}{g:Nat}{g0:BA}{M:Int}{p:Option Addr}{n q:Nat}{R:List (BA × BA)}(h:BxL W g g0 M p n q R)(hb:Below W.heap.size W W'):BxL W' g g0 M p n q R:=by
 obtain⟨⟨e0,e1,e2⟩,hs⟩:=h;refine⟨?_,hs.later hb⟩;rw[hb.cell (qaf W _ e0),hb.cell (qaf W _ e1),hb.cell (qaf W _ e2)];exact⟨e0,e1,e2⟩
theorem zbk{W:World}{p:Option Addr}{n q:Nat}{R:List (BA × BA)}(g0:BA)(M:Int)(t:TypeId)(h:ShC W p n q R):BxL (W.alloc (.cells #[.string g0,.int .i64 M,.slice p n q] t)) W.heap.size g0 M p n q R:=by
 refine⟨?_,h.later (qad _ _)⟩;rw[World.cell?_alloc_at _ _ _ _ rfl,World.cell?_alloc_at _ _ _ _ rfl,World.cell?_alloc_at _ _ _ _ rfl];exact⟨rfl,rfl,rfl⟩
theorem zbu(W:World)(g0:BA)(M:Int)(p:Option Addr)(n q:Nat)(t:TypeId):InB (W.alloc (.cells #[.string g0,.int .i64 M,.slice p n q] t)) W.heap.size 0 g0 M p n q:=by
 unfold InB;rw[World.cell?_alloc_at _ _ _ _ rfl,World.cell?_alloc_at _ _ _ _ rfl,World.cell?_alloc_at _ _ _ _ rfl];exact⟨rfl,rfl,rfl⟩
theorem zbv(W:World)(g0 g1:BA)(M N:Int)(p p':Option Addr)(n q n' q':Nat)(t:TypeId):
  InB (W.alloc (.cells #[.string g0,.int .i64 M,.slice p n q,.string g1,.int .i64 N,.slice p' n' q'] t)) W.heap.size 0 g0 M p n q∧InB (W.alloc (.cells #[.string g0,.int .i64 M,.slice p n q,.string g1,.int .i64 N,.slice p' n' q'] t)) W.heap.size 3 g1 N p' n' q':=by
 unfold InB;rw[World.cell?_alloc_at _ _ _ _ rfl,World.cell?_alloc_at _ _ _ _ rfl,World.cell?_alloc_at _ _ _ _ rfl,World.cell?_alloc_at _ _ _ _ rfl,World.cell?_alloc_at _ _ _ _ rfl,World.cell?_alloc_at _ _ _ _ rfl];exact⟨⟨rfl,rfl,rfl⟩,rfl,rfl,rfl⟩
theorem zbx(p p':Option Addr)(n n' c c':Nat)(L:QL)(w:World)(h:LV w (.slice p n c) L)(h':LV w (.slice p' n' c') L)(hl:L.length≤1048576):
  Calls Tryz.prog 11 #[.slice p n c,.slice p' n' c'] w fun e w'=>e = .returned (.bool true)∧Below w.heap.size w w':=by
 rcases h with⟨h0,he⟩|⟨g,k,he,h1,-,-,h2⟩
 ·rcases h' with⟨-,he'⟩|⟨g',k',he',h1',-⟩
  ·cases he
   cases he'
   exact qpt _ _ _ _ w
  ·rw[h0] at h1'
   exact absurd h1' (by decide)
 ·rcases h' with⟨h0,he'⟩|⟨g',k',he',-,-,-,h2'⟩
  ·rw[h0] at h1
   exact absurd h1 (by decide)
  ·cases he
   cases he'
   have h3:=qgm (L.map rtS) g 0 c g' 0 c' w h2 h2' (by rw[List.length_map];exact hl);rw[List.length_map] at h3;exact h3
theorem zby(p p':Option Addr)(n n' c c':Nat)(g0:BA)(ms:Int)(R:List (BA × BA))(w:World)(h:ShR w p n R)(h':qdc w (.slice p' n' c') R)(hl:R.length≤1048576):
  Calls Tryz.prog 12 #[.agg #[.string g0,.int .i64 ms,.slice p n c],.agg #[.string g0,.int .i64 ms,.slice p' n' c']] w fun e w'=>e = .returned (.bool true)∧Below w.heap.size w w':=by
 obtain⟨rfl,h⟩:=h;obtain⟨q,k,he,-,-,h'⟩:=h';cases he
 refine qjl p p' _ c c' g0 ms w (hid fun W hW => ?_);rcases h with rfl|⟨g,rfl,h⟩
 ·exact qpt p p' c c' W
 ·rcases h' with h0|⟨g',o',rfl,h'⟩
  ·obtain rfl:=List.length_eq_zero_iff.1 h0
   exact qpt _ _ c c' W
  ·exact qgm R g 0 c g' o' c' W (h.later hW) (h'.later hW) hl
theorem zbs(l:List Lay)(b o c av:Nat)(x0:Lay)(R R1 R2:List (BA × BA))(LQ:QL)(g0:BA)(M M1 M2:Int)(kk:Nat)(w:World)(aB:qec w b o l)(h0:l[0]? = some x0)(oK:1≤l.length)(hl5:l.length≤5)(hlc:l.length≤c)(hc:c≤maxLen)(hav:av≤255)(Ml:av % l.length=kk)(oZ:x0.grain=g0)(hR:R.length≤1048576)(hLQ:LQ.length≤1048576)(xM:x0.shares.length≤1048576)
  (h70:∀x ∈ l,x.shares.length≤70)
  (Ry:Hid (zah (Below w.heap.size w) 4 #[] (.bool true))) (Se:Hid (zah (Below w.heap.size w) 5 #[.slice (some ⟨b,o,none⟩) l.length c] (.bool true)))
  (tV:Hid (zah (Below w.heap.size w) 6 #[.slice (some ⟨b,o,none⟩) l.length c] (.int .i64 0)))
  (HM:Hid ((∀x ∈ l,zbl x)→∀W,Below w.heap.size w W→zbm (.slice (some ⟨b,o,none⟩) l.length c) g0 M R W))
  (jR:Hid ((∀x ∈ l,zbl x)→∀p n q W,Below w.heap.size w W→ShC W p n q R→Calls Tryz.prog 9 #[.agg #[.string g0,.int .i64 M,.slice p n q]] W fun e w'=>e = .returned (.int .i64 0)∧Below W.heap.size W w'))
  (Bo:Hid ((∀x ∈ l,zbl x)→∀g p n q W,Below w.heap.size w W→ShC W p n q R→InB W g 0 g0 M p n q→zbw (.slice (some ⟨g,0,none⟩) 1 1) LQ W))
  (uB:Hid ((∀x ∈ l,zbl x)→∀W,Below w.heap.size w W→zbw (.slice (some ⟨b,o,none⟩) l.length c) LQ W))
  (Sl:Hid (kk=0→(∀x ∈ l,zbl x)→∀W,Below w.heap.size w W→zbm (.slice (some ⟨b,o,none⟩) 1 c) g0 x0.mass x0.shares W))
  (Su:Hid (kk≠0→(∀x ∈ l,zbl x)→∀W,Below w.heap.size w W→zbm (.slice (some ⟨b,o,none⟩) kk c) g0 M1 R1 W))
  (Mb:Hid (kk≠0→(∀x ∈ l,zbl x)→∀W,Below w.heap.size w W→zbm (.slice (some ⟨b,o+kk*3,none⟩) (l.length-kk) (c-kk)) g0 M2 R2 W))
  (HK3:Hid (kk≠0→(∀x ∈ l,zbl x)→∀g p n q p' n' q' W,Below w.heap.size w W→ShC W p n q R1→ShC W p' n' q' R2→InB W g 0 g0 M1 p n q→InB W g 3 g0 M2 p' n' q'→zbm (.slice (some ⟨g,0,none⟩) 2 2) g0 M R W)):
  Calls Tryz.prog 3 #[.slice (some ⟨b,o,none⟩) l.length c,.int .u8 av] w fun e w'=>e = .returned (.bool true)∧Below w.heap.size w w':=by
 have HB:=hid (qaa w.heap.size w);have bP:=hid aB;have HX0:=hid h0;have H70:=hid h70
 obtain⟨q0,Sn,Sg,Af⟩:∃q0 Sn,Hid (∀W,Below w.heap.size w W→W.cell? ⟨b,o,none⟩=some (.string g0)∧W.cell? ⟨b,o+1,none⟩=some (.int .i64 x0.mass)∧W.cell? ⟨b,o+2,none⟩=some (.slice q0 x0.shares.length Sn))∧Hid (qdc w (.slice q0 x0.shares.length Sn) x0.shares):=by
  obtain⟨e0,e1,q,cq,e2,Jw⟩:=aB 0 x0 h0;rw[Nat.zero_mul,Nat.add_zero] at e0 e1 e2;rw[oZ] at e0;refine⟨q,cq,hid fun W hW => ?_,Jw⟩;rw[hW.cell (qaf w _ e0),hW.cell (qaf w _ e1),hW.cell (qaf w _ e2)];exact⟨e0,e1,e2⟩
 have hwk:IntKind.i64.wrap (av:Int)=(av:Int):=IntWalk.i64_in _ (by omega);have cQ:kk<l.length:=by rw[←Ml];exact Nat.mod_lt _ (by omega)
 have hm:(av:Int).tmod (l.length:Int)=(kk:Int):=by rw[←Ml];exact(Int.ofNat_tmod av l.length).symm
 have g0':((l.length:Int)==0)=false:=qan (by omega);have g1':¬(5:Int)<(l.length:Int):=by omega
 unfold maxLen at hc;clear aB h0 h70 oZ;go_enter Tryz.func3,Tryz.ntmps3;go_wp2_with fail;refine mgo Ry.out HB fun wN HB => ?_;go_wp2_with fail;refine mgo Se.out HB fun wN HB => ?_;go_wp2_with fail;refine mgo tV.out HB fun wN HB => ?_;clear Ry Se tV;go_wp2_with fail
 go_loopw [5] (fun i wr=>∃k:Nat,k≤l.length∧i = .int .i64 k∧Hid (∀x ∈ l.take k,zbl x)∧Hid (Below w.heap.size w wr)) (fun i _=>l.length-(intOf i).toNat)
 case atStart=>exact⟨0,Nat.zero_le _,rfl,hid (by intro x hx;cases hx),HB⟩
 case round=>
  obtain⟨k,hk,rfl,HF,Sr⟩:=hrel;clear HB;by_cases bC:k<l.length
  ·obtain⟨x,cI⟩:∃x,l[k]? = some x:=⟨_,qat bC⟩
   obtain⟨-,-,q,cq,e2,Jw⟩:=bP.out k x cI;obtain⟨q',cq',Sx,-,-,Cf⟩:=Jw;cases Sx
   have hn70:=H70.out x (qbj cI)
   have Ht:Hid (∀W,Below w.heap.size w W→W.cell? ⟨b,o+k*3+2,none⟩=some (.slice q x.shares.length cq)):=hid fun W hW=>by
    rw[hW.cell (qaf w _ e2)];exact e2
   have HFN:Hid (zbl x→∀y ∈ l.take (k+1),zbl y):=hid fun h y hy=>by
    rw[qbp cI] at hy;rcases List.mem_append.1 hy with hy|hy
    ·exact HF.out y hy
    ·rw[List.mem_singleton.1 hy];exact h
   have qC:=hid Cf;have Jv:(0:Int)≤(k:Int):=by omega
   have zK:(k:Int)<(l.length:Int):=by omega
   have HXF:Hid (∀j,j≤4→j=x.shares.length→(∀s ∈ x.shares.take j,q4t s.2 4=true)→zbl x):=hid fun j h1 h2 h3=>⟨by omega,by rw[h2,List.take_length] at h3;exact h3⟩;clear e2 cI Cf HF;generalize zbl x=FX at *;generalize x.shares=ss at *;go_wp2_with fail
   go_loopw [6] (fun i wr=>∃j:Nat,j≤ss.length∧j≤4∧i = .int .i64 j∧Hid (∀s ∈ ss.take j,q4t s.2 4=true)∧Hid (Below w.heap.size w wr)) (fun i _=>ss.length-(intOf i).toNat)
   case atStart=>exact⟨0,Nat.zero_le _,Nat.zero_le _,rfl,hid (by intro s hs;cases hs),Sr⟩
   case round=>
    obtain⟨j,hj,hj4,rfl,HG,aK⟩:=hrel;clear Sr;have eC:=Ht.out _ aK.out;by_cases xF:j<ss.length
    ·by_cases hj3:3<j
     ·have z3:(3:Int)<(j:Int):=by omega
      have z4:decide ((3:Int)<(j:Int))=true:=qag z3;go_wp2_with fail;go_ret;exact⟨rfl,aK.out⟩
     ·have z3:¬(3:Int)<(j:Int):=by omega
      have z4:decide ((3:Int)<(j:Int))=false:=qae z3;rcases qC.out with hz|⟨b2,o2,rfl,mY⟩
      ·omega
      obtain⟨s,hs⟩:∃s,ss[j]? = some s:=⟨_,qat xF⟩;obtain⟨-,f1⟩:=mY j s hs;have St:wr.cell? ⟨b2,o2+j*2+1,none⟩=some (.string s.2):=by rw[aK.out.cell (qaf w _ f1)];exact f1
      have Sy:=hid fun W=>zbf s.2 4 W (by decide) (by decide)
      have rD:Hid (q4t s.2 4=true→∀t ∈ ss.take (j+1),q4t t.2 4=true):=hid fun h t ht=>by
       rw[qbp hs] at ht;rcases List.mem_append.1 ht with ht|ht
       ·exact HG.out t ht
       ·rw[List.mem_singleton.1 ht];exact h
      have Ge:(0:Int)≤(j:Int):=by omega
      have xN:(j:Int)<(ss.length:Int):=by omega
      clear hs mY f1;generalize s.2=s2 at *;go_wp2_with fail;refine(Sy.out _).mono ?_;rintro e wF ⟨rfl,hb⟩;have bR:=hid (aK.out.trans (hb.mono aK.out.size));clear hb Sy eC St;cases hfb:q4t s2 4 with
      | false=>
       go_wp2_with fail;go_ret;exact⟨rfl,bR.out⟩
      | true=>
       have HGN2:=hid (rD.out hfb);clear rD hfb;go_wp2_with fail;go_roundw
       case rel=>exact⟨j+1,by omega,by omega,by go_num,HGN2,bR⟩
       case measure=>simp[intOf];omega
    ·have Fc:=hid (HFN.out (HXF.out j hj4 (by omega) HG.out))
     clear HG HFN HXF qC;go_wp2_with fail;go_roundw
     case rel=>exact⟨k+1,by omega,by go_num,Fc,aK⟩
     case measure=>simp[intOf];omega
  ·have kT:k=l.length:=by omega
   have Rz:Hid (∀x ∈ l,zbl x):=hid (by have h:=HF.out;rw[kT,List.take_length] at h;exact h);have HM':=hid (HM.out Rz.out);have HCL':=hid (jR.out Rz.out);have HL1':=hid (Bo.out Rz.out);have HL2':=hid (uB.out Rz.out);have HK0':Hid (kk=0→∀W,Below w.heap.size w W→zbm (.slice (some ⟨b,o,none⟩) 1 c) g0 x0.mass x0.shares W):=hid fun h=>Sl.out h Rz.out;have HK1':Hid (kk≠0→∀W,Below w.heap.size w W→zbm (.slice (some ⟨b,o,none⟩) kk c) g0 M1 R1 W):=hid fun h=>Su.out h Rz.out;have HK2':Hid (kk≠0→∀W,Below w.heap.size w W→zbm (.slice (some ⟨b,o+kk*3,none⟩) (l.length-kk) (c-kk)) g0 M2 R2 W):=hid fun h=>Mb.out h Rz.out;have HK3':Hid (kk≠0→∀g p n q p' n' q' W,Below w.heap.size w W→ShC W p n q R1→ShC W p' n' q' R2→InB W g 0 g0 M1 p n q→InB W g 3 g0 M2 p' n' q'→zbm (.slice (some ⟨g,0,none⟩) 2 2) g0 M R W):=hid fun h=>HK3.out h Rz.out;clear HF HM jR Bo uB Sl Su Mb HK3 kT bP HX0 H70;go_wp2_with fail;refine(HM'.out _ Sr.out).mono ?_;rintro e wX ⟨⟨px,nx,cx,rfl,hsx'⟩,hb⟩;have fT:=hid (Sr.out.trans (hb.mono Sr.out.size));have Sj:=hid (zbk (q:=cx) g0 M 28 hsx');have tU:=hid (fT.out.alloc fT.out.size (.cells #[.string g0,.int .i64 M,.slice px nx cx] 28));clear hsx' hb HM' Sr fT Rz;have a0:=Sj.out.1.1;have a1:=Sj.out.1.2.1;have a2:=Sj.out.1.2.2;go_wp2_with fail;refine(HCL'.out _ _ _ _ tU.out Sj.out.2).mono ?_;rintro e wC ⟨rfl,hb⟩;have Ht:=hid (Sj.out.later hb);have hJ:=hid (tU.out.trans (hb.mono tU.out.size));clear hb HCL' Sj tU a0 a1 a2;have a0:=Ht.out.1.1;have a1:=Ht.out.1.2.1;have a2:=Ht.out.1.2.2;have aD:Below wC.heap.size wC (wC.alloc (.cells #[.string g0,.int .i64 M,.slice px nx cx] 28)):=qad _ _;have HXA:=hid (Ht.out.later aD);have sH:=hid (zbu wC g0 M px nx cx 28);have dE:=hid (hJ.out.trans (aD.mono hJ.out.size));clear aD Ht hJ;go_wp2_with fail
   refine(HL1'.out _ _ _ _ _ dE.out HXA.out.2 sH.out).mono ?_;rintro e wL ⟨⟨pl,nl,cl,rfl,Tc⟩,hb⟩;have Sf:=hid (HXA.out.later hb);have dW:=hid (dE.out.trans (hb.mono dE.out.size));have iH:=hid Tc;clear hb Tc HL1' HXA sH dE a0 a1 a2;go_wp2_with fail;refine(HL2'.out _ dW.out).mono ?_;rintro e wM ⟨⟨pm,nm,cm,rfl,Tc⟩,hb⟩;have HXM:=hid (Sf.out.later hb);have Sm:=hid (dW.out.trans (hb.mono dW.out.size));have Ho:=hid fun W (hW:Below wM.heap.size wM W)=>zbx pl pm nl nm cl cm LQ W ((iH.out.later hb).later hW) (LV.later Tc hW) hLQ;have HHC:Hid (∀W,Below wM.heap.size wM W→W.cell? ⟨wX.heap.size,0,none⟩=some (.string g0)∧W.cell? ⟨b,o,none⟩=some (.string g0)):=hid fun W hW=>⟨(HXM.out.later hW).1.1,(Sg.out W (Sm.out.trans (hW.mono Sm.out.size))).1⟩;clear hb Tc HL2' Sf dW iH;have dJ:=hid (qaa wM.heap.size wM).drew;have eZ:=HHC.out _ dJ.out;go_wp2_with fail;have kK:0<l.length:=by omega
   go_region_held3 (fun W=>W.cell? ⟨wX.heap.size,0,none⟩=some (.string g0)∧W.cell? ⟨b,o,none⟩=some (.string g0)) (exact HHC.out _ dJ.out)
    (first
     | (go_at_call 11;((with_reducible refine(Ho.out _ dJ.out).mono ?_);rintro e wS ⟨rfl,hb⟩;have dJ:=hid (dJ.out.trans (hb.mono dJ.out.size));clear hb)))
   all_goals
    have Si:=hid (Sm.out.trans (dJ.out.mono Sm.out.size));have HXS:=hid (HXM.out.later dJ.out);clear Ho HHC dJ Sm HXM;by_cases kF:kk=0
    ·subst kF
     have Td:=hid (HK0'.out rfl);clear HK1' HK2' HK3' HK0';go_wp2_with fail;refine(Td.out _ Si.out).mono ?_;rintro e wY ⟨⟨py,ny,cy,rfl,Sk⟩,hb⟩;have Rx:=hid (Si.out.trans (hb.mono Si.out.size));have zG:=hid (zbk (q:=cy) g0 x0.mass 28 Sk);have tU:=hid (Rx.out.alloc Rx.out.size (.cells #[.string g0,.int .i64 x0.mass,.slice py ny cy] 28));have Cy:Hid (∀W,Below (wY.alloc (.cells #[.string g0,.int .i64 x0.mass,.slice py ny cy] 28)).heap.size (wY.alloc (.cells #[.string g0,.int .i64 x0.mass,.slice py ny cy] 28)) W→(W.cell? ⟨wY.heap.size,0,none⟩=some (.string g0)∧W.cell? ⟨wY.heap.size,1,none⟩=some (.int .i64 x0.mass)∧W.cell? ⟨wY.heap.size,2,none⟩=some (.slice py ny cy))∧W.cell? ⟨b,o,none⟩=some (.string g0)∧W.cell? ⟨b,o+1,none⟩=some (.int .i64 x0.mass)∧W.cell? ⟨b,o+2,none⟩=some (.slice q0 x0.shares.length Sn)):=hid fun W hW=>⟨(zG.out.later hW).1,Sg.out W (tU.out.trans (hW.mono tU.out.size))⟩;have aU:Hid (∀W,Below (wY.alloc (.cells #[.string g0,.int .i64 x0.mass,.slice py ny cy] 28)).heap.size (wY.alloc (.cells #[.string g0,.int .i64 x0.mass,.slice py ny cy] 28)) W→Calls Tryz.prog 12 #[.agg #[.string g0,.int .i64 x0.mass,.slice py ny cy],.agg #[.string g0,.int .i64 x0.mass,.slice q0 x0.shares.length Sn]] W fun e w'=>e = .returned (.bool true)∧Below W.heap.size W w'):=hid fun W hW=>zby py q0 ny _ cy Sn g0 x0.mass x0.shares W (zG.out.later hW).2.1 (Af.out.later (tU.out.trans (hW.mono tU.out.size))) xM;have dJ:=hid (qaa (wY.alloc (.cells #[.string g0,.int .i64 x0.mass,.slice py ny cy] 28)).heap.size (wY.alloc (.cells #[.string g0,.int .i64 x0.mass,.slice py ny cy] 28))).drew;have eZ:=Cy.out _ dJ.out;clear hb Sk Td Si HXS Rx zG Sg Af;generalize x0.mass=m0 at *;generalize x0.shares.length=n0 at *;go_wp2_with fail
     go_region_held3 (fun W=>(W.cell? ⟨wY.heap.size,0,none⟩=some (.string g0)∧W.cell? ⟨wY.heap.size,1,none⟩=some (.int .i64 m0)∧W.cell? ⟨wY.heap.size,2,none⟩=some (.slice py ny cy))∧W.cell? ⟨b,o,none⟩=some (.string g0)∧W.cell? ⟨b,o+1,none⟩=some (.int .i64 m0)∧W.cell? ⟨b,o+2,none⟩=some (.slice q0 n0 Sn)) (exact Cy.out _ dJ.out)
      (first
       | (go_at_call 12;((with_reducible refine(aU.out _ dJ.out).mono ?_);rintro e wT ⟨rfl,hb⟩;have dJ:=hid (dJ.out.trans (hb.mono dJ.out.size));clear hb)))
     all_goals
      go_wp2_with fail;go_ret;exact⟨rfl,tU.out.trans (dJ.out.mono tU.out.size)⟩
    ·have oQ:((kk:Int)==0)=false:=qan (by omega)
     clear HK0' Af Sg;go_wp2_with fail;refine(HK1'.out kF _ Si.out).mono ?_;rintro e wY ⟨⟨py,ny,cy,rfl,Sk⟩,hb⟩;have Rx:=hid (Si.out.trans (hb.mono Si.out.size));have Te:=hid (HXS.out.later hb);have aD:Below wY.heap.size wY (wY.alloc (.cells #[.string g0,.int .i64 M1,.slice py ny cy] 28)):=qad _ _;have zG:=hid (zbk (q:=cy) g0 M1 28 Sk);have tU:=hid (Rx.out.trans (aD.mono Rx.out.size));have yE:=hid (Te.out.later aD);clear hb Sk HK1' Si HXS Rx Te aD;go_wp2_with fail;refine(HK2'.out kF _ tU.out).mono ?_;rintro e wZ ⟨⟨pz,nz,cz,rfl,dG⟩,hb⟩;have So:=hid (tU.out.trans (hb.mono tU.out.size));have Tf:=hid (yE.out.later hb);have Tg:=hid (zG.out.later hb);have aD:Below wZ.heap.size wZ (wZ.alloc (.cells #[.string g0,.int .i64 M2,.slice pz nz cz] 28)):=qad _ _;have Sd:=hid (zbk (q:=cz) g0 M2 28 dG);have qH:=hid (So.out.trans (aD.mono So.out.size));have HXZ:=hid (Tf.out.later aD);have Ss:=hid (Tg.out.later aD);clear hb dG HK2' tU yE zG So Tf Tg aD;obtain⟨w2,kZ⟩:∃W,W=wZ.alloc (.cells #[.string g0,.int .i64 M2,.slice pz nz cz] 28):=⟨_,rfl⟩;rw[←kZ] at Sd qH HXZ Ss;have aD:Below w2.heap.size w2 (w2.alloc (.cells #[.string g0,.int .i64 M1,.slice py ny cy,.string g0,.int .i64 M2,.slice pz nz cz] 28)):=qad _ _;have fN:w2.heap.size=wZ.heap.size+1:=by rw[kZ,qab]
     have jE:=hid (zbv w2 g0 g0 M1 M2 py pz ny cy nz cz 28);rw[fN] at jE;have dW:=hid (qH.out.trans (aD.mono qH.out.size));have Sf:=hid (HXZ.out.later aD);have HYL:=hid (Ss.out.later aD);have Sv:=hid (Sd.out.later aD);have a0:=Ss.out.1.1;have a1:=Ss.out.1.2.1;have a2:=Ss.out.1.2.2;have b0:=Sd.out.1.1;have b1:=Sd.out.1.2.1;have b2:=Sd.out.1.2.2;rw[kZ] at a0 a1 a2 b0 b1 b2;clear aD qH HXZ Ss Sd;go_wp2_with fail;rw[←kZ];refine(HK3'.out kF _ _ _ _ _ _ _ _ dW.out HYL.out.2 Sv.out.2 jE.out.1 jE.out.2).mono ?_;rintro e wB ⟨⟨pb,nb,cb,rfl,hsb⟩,hb⟩;have Sp:=hid (dW.out.trans (hb.mono dW.out.size));have Th:=hid (Sf.out.later hb);have aD:Below wB.heap.size wB (wB.alloc (.cells #[.string g0,.int .i64 M,.slice pb nb cb] 28)):=qad _ _;have aV:=hid (zbk (q:=cb) g0 M 28 hsb);have nL:=hid (Sp.out.trans (aD.mono Sp.out.size));have Sq:=hid (Th.out.later aD);clear hb hsb HK3' dW Sf HYL Sv jE Sp Th aD a0 a1 a2 b0 b1 b2 fN kZ;have Cy:Hid (∀W,Below (wB.alloc (.cells #[.string g0,.int .i64 M,.slice pb nb cb] 28)).heap.size (wB.alloc (.cells #[.string g0,.int .i64 M,.slice pb nb cb] 28)) W→(W.cell? ⟨wB.heap.size,0,none⟩=some (.string g0)∧W.cell? ⟨wB.heap.size,1,none⟩=some (.int .i64 M)∧W.cell? ⟨wB.heap.size,2,none⟩=some (.slice pb nb cb))∧W.cell? ⟨wX.heap.size,0,none⟩=some (.string g0)∧W.cell? ⟨wX.heap.size,1,none⟩=some (.int .i64 M)∧W.cell? ⟨wX.heap.size,2,none⟩=some (.slice px nx cx)):=hid fun W hW=>⟨(aV.out.later hW).1,(Sq.out.later hW).1⟩
     have aU:Hid (∀W,Below (wB.alloc (.cells #[.string g0,.int .i64 M,.slice pb nb cb] 28)).heap.size (wB.alloc (.cells #[.string g0,.int .i64 M,.slice pb nb cb] 28)) W→Calls Tryz.prog 12 #[.agg #[.string g0,.int .i64 M,.slice pb nb cb],.agg #[.string g0,.int .i64 M,.slice px nx cx]] W fun e w'=>e = .returned (.bool true)∧Below W.heap.size W w'):=hid fun W hW=>zbb pb px nb nx cb cx g0 M R W (aV.out.later hW).2.1 (Sq.out.later hW).2.1 hR;have eZ:=Cy.out _ (qaa _ _);clear aV Sq;go_wp2_with fail;refine(aU.out _ (qaa _ _)).mono ?_;rintro e wT ⟨rfl,hb⟩;have My:=hid (nL.out.trans (hb.mono nL.out.size));clear hb aU Cy eZ;go_wp2_with fail;go_ret;exact⟨rfl,My.out⟩
theorem q4j(v:Value)(l:List Lay)(z:Int)(w:World)(hg:GW w)(hv:qr6 w v l)(cP:0≤z)(dV:z≤255):
  Calls Tryz.prog 3 #[v,.int .u8 z] w fun e w'=>e = .returned (.bool true)∧Below w.heap.size w w':=by
 have lW:=hv;obtain⟨p,c,rfl,bO,bJ,aA⟩:=lW;obtain⟨av,rfl⟩:∃n:Nat,z=(n:Int):=⟨z.toNat,by omega⟩;have J:=q3x hg;have Ry:=hid (qwf J);have Se:=hid (qxx J fun W hW _=>zal _ l W (hv.later hW));have mJ:∀hb:qlv l=true,zah (Below w.heap.size w) 6 #[.slice p l.length c] (.int .i64 ((qfw l:Nat):Int)):=fun hb=>qxx J fun W hW _=>qui _ l W (hv.later hW) (quj hb).1 fun x h=>((quj hb).2.2 x h).1;have HS:=fun h=>zbr p l.length c av (qlv l) ((qfw l:Nat):Int) w h Ry Se (hid fun _ hb=>mJ hb);by_cases hn:l.length=0
 ·exact HS (.inl hn)
 by_cases hn5:5<l.length
 ·exact HS (.inr (.inl hn5))
 cases cS:qlv l with
 | false=>exact HS (.inr (.inr ⟨by omega,by omega,.inl cS⟩))
 | true=>
  by_cases hE:qfw l=0
  ·have tV:=hid (mJ cS)
   rw[hE] at tV;rw[cS] at Se;obtain⟨-,-,hx⟩:=quj cS;obtain⟨a1,a2,cV,rW,bX,oW⟩:=qwk hE;obtain⟨b,o,rfl,aB⟩:=aA.resolve_left hn;obtain⟨x0,oZ⟩:∃x,l[0]? = some x:=⟨l[0]'(by omega),qat _⟩;have mC:=qbj oZ;have cQ:av % l.length<l.length:=Nat.mod_lt _ (by omega);have hp:=zbq l b o c (av % l.length) x0 w hg hv aB oZ a1 (by omega) bJ cQ (fun x h=>(hx x h).1) cV rW bX;have hlq:(qci l).length≤64:=by rw[(qdz l).2.length_eq];exact oW
   have hml:(qdj l).shares.length≤1048576:=by
    show((qgq l).map rtS).length≤1048576;unfold qgq;rw[List.length_map,List.length_map];omega
   exact zbs l b o c av x0 (qdj l).shares (qdj (l.take (av % l.length))).shares (qdj (l.drop (av % l.length))).shares (qci l) (qct l) (qaq l) (qaq (l.take (av % l.length))) (qaq (l.drop (av % l.length))) (av % l.length) w aB oZ a1 (by omega) bO bJ (by omega) rfl (qkw oZ) hml (by omega) (by have:=(qbq (cV x0 mC)).2.2.2.1;omega) (fun x h=>(hx x h).2) Ry Se tV
    (hid fun hf=>(hp hf).1) (hid fun hf=>(hp hf).2.1) (hid fun hf=>(hp hf).2.2.1) (hid fun hf=>(hp hf).2.2.2.1) (hid fun h0 hf=>(hp hf).2.2.2.2.1 h0) (hid fun h0 hf=>(hp hf).2.2.2.2.2.1 h0) (hid fun h0 hf=>(hp hf).2.2.2.2.2.2.1 h0) (hid fun h0 hf=>(hp hf).2.2.2.2.2.2.2 h0)
  ·exact HS (.inr (.inr ⟨by omega,by omega,.inr ⟨cS,by omega⟩⟩))
end Go.Proofs.YtmcfcpgglfimjaaGreatDoor
