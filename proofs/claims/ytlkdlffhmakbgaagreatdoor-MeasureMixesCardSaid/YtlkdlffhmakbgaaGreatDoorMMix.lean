/- Mix, where it has no error. -/
import Derived.Test.YtlkdlffhmakbgaaGreatDoorMMassesOf
import Derived.BigQuiet
import Derived.Test.YtlkdlffhmakbgaaGreatDoorMMean
import Derived.Test.YtlkdlffhmakbgaaGreatDoorMRounded
import Derived.Test.YtlkdlffhmakbgaaGreatDoorMSpans
import Derived.Test.YtlkdlffhmakbgaaGreatDoorMEachLayer
set_option linter.all false
namespace Go.Proofs.YtlkdlffhmakbgaaGreatDoor
open Go.RowKit
set_option maxRecDepth 100000
set_option maxHeartbeats 16000000
def qg4(D:List (BA × Rat))(k:BA):Rat:=((D.find? fun p=>k==p.1).map (·.2)).getD 0
theorem qz1(E:Ent)(k:BA):qkv E k=qg4 (qhn E) k:=by
 unfold qkv qg4 qhn;rw[List.find?_map,Option.map_map];rfl
theorem q54{D:List (BA × Rat)}{k:BA}{d:Rat}{N:Nat}(h:∀p ∈ D,p.1.size≤N)(hk:k.size≤N):∀p ∈ qsb D k d,p.1.size≤N:=by
 intro p hp;unfold qsb at hp;split at hp
 ·rw[List.mem_map] at hp
  obtain⟨q,hq,rfl⟩:=hp;split
  ·exact h q hq
  ·exact h q hq
 ·rw[List.mem_append,List.mem_singleton] at hp
  rcases hp with hp|rfl
  ·exact h p hp
  ·exact hk
theorem q8i{D:List (BA × Rat)}{k:BA}{d:Rat}:qsb D k d≠[]:=by
 unfold qsb;split
 ·rename_i h
  intro h2;rw[List.map_eq_nil_iff] at h2;subst h2;cases h
 ·simp
theorem qwf{m:Int}{N:Nat}(ss:List (BA × BA)):∀ {D:List (BA × Rat)},(∀p ∈ D,p.1.size≤N)→(∀s ∈ ss,s.1.size≤N)→∀p ∈ qfb m D ss,p.1.size≤N:=by
 induction ss with
 | nil=>intro D h _;exact h
 | cons s ss ih=>
  intro D h hs;exact ih (D:=qsb D s.1 (qcu s*((m:Int):Rat))) (q54 h (hs s (List.mem_cons_self ..))) (fun t ht=>hs t (List.mem_cons_of_mem _ ht))
theorem qz2{m:Int}(ss:List (BA × BA)):∀ {D:List (BA × Rat)},(D≠[]∨ss≠[])→qfb m D ss≠[]:=by
 induction ss with
 | nil=>intro D h;exact h.resolve_right (fun h=>h rfl)
 | cons s ss ih=>intro D _;exact ih (D:=qsb D s.1 (qcu s*((m:Int):Rat))) (.inl q8i)
theorem qub{N:Nat}(l:List Lay)(h:∀x ∈ l,∀s ∈ x.shares,s.1.size≤N):∀p ∈ qci l,p.1.size≤N:=by
 induction l using qda with
 | h0=>intro p hp;cases hp
 | h1 l x ih=>
  rw[qj2];exact qwf _ (ih fun y hy=>h y (List.mem_append_left _ hy)) (h x (by simp))
theorem qsc(l:List Lay)(hl:l≠[])(h:∀x ∈ l,x.shares≠[]):qci l≠[]:=by
 induction l using qda with
 | h0=>exact absurd rfl hl
 | h1 l x ih=>
  rw[qj2];exact qz2 _ (.inr (h x (by simp)))
theorem qnp{α:Type}(f:α→Nat)(l:List α)(h:∀x ∈ l,f x=0):qaj (l.map f)=0:=by
 induction l with
 | nil=>rfl
 | cons a l ih=>
  show(if f a=0 then qaj (l.map f) else f a)=0;rw[if_pos (h a (List.mem_cons_self ..))];exact ih fun x hx=>h x (List.mem_cons_of_mem _ hx)
def qav(l:List Lay):Int:=l.foldl (fun a x=>a+x.mass) 0
theorem qfq(l:List Lay)(x:Lay):qav (l++[x])=qav l+x.mass:=by unfold qav;rw[List.foldl_append];rfl
theorem qfc(l:List Lay)(h:∀x ∈ l,qbj x=0):(l.length:Int)≤qav l∧qav l≤999999999*(l.length:Int):=by
 induction l using qda with
 | h0=>exact⟨Int.le_refl _,Int.le_refl _⟩
 | h1 l x ih=>
  rw[qfq,List.length_append,List.length_singleton];obtain⟨h1,h2⟩:=ih fun y hy=>h y (List.mem_append_left _ hy);obtain⟨h3,h4,_⟩:=qbo (h x (by simp));omega
def q8j(l:List Lay)(g0:BA)(w:World)(e:Ending)(w':World):Prop:=
 ∃(ss:List (List UInt8)) (g:Nat),ss.Perm ((qci l).map fun p=>p.1.data.toList)∧w.heap.size≤g∧
  e = .returned (.tuple #[.agg #[.string g0,.int .i64 (qav l),.slice (some ⟨g,0,none⟩) (qcc ss).length (qcc ss).length],.int .i64 0])∧
  qdg shK w' g (qcc ss).length ((qcc ss).map fun s=>(s,qc7 (qg4 (qci l) s/((qav l:Int):Rat))))∧Below w.heap.size w w'
theorem qji{l:List Lay}{b o c:Nat}{w:World}(hg:GW w)(aB:qdz w b o l)(hl:l.length≤64)(hs:∀x ∈ l,∀s ∈ x.shares,s.2.size≤1073741824)(cM:∀x ∈ l,qbj x=0):
  Calls Tryz.prog 31 #[.slice (some ⟨b,o,none⟩) l.length c,.func (.func 30) #[] #[]] w fun e w'=>(∃g,w.heap.size≤g∧e = .returned (.tuple #[.slice (some ⟨g,0,none⟩) l.length l.length,.int .i64 0])∧qdg q12 w' g l.length (l.map qp6))∧Below w.heap.size w w':=
 (qqr l b o c w hg aB (by omega) hs).mono fun e w' h=>by
  unfold qip at h;rw[if_pos (qnp qbj l cM),List.length_map] at h;exact h
theorem q55{W:World}{g g' cap:Nat}{l:List (BA × BA)}(h:qdg shK W g cap l)(hne:g≠g')(x y z:Value):qdg shK (((W.setCell ⟨g',0,none⟩ x).setCell ⟨g',1,none⟩ y).setCell ⟨g',2,none⟩ z) g cap l:=by
 obtain⟨h1,cur,hg,h2,h3,h4⟩:=h;exact⟨h1,cur,qeo.other3 (W:=W) (g:=g) (cs:=cur) (t:=shK.ty) hg hne x y z,h2,h3,h4⟩
theorem qxv(l:List Lay)(g0:BA)(b o c:Nat)(w:World)(hg:GW w)(aB:qdz w b o l)(mS:1≤l.length)(hl:l.length≤64)(_hc:c≤maxLen)
  (hs:∀x ∈ l,∀s ∈ x.shares,s.1.size≤1073741824∧s.2.size≤1073741824) (cM:∀x ∈ l,qbj x=0) (nN:∀x ∈ l,x.grain=g0) (bZ:qav l≤999999999)
  (fU:(qci l).length≤64) (bU:∀s,qgf (qg4 (qci l) s/((qav l:Int):Rat))=0):
  Calls Tryz.prog 10 #[.slice (some ⟨b,o,none⟩) l.length c] w (q8j l g0 w):=by
 have aD:Below w.heap.size w (w.alloc (.cells #[.string ⟨#[]⟩,.int .i64 0,.slice none 0 0] 29)):=qad _ _;have cX:=hid aD;have HO:=hid (qb4 w 29 (.string ⟨#[]⟩) (.int .i64 0) (.slice none 0 0));have uX:=hid (qji (c:=c) (hg.later aD) (aB.later aD) hl (fun x hx s hs'=>(hs x hx s hs').2) cM);have bL:=hid aB;obtain⟨eU,fL⟩:=qfc l cM;have xS:=hid cM;have Ad:=hid nN;have uM:Hid (∀W g,Below w.heap.size w W→qdg q12 W g l.length (l.map qp6)→Calls Tryz.prog 33 #[.slice (some ⟨b,o,none⟩) l.length c,.slice (some ⟨g,0,none⟩) l.length l.length] W fun e w'=>(∃E,e = .returned (.map (some W.heap.size))∧qhm w' W.heap.size E∧qhn E=qci l∧∀e ∈ E,bd e.2.2 (602*64*64+1))∧Below W.heap.size W w'):=hid fun W g hW hr=>qnn l b o c g W (aB.later hW) hl cM hr
 have rH:Hid (∀W E r,qhn E=qci l→qhm W r E→(∀e ∈ E,bd e.2.2 (602*64*64+1))→Calls Tryz.prog 32 #[.map (some r),.int .i64 (qav l)] W fun e w'=>∃(ss:List (List UInt8)) (g:Nat),ss.Perm ((qci l).map fun p=>p.1.data.toList)∧W.heap.size≤g∧e = .returned (.tuple #[.slice (some ⟨g,0,none⟩) (qcc ss).length (qcc ss).length,.int .i64 0])∧qdg shK w' g (qcc ss).length ((qcc ss).map fun s=>(s,qc7 (qg4 (qci l) s/((qav l:Int):Rat))))∧Below W.heap.size W w'):=hid fun W E r hd hN hb=>by
  have sD:=qub l (N:=1073741824) fun x hx s hs'=>(hs x hx s hs').1
  have hne:=qsc l (by rintro rfl;exact absurd mS (by decide)) fun x hx h=>by
   have:=(qbo (cM x hx)).2.2.1;rw[h] at this;exact absurd this (by decide)
  rw[←hd] at sD hne fU;have hEl:E.length≤64:=by unfold qhn at fU;rwa [List.length_map] at fU
  refine(qno r E (qav l) W hN (by rintro rfl;exact hne rfl) (fun e he => ?_) (by omega) bZ hb).mono fun e w' h => ?_
  ·have:=sD (e.1,e.2.2) (by unfold qhn;exact List.mem_map_of_mem (f:=fun e:BA × NV × Rat=>(e.1,e.2.2)) he)
   exact Nat.le_trans this (by decide)
  ·unfold qwd at h
   rw[if_neg (by omega)] at h;obtain⟨ss,hp,h⟩:=h;have hq:∀s,qn9 E (qav l) s=qg4 (qci l) s/((qav l:Int):Rat):=fun s=>by unfold qn9;rw[qz1,hd]
   unfold qip at h;simp only[hq] at h;rw[if_pos (qnp _ _ fun s _=>bU s),List.length_map] at h;obtain⟨⟨g,h1,h2,h3⟩,h4⟩:=h;refine⟨ss,g, ?_,h1,h2,h3,h4⟩;rw[←hd];unfold qhn;rw[List.map_map];exact hp
 have dS:((l.length:Int)==0)=false:=qam (by omega);have sG:=hid mS;clear hg aB hs cM nN fU bU aD;go_enter Tryz.func10,Tryz.ntmps10;go_wp2_with fail;refine uX.out.mono ?_;rintro e w1 ⟨⟨gp,hgp,rfl,hr⟩,hb⟩;have HR:=hid hr;have HB:=hid (cX.out.trans (hb.mono cX.out.size));have fB:=hid (HO.out.later (hb.mono HO.out.1));clear hr hb uX HO;go_wp2_with fail
 go_loopw [6,29] (fun a i wr=>∃k:Nat,k≤l.length∧i = .int .i64 k∧a = .int .i64 (qav (l.take k))∧Hid (Below w1.heap.size w1 wr)) (fun _ i _=>l.length-(intOf i).toNat)
 case atStart=>exact⟨0,Nat.zero_le _,rfl,rfl,hid (qaa _ _)⟩
 case round=>
  obtain⟨k,hk,rfl,rfl,bM⟩:=hrel;by_cases cT:k<l.length
  ·obtain⟨x,bV⟩:∃x,l[k]? = some x:=⟨l[k],qap cT⟩
   obtain⟨y,hy⟩:∃y,l[0]? = some y:=⟨l[0]'(by omega),qap _⟩;obtain⟨e0,e1,p,cc,e2,_⟩:=bL.out k x bV;obtain⟨f0,_⟩:=bL.out 0 y hy;rw[Ad.out x (qbh bV)] at e0;rw[Ad.out y (qbh hy)] at f0;have lK:=HB.out.trans (bM.out.mono HB.out.size);have c0:wr.cell? ⟨b,o+k*3,none⟩=some (.string g0):=by rw[lK.cell (qae w _ e0)];exact e0
   have c1:wr.cell? ⟨b,o+k*3+1,none⟩=some (.int .i64 x.mass):=by rw[lK.cell (qae w _ e1)];exact e1
   have c2:wr.cell? ⟨b,o+k*3+2,none⟩=some (.slice p x.shares.length cc):=by rw[lK.cell (qae w _ e2)];exact e2
   have aD:Below wr.heap.size wr (wr.alloc (.cells #[.string g0,.int .i64 x.mass,.slice p x.shares.length cc] 29)):=qad _ _
   have d0:(wr.alloc (.cells #[.string g0,.int .i64 x.mass,.slice p x.shares.length cc] 29)).cell? ⟨b,o,none⟩=some (.string g0):=by
    have h1:=(lK.trans (aD.mono lK.size)).cell (qae w _ f0);rw[f0] at h1
    simpa using h1
   have ho:=qb4 wr 29 (.string g0) (.int .i64 x.mass) (.slice p x.shares.length cc);obtain⟨a0,_⟩:=ho.2 0 (by omega);obtain⟨a1,_⟩:=ho.2 1 (by omega);simp only[qep,if_pos,Nat.one_ne_zero] at a0 a1;obtain⟨nT,nS,_⟩:=qbo (xS.out x (qbh bV));obtain⟨iA,dO⟩:=qfc (l.take k) fun z hz=>xS.out z (List.mem_of_mem_take hz);have aY:(l.take k).length≤64:=Nat.le_trans (List.length_take_le' ..) hl;have fW:Hid (qav (l.take (k+1))=qav (l.take k)+x.mass):=hid (by rw[qbl bV,qfq]);have cZ:=hid (bM.out.trans (aD.mono bM.out.size));clear e0 e1 e2 f0 lK aD ho bV hy bM;generalize x.mass=mx at *;generalize x.shares.length=nx at *;generalize qav (l.take k)=a at *;go_wp2_with fail
   go_quiet (fail)
   go_wp2_with fail;go_roundw
   case rel=>exact⟨k+1,by omega,by go_num,by rw[fW.out],hid (below_drewN cZ.out _)⟩
   case measure=>simp[intOf];omega
  ·obtain rfl:k=l.length:=by omega
   rw[List.take_length];have kO:=hid (HB.out.trans (bM.out.mono HB.out.size));have HRZ:=hid (HR.out.later qh8 bM.out);have Dz:=hid (uM.out wr gp kO.out HRZ.out);have nH:=hid (fB.out.later (bM.out.mono fB.out.1));obtain⟨y,hy⟩:∃y,l[0]? = some y:=⟨l[0]'(by omega),qap _⟩;obtain⟨f0,_⟩:=bL.out 0 y hy;rw[Ad.out y (qbh hy),Nat.zero_mul,Nat.add_zero] at f0;have pW:=hid f0;have jM:¬999999999<qav l:=by omega
   clear hy f0 uM bM fB HR;go_wp2_with fail;refine Dz.out.mono ?_;rintro e w2 ⟨⟨E,rfl,hN,hD,pK⟩,hb⟩;have oG:=hid (rH.out w2 E _ hD hN pK);have aK:=hid (kO.out.trans (hb.mono kO.out.size));have iL:=hid (nH.out.later (hb.mono nH.out.1));clear hN hD pK hb Dz rH kO nH;go_wp2_with fail;refine oG.out.mono ?_;rintro e w3 ⟨ss,g,hp,hg,rfl,aB,hb⟩;have lD:=hid (iL.out.later (hb.mono iL.out.1));have bR:=hid (aK.out.trans (hb.mono aK.out.size));have hgn:g≠w.heap.size:=by have:=aK.out.size;have:=iL.out.1;omega
   have HGS:Hid (w.heap.size≤g):=hid (Nat.le_trans aK.out.size hg);have Sr:=hid aB;have hf:w3.cell? ⟨b,o,none⟩=some (.string g0):=by rw[bR.out.cell (qae w _ pW.out)];exact pW.out
   obtain⟨a0,b0⟩:=lD.out.2 0 (by omega);obtain⟨a1,b1⟩:=lD.out.2 1 (by omega);obtain⟨a2,b2⟩:=lD.out.2 2 (by omega);simp only[qep,if_pos,Nat.one_ne_zero] at a0 a1 a2;have HP:=hid hp;clear hp hg aB hb oG;go_wp2_with fail;refine bodyPost_ret (v := .tuple #[.agg #[.string g0,.int .i64 (qav l),.slice (some ⟨g,0,none⟩) (qcc ss).length (qcc ss).length],.int .i64 0]) ?_ rfl ?_
   ·simp[results,Tryz.results10,go_sem,a0,a1,a2]
   ·exact⟨ss,g,HP.out,HGS.out,rfl,q55 Sr.out hgn _ _ _,((bR.out.setCell (p:=⟨w.heap.size,0,none⟩) (qac _) _).setCell (p:=⟨w.heap.size,1,none⟩) (qac _) _).setCell (p:=⟨w.heap.size,2,none⟩) (qac _) _⟩
theorem al3{W:World}{g:Nat}{x:NV}(o:Obj)(h:W.cell? ⟨g,0,none⟩=some (.bool x.b)∧W.cell? ⟨g,1,none⟩=some (.slice x.p x.k x.c)∧W.cell? ⟨g,2,none⟩=some (.slice x.q x.j x.d)):(W.alloc o).cell? ⟨g,0,none⟩=some (.bool x.b)∧(W.alloc o).cell? ⟨g,1,none⟩=some (.slice x.p x.k x.c)∧(W.alloc o).cell? ⟨g,2,none⟩=some (.slice x.q x.j x.d):=by
 obtain⟨h0,h1,h2⟩:=h;refine⟨?_, ?_, ?_⟩
 ·rw[((qaa _ _).alloc (qac _) o).cell (qae W _ h0)];exact h0
 ·rw[((qaa _ _).alloc (qac _) o).cell (qae W _ h1)];exact h1
 ·rw[((qaa _ _).alloc (qac _) o).cell (qae W _ h2)];exact h2
theorem st3{W:World}{g g':Nat}{x:NV}(h:W.cell? ⟨g,0,none⟩=some (.bool x.b)∧W.cell? ⟨g,1,none⟩=some (.slice x.p x.k x.c)∧W.cell? ⟨g,2,none⟩=some (.slice x.q x.j x.d))(hne:g'≠g)(a b c:Value):(((W.setCell ⟨g',0,none⟩ a).setCell ⟨g',1,none⟩ b).setCell ⟨g',2,none⟩ c).cell? ⟨g,0,none⟩=some (.bool x.b)∧(((W.setCell ⟨g',0,none⟩ a).setCell ⟨g',1,none⟩ b).setCell ⟨g',2,none⟩ c).cell? ⟨g,1,none⟩=some (.slice x.p x.k x.c)∧(((W.setCell ⟨g',0,none⟩ a).setCell ⟨g',1,none⟩ b).setCell ⟨g',2,none⟩ c).cell? ⟨g,2,none⟩=some (.slice x.q x.j x.d):=by
 have k:∀(V:World) (i o:Nat) (y:Value),(V.setCell ⟨g',i,none⟩ y).cell? ⟨g,o,none⟩=V.cell? ⟨g,o,none⟩:=fun V i o y=>World.cell?_setCell_other _ _ _ _ (by intro e;injection e with e;exact hne e);simp only[k];exact h
theorem qsd{w W W':World}{o:Obj}(h:Below w.heap.size w W)(hb:Below (W.alloc o).heap.size (W.alloc o) W'):Below w.heap.size w W':=
 (h.alloc h.size o).trans (hb.mono (by rw[qab];exact Nat.le_succ_of_le h.size))
theorem quc{w W W':World}{o:Obj}(h:Below w.heap.size w W)(hb:Below (W.alloc o).drew.heap.size (W.alloc o).drew W'):Below w.heap.size w W':=
 (h.alloc h.size o).drew.trans (hb.mono (h.alloc h.size o).size)
theorem q3j{W W':World}{x:NV}(hb:Below (W.alloc (.cells #[.bool x.b,.slice x.p x.k x.c,.slice x.q x.j x.d] 87)).drew.heap.size (W.alloc (.cells #[.bool x.b,.slice x.p x.k x.c,.slice x.q x.j x.d] 87)).drew W'):One W' W.heap.size x:=((qgg W x).later ((qaa _ _).drew)).later (hb.mono (by show W.heap.size+1≤(W.alloc _).heap.size;rw[qab];exact qac _))
theorem q66{W W':World}{x:NV}(hb:Below (W.alloc (.cells #[.bool x.b,.slice x.p x.k x.c,.slice x.q x.j x.d] 87)).heap.size (W.alloc (.cells #[.bool x.b,.slice x.p x.k x.c,.slice x.q x.j x.d] 87)) W'):One W' W.heap.size x:=(qgg W x).later (hb.mono (by rw[qab];exact qac _))
theorem q56{W W':World}{v:Value}{q:Rat}(h:qau W v q)(hb:Below W.heap.size W W'):qau W' v q:=h.later hb
def qpo(w:World)(r g n:Nat)(x z:NV)(q d:Rat)(W:World):Prop:=One W n z∧One W r ⟨false,none,0,0,none,0,0⟩∧One W g x∧qau W (.agg #[.bool x.b,.slice x.p x.k x.c,.slice x.q x.j x.d]) q∧qau W (.agg #[.bool z.b,.slice z.p z.k z.c,.slice z.q z.j z.d]) d∧Below w.heap.size w W
theorem qpo.later{w W W':World}{r g n:Nat}{x z:NV}{q d:Rat}(h:qpo w r g n x z q d W)(hb:Below W.heap.size W W'):qpo w r g n x z q d W':=by
 obtain⟨h1,h2,h3,h4,h5,h6⟩:=h;exact⟨Own.later h1 (hb.mono h1.1),Own.later h2 (hb.mono h2.1),Own.later h3 (hb.mono h3.1),h4.later hb,h5.later hb,h6.trans (hb.mono h6.size)⟩
theorem qud{w W:World}{r g n:Nat}{m x z:NV}{q d:Rat}(hm:One W n m)(hr:One W r ⟨false,none,0,0,none,0,0⟩)(hg:One W g x)(hx:qau W (.agg #[.bool x.b,.slice x.p x.k x.c,.slice x.q x.j x.d]) q)(hz:qau W (.agg #[.bool z.b,.slice z.p z.k z.c,.slice z.q z.j z.d]) d)(hb:Below w.heap.size w W)(h1:r≠n)(h2:g≠n)(h3:w.heap.size≤n):
  qpo w r g n x z q d (((W.setCell ⟨n,0,none⟩ (.bool z.b)).setCell ⟨n,1,none⟩ (.slice z.p z.k z.c)).setCell ⟨n,2,none⟩ (.slice z.q z.j z.d)):=by
 obtain⟨a,b,c,d⟩:=hm.put (x:=z);exact⟨a,d _ _ _ h1 hr,d _ _ _ h2 hg,b _ _ hx,b _ _ hz,c _ _ h3 hb⟩
theorem q3k{w W:World}{r g:Nat}{x z:NV}{q d:Rat}(hr:One W r ⟨false,none,0,0,none,0,0⟩)(hg:One W g x)(hx:qau W (.agg #[.bool x.b,.slice x.p x.k x.c,.slice x.q x.j x.d]) q)(hz:qau W (.agg #[.bool z.b,.slice z.p z.k z.c,.slice z.q z.j z.d]) d)(hb:Below w.heap.size w W):
  qpo w r g W.heap.size x z q d (W.alloc (.cells #[.bool z.b,.slice z.p z.k z.c,.slice z.q z.j z.d] 87)):=by
 have aD:Below W.heap.size W (W.alloc (.cells #[.bool z.b,.slice z.p z.k z.c,.slice z.q z.j z.d] 87)):=qad _ _;exact⟨qgg W z,Own.later hr (aD.mono hr.1),Own.later hg (aD.mono hg.1),hx.later aD,hz.later aD,hb.trans (aD.mono hb.size)⟩
def qoa(q:Rat):Rat:=((100:Int):Rat)-q
theorem qz3(s:BA)(w:World)(hg:GW w)(hs:s.size≤1073741824)(hc:qah s.data.toList=0)(h0:0≤sgn (qbc s.data.toList))(h1:0<sgn (qoa (qbc s.data.toList))):
  Calls Tryz.prog 62 #[.string s] w fun e w'=>(∃z:NV,e = .returned (.tuple #[.agg #[.bool z.b,.slice z.p z.k z.c,.slice z.q z.j z.d],.int .i64 0])∧qau w' (.agg #[.bool z.b,.slice z.p z.k z.c,.slice z.q z.j z.d]) (qoa (qbc s.data.toList)))∧Below w.heap.size w w':=by
 have aD:Below w.heap.size w (w.alloc (.cells #[.bool false,.slice none 0 0,.slice none 0 0] 87)):=qad _ _;have cX:=hid aD;have mV:=hid (qgg w ⟨false,none,0,0,none,0,0⟩);have cJ:=hid (qms s _ (hg.later aD) hs hc);have bq:=(qim hc).rs;have b1:=(ql0 100 (by omega) (by omega)).rs;have cQ:Hid (rs ((100:Int):Rat)+rs (qbc s.data.toList)+2≤Cap):=hid (by unfold Cap;omega);clear aD hc hg bq b1;have rT:¬sgn (qbc s.data.toList)<0:=by omega
 have dZ:¬sgn (qoa (qbc s.data.toList))≤0:=by omega
 clear h0 h1;generalize qbc s.data.toList=q at *;go_enter Tryz.func62,Tryz.ntmps62;go_wp2_with fail;refine cJ.out.mono ?_;rintro e w1 ⟨⟨v,rfl,hv⟩,hb⟩;obtain⟨x,rfl⟩:=hv.nv;have bP:Below w1.heap.size w1 (w1.alloc (.cells #[.bool x.b,.slice x.p x.k x.c,.slice x.q x.j x.d] 87)):=qad _ _;have aR:=hb.trans (bP.mono hb.size);have HB:=hid (cX.out.trans (aR.mono cX.out.size));have HR:=hid (mV.out.later (aR.mono mV.out.1));have HX:=hid (hv.later bP);have HW:=hid (qgg w1 x);clear hv hb bP aR cJ;go_wp2_with fail;have fM:Hid (Below (w1.alloc (.cells #[.bool x.b,.slice x.p x.k x.c,.slice x.q x.j x.d] 87)).heap.size (w1.alloc (.cells #[.bool x.b,.slice x.p x.k x.c,.slice x.q x.j x.d] 87)) (w1.alloc (.cells #[.bool x.b,.slice x.p x.k x.c,.slice x.q x.j x.d] 87)).drew):=hid ((qaa _ _).drew);have dK:(w1.alloc (.cells #[.bool x.b,.slice x.p x.k x.c,.slice x.q x.j x.d] 87)).heap.size=w1.heap.size+1:=qab _ _;have sS:=hid dK;clear dK;generalize w1.alloc (.cells #[.bool x.b,.slice x.p x.k x.c,.slice x.q x.j x.d] 87)=w2 at *;have e0:w2.cell? ⟨w1.heap.size,0,none⟩=some (.bool x.b)∧w2.cell? ⟨w1.heap.size,1,none⟩=some (.slice x.p x.k x.c)∧w2.cell? ⟨w1.heap.size,2,none⟩=some (.slice x.q x.j x.d):=(One.cells HW.out).1;have e0d:(w2.alloc (.cells #[.bool false,.slice none 0 0,.slice none 0 0] 87)).drew.cell? ⟨w1.heap.size,0,none⟩=some (.bool x.b)∧(w2.alloc (.cells #[.bool false,.slice none 0 0,.slice none 0 0] 87)).drew.cell? ⟨w1.heap.size,1,none⟩=some (.slice x.p x.k x.c)∧(w2.alloc (.cells #[.bool false,.slice none 0 0,.slice none 0 0] 87)).drew.cell? ⟨w1.heap.size,2,none⟩=some (.slice x.q x.j x.d):=al3 _ e0
 go_region_held3 (fun W=>W.cell? ⟨w1.heap.size,0,none⟩=some (.bool x.b)∧W.cell? ⟨w1.heap.size,1,none⟩=some (.slice x.p x.k x.c)∧W.cell? ⟨w1.heap.size,2,none⟩=some (.slice x.q x.j x.d)) (first|with_reducible exact eA|with_reducible exact eB|with_reducible exact al3 _ eA|with_reducible exact al3 _ eB|with_reducible exact e0d|with_reducible exact al3 _ e0|with_reducible exact st3 eB tW _ _ _|exact e0)
  (first
   | (go_at_call 101;((with_reducible refine(qd6 (qs2 _ _ _ _ _ (q56 gS.out (by(first|exact qaa _ _|exact qad _ _))) (HX.out.later (by(first|exact dI.out|exact dI.out.alloc dI.out.size _))) cQ.out)).mono ?_);rintro e wB ⟨⟨t2,rfl,hn⟩,hb⟩;have cO:Hid (qau wB (.agg #[.bool t2.b,.slice t2.p t2.k t2.c,.slice t2.q t2.j t2.d]) (qoa q)):=hid hn;have aW:Hid (Below w2.heap.size w2 wB):=(by(first|exact hid (dI.out.trans (hb.mono dI.out.size))|exact hid (qsd dI.out hb)|exact hid (quc dI.out hb)));have eB:wB.cell? ⟨w1.heap.size,0,none⟩=some (.bool x.b)∧wB.cell? ⟨w1.heap.size,1,none⟩=some (.slice x.p x.k x.c)∧wB.cell? ⟨w1.heap.size,2,none⟩=some (.slice x.q x.j x.d):=(One.cells (HW.out.later (aW.out.mono HW.out.1))).1;(first|(have kA:=hid (dR.out.later (hb.mono dR.out.1));have tW:w2.heap.size≠w1.heap.size:=(by have:=sS.out;omega);obtain⟨⟨n0,n1,n2⟩,f0,f1,f2⟩:=One.cells kA.out)|(have kA:Hid (One wB wA.heap.size ⟨false,none,0,0,none,0,0⟩):=(by first|exact hid (q66 hb)|exact hid (q3j hb));have tW:wA.heap.size≠w1.heap.size:=(by have:=sS.out;have:=dI.out.size;omega);obtain⟨⟨n0,n1,n2⟩,f0,f1,f2⟩:=One.cells kA.out)|skip);clear hn hb))
   | (go_at_call 53;((with_reducible refine(qd6 (qe0 100 _ (by omega) (by omega))).mono ?_);rintro e wA ⟨⟨t1,rfl,hn⟩,hb⟩;have gS:=hid hn;have dI:Hid (Below w2.heap.size w2 wA):=(by(first|exact hid (fM.out.trans hb)|exact hid (qsd (qaa _ _) hb)|exact hid (quc (qaa _ _) hb)|exact hid (qsd fM.out hb)));have eA:wA.cell? ⟨w1.heap.size,0,none⟩=some (.bool x.b)∧wA.cell? ⟨w1.heap.size,1,none⟩=some (.slice x.p x.k x.c)∧wA.cell? ⟨w1.heap.size,2,none⟩=some (.slice x.q x.j x.d):=(One.cells (HW.out.later (dI.out.mono HW.out.1))).1;(first|have dR:Hid (One wA w2.heap.size ⟨false,none,0,0,none,0,0⟩):=hid (q66 hb)|have dR:Hid (One wA w2.heap.size ⟨false,none,0,0,none,0,0⟩):=hid (q3j hb)|skip);clear hn hb)))
 all_goals first
  | (have HM:=hid (qud (n:=wA.heap.size) (z:=t2) (w:=w) kA.out (HR.out.later (aW.out.mono HR.out.1)) (HW.out.later (aW.out.mono HW.out.1)) (HX.out.later aW.out) cO.out (HB.out.trans (aW.out.mono HB.out.size)) (by have:=HR.out.1;have:=dI.out.size;omega) (Ne.symm tW) (by have:=HB.out.size;have:=dI.out.size;omega));generalize ((wB.setCell ⟨wA.heap.size,0,none⟩ (.bool t2.b)).setCell ⟨wA.heap.size,1,none⟩ (.slice t2.p t2.k t2.c)).setCell ⟨wA.heap.size,2,none⟩ (.slice t2.q t2.j t2.d)=w5 at *;generalize wA.heap.size=n5 at *)
  | (have HM:=hid (qud (n:=w2.heap.size) (m:=⟨false,none,0,0,none,0,0⟩) (z:=t2) (w:=w) kA.out (HR.out.later (aW.out.mono HR.out.1)) (HW.out.later (aW.out.mono HW.out.1)) (HX.out.later aW.out) cO.out (HB.out.trans (aW.out.mono HB.out.size)) (by have:=HR.out.1;omega) (Ne.symm tW) (by have:=HB.out.size;omega));generalize ((wB.setCell ⟨w2.heap.size,0,none⟩ (.bool t2.b)).setCell ⟨w2.heap.size,1,none⟩ (.slice t2.p t2.k t2.c)).setCell ⟨w2.heap.size,2,none⟩ (.slice t2.q t2.j t2.d)=w5 at *;generalize w2.heap.size=n5 at *)
  | (have HM:=hid (q3k (w:=w) (HR.out.later (aW.out.mono HR.out.1)) (HW.out.later (aW.out.mono HW.out.1)) (HX.out.later aW.out) cO.out (HB.out.trans (aW.out.mono HB.out.size)));generalize wB.alloc (.cells #[.bool t2.b,.slice t2.p t2.k t2.c,.slice t2.q t2.j t2.d] 87)=w5 at *;generalize wB.heap.size=n5 at *)
 all_goals
  clear e0 e0d eA eB fM HX HW HR cX mV dI aW gS cO
  try clear dR
  try clear kA n0 n1 n2 f0 f1 f2 tW
  obtain⟨⟨m0,m1,m2⟩,_⟩:=One.cells HM.out.1;obtain⟨⟨x0,x1,x2⟩,_⟩:=One.cells HM.out.2.2.1;have dN:=hid (qdu _ _ _ HM.out.2.2.2.1);go_wp2_with fail;refine dN.out.mono ?_;rintro e w6 ⟨rfl,hb⟩;have Gc:=hid (HM.out.later hb);clear m0 m1 m2 x0 x1 x2 hb HM dN;obtain⟨⟨m0,m1,m2⟩,_⟩:=One.cells Gc.out.1;have cL:=hid (qdu _ _ _ Gc.out.2.2.2.2.1);go_wp2_with fail;refine cL.out.mono ?_;rintro e w7 ⟨rfl,hb⟩;have Ss:=hid (Gc.out.later hb);clear m0 m1 m2 hb Gc cL;obtain⟨⟨m0,m1,m2⟩,_⟩:=One.cells Ss.out.1;obtain⟨⟨r0,r1,r2⟩,g0,g1,g2⟩:=One.cells Ss.out.2.1;have HP:=hid (One.put (x:=t2) Ss.out.2.1);go_wp2_with fail;refine bodyPost_ret (v := .tuple #[.agg #[.bool t2.b,.slice t2.p t2.k t2.c,.slice t2.q t2.j t2.d],.int .i64 0]) ?_ rfl ?_
  ·simp[results,Tryz.results62,go_sem,r0,r1,r2]
  ·exact⟨⟨t2,rfl,HP.out.2.1 _ _ Ss.out.2.2.2.2.1⟩,HP.out.2.2.1 _ _ (qac _) Ss.out.2.2.2.2.2⟩
theorem qz4(l:List BA)(b o c:Nat)(w:World)(hg:GW w)(aB:∀i s,l[i]? = some s→w.cell? ⟨b,o+i,none⟩=some (.string s))(hl:l.length≤1048576)(hs:∀s ∈ l,s.size≤1073741824∧qah s.data.toList=0∧0≤sgn ((qbc s.data.toList))∧0<sgn (qoa (qbc s.data.toList))):
  Calls Tryz.prog 61 #[.slice (some ⟨b,o,none⟩) l.length c,.func (.func 62) #[] #[]] w
   (fun e w'=>(∃g,w.heap.size≤g∧e = .returned (.tuple #[.slice (some ⟨g,0,none⟩) l.length l.length,.int .i64 0])∧qjv w' g l.length (l.map fun s=>qoa (qbc s.data.toList)))∧Below w.heap.size w w'):=by
 have HG:=hid hg;have bL:=hid aB;have HS:=hid hs;have lO:=qo2 l.length hl;obtain⟨i0,hi,cU,eE,eK⟩:=info_parts (show(Tryz.prog.info? 87).map (fun i=>(i.zero,i.size,i.bytes))=some (some (.agg #[.bool false,.slice none 0 0,.slice none 0 0]),3,56) by kernel_rfl);have HI:=hid hi;clear hg aB hs hi cU eK;go_enter Tryz.func61,Tryz.ntmps61;go_wp2_with fail;clear lO;have hU:=hid (qmt w l.length);have dM:Hid (Below w.heap.size w (w.alloc (.cells (madeCells #[.bool false,.slice none 0 0,.slice none 0 0] (l.length*3)) 87))):=hid (qad _ _);generalize w.alloc (.cells (madeCells #[.bool false,.slice none 0 0,.slice none 0 0] (l.length*3)) 87)=w0 at *
 go_loopw [6,16] (fun r i wr=>∃k:Nat,k≤l.length∧i = .int .i64 k∧r = .slice (some ⟨w.heap.size,0,none⟩) k l.length∧Hid (qjv wr w.heap.size l.length ((l.take k).map fun s=>qoa (qbc s.data.toList)))∧Hid (Below w.heap.size w wr)) (fun _ i _=>l.length-(intOf i).toNat)
 case atStart=>exact⟨0,Nat.zero_le _,rfl,rfl,hU,dM⟩
 case round=>
  obtain⟨k,hk,rfl,rfl,HN,HB⟩:=hrel;clear hU dM;by_cases cT:k<l.length
  ·obtain⟨s,bV⟩:∃s,l[k]? = some s:=⟨l[k],qap cT⟩
   have jB:=bL.out k s bV
   have aC:wr.cell? ⟨b,o+k,none⟩=some (.string s):=by
    rw[HB.out.cell (qae w _ jB)];exact jB
   obtain⟨dO,fS,uF,hs4⟩:=HS.out s (qbh bV);have fC:=hid (qz3 s wr (HG.out.later HB.out) dO fS uF hs4);have oZ:=hid bV;clear jB bV dO fS uF hs4
   ·skip
    go_wp2_with fail;refine fC.out.mono ?_;rintro e w1 ⟨⟨x,rfl,hv⟩,hb⟩;obtain⟨sg,p1,k1,c1,p2,k2,c2⟩:=x
    have iU:((l.take k).map fun s=>qoa (qbc s.data.toList))++[qoa (qbc s.data.toList)]=(l.take (k+1)).map fun s=>qoa (qbc s.data.toList):=by
     rw[qbl oZ.out,List.map_append];rfl
    have xN:=hid iU;have iG:((l.take k).map fun s=>qoa (qbc s.data.toList)).length=k:=by rw[List.length_map,List.length_take];omega
    have dH:=hid (HN.out.later hb);have gS:=hid hv;have aP:=hid (HB.out.trans (hb.mono HB.out.size));clear iU hv hb HN HB fC aC;generalize qoa (qbc s.data.toList)=q at *;generalize ((l.take k).map fun s=>qoa (qbc s.data.toList))=qs at *;obtain⟨aD,gU⟩:=qve w1 sg (.slice p1 k1 c1) (.slice p2 k2 c2);have gI:=hid (dH.out.later aD);have cO:=hid (gS.out.later aD);have kM:w.heap.size≤w1.heap.size:=aP.out.size;have aK:=hid (aP.out.trans (aD.mono kM));obtain⟨x0,x1,x2⟩:=qbt gU;have bP:Below (w1.alloc (.cells #[.bool sg,.slice p1 k1 c1,.slice p2 k2 c2] 87)).heap.size (w1.alloc (.cells #[.bool sg,.slice p1 k1 c1,.slice p2 k2 c2] 87)) ((w1.alloc (.cells #[.bool sg,.slice p1 k1 c1,.slice p2 k2 c2] 87)).alloc (.cells #[.bool sg,.slice p1 k1 c1,.slice p2 k2 c2] 87)):=qad _ _;obtain⟨cur,eH,bU,cG,bK⟩:=(gI.out.later bP).push (by rw[iG];exact cT) (cO.out.later bP);have gO:=heap_alloc_new (w1.alloc (.cells #[.bool sg,.slice p1 k1 c1,.slice p2 k2 c2] 87)) (.cells #[.bool sg,.slice p1 k1 c1,.slice p2 k2 c2] 87);rw[qab] at gO;rw[iG] at bU cG bK;simp only[List.append_assoc,List.cons_append,List.nil_append] at cG bK;have bY:=hid cG;have aG:=hid (aK.out.trans ((bP.mono (by rw[qab];omega)).trans (bK w.heap.size (qac _))));have kT:=hid eH;have kA:=hid gO;have dJ:=hid bU;clear aD gU bP kM eH bU cG bK gO dH gS aP gI cO aK iG;go_wp2_with (at_builtin;refine qbw _ rfl _ _ 63 rfl 87 i0 3 Tryz.underlying63 HI.out eE w.heap.size k l.length cur rfl kT.out ⟨w1.heap.size+1,0,none⟩ 1 1 [.bool sg,.slice p1 k1 c1,.slice p2 k2 c2] rfl rfl (World.news_of_block kA.out) ?mK (by omega) dJ.out ?_)
    case mK=>
     intro u hu;simp only[List.mem_cons,List.not_mem_nil,or_false] at hu;rcases hu with rfl|rfl|rfl<;>rfl
    clear x0 x1 x2;go_wp2_with fail;go_roundw
    case rel=>exact⟨k+1,cT,by go_num,rfl,hid (by rw[←xN.out];exact bY.out),aG⟩
    case measure=>simp[intOf];omega
  ·obtain rfl:k=l.length:=by omega
   have hN:=HN.out;rw[List.take_length] at hN;have HN':=hid hN;clear hN HN;go_wp2_with fail;go_ret2;exact⟨⟨w.heap.size,qac _,rfl,HN'.out⟩,HB.out⟩
def q89(ms:Int)(a b:BA):Rat:=((ms:Int):Rat)*qoa (qbc a.data.toList)/qoa (qbc b.data.toList)
def q3l(s:BA):Prop:=s.size≤1073741824∧qah s.data.toList=0∧0≤sgn (qbc s.data.toList)∧0<sgn (qoa (qbc s.data.toList))
theorem q99{q:Rat}(h:0<sgn q):q.num≠0:=by
 intro h0;unfold sgn at h;rw[h0] at h;exact absurd h (by decide)
theorem q57(ms:Int)(a b:BA)(w:World)(hg:GW w)(h0:0≤ms)(h1:ms≤999999999)(ha:q3l a)(hb:q3l b):
  Calls Tryz.prog 21 #[.int .i64 ms,.string a,.string b] w fun e w'=>e = .returned (.tuple #[.string (qc7 (q89 ms a b)),.int .i64 (qgf (q89 ms a b):Nat)])∧Below w.heap.size w w':=by
 have aD:Below w.heap.size w (w.alloc (.cells #[.string a,.string b] 39)):=qad _ _;have cX:=hid aD
 have Mi:=hid (qz4 [a,b] w.heap.size 0 2 (w.alloc (.cells #[.string a,.string b] 39)) (hg.later aD) (fun i s hi=>by
  match i,hi with
  | 0,hi=>cases hi;simp
  | 1,hi=>cases hi;simp) (by show 2≤1048576;omega) (fun s hs=>by
  simp only[List.mem_cons,List.not_mem_nil,or_false] at hs;rcases hs with rfl|rfl
  ·exact ha
  ·exact hb))
 have bm:=ql0 ms h0 h1;have ba:=q1i (ql0 100 (by omega) (by omega)) (qim ha.2.1);have bb:=q1i (ql0 100 (by omega) (by omega)) (qim hb.2.1)
 have cQ:Hid (rs ((ms:Int):Rat)+rs (qoa (qbc a.data.toList))≤Cap∧rs (((ms:Int):Rat)*qoa (qbc a.data.toList))+rs (qoa (qbc b.data.toList))≤Cap∧rs (q89 ms a b)≤Cap):=hid (by
  have a1:=bm.rs;have a2:=ba.rs;have a3:=bb.rs;have a4:=(qe3 bm ba).rs;have a5:=(qnc (qe3 bm ba) bb).rs
  unfold q89 qoa Cap;omega)
 have Iv:=hid (q99 hb.2.2.2);have rT:¬ms<0:=by omega
 have dZ:¬999999999<ms:=by omega
 have HWQ:Hid (q89 ms a b=((ms:Int):Rat)*qoa (qbc a.data.toList)/qoa (qbc b.data.toList)):=hid rfl;have eU : -9223372036854775808≤ms∧ms≤9223372036854775807:=by omega
 have fY:=hid eU;clear eU aD ha hb hg bm ba bb;simp only[List.map_cons,List.map_nil,List.length_cons,List.length_nil,Nat.zero_add,Nat.reduceAdd] at Mi;generalize q89 ms a b=wq at *;generalize qoa (qbc a.data.toList)=da at *;generalize qoa (qbc b.data.toList)=db at *;go_enter Tryz.func21,Tryz.ntmps21;go_wp2_with fail;refine Mi.out.mono ?_;rintro e w1 ⟨⟨g,hgg,rfl,hn⟩,hb⟩;have HB:=hid (cX.out.trans (hb.mono cX.out.size));obtain⟨x,⟨e0,e1,e2⟩,hx⟩:=(qjv.at hn).nv 0 da rfl;obtain⟨y,⟨e3,e4,e5⟩,hy⟩:=(qjv.at hn).nv 1 db rfl;simp only[Nat.zero_mul,Nat.zero_add,Nat.one_mul,Nat.reduceAdd] at e0 e1 e2 e3 e4 e5;have zB:Hid (qau w1 (.agg #[.bool x.b,.slice x.p x.k x.c,.slice x.q x.j x.d]) da∧qau w1 (.agg #[.bool y.b,.slice y.p y.k y.c,.slice y.q y.j y.d]) db):=hid ⟨hx,hy⟩;have eZ:w1.cell? ⟨g,0,none⟩=some (.bool x.b)∧w1.cell? ⟨g,1,none⟩=some (.slice x.p x.k x.c)∧w1.cell? ⟨g,2,none⟩=some (.slice x.q x.j x.d)∧w1.cell? ⟨g,3,none⟩=some (.bool y.b)∧w1.cell? ⟨g,4,none⟩=some (.slice y.p y.k y.c)∧w1.cell? ⟨g,5,none⟩=some (.slice y.q y.j y.d):=⟨e0,e1,e2,e3,e4,e5⟩
 have HC:Hid (∀W,Below w1.heap.size w1 W→W.cell? ⟨g,0,none⟩=some (.bool x.b)∧W.cell? ⟨g,1,none⟩=some (.slice x.p x.k x.c)∧W.cell? ⟨g,2,none⟩=some (.slice x.q x.j x.d)∧W.cell? ⟨g,3,none⟩=some (.bool y.b)∧W.cell? ⟨g,4,none⟩=some (.slice y.p y.k y.c)∧W.cell? ⟨g,5,none⟩=some (.slice y.q y.j y.d)):=hid fun W hW=>by
  obtain⟨h0,h1,h2,h3,h4,h5⟩:=eZ;refine⟨?_, ?_, ?_, ?_, ?_, ?_⟩
  ·rw[hW.cell (qae w1 _ h0)];exact h0
  ·rw[hW.cell (qae w1 _ h1)];exact h1
  ·rw[hW.cell (qae w1 _ h2)];exact h2
  ·rw[hW.cell (qae w1 _ h3)];exact h3
  ·rw[hW.cell (qae w1 _ h4)];exact h4
  ·rw[hW.cell (qae w1 _ h5)];exact h5
 clear hx hy hn hgg hb Mi e0 e1 e2 e3 e4 e5;go_wp2_with fail;have fM:Hid (Below w1.heap.size w1 w1.drew):=hid ((qaa _ _).drew)
 go_region_held3 (fun W=>W.cell? ⟨g,0,none⟩=some (.bool x.b)∧W.cell? ⟨g,1,none⟩=some (.slice x.p x.k x.c)∧W.cell? ⟨g,2,none⟩=some (.slice x.q x.j x.d)∧W.cell? ⟨g,3,none⟩=some (.bool y.b)∧W.cell? ⟨g,4,none⟩=some (.slice y.p y.k y.c)∧W.cell? ⟨g,5,none⟩=some (.slice y.q y.j y.d)) (first|with_reducible exact eA|with_reducible exact eB|with_reducible exact eC|with_reducible exact eD|exact eZ)
  (first
   | (go_at_call 53;((with_reducible refine(qd6 (qe0 ms _ fY.out.1 fY.out.2)).mono ?_);rintro e wA ⟨⟨t1,rfl,hn⟩,hb⟩;have gS:=hid hn;have dI:Hid (Below w1.heap.size w1 wA):=hid (fM.out.trans hb);have eA:=HC.out _ dI.out;clear hn hb))
   | (go_at_call 55;((with_reducible refine(qd6 (qd8 _ _ _ _ wA gS.out (zB.out.1.later dI.out) cQ.out.1)).mono ?_);rintro e wB ⟨⟨t2,rfl,hn⟩,hb⟩;have cO:=hid hn;have aW:=hid (dI.out.trans (hb.mono dI.out.size));have eB:=HC.out _ aW.out;clear hn hb))
   | (go_at_call 57;((with_reducible refine(qd6 (qfl _ _ _ _ wB cO.out (zB.out.2.later aW.out) Iv.out cQ.out.2.1)).mono ?_);rintro e wC ⟨⟨t3,rfl,hn⟩,hb⟩;rw[←HWQ.out] at hn;have jH:=hid hn;have gJ:=hid (aW.out.trans (hb.mono aW.out.size));have eC:=HC.out _ gJ.out;clear hn hb))
   | (go_at_call 44;((with_reducible refine(qi6 _ _ wC jH.out cQ.out.2.2).mono ?_);rintro e wD h;obtain⟨rfl,hb⟩:=qmv h;have eO:=hid (gJ.out.trans (hb.mono gJ.out.size));have eD:=HC.out _ eO.out;clear hb h)))
 all_goals
  go_wp2_with fail;go_ret2;exact⟨rfl,HB.out.trans (eO.out.mono HB.out.size)⟩
end Go.Proofs.YtlkdlffhmakbgaaGreatDoor
