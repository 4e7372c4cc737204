/- Mix, where it has no error. -/
import Derived.Test.YtmcfcpgglfimjaaGreatDoorMMassesOf
import Derived.BigQuiet
import Derived.Test.YtmcfcpgglfimjaaGreatDoorMMean
import Derived.Test.YtmcfcpgglfimjaaGreatDoorMRounded
import Derived.Test.YtmcfcpgglfimjaaGreatDoorMSpans
import Derived.Test.YtmcfcpgglfimjaaGreatDoorMEachLayer
set_option linter.all false
namespace Go.Proofs.YtmcfcpgglfimjaaGreatDoor
open Go.RowKit
set_option maxRecDepth 100000
set_option maxHeartbeats 16000000
def qgp(D:List (BA × Rat))(k:BA):Rat:=((D.find? fun p=>k==p.1).map (·.2)).getD 0
theorem qz2(E:Ent)(k:BA):qkv E k=qgp (qj7 E) k:=by
 unfold qkv qgp qj7;rw[List.find?_map,Option.map_map];rfl
theorem q6c{D:List (BA × Rat)}{k:BA}{d:Rat}{N:Nat}(h:∀p ∈ D,p.1.size≤N)(hk:k.size≤N):∀p ∈ qr9 D k d,p.1.size≤N:=by
 intro p hp;unfold qr9 at hp;split at hp
 ·rw[List.mem_map] at hp
  obtain⟨q,hq,rfl⟩:=hp;split
  ·exact h q hq
  ·exact h q hq
 ·rw[List.mem_append,List.mem_singleton] at hp
  rcases hp with hp|rfl
  ·exact h p hp
  ·exact hk
theorem q8t{D:List (BA × Rat)}{k:BA}{d:Rat}:qr9 D k d≠[]:=by
 unfold qr9;split
 ·rename_i h
  intro h2;rw[List.map_eq_nil_iff] at h2;subst h2;cases h
 ·simp
theorem qwe{m:Int}{N:Nat}(ss:List (BA × BA)):∀ {D:List (BA × Rat)},(∀p ∈ D,p.1.size≤N)→(∀s ∈ ss,s.1.size≤N)→∀p ∈ qe9 m D ss,p.1.size≤N:=by
 induction ss with
 | nil=>intro D h _;exact h
 | cons s ss ih=>
  intro D h hs;exact ih (D:=qr9 D s.1 (qbk s*((m:Int):Rat))) (q6c h (hs s (List.mem_cons_self ..))) (fun t ht=>hs t (List.mem_cons_of_mem _ ht))
theorem qz3{m:Int}(ss:List (BA × BA)):∀ {D:List (BA × Rat)},(D≠[]∨ss≠[])→qe9 m D ss≠[]:=by
 induction ss with
 | nil=>intro D h;exact h.resolve_right (fun h=>h rfl)
 | cons s ss ih=>intro D _;exact ih (D:=qr9 D s.1 (qbk s*((m:Int):Rat))) (.inl q8t)
theorem q3i{N:Nat}(l:List Lay)(h:∀x ∈ l,∀s ∈ x.shares,s.1.size≤N):∀p ∈ qcu l,p.1.size≤N:=by
 induction l using qb3 with
 | h0=>intro p hp;cases hp
 | h1 l x ih=>
  rw[qj5];exact qwe _ (ih fun y hy=>h y (List.mem_append_left _ hy)) (h x (by simp))
theorem qxv(l:List Lay)(hl:l≠[])(h:∀x ∈ l,x.shares≠[]):qcu l≠[]:=by
 induction l using qb3 with
 | h0=>exact absurd rfl hl
 | h1 l x ih=>
  rw[qj5];exact qz3 _ (.inr (h x (by simp)))
theorem qnk{α:Type}(f:α→Nat)(l:List α)(h:∀x ∈ l,f x=0):qai (l.map f)=0:=by
 induction l with
 | nil=>rfl
 | cons a l ih=>
  show(if f a=0 then qai (l.map f) else f a)=0;rw[if_pos (h a (List.mem_cons_self ..))];exact ih fun x hx=>h x (List.mem_cons_of_mem _ hx)
def qaq(l:List Lay):Int:=l.foldl (fun a x=>a+x.mass) 0
theorem qds(l:List Lay)(x:Lay):qaq (l++[x])=qaq l+x.mass:=by unfold qaq;rw[List.foldl_append];rfl
theorem qhq(l:List Lay)(h:∀x ∈ l,qbc x=0):(l.length:Int)≤qaq l∧qaq l≤999999999*(l.length:Int):=by
 induction l using qb3 with
 | h0=>exact⟨Int.le_refl _,Int.le_refl _⟩
 | h1 l x ih=>
  rw[qds,List.length_append,List.length_singleton];obtain⟨h1,h2⟩:=ih fun y hy=>h y (List.mem_append_left _ hy);obtain⟨h3,h4,_⟩:=qbq (h x (by simp));omega
def q8u(l:List Lay)(g0:BA)(w:World)(e:Ending)(w':World):Prop:=
 ∃(ss:List (List UInt8)) (g:Nat),ss.Perm ((qcu l).map fun p=>p.1.data.toList)∧w.heap.size≤g∧
  e = .returned (.tuple #[.agg #[.string g0,.int .i64 (qaq l),.slice (some ⟨g,0,none⟩) (qcd ss).length (qcd ss).length],.int .i64 0])∧
  qdk shK w' g (qcd ss).length ((qcd ss).map fun s=>(s,qcz (qgp (qcu l) s/((qaq l:Int):Rat))))∧Below w.heap.size w w'
theorem qph{l:List Lay}{b o c:Nat}{w:World}(hg:GW w)(aB:qec w b o l)(hl:l.length≤64)(hs:∀x ∈ l,∀s ∈ x.shares,s.2.size≤1073741824)(cV:∀x ∈ l,qbc x=0):
  Calls Tryz.prog 28 #[.slice (some ⟨b,o,none⟩) l.length c,.func (.func 29) #[] #[]] w fun e w'=>(∃g,w.heap.size≤g∧e = .returned (.tuple #[.slice (some ⟨g,0,none⟩) l.length l.length,.int .i64 0])∧qdk q4r w' g l.length (l.map qqy))∧Below w.heap.size w w':=
 (qzu l b o c w hg aB (by omega) hs).mono fun e w' h=>by
  unfold qji at h;rw[if_pos (qnk qbc l cV),List.length_map] at h;exact h
theorem q6d{W:World}{g g' cap:Nat}{l:List (BA × BA)}(h:qdk shK W g cap l)(hne:g≠g')(x y z:Value):qdk shK (((W.setCell ⟨g',0,none⟩ x).setCell ⟨g',1,none⟩ y).setCell ⟨g',2,none⟩ z) g cap l:=by
 obtain⟨h1,cur,hg,h2,h3,h4⟩:=h;exact⟨h1,cur,qek.other3 (W:=W) (g:=g) (cs:=cur) (t:=shK.ty) hg hne x y z,h2,h3,h4⟩
theorem qxw(l:List Lay)(g0:BA)(b o c:Nat)(w:World)(hg:GW w)(aB:qec w b o l)(oK:1≤l.length)(hl:l.length≤64)(_hc:c≤maxLen)
  (hs:∀x ∈ l,∀s ∈ x.shares,s.1.size≤1073741824∧s.2.size≤1073741824) (cV:∀x ∈ l,qbc x=0) (rW:∀x ∈ l,x.grain=g0) (bX:qaq l≤999999999)
  (oW:(qcu l).length≤64) (bM:∀s,qgi (qgp (qcu l) s/((qaq l:Int):Rat))=0):
  Calls Tryz.prog 8 #[.slice (some ⟨b,o,none⟩) l.length c] w (q8u l g0 w):=by
 have aD:Below w.heap.size w (w.alloc (.cells #[.string ⟨#[]⟩,.int .i64 0,.slice none 0 0] 28)):=qad _ _;have dK:=hid aD;have HO:=hid (qdr w 28 (.string ⟨#[]⟩) (.int .i64 0) (.slice none 0 0));have HEL:=hid (qph (c:=c) (hg.later aD) (aB.later aD) hl (fun x hx s hs'=>(hs x hx s hs').2) cV);have bP:=hid aB;obtain⟨fD,fP⟩:=qhq l cV;have Lf:=hid cV;have zL:=hid rW;have Bf:Hid (∀W g,Below w.heap.size w W→qdk q4r W g l.length (l.map qqy)→Calls Tryz.prog 31 #[.slice (some ⟨b,o,none⟩) l.length c,.slice (some ⟨g,0,none⟩) l.length l.length] W fun e w'=>(∃E,e = .returned (.map (some W.heap.size))∧qir w' W.heap.size E∧qj7 E=qcu l∧∀e ∈ E,bd e.2.2 (602*64*64+1))∧Below W.heap.size W w'):=hid fun W g hW hr=>qt6 l b o c g W (aB.later hW) hl cV hr
 have wJ:Hid (∀W E r,qj7 E=qcu l→qir W r E→(∀e ∈ E,bd e.2.2 (602*64*64+1))→Calls Tryz.prog 30 #[.map (some r),.int .i64 (qaq l)] W fun e w'=>∃(ss:List (List UInt8)) (g:Nat),ss.Perm ((qcu l).map fun p=>p.1.data.toList)∧W.heap.size≤g∧e = .returned (.tuple #[.slice (some ⟨g,0,none⟩) (qcd ss).length (qcd ss).length,.int .i64 0])∧qdk shK w' g (qcd ss).length ((qcd ss).map fun s=>(s,qcz (qgp (qcu l) s/((qaq l:Int):Rat))))∧Below W.heap.size W w'):=hid fun W E r hd hN hb=>by
  have Fm:=q3i l (N:=1073741824) fun x hx s hs'=>(hs x hx s hs').1
  have hne:=qxv l (by rintro rfl;exact absurd oK (by decide)) fun x hx h=>by
   have:=(qbq (cV x hx)).2.2.1;rw[h] at this;exact absurd this (by decide)
  rw[←hd] at Fm hne oW;have hEl:E.length≤64:=by unfold qj7 at oW;rwa [List.length_map] at oW
  refine(qt7 r E (qaq l) W hN (by rintro rfl;exact hne rfl) (fun e he => ?_) (by omega) bX hb).mono fun e w' h => ?_
  ·have:=Fm (e.1,e.2.2) (by unfold qj7;exact List.mem_map_of_mem (f:=fun e:BA × NV × Rat=>(e.1,e.2.2)) he)
   exact Nat.le_trans this (by decide)
  ·unfold qzz at h
   rw[if_neg (by omega)] at h;obtain⟨ss,hp,h⟩:=h;have hq:∀s,qn3 E (qaq l) s=qgp (qcu l) s/((qaq l:Int):Rat):=fun s=>by unfold qn3;rw[qz2,hd]
   unfold qji at h;simp only[hq] at h;rw[if_pos (qnk _ _ fun s _=>bM s),List.length_map] at h;obtain⟨⟨g,h1,h2,h3⟩,h4⟩:=h;refine⟨ss,g, ?_,h1,h2,h3,h4⟩;rw[←hd];unfold qj7;rw[List.map_map];exact hp
 have eE:((l.length:Int)==0)=false:=qan (by omega);have sF:=hid oK;clear hg aB hs cV rW oW bM aD;go_enter Tryz.func8,Tryz.ntmps8;go_wp2_with fail;refine HEL.out.mono ?_;rintro e w1 ⟨⟨gp,hgp,rfl,hr⟩,hb⟩;have HR:=hid hr;have HB:=hid (dK.out.trans (hb.mono dK.out.size));have iI:=hid (HO.out.later (hb.mono HO.out.1));clear hr hb HEL HO;go_wp2_with fail
 go_loopw [6,29] (fun a i wr=>∃k:Nat,k≤l.length∧i = .int .i64 k∧a = .int .i64 (qaq (l.take k))∧Hid (Below w1.heap.size w1 wr)) (fun _ i _=>l.length-(intOf i).toNat)
 case atStart=>exact⟨0,Nat.zero_le _,rfl,rfl,hid (qaa _ _)⟩
 case round=>
  obtain⟨k,hk,rfl,rfl,bU⟩:=hrel;by_cases cQ:k<l.length
  ·obtain⟨x,cI⟩:∃x,l[k]? = some x:=⟨l[k],qat cQ⟩
   obtain⟨y,hy⟩:∃y,l[0]? = some y:=⟨l[0]'(by omega),qat _⟩;obtain⟨e0,e1,p,cc,e2,_⟩:=bP.out k x cI;obtain⟨f0,_⟩:=bP.out 0 y hy;rw[zL.out x (qbj cI)] at e0;rw[zL.out y (qbj hy)] at f0;have rA:=HB.out.trans (bU.out.mono HB.out.size);have c0:wr.cell? ⟨b,o+k*3,none⟩=some (.string g0):=by rw[rA.cell (qaf w _ e0)];exact e0
   have c1:wr.cell? ⟨b,o+k*3+1,none⟩=some (.int .i64 x.mass):=by rw[rA.cell (qaf w _ e1)];exact e1
   have c2:wr.cell? ⟨b,o+k*3+2,none⟩=some (.slice p x.shares.length cc):=by rw[rA.cell (qaf w _ e2)];exact e2
   have aD:Below wr.heap.size wr (wr.alloc (.cells #[.string g0,.int .i64 x.mass,.slice p x.shares.length cc] 28)):=qad _ _
   have d0:(wr.alloc (.cells #[.string g0,.int .i64 x.mass,.slice p x.shares.length cc] 28)).cell? ⟨b,o,none⟩=some (.string g0):=by
    have h1:=(rA.trans (aD.mono rA.size)).cell (qaf w _ f0);rw[f0] at h1
    simpa using h1
   have ho:=qdr wr 28 (.string g0) (.int .i64 x.mass) (.slice p x.shares.length cc);obtain⟨a0,_⟩:=ho.2 0 (by omega);obtain⟨a1,_⟩:=ho.2 1 (by omega);simp only[qfv,if_pos,Nat.one_ne_zero] at a0 a1;obtain⟨oZ,oY,_⟩:=qbq (Lf.out x (qbj cI));obtain⟨hG,dL⟩:=qhq (l.take k) fun z hz=>Lf.out z (List.mem_of_mem_take hz);have bC:(l.take k).length≤64:=Nat.le_trans (List.length_take_le' ..) hl;have gV:Hid (qaq (l.take (k+1))=qaq (l.take k)+x.mass):=hid (by rw[qbp cI,qds]);have cZ:=hid (bU.out.trans (aD.mono bU.out.size));clear e0 e1 e2 f0 rA aD ho cI hy bU;generalize x.mass=mx at *;generalize x.shares.length=nx at *;generalize qaq (l.take k)=a at *;go_wp2_with fail
   go_quiet (fail)
   go_wp2_with fail;go_roundw
   case rel=>exact⟨k+1,by omega,by go_num,by rw[gV.out],hid (below_drewN cZ.out _)⟩
   case measure=>simp[intOf];omega
  ·obtain rfl:k=l.length:=by omega
   rw[List.take_length];have qH:=hid (HB.out.trans (bU.out.mono HB.out.size));have HRZ:=hid (HR.out.later qj1 bU.out);have Ro:=hid (Bf.out wr gp qH.out HRZ.out);have tC:=hid (iI.out.later (bU.out.mono iI.out.1));obtain⟨y,hy⟩:∃y,l[0]? = some y:=⟨l[0]'(by omega),qat _⟩;obtain⟨f0,_⟩:=bP.out 0 y hy;rw[zL.out y (qbj hy),Nat.zero_mul,Nat.add_zero] at f0;have oV:=hid f0;have lH:¬999999999<qaq l:=by omega
   clear hy f0 Bf bU iI HR;go_wp2_with fail;refine Ro.out.mono ?_;rintro e w2 ⟨⟨E,rfl,hN,hD,rS⟩,hb⟩;have qC:=hid (wJ.out w2 E _ hD hN rS);have aK:=hid (qH.out.trans (hb.mono qH.out.size));have jH:=hid (tC.out.later (hb.mono tC.out.1));clear hN hD rS hb Ro wJ qH tC;go_wp2_with fail;refine qC.out.mono ?_;rintro e w3 ⟨ss,g,hp,hg,rfl,aB,hb⟩;have lF:=hid (jH.out.later (hb.mono jH.out.1));have bR:=hid (aK.out.trans (hb.mono aK.out.size));have hgn:g≠w.heap.size:=by have:=aK.out.size;have:=jH.out.1;omega
   have HGS:Hid (w.heap.size≤g):=hid (Nat.le_trans aK.out.size hg);have Rp:=hid aB;have hf:w3.cell? ⟨b,o,none⟩=some (.string g0):=by rw[bR.out.cell (qaf w _ oV.out)];exact oV.out
   obtain⟨a0,b0⟩:=lF.out.2 0 (by omega);obtain⟨a1,b1⟩:=lF.out.2 1 (by omega);obtain⟨a2,b2⟩:=lF.out.2 2 (by omega);simp only[qfv,if_pos,Nat.one_ne_zero] at a0 a1 a2;have HP:=hid hp;clear hp hg aB hb qC;go_wp2_with fail;refine bodyPost_ret (v := .tuple #[.agg #[.string g0,.int .i64 (qaq l),.slice (some ⟨g,0,none⟩) (qcd ss).length (qcd ss).length],.int .i64 0]) ?_ rfl ?_
   ·simp[results,Tryz.results8,go_sem,a0,a1,a2]
   ·exact⟨ss,g,HP.out,HGS.out,rfl,q6d Rp.out hgn _ _ _,((bR.out.setCell (p:=⟨w.heap.size,0,none⟩) (qac _) _).setCell (p:=⟨w.heap.size,1,none⟩) (qac _) _).setCell (p:=⟨w.heap.size,2,none⟩) (qac _) _⟩
theorem al3{W:World}{g:Nat}{x:NV}(o:Obj)(h:W.cell? ⟨g,0,none⟩=some (.bool x.b)∧W.cell? ⟨g,1,none⟩=some (.slice x.p x.k x.c)∧W.cell? ⟨g,2,none⟩=some (.slice x.q x.j x.d)):(W.alloc o).cell? ⟨g,0,none⟩=some (.bool x.b)∧(W.alloc o).cell? ⟨g,1,none⟩=some (.slice x.p x.k x.c)∧(W.alloc o).cell? ⟨g,2,none⟩=some (.slice x.q x.j x.d):=by
 obtain⟨h0,h1,h2⟩:=h;refine⟨?_, ?_, ?_⟩
 ·rw[((qaa _ _).alloc (qac _) o).cell (qaf W _ h0)];exact h0
 ·rw[((qaa _ _).alloc (qac _) o).cell (qaf W _ h1)];exact h1
 ·rw[((qaa _ _).alloc (qac _) o).cell (qaf W _ h2)];exact h2
theorem st3{W:World}{g g':Nat}{x:NV}(h:W.cell? ⟨g,0,none⟩=some (.bool x.b)∧W.cell? ⟨g,1,none⟩=some (.slice x.p x.k x.c)∧W.cell? ⟨g,2,none⟩=some (.slice x.q x.j x.d))(hne:g'≠g)(a b c:Value):(((W.setCell ⟨g',0,none⟩ a).setCell ⟨g',1,none⟩ b).setCell ⟨g',2,none⟩ c).cell? ⟨g,0,none⟩=some (.bool x.b)∧(((W.setCell ⟨g',0,none⟩ a).setCell ⟨g',1,none⟩ b).setCell ⟨g',2,none⟩ c).cell? ⟨g,1,none⟩=some (.slice x.p x.k x.c)∧(((W.setCell ⟨g',0,none⟩ a).setCell ⟨g',1,none⟩ b).setCell ⟨g',2,none⟩ c).cell? ⟨g,2,none⟩=some (.slice x.q x.j x.d):=by
 have k:∀(V:World) (i o:Nat) (y:Value),(V.setCell ⟨g',i,none⟩ y).cell? ⟨g,o,none⟩=V.cell? ⟨g,o,none⟩:=fun V i o y=>World.cell?_setCell_other _ _ _ _ (by intro e;injection e with e;exact hne e);simp only[k];exact h
theorem qsa{w W W':World}{o:Obj}(h:Below w.heap.size w W)(hb:Below (W.alloc o).heap.size (W.alloc o) W'):Below w.heap.size w W':=
 (h.alloc h.size o).trans (hb.mono (by rw[qab];exact Nat.le_succ_of_le h.size))
theorem qt8{w W W':World}{o:Obj}(h:Below w.heap.size w W)(hb:Below (W.alloc o).drew.heap.size (W.alloc o).drew W'):Below w.heap.size w W':=
 (h.alloc h.size o).drew.trans (hb.mono (h.alloc h.size o).size)
theorem q3j{W W':World}{x:NV}(hb:Below (W.alloc (.cells #[.bool x.b,.slice x.p x.k x.c,.slice x.q x.j x.d] 85)).drew.heap.size (W.alloc (.cells #[.bool x.b,.slice x.p x.k x.c,.slice x.q x.j x.d] 85)).drew W'):One W' W.heap.size x:=((qgj W x).later ((qaa _ _).drew)).later (hb.mono (by show W.heap.size+1≤(W.alloc _).heap.size;rw[qab];exact qac _))
theorem q7e{W W':World}{x:NV}(hb:Below (W.alloc (.cells #[.bool x.b,.slice x.p x.k x.c,.slice x.q x.j x.d] 85)).heap.size (W.alloc (.cells #[.bool x.b,.slice x.p x.k x.c,.slice x.q x.j x.d] 85)) W'):One W' W.heap.size x:=(qgj W x).later (hb.mono (by rw[qab];exact qac _))
theorem q6e{W W':World}{v:Value}{q:Rat}(h:qaw W v q)(hb:Below W.heap.size W W'):qaw W' v q:=h.later hb
def qpi(w:World)(r g n:Nat)(x z:NV)(q d:Rat)(W:World):Prop:=One W n z∧One W r ⟨false,none,0,0,none,0,0⟩∧One W g x∧qaw W (.agg #[.bool x.b,.slice x.p x.k x.c,.slice x.q x.j x.d]) q∧qaw W (.agg #[.bool z.b,.slice z.p z.k z.c,.slice z.q z.j z.d]) d∧Below w.heap.size w W
theorem qpi.later{w W W':World}{r g n:Nat}{x z:NV}{q d:Rat}(h:qpi w r g n x z q d W)(hb:Below W.heap.size W W'):qpi w r g n x z q d W':=by
 obtain⟨h1,h2,h3,h4,h5,h6⟩:=h;exact⟨Own.later h1 (hb.mono h1.1),Own.later h2 (hb.mono h2.1),Own.later h3 (hb.mono h3.1),h4.later hb,h5.later hb,h6.trans (hb.mono h6.size)⟩
theorem qt9{w W:World}{r g n:Nat}{m x z:NV}{q d:Rat}(hm:One W n m)(hr:One W r ⟨false,none,0,0,none,0,0⟩)(hg:One W g x)(hx:qaw W (.agg #[.bool x.b,.slice x.p x.k x.c,.slice x.q x.j x.d]) q)(hz:qaw W (.agg #[.bool z.b,.slice z.p z.k z.c,.slice z.q z.j z.d]) d)(hb:Below w.heap.size w W)(h1:r≠n)(h2:g≠n)(h3:w.heap.size≤n):
  qpi w r g n x z q d (((W.setCell ⟨n,0,none⟩ (.bool z.b)).setCell ⟨n,1,none⟩ (.slice z.p z.k z.c)).setCell ⟨n,2,none⟩ (.slice z.q z.j z.d)):=by
 obtain⟨a,b,c,d⟩:=hm.put (x:=z);exact⟨a,d _ _ _ h1 hr,d _ _ _ h2 hg,b _ _ hx,b _ _ hz,c _ _ h3 hb⟩
theorem q3k{w W:World}{r g:Nat}{x z:NV}{q d:Rat}(hr:One W r ⟨false,none,0,0,none,0,0⟩)(hg:One W g x)(hx:qaw W (.agg #[.bool x.b,.slice x.p x.k x.c,.slice x.q x.j x.d]) q)(hz:qaw W (.agg #[.bool z.b,.slice z.p z.k z.c,.slice z.q z.j z.d]) d)(hb:Below w.heap.size w W):
  qpi w r g W.heap.size x z q d (W.alloc (.cells #[.bool z.b,.slice z.p z.k z.c,.slice z.q z.j z.d] 85)):=by
 have aD:Below W.heap.size W (W.alloc (.cells #[.bool z.b,.slice z.p z.k z.c,.slice z.q z.j z.d] 85)):=qad _ _;exact⟨qgj W z,Own.later hr (aD.mono hr.1),Own.later hg (aD.mono hg.1),hx.later aD,hz.later aD,hb.trans (aD.mono hb.size)⟩
def qn4(q:Rat):Rat:=((100:Int):Rat)-q
theorem qz4(s:BA)(w:World)(hg:GW w)(hs:s.size≤1073741824)(hc:qah s.data.toList=0)(h0:0≤sgn (qa9 s.data.toList))(h1:0<sgn (qn4 (qa9 s.data.toList))):
  Calls Tryz.prog 60 #[.string s] w fun e w'=>(∃z:NV,e = .returned (.tuple #[.agg #[.bool z.b,.slice z.p z.k z.c,.slice z.q z.j z.d],.int .i64 0])∧qaw w' (.agg #[.bool z.b,.slice z.p z.k z.c,.slice z.q z.j z.d]) (qn4 (qa9 s.data.toList)))∧Below w.heap.size w w':=by
 have aD:Below w.heap.size w (w.alloc (.cells #[.bool false,.slice none 0 0,.slice none 0 0] 85)):=qad _ _;have dK:=hid aD;have qZ:=hid (qgj w ⟨false,none,0,0,none,0,0⟩);have cH:=hid (qmq s _ (hg.later aD) hs hc);have bq:=(qin hc).rs;have b1:=(qls 100 (by omega) (by omega)).rs;have cM:Hid (rs ((100:Int):Rat)+rs (qa9 s.data.toList)+2≤Cap):=hid (by unfold Cap;omega);clear aD hc hg bq b1;have qU:¬sgn (qa9 s.data.toList)<0:=by omega
 have dT:¬sgn (qn4 (qa9 s.data.toList))≤0:=by omega
 clear h0 h1;generalize qa9 s.data.toList=q at *;go_enter Tryz.func60,Tryz.ntmps60;go_wp2_with fail;refine cH.out.mono ?_;rintro e w1 ⟨⟨v,rfl,hv⟩,hb⟩;obtain⟨x,rfl⟩:=hv.nv;have bL:Below w1.heap.size w1 (w1.alloc (.cells #[.bool x.b,.slice x.p x.k x.c,.slice x.q x.j x.d] 85)):=qad _ _;have aR:=hb.trans (bL.mono hb.size);have HB:=hid (dK.out.trans (aR.mono dK.out.size));have HR:=hid (qZ.out.later (aR.mono qZ.out.1));have HX:=hid (hv.later bL);have HW:=hid (qgj w1 x);clear hv hb bL aR cH;go_wp2_with fail;have fT:Hid (Below (w1.alloc (.cells #[.bool x.b,.slice x.p x.k x.c,.slice x.q x.j x.d] 85)).heap.size (w1.alloc (.cells #[.bool x.b,.slice x.p x.k x.c,.slice x.q x.j x.d] 85)) (w1.alloc (.cells #[.bool x.b,.slice x.p x.k x.c,.slice x.q x.j x.d] 85)).drew):=hid ((qaa _ _).drew);have dG:(w1.alloc (.cells #[.bool x.b,.slice x.p x.k x.c,.slice x.q x.j x.d] 85)).heap.size=w1.heap.size+1:=qab _ _;have Ad:=hid dG;clear dG;generalize w1.alloc (.cells #[.bool x.b,.slice x.p x.k x.c,.slice x.q x.j x.d] 85)=w2 at *;have e0:w2.cell? ⟨w1.heap.size,0,none⟩=some (.bool x.b)∧w2.cell? ⟨w1.heap.size,1,none⟩=some (.slice x.p x.k x.c)∧w2.cell? ⟨w1.heap.size,2,none⟩=some (.slice x.q x.j x.d):=(One.cells HW.out).1;have e0d:(w2.alloc (.cells #[.bool false,.slice none 0 0,.slice none 0 0] 85)).drew.cell? ⟨w1.heap.size,0,none⟩=some (.bool x.b)∧(w2.alloc (.cells #[.bool false,.slice none 0 0,.slice none 0 0] 85)).drew.cell? ⟨w1.heap.size,1,none⟩=some (.slice x.p x.k x.c)∧(w2.alloc (.cells #[.bool false,.slice none 0 0,.slice none 0 0] 85)).drew.cell? ⟨w1.heap.size,2,none⟩=some (.slice x.q x.j x.d):=al3 _ e0
 go_region_held3 (fun W=>W.cell? ⟨w1.heap.size,0,none⟩=some (.bool x.b)∧W.cell? ⟨w1.heap.size,1,none⟩=some (.slice x.p x.k x.c)∧W.cell? ⟨w1.heap.size,2,none⟩=some (.slice x.q x.j x.d)) (first|with_reducible exact eA|with_reducible exact eB|with_reducible exact al3 _ eA|with_reducible exact al3 _ eB|with_reducible exact e0d|with_reducible exact al3 _ e0|with_reducible exact st3 eB tF _ _ _|exact e0)
  (first
   | (go_at_call 92;((with_reducible refine(qd4 (qs6 _ _ _ _ _ (q6e gE.out (by(first|exact qaa _ _|exact qad _ _))) (HX.out.later (by(first|exact dE.out|exact dE.out.alloc dE.out.size _))) cM.out)).mono ?_);rintro e wB ⟨⟨t2,rfl,hn⟩,hb⟩;have cK:Hid (qaw wB (.agg #[.bool t2.b,.slice t2.p t2.k t2.c,.slice t2.q t2.j t2.d]) (qn4 q)):=hid hn;have aV:Hid (Below w2.heap.size w2 wB):=(by(first|exact hid (dE.out.trans (hb.mono dE.out.size))|exact hid (qsa dE.out hb)|exact hid (qt8 dE.out hb)));have eB:wB.cell? ⟨w1.heap.size,0,none⟩=some (.bool x.b)∧wB.cell? ⟨w1.heap.size,1,none⟩=some (.slice x.p x.k x.c)∧wB.cell? ⟨w1.heap.size,2,none⟩=some (.slice x.q x.j x.d):=(One.cells (HW.out.later (aV.out.mono HW.out.1))).1;(first|(have jL:=hid (dN.out.later (hb.mono dN.out.1));have tF:w2.heap.size≠w1.heap.size:=(by have:=Ad.out;omega);obtain⟨⟨n0,n1,n2⟩,f0,f1,f2⟩:=One.cells jL.out)|(have jL:Hid (One wB wA.heap.size ⟨false,none,0,0,none,0,0⟩):=(by first|exact hid (q7e hb)|exact hid (q3j hb));have tF:wA.heap.size≠w1.heap.size:=(by have:=Ad.out;have:=dE.out.size;omega);obtain⟨⟨n0,n1,n2⟩,f0,f1,f2⟩:=One.cells jL.out)|skip);clear hn hb))
   | (go_at_call 51;((with_reducible refine(qd4 (qet 100 _ (by omega) (by omega))).mono ?_);rintro e wA ⟨⟨t1,rfl,hn⟩,hb⟩;have gE:=hid hn;have dE:Hid (Below w2.heap.size w2 wA):=(by(first|exact hid (fT.out.trans hb)|exact hid (qsa (qaa _ _) hb)|exact hid (qt8 (qaa _ _) hb)|exact hid (qsa fT.out hb)));have eA:wA.cell? ⟨w1.heap.size,0,none⟩=some (.bool x.b)∧wA.cell? ⟨w1.heap.size,1,none⟩=some (.slice x.p x.k x.c)∧wA.cell? ⟨w1.heap.size,2,none⟩=some (.slice x.q x.j x.d):=(One.cells (HW.out.later (dE.out.mono HW.out.1))).1;(first|have dN:Hid (One wA w2.heap.size ⟨false,none,0,0,none,0,0⟩):=hid (q7e hb)|have dN:Hid (One wA w2.heap.size ⟨false,none,0,0,none,0,0⟩):=hid (q3j hb)|skip);clear hn hb)))
 all_goals first
  | (have HM:=hid (qt9 (n:=wA.heap.size) (z:=t2) (w:=w) jL.out (HR.out.later (aV.out.mono HR.out.1)) (HW.out.later (aV.out.mono HW.out.1)) (HX.out.later aV.out) cK.out (HB.out.trans (aV.out.mono HB.out.size)) (by have:=HR.out.1;have:=dE.out.size;omega) (Ne.symm tF) (by have:=HB.out.size;have:=dE.out.size;omega));generalize ((wB.setCell ⟨wA.heap.size,0,none⟩ (.bool t2.b)).setCell ⟨wA.heap.size,1,none⟩ (.slice t2.p t2.k t2.c)).setCell ⟨wA.heap.size,2,none⟩ (.slice t2.q t2.j t2.d)=w5 at *;generalize wA.heap.size=n5 at *)
  | (have HM:=hid (qt9 (n:=w2.heap.size) (m:=⟨false,none,0,0,none,0,0⟩) (z:=t2) (w:=w) jL.out (HR.out.later (aV.out.mono HR.out.1)) (HW.out.later (aV.out.mono HW.out.1)) (HX.out.later aV.out) cK.out (HB.out.trans (aV.out.mono HB.out.size)) (by have:=HR.out.1;omega) (Ne.symm tF) (by have:=HB.out.size;omega));generalize ((wB.setCell ⟨w2.heap.size,0,none⟩ (.bool t2.b)).setCell ⟨w2.heap.size,1,none⟩ (.slice t2.p t2.k t2.c)).setCell ⟨w2.heap.size,2,none⟩ (.slice t2.q t2.j t2.d)=w5 at *;generalize w2.heap.size=n5 at *)
  | (have HM:=hid (q3k (w:=w) (HR.out.later (aV.out.mono HR.out.1)) (HW.out.later (aV.out.mono HW.out.1)) (HX.out.later aV.out) cK.out (HB.out.trans (aV.out.mono HB.out.size)));generalize wB.alloc (.cells #[.bool t2.b,.slice t2.p t2.k t2.c,.slice t2.q t2.j t2.d] 85)=w5 at *;generalize wB.heap.size=n5 at *)
 all_goals
  clear e0 e0d eA eB fT HX HW HR dK qZ dE aV gE cK
  try clear dN
  try clear jL n0 n1 n2 f0 f1 f2 tF
  obtain⟨⟨m0,m1,m2⟩,_⟩:=One.cells HM.out.1;obtain⟨⟨x0,x1,x2⟩,_⟩:=One.cells HM.out.2.2.1;have eJ:=hid (qdv _ _ _ HM.out.2.2.2.1);go_wp2_with fail;refine eJ.out.mono ?_;rintro e w6 ⟨rfl,hb⟩;have Fg:=hid (HM.out.later hb);clear m0 m1 m2 x0 x1 x2 hb HM eJ;obtain⟨⟨m0,m1,m2⟩,_⟩:=One.cells Fg.out.1;have cO:=hid (qdv _ _ _ Fg.out.2.2.2.2.1);go_wp2_with fail;refine cO.out.mono ?_;rintro e w7 ⟨rfl,hb⟩;have Rq:=hid (Fg.out.later hb);clear m0 m1 m2 hb Fg cO;obtain⟨⟨m0,m1,m2⟩,_⟩:=One.cells Rq.out.1;obtain⟨⟨r0,r1,r2⟩,g0,g1,g2⟩:=One.cells Rq.out.2.1;have HP:=hid (One.put (x:=t2) Rq.out.2.1);go_wp2_with fail;refine bodyPost_ret (v := .tuple #[.agg #[.bool t2.b,.slice t2.p t2.k t2.c,.slice t2.q t2.j t2.d],.int .i64 0]) ?_ rfl ?_
  ·simp[results,Tryz.results60,go_sem,r0,r1,r2]
  ·exact⟨⟨t2,rfl,HP.out.2.1 _ _ Rq.out.2.2.2.2.1⟩,HP.out.2.2.1 _ _ (qac _) Rq.out.2.2.2.2.2⟩
theorem qz5(l:List BA)(b o c:Nat)(w:World)(hg:GW w)(aB:∀i s,l[i]? = some s→w.cell? ⟨b,o+i,none⟩=some (.string s))(hl:l.length≤1048576)(hs:∀s ∈ l,s.size≤1073741824∧qah s.data.toList=0∧0≤sgn ((qa9 s.data.toList))∧0<sgn (qn4 (qa9 s.data.toList))):
  Calls Tryz.prog 59 #[.slice (some ⟨b,o,none⟩) l.length c,.func (.func 60) #[] #[]] w
   (fun e w'=>(∃g,w.heap.size≤g∧e = .returned (.tuple #[.slice (some ⟨g,0,none⟩) l.length l.length,.int .i64 0])∧qj0 w' g l.length (l.map fun s=>qn4 (qa9 s.data.toList)))∧Below w.heap.size w w'):=by
 have HG:=hid hg;have bP:=hid aB;have HS:=hid hs;have kX:=qo5 l.length hl;obtain⟨i0,hi,cP,dV,eF⟩:=info_parts (show(Tryz.prog.info? 85).map (fun i=>(i.zero,i.size,i.bytes))=some (some (.agg #[.bool false,.slice none 0 0,.slice none 0 0]),3,56) by kernel_rfl);have HI:=hid hi;clear hg aB hs hi cP eF;go_enter Tryz.func59,Tryz.ntmps59;go_wp2_with fail;clear kX;have gJ:=hid (qmr w l.length);have dU:Hid (Below w.heap.size w (w.alloc (.cells (madeCells #[.bool false,.slice none 0 0,.slice none 0 0] (l.length*3)) 85))):=hid (qad _ _);generalize w.alloc (.cells (madeCells #[.bool false,.slice none 0 0,.slice none 0 0] (l.length*3)) 85)=w0 at *
 go_loopw [6,16] (fun r i wr=>∃k:Nat,k≤l.length∧i = .int .i64 k∧r = .slice (some ⟨w.heap.size,0,none⟩) k l.length∧Hid (qj0 wr w.heap.size l.length ((l.take k).map fun s=>qn4 (qa9 s.data.toList)))∧Hid (Below w.heap.size w wr)) (fun _ i _=>l.length-(intOf i).toNat)
 case atStart=>exact⟨0,Nat.zero_le _,rfl,rfl,gJ,dU⟩
 case round=>
  obtain⟨k,hk,rfl,rfl,HN,HB⟩:=hrel;clear gJ dU;by_cases cQ:k<l.length
  ·obtain⟨s,cI⟩:∃s,l[k]? = some s:=⟨l[k],qat cQ⟩
   have iN:=bP.out k s cI
   have aC:wr.cell? ⟨b,o+k,none⟩=some (.string s):=by
    rw[HB.out.cell (qaf w _ iN)];exact iN
   obtain⟨dL,fN,tN,hs4⟩:=HS.out s (qbj cI);have eS:=hid (qz4 s wr (HG.out.later HB.out) dL fN tN hs4);have oE:=hid cI;clear iN cI dL fN tN hs4
   ·skip
    go_wp2_with fail;refine eS.out.mono ?_;rintro e w1 ⟨⟨x,rfl,hv⟩,hb⟩;obtain⟨sg,p1,k1,c1,p2,k2,c2⟩:=x
    have jU:((l.take k).map fun s=>qn4 (qa9 s.data.toList))++[qn4 (qa9 s.data.toList)]=(l.take (k+1)).map fun s=>qn4 (qa9 s.data.toList):=by
     rw[qbp oE.out,List.map_append];rfl
    have vJ:=hid jU;have gT:((l.take k).map fun s=>qn4 (qa9 s.data.toList)).length=k:=by rw[List.length_map,List.length_take];omega
    have dI:=hid (HN.out.later hb);have gE:=hid hv;have aP:=hid (HB.out.trans (hb.mono HB.out.size));clear jU hv hb HN HB eS aC;generalize qn4 (qa9 s.data.toList)=q at *;generalize ((l.take k).map fun s=>qn4 (qa9 s.data.toList))=qs at *;obtain⟨aD,gG⟩:=qvy w1 sg (.slice p1 k1 c1) (.slice p2 k2 c2);have fX:=hid (dI.out.later aD);have cK:=hid (gE.out.later aD);have kB:w.heap.size≤w1.heap.size:=aP.out.size;have aK:=hid (aP.out.trans (aD.mono kB));obtain⟨x0,x1,x2⟩:=qbs gG;have bL:Below (w1.alloc (.cells #[.bool sg,.slice p1 k1 c1,.slice p2 k2 c2] 85)).heap.size (w1.alloc (.cells #[.bool sg,.slice p1 k1 c1,.slice p2 k2 c2] 85)) ((w1.alloc (.cells #[.bool sg,.slice p1 k1 c1,.slice p2 k2 c2] 85)).alloc (.cells #[.bool sg,.slice p1 k1 c1,.slice p2 k2 c2] 85)):=qad _ _;obtain⟨cur,dX,bM,bZ,bI⟩:=(fX.out.later bL).push (by rw[gT];exact cQ) (cK.out.later bL);have iD:=heap_alloc_new (w1.alloc (.cells #[.bool sg,.slice p1 k1 c1,.slice p2 k2 c2] 85)) (.cells #[.bool sg,.slice p1 k1 c1,.slice p2 k2 c2] 85);rw[qab] at iD;rw[gT] at bM bZ bI;simp only[List.append_assoc,List.cons_append,List.nil_append] at bZ bI;have bV:=hid bZ;have aG:=hid (aK.out.trans ((bL.mono (by rw[qab];omega)).trans (bI w.heap.size (qac _))));have kE:=hid dX;have jL:=hid iD;have dF:=hid bM;clear aD gG bL kB dX bM bZ bI iD dI gE aP fX cK aK gT;go_wp2_with (at_builtin;refine qbu _ rfl _ _ 67 rfl 85 i0 3 Tryz.underlying67 HI.out dV w.heap.size k l.length cur rfl kE.out ⟨w1.heap.size+1,0,none⟩ 1 1 [.bool sg,.slice p1 k1 c1,.slice p2 k2 c2] rfl rfl (World.news_of_block jL.out) ?lQ (by omega) dF.out ?_)
    case lQ=>
     intro u hu;simp only[List.mem_cons,List.not_mem_nil,or_false] at hu;rcases hu with rfl|rfl|rfl<;>rfl
    clear x0 x1 x2;go_wp2_with fail;go_roundw
    case rel=>exact⟨k+1,cQ,by go_num,rfl,hid (by rw[←vJ.out];exact bV.out),aG⟩
    case measure=>simp[intOf];omega
  ·obtain rfl:k=l.length:=by omega
   have hN:=HN.out;rw[List.take_length] at hN;have HN':=hid hN;clear hN HN;go_wp2_with fail;go_ret2;exact⟨⟨w.heap.size,qac _,rfl,HN'.out⟩,HB.out⟩
def q9g(ms:Int)(a b:BA):Rat:=((ms:Int):Rat)*qn4 (qa9 a.data.toList)/qn4 (qa9 b.data.toList)
def q3l(s:BA):Prop:=s.size≤1073741824∧qah s.data.toList=0∧0≤sgn (qa9 s.data.toList)∧0<sgn (qn4 (qa9 s.data.toList))
theorem zad{q:Rat}(h:0<sgn q):q.num≠0:=by
 intro h0;unfold sgn at h;rw[h0] at h;exact absurd h (by decide)
theorem q6f(ms:Int)(a b:BA)(w:World)(hg:GW w)(h0:0≤ms)(h1:ms≤999999999)(ha:q3l a)(hb:q3l b):
  Calls Tryz.prog 20 #[.int .i64 ms,.string a,.string b] w fun e w'=>e = .returned (.tuple #[.string (qcz (q9g ms a b)),.int .i64 (qgi (q9g ms a b):Nat)])∧Below w.heap.size w w':=by
 have aD:Below w.heap.size w (w.alloc (.cells #[.string a,.string b] 30)):=qad _ _;have dK:=hid aD
 have Lg:=hid (qz5 [a,b] w.heap.size 0 2 (w.alloc (.cells #[.string a,.string b] 30)) (hg.later aD) (fun i s hi=>by
  match i,hi with
  | 0,hi=>cases hi;simp
  | 1,hi=>cases hi;simp) (by show 2≤1048576;omega) (fun s hs=>by
  simp only[List.mem_cons,List.not_mem_nil,or_false] at hs;rcases hs with rfl|rfl
  ·exact ha
  ·exact hb))
 have bm:=qls ms h0 h1;have ba:=q2g (qls 100 (by omega) (by omega)) (qin ha.2.1);have bb:=q2g (qls 100 (by omega) (by omega)) (qin hb.2.1)
 have cM:Hid (rs ((ms:Int):Rat)+rs (qn4 (qa9 a.data.toList))≤Cap∧rs (((ms:Int):Rat)*qn4 (qa9 a.data.toList))+rs (qn4 (qa9 b.data.toList))≤Cap∧rs (q9g ms a b)≤Cap):=hid (by
  have a1:=bm.rs;have a2:=ba.rs;have a3:=bb.rs;have a4:=(qe0 bm ba).rs;have a5:=(qnf (qe0 bm ba) bb).rs
  unfold q9g qn4 Cap;omega)
 have Hm:=hid (zad hb.2.2.2);have qU:¬ms<0:=by omega
 have dT:¬999999999<ms:=by omega
 have HWQ:Hid (q9g ms a b=((ms:Int):Rat)*qn4 (qa9 a.data.toList)/qn4 (qa9 b.data.toList)):=hid rfl;have fD : -9223372036854775808≤ms∧ms≤9223372036854775807:=by omega
 have gK:=hid fD;clear fD aD ha hb hg bm ba bb;simp only[List.map_cons,List.map_nil,List.length_cons,List.length_nil,Nat.zero_add,Nat.reduceAdd] at Lg;generalize q9g ms a b=wq at *;generalize qn4 (qa9 a.data.toList)=da at *;generalize qn4 (qa9 b.data.toList)=db at *;go_enter Tryz.func20,Tryz.ntmps20;go_wp2_with fail;refine Lg.out.mono ?_;rintro e w1 ⟨⟨g,hgg,rfl,hn⟩,hb⟩;have HB:=hid (dK.out.trans (hb.mono dK.out.size));obtain⟨x,⟨e0,e1,e2⟩,hx⟩:=(qj0.at hn).nv 0 da rfl;obtain⟨y,⟨e3,e4,e5⟩,hy⟩:=(qj0.at hn).nv 1 db rfl;simp only[Nat.zero_mul,Nat.zero_add,Nat.one_mul,Nat.reduceAdd] at e0 e1 e2 e3 e4 e5;have yE:Hid (qaw w1 (.agg #[.bool x.b,.slice x.p x.k x.c,.slice x.q x.j x.d]) da∧qaw w1 (.agg #[.bool y.b,.slice y.p y.k y.c,.slice y.q y.j y.d]) db):=hid ⟨hx,hy⟩;have eZ:w1.cell? ⟨g,0,none⟩=some (.bool x.b)∧w1.cell? ⟨g,1,none⟩=some (.slice x.p x.k x.c)∧w1.cell? ⟨g,2,none⟩=some (.slice x.q x.j x.d)∧w1.cell? ⟨g,3,none⟩=some (.bool y.b)∧w1.cell? ⟨g,4,none⟩=some (.slice y.p y.k y.c)∧w1.cell? ⟨g,5,none⟩=some (.slice y.q y.j y.d):=⟨e0,e1,e2,e3,e4,e5⟩
 have HC:Hid (∀W,Below w1.heap.size w1 W→W.cell? ⟨g,0,none⟩=some (.bool x.b)∧W.cell? ⟨g,1,none⟩=some (.slice x.p x.k x.c)∧W.cell? ⟨g,2,none⟩=some (.slice x.q x.j x.d)∧W.cell? ⟨g,3,none⟩=some (.bool y.b)∧W.cell? ⟨g,4,none⟩=some (.slice y.p y.k y.c)∧W.cell? ⟨g,5,none⟩=some (.slice y.q y.j y.d)):=hid fun W hW=>by
  obtain⟨h0,h1,h2,h3,h4,h5⟩:=eZ;refine⟨?_, ?_, ?_, ?_, ?_, ?_⟩
  ·rw[hW.cell (qaf w1 _ h0)];exact h0
  ·rw[hW.cell (qaf w1 _ h1)];exact h1
  ·rw[hW.cell (qaf w1 _ h2)];exact h2
  ·rw[hW.cell (qaf w1 _ h3)];exact h3
  ·rw[hW.cell (qaf w1 _ h4)];exact h4
  ·rw[hW.cell (qaf w1 _ h5)];exact h5
 clear hx hy hn hgg hb Lg e0 e1 e2 e3 e4 e5;go_wp2_with fail;have fT:Hid (Below w1.heap.size w1 w1.drew):=hid ((qaa _ _).drew)
 go_region_held3 (fun W=>W.cell? ⟨g,0,none⟩=some (.bool x.b)∧W.cell? ⟨g,1,none⟩=some (.slice x.p x.k x.c)∧W.cell? ⟨g,2,none⟩=some (.slice x.q x.j x.d)∧W.cell? ⟨g,3,none⟩=some (.bool y.b)∧W.cell? ⟨g,4,none⟩=some (.slice y.p y.k y.c)∧W.cell? ⟨g,5,none⟩=some (.slice y.q y.j y.d)) (first|with_reducible exact eA|with_reducible exact eB|with_reducible exact eC|with_reducible exact eD|exact eZ)
  (first
   | (go_at_call 51;((with_reducible refine(qd4 (qet ms _ gK.out.1 gK.out.2)).mono ?_);rintro e wA ⟨⟨t1,rfl,hn⟩,hb⟩;have gE:=hid hn;have dE:Hid (Below w1.heap.size w1 wA):=hid (fT.out.trans hb);have eA:=HC.out _ dE.out;clear hn hb))
   | (go_at_call 53;((with_reducible refine(qd4 (qd5 _ _ _ _ wA gE.out (yE.out.1.later dE.out) cM.out.1)).mono ?_);rintro e wB ⟨⟨t2,rfl,hn⟩,hb⟩;have cK:=hid hn;have aV:=hid (dE.out.trans (hb.mono dE.out.size));have eB:=HC.out _ aV.out;clear hn hb))
   | (go_at_call 55;((with_reducible refine(qd4 (qfk _ _ _ _ wB cK.out (yE.out.2.later aV.out) Hm.out cM.out.2.1)).mono ?_);rintro e wC ⟨⟨t3,rfl,hn⟩,hb⟩;rw[←HWQ.out] at hn;have iU:=hid hn;have hJ:=hid (aV.out.trans (hb.mono aV.out.size));have eC:=HC.out _ hJ.out;clear hn hb))
   | (go_at_call 42;((with_reducible refine(qjc _ _ wC iU.out cM.out.2.2).mono ?_);rintro e wD h;obtain⟨rfl,hb⟩:=qmt h;have fB:=hid (hJ.out.trans (hb.mono hJ.out.size));have eD:=HC.out _ fB.out;clear hb h)))
 all_goals
  go_wp2_with fail;go_ret2;exact⟨rfl,HB.out.trans (fB.out.mono HB.out.size)⟩
end Go.Proofs.YtmcfcpgglfimjaaGreatDoor
