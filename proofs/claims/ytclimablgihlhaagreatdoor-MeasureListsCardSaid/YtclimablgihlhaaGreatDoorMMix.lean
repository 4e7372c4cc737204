/- Mix, where it has no error. -/
import Derived.Test.YtclimablgihlhaaGreatDoorMMassesOf
import Derived.BigQuiet
import Derived.Test.YtclimablgihlhaaGreatDoorMMean
import Derived.Test.YtclimablgihlhaaGreatDoorMRounded
import Derived.Test.YtclimablgihlhaaGreatDoorMSpans
import Derived.Test.YtclimablgihlhaaGreatDoorMEachLayer
set_option linter.all false
namespace Go.Proofs.YtclimablgihlhaaGreatDoor
open Go.RowKit
set_option maxRecDepth 100000
set_option maxHeartbeats 16000000
def qlq(D:List (BA × Rat))(k:BA):Rat:=((D.find? fun p=>k==p.1).map (·.2)).getD 0
theorem qy8(E:Ent)(k:BA):qkn E k=qlq (qjw E) k:=by
 unfold qkn qlq qjw;rw[List.find?_map,Option.map_map];rfl
theorem q5g{D:List (BA × Rat)}{k:BA}{d:Rat}{N:Nat}(h:∀p ∈ D,p.1.size≤N)(hk:k.size≤N):∀p ∈ q2i D k d,p.1.size≤N:=by
 intro p hp;unfold q2i at hp;split at hp
 ·rw[List.mem_map] at hp
  obtain⟨q,hq,rfl⟩:=hp;split
  ·exact h q hq
  ·exact h q hq
 ·rw[List.mem_append,List.mem_singleton] at hp
  rcases hp with hp|rfl
  ·exact h p hp
  ·exact hk
theorem q77{D:List (BA × Rat)}{k:BA}{d:Rat}:q2i D k d≠[]:=by
 unfold q2i;split
 ·rename_i h
  intro h2;rw[List.map_eq_nil_iff] at h2;subst h2;cases h
 ·simp
theorem qvw{m:Int}{N:Nat}(ss:List (BA × BA)):∀ {D:List (BA × Rat)},(∀p ∈ D,p.1.size≤N)→(∀s ∈ ss,s.1.size≤N)→∀p ∈ qfp m D ss,p.1.size≤N:=by
 induction ss with
 | nil=>intro D h _;exact h
 | cons s ss ih=>
  intro D h hs;exact ih (D:=q2i D s.1 (qjv s*((m:Int):Rat))) (q5g h (hs s (List.mem_cons_self ..))) (fun t ht=>hs t (List.mem_cons_of_mem _ ht))
theorem qy9{m:Int}(ss:List (BA × BA)):∀ {D:List (BA × Rat)},(D≠[]∨ss≠[])→qfp m D ss≠[]:=by
 induction ss with
 | nil=>intro D h;exact h.resolve_right (fun h=>h rfl)
 | cons s ss ih=>intro D _;exact ih (D:=q2i D s.1 (qjv s*((m:Int):Rat))) (.inl q77)
theorem q2l{N:Nat}(l:List Lay)(h:∀x ∈ l,∀s ∈ x.shares,s.1.size≤N):∀p ∈ qfl l,p.1.size≤N:=by
 induction l using qgt with
 | h0=>intro p hp;cases hp
 | h1 l x ih=>
  rw[qmo];exact qvw _ (ih fun y hy=>h y (List.mem_append_left _ hy)) (h x (by simp))
theorem q5h(l:List Lay)(hl:l≠[])(h:∀x ∈ l,x.shares≠[]):qfl l≠[]:=by
 induction l using qgt with
 | h0=>exact absurd rfl hl
 | h1 l x ih=>
  rw[qmo];exact qy9 _ (.inr (h x (by simp)))
theorem qm9{α:Type}(f:α→Nat)(l:List α)(h:∀x ∈ l,f x=0):qac (l.map f)=0:=by
 induction l with
 | nil=>rfl
 | cons a l ih=>
  show(if f a=0 then qac (l.map f) else f a)=0;rw[if_pos (h a (List.mem_cons_self ..))];exact ih fun x hx=>h x (List.mem_cons_of_mem _ hx)
def qb8(l:List Lay):Int:=l.foldl (fun a x=>a+x.mass) 0
theorem qna(l:List Lay)(x:Lay):qb8 (l++[x])=qb8 l+x.mass:=by unfold qb8;rw[List.foldl_append];rfl
theorem qqo(l:List Lay)(h:∀x ∈ l,qdi x=0):(l.length:Int)≤qb8 l∧qb8 l≤999999999*(l.length:Int):=by
 induction l using qgt with
 | h0=>exact⟨Int.le_refl _,Int.le_refl _⟩
 | h1 l x ih=>
  rw[qna,List.length_append,List.length_singleton];obtain⟨h1,h2⟩:=ih fun y hy=>h y (List.mem_append_left _ hy);obtain⟨h3,h4,_⟩:=qgw (h x (by simp));omega
def q78(l:List Lay)(g0:BA)(w:World)(e:Ending)(w':World):Prop:=
 ∃(ss:List (List UInt8)) (g:Nat),ss.Perm ((qfl l).map fun p=>p.1.data.toList)∧w.heap.size≤g∧
  e = .returned (.tuple #[.agg #[.string g0,.int .i64 (qb8 l),.slice (some ⟨g,0,none⟩) (qcf ss).length (qcf ss).length],.int .i64 0])∧
  qcz shK w' g (qcf ss).length ((qcf ss).map fun s=>(s,qcw (qlq (qfl l) s/((qb8 l:Int):Rat))))∧Below w.heap.size w w'
theorem qpc{l:List Lay}{b o c:Nat}{w:World}(hg:GW w)(aB:qfb w b o l)(hl:l.length≤64)(hs:∀x ∈ l,∀s ∈ x.shares,s.2.size≤1073741824)(eP:∀x ∈ l,qdi x=0):
  Calls Tryz.prog 59 #[.slice (some ⟨b,o,none⟩) l.length c,.func (.func 60) #[] #[]] w fun e w'=>(∃g,w.heap.size≤g∧e = .returned (.tuple #[.slice (some ⟨g,0,none⟩) l.length l.length,.int .i64 0])∧qcz q3r w' g l.length (l.map qql))∧Below w.heap.size w w':=
 (qy0 l b o c w hg aB (by omega) hs).mono fun e w' h=>by
  unfold qi5 at h;rw[if_pos (qm9 qdi l eP),List.length_map] at h;exact h
theorem q5i{W:World}{g g' cap:Nat}{l:List (BA × BA)}(h:qcz shK W g cap l)(hne:g≠g')(x y z:Value):qcz shK (((W.setCell ⟨g',0,none⟩ x).setCell ⟨g',1,none⟩ y).setCell ⟨g',2,none⟩ z) g cap l:=by
 obtain⟨h1,cur,hg,h2,h3,h4⟩:=h;exact⟨h1,cur,qef.other3 (W:=W) (g:=g) (cs:=cur) (t:=shK.ty) hg hne x y z,h2,h3,h4⟩
theorem q5j(l:List Lay)(g0:BA)(b o c:Nat)(w:World)(hg:GW w)(aB:qfb w b o l)(mC:1≤l.length)(hl:l.length≤64)(_hc:c≤maxLen)
  (hs:∀x ∈ l,∀s ∈ x.shares,s.1.size≤1073741824∧s.2.size≤1073741824) (eP:∀x ∈ l,qdi x=0) (Db:∀x ∈ l,x.grain=g0) (cN:qb8 l≤999999999)
  (xX:(qfl l).length≤64) (bZ:∀s,qfa (qlq (qfl l) s/((qb8 l:Int):Rat))=0):
  Calls Tryz.prog 23 #[.slice (some ⟨b,o,none⟩) l.length c] w (q78 l g0 w):=by
 have aD:Below w.heap.size w (w.alloc (.cells #[.string ⟨#[]⟩,.int .i64 0,.slice none 0 0] 57)):=zam _ _;have eI:=hid aD;have HO:=hid (qev w 57 (.string ⟨#[]⟩) (.int .i64 0) (.slice none 0 0));have HEL:=hid (qpc (c:=c) (hg.later aD) (aB.later aD) hl (fun x hx s hs'=>(hs x hx s hs').2) eP);have bN:=hid aB;obtain⟨gI,hU⟩:=qqo l eP;have HOK:=hid eP;have Tz:=hid Db;have Es:Hid (∀W g,Below w.heap.size w W→qcz q3r W g l.length (l.map qql)→Calls Tryz.prog 62 #[.slice (some ⟨b,o,none⟩) l.length c,.slice (some ⟨g,0,none⟩) l.length l.length] W fun e w'=>(∃E,e = .returned (.map (some W.heap.size))∧qie w' W.heap.size E∧qjw E=qfl l∧∀e ∈ E,bd e.2.2 (602*64*64+1))∧Below W.heap.size W w'):=hid fun W g hW hr=>qtz l b o c g W (aB.later hW) hl eP hr
 have zG:Hid (∀W E r,qjw E=qfl l→qie W r E→(∀e ∈ E,bd e.2.2 (602*64*64+1))→Calls Tryz.prog 61 #[.map (some r),.int .i64 (qb8 l)] W fun e w'=>∃(ss:List (List UInt8)) (g:Nat),ss.Perm ((qfl l).map fun p=>p.1.data.toList)∧W.heap.size≤g∧e = .returned (.tuple #[.slice (some ⟨g,0,none⟩) (qcf ss).length (qcf ss).length,.int .i64 0])∧qcz shK w' g (qcf ss).length ((qcf ss).map fun s=>(s,qcw (qlq (qfl l) s/((qb8 l:Int):Rat))))∧Below W.heap.size W w'):=hid fun W E r hd hN hb=>by
  have Iq:=q2l l (N:=1073741824) fun x hx s hs'=>(hs x hx s hs').1
  have hne:=q5h l (by rintro rfl;exact absurd mC (by decide)) fun x hx h=>by
   have:=(qgw (eP x hx)).2.2.1;rw[h] at this;exact absurd this (by decide)
  rw[←hd] at Iq hne xX;have hEl:E.length≤64:=by unfold qjw at xX;rwa [List.length_map] at xX
  refine(qt0 r E (qb8 l) W hN (by rintro rfl;exact hne rfl) (fun e he => ?_) (by omega) cN hb).mono fun e w' h => ?_
  ·have:=Iq (e.1,e.2.2) (by unfold qjw;exact List.mem_map_of_mem (f:=fun e:BA × NV × Rat=>(e.1,e.2.2)) he)
   exact Nat.le_trans this (by decide)
  ·unfold qy5 at h
   rw[if_neg (by omega)] at h;obtain⟨ss,hp,h⟩:=h;have hq:∀s,qnu E (qb8 l) s=qlq (qfl l) s/((qb8 l:Int):Rat):=fun s=>by unfold qnu;rw[qy8,hd]
   unfold qi5 at h;simp only[hq] at h;rw[if_pos (qm9 _ _ fun s _=>bZ s),List.length_map] at h;obtain⟨⟨g,h1,h2,h3⟩,h4⟩:=h;refine⟨ss,g, ?_,h1,h2,h3,h4⟩;rw[←hd];unfold qjw;rw[List.map_map];exact hp
 have dL:((l.length:Int)==0)=false:=zat (by omega);have tX:=hid mC;clear hg aB hs eP Db xX bZ aD;go_enter Tryz.func23,Tryz.ntmps23;go_wp2_with fail;refine HEL.out.mono ?_;rintro e w1 ⟨⟨gp,hgp,rfl,hr⟩,hb⟩;have HR:=hid hr;have HB:=hid (eI.out.trans (hb.mono eI.out.size));have jS:=hid (HO.out.later (hb.mono HO.out.1));clear hr hb HEL HO;go_wp2_with fail
 go_loopw [6,29] (fun a i wr=>∃k:Nat,k≤l.length∧i = .int .i64 k∧a = .int .i64 (qb8 (l.take k))∧Hid (Below w1.heap.size w1 wr)) (fun _ i _=>l.length-(intOf i).toNat)
 case atStart=>exact⟨0,Nat.zero_le _,rfl,rfl,hid (zan _ _)⟩
 case round=>
  obtain⟨k,hk,rfl,rfl,bR⟩:=hrel;by_cases cV:k<l.length
  ·obtain⟨x,eL⟩:∃x,l[k]? = some x:=⟨l[k],zau cV⟩
   obtain⟨y,hy⟩:∃y,l[0]? = some y:=⟨l[0]'(by omega),zau _⟩;obtain⟨e0,e1,p,cc,e2,_⟩:=bN.out k x eL;obtain⟨f0,_⟩:=bN.out 0 y hy;rw[Tz.out x (zax eL)] at e0;rw[Tz.out y (zax hy)] at f0;have nF:=HB.out.trans (bR.out.mono HB.out.size);have c0:wr.cell? ⟨b,o+k*3,none⟩=some (.string g0):=by rw[nF.cell (zaq w _ e0)];exact e0
   have c1:wr.cell? ⟨b,o+k*3+1,none⟩=some (.int .i64 x.mass):=by rw[nF.cell (zaq w _ e1)];exact e1
   have c2:wr.cell? ⟨b,o+k*3+2,none⟩=some (.slice p x.shares.length cc):=by rw[nF.cell (zaq w _ e2)];exact e2
   have aD:Below wr.heap.size wr (wr.alloc (.cells #[.string g0,.int .i64 x.mass,.slice p x.shares.length cc] 57)):=zam _ _
   have d0:(wr.alloc (.cells #[.string g0,.int .i64 x.mass,.slice p x.shares.length cc] 57)).cell? ⟨b,o,none⟩=some (.string g0):=by
    have h1:=(nF.trans (aD.mono nF.size)).cell (zaq w _ f0);rw[f0] at h1
    simpa using h1
   have ho:=qev wr 57 (.string g0) (.int .i64 x.mass) (.slice p x.shares.length cc);obtain⟨a0,_⟩:=ho.2 0 (by omega);obtain⟨a1,_⟩:=ho.2 1 (by omega);simp only[qhm,if_pos,Nat.one_ne_zero] at a0 a1;obtain⟨oH,pL,_⟩:=qgw (HOK.out x (zax eL));obtain⟨gF,eW⟩:=qqo (l.take k) fun z hz=>HOK.out z (List.mem_of_mem_take hz);have bI:(l.take k).length≤64:=Nat.le_trans (List.length_take_le' ..) hl;have iG:Hid (qb8 (l.take (k+1))=qb8 (l.take k)+x.mass):=hid (by rw[qcm eL,qna]);have dP:=hid (bR.out.trans (aD.mono bR.out.size));clear e0 e1 e2 f0 nF aD ho eL hy bR;generalize x.mass=mx at *;generalize x.shares.length=nx at *;generalize qb8 (l.take k)=a at *;go_wp2_with fail
   go_quiet (fail)
   go_wp2_with fail;go_roundw
   case rel=>exact⟨k+1,by omega,by go_num,by rw[iG.out],hid (below_drewN dP.out _)⟩
   case measure=>simp[intOf];omega
  ·obtain rfl:k=l.length:=by omega
   rw[List.take_length];have mD:=hid (HB.out.trans (bR.out.mono HB.out.size));have HRZ:=hid (HR.out.later qjr bR.out);have Uv:=hid (Es.out wr gp mD.out HRZ.out);have uS:=hid (jS.out.later (bR.out.mono jS.out.1));obtain⟨y,hy⟩:∃y,l[0]? = some y:=⟨l[0]'(by omega),zau _⟩;obtain⟨f0,_⟩:=bN.out 0 y hy;rw[Tz.out y (zax hy),Nat.zero_mul,Nat.add_zero] at f0;have Tc:=hid f0;have xG:¬999999999<qb8 l:=by omega
   clear hy f0 Es bR jS HR;go_wp2_with fail;refine Uv.out.mono ?_;rintro e w2 ⟨⟨E,rfl,hN,hD,tH⟩,hb⟩;have uB:=hid (zG.out w2 E _ hD hN tH);have aR:=hid (mD.out.trans (hb.mono mD.out.size));have kQ:=hid (uS.out.later (hb.mono uS.out.1));clear hN hD tH hb Uv zG mD uS;go_wp2_with fail;refine uB.out.mono ?_;rintro e w3 ⟨ss,g,hp,hg,rfl,aB,hb⟩;have mJ:=hid (kQ.out.later (hb.mono kQ.out.1));have bY:=hid (aR.out.trans (hb.mono aR.out.size));have hgn:g≠w.heap.size:=by have:=aR.out.size;have:=kQ.out.1;omega
   have HGS:Hid (w.heap.size≤g):=hid (Nat.le_trans aR.out.size hg);have Uw:=hid aB;have hf:w3.cell? ⟨b,o,none⟩=some (.string g0):=by rw[bY.out.cell (zaq w _ Tc.out)];exact Tc.out
   obtain⟨a0,b0⟩:=mJ.out.2 0 (by omega);obtain⟨a1,b1⟩:=mJ.out.2 1 (by omega);obtain⟨a2,b2⟩:=mJ.out.2 2 (by omega);simp only[qhm,if_pos,Nat.one_ne_zero] at a0 a1 a2;have HP:=hid hp;clear hp hg aB hb uB;go_wp2_with fail;refine bodyPost_ret (v := .tuple #[.agg #[.string g0,.int .i64 (qb8 l),.slice (some ⟨g,0,none⟩) (qcf ss).length (qcf ss).length],.int .i64 0]) ?_ rfl ?_
   ·simp[results,Tryz.results23,go_sem,a0,a1,a2]
   ·exact⟨ss,g,HP.out,HGS.out,rfl,q5i Uw.out hgn _ _ _,((bY.out.setCell (p:=⟨w.heap.size,0,none⟩) (zap _) _).setCell (p:=⟨w.heap.size,1,none⟩) (zap _) _).setCell (p:=⟨w.heap.size,2,none⟩) (zap _) _⟩
theorem al3{W:World}{g:Nat}{x:NV}(o:Obj)(h:W.cell? ⟨g,0,none⟩=some (.bool x.b)∧W.cell? ⟨g,1,none⟩=some (.slice x.p x.k x.c)∧W.cell? ⟨g,2,none⟩=some (.slice x.q x.j x.d)):(W.alloc o).cell? ⟨g,0,none⟩=some (.bool x.b)∧(W.alloc o).cell? ⟨g,1,none⟩=some (.slice x.p x.k x.c)∧(W.alloc o).cell? ⟨g,2,none⟩=some (.slice x.q x.j x.d):=by
 obtain⟨h0,h1,h2⟩:=h;refine⟨?_, ?_, ?_⟩
 ·rw[((zan _ _).alloc (zap _) o).cell (zaq W _ h0)];exact h0
 ·rw[((zan _ _).alloc (zap _) o).cell (zaq W _ h1)];exact h1
 ·rw[((zan _ _).alloc (zap _) o).cell (zaq W _ h2)];exact h2
theorem st3{W:World}{g g':Nat}{x:NV}(h:W.cell? ⟨g,0,none⟩=some (.bool x.b)∧W.cell? ⟨g,1,none⟩=some (.slice x.p x.k x.c)∧W.cell? ⟨g,2,none⟩=some (.slice x.q x.j x.d))(hne:g'≠g)(a b c:Value):(((W.setCell ⟨g',0,none⟩ a).setCell ⟨g',1,none⟩ b).setCell ⟨g',2,none⟩ c).cell? ⟨g,0,none⟩=some (.bool x.b)∧(((W.setCell ⟨g',0,none⟩ a).setCell ⟨g',1,none⟩ b).setCell ⟨g',2,none⟩ c).cell? ⟨g,1,none⟩=some (.slice x.p x.k x.c)∧(((W.setCell ⟨g',0,none⟩ a).setCell ⟨g',1,none⟩ b).setCell ⟨g',2,none⟩ c).cell? ⟨g,2,none⟩=some (.slice x.q x.j x.d):=by
 have k:∀(V:World) (i o:Nat) (y:Value),(V.setCell ⟨g',i,none⟩ y).cell? ⟨g,o,none⟩=V.cell? ⟨g,o,none⟩:=fun V i o y=>World.cell?_setCell_other _ _ _ _ (by intro e;injection e with e;exact hne e);simp only[k];exact h
theorem qrw{w W W':World}{o:Obj}(h:Below w.heap.size w W)(hb:Below (W.alloc o).heap.size (W.alloc o) W'):Below w.heap.size w W':=
 (h.alloc h.size o).trans (hb.mono (by rw[zao];exact Nat.le_succ_of_le h.size))
theorem qt1{w W W':World}{o:Obj}(h:Below w.heap.size w W)(hb:Below (W.alloc o).drew.heap.size (W.alloc o).drew W'):Below w.heap.size w W':=
 (h.alloc h.size o).drew.trans (hb.mono (h.alloc h.size o).size)
theorem q2m{W W':World}{x:NV}(hb:Below (W.alloc (.cells #[.bool x.b,.slice x.p x.k x.c,.slice x.q x.j x.d] 74)).drew.heap.size (W.alloc (.cells #[.bool x.b,.slice x.p x.k x.c,.slice x.q x.j x.d] 74)).drew W'):One W' W.heap.size x:=((qgg W x).later ((zan _ _).drew)).later (hb.mono (by show W.heap.size+1≤(W.alloc _).heap.size;rw[zao];exact zap _))
theorem q6s{W W':World}{x:NV}(hb:Below (W.alloc (.cells #[.bool x.b,.slice x.p x.k x.c,.slice x.q x.j x.d] 74)).heap.size (W.alloc (.cells #[.bool x.b,.slice x.p x.k x.c,.slice x.q x.j x.d] 74)) W'):One W' W.heap.size x:=(qgg W x).later (hb.mono (by rw[zao];exact zap _))
theorem q5k{W W':World}{v:Value}{q:Rat}(h:qaj W v q)(hb:Below W.heap.size W W'):qaj W' v q:=h.later hb
def qpd(w:World)(r g n:Nat)(x z:NV)(q d:Rat)(W:World):Prop:=One W n z∧One W r ⟨false,none,0,0,none,0,0⟩∧One W g x∧qaj W (.agg #[.bool x.b,.slice x.p x.k x.c,.slice x.q x.j x.d]) q∧qaj W (.agg #[.bool z.b,.slice z.p z.k z.c,.slice z.q z.j z.d]) d∧Below w.heap.size w W
theorem qpd.later{w W W':World}{r g n:Nat}{x z:NV}{q d:Rat}(h:qpd w r g n x z q d W)(hb:Below W.heap.size W W'):qpd w r g n x z q d W':=by
 obtain⟨h1,h2,h3,h4,h5,h6⟩:=h;exact⟨Own.later h1 (hb.mono h1.1),Own.later h2 (hb.mono h2.1),Own.later h3 (hb.mono h3.1),h4.later hb,h5.later hb,h6.trans (hb.mono h6.size)⟩
theorem qt2{w W:World}{r g n:Nat}{m x z:NV}{q d:Rat}(hm:One W n m)(hr:One W r ⟨false,none,0,0,none,0,0⟩)(hg:One W g x)(hx:qaj W (.agg #[.bool x.b,.slice x.p x.k x.c,.slice x.q x.j x.d]) q)(hz:qaj W (.agg #[.bool z.b,.slice z.p z.k z.c,.slice z.q z.j z.d]) d)(hb:Below w.heap.size w W)(h1:r≠n)(h2:g≠n)(h3:w.heap.size≤n):
  qpd w r g n x z q d (((W.setCell ⟨n,0,none⟩ (.bool z.b)).setCell ⟨n,1,none⟩ (.slice z.p z.k z.c)).setCell ⟨n,2,none⟩ (.slice z.q z.j z.d)):=by
 obtain⟨a,b,c,d⟩:=hm.put (x:=z);exact⟨a,d _ _ _ h1 hr,d _ _ _ h2 hg,b _ _ hx,b _ _ hz,c _ _ h3 hb⟩
theorem q2n{w W:World}{r g:Nat}{x z:NV}{q d:Rat}(hr:One W r ⟨false,none,0,0,none,0,0⟩)(hg:One W g x)(hx:qaj W (.agg #[.bool x.b,.slice x.p x.k x.c,.slice x.q x.j x.d]) q)(hz:qaj W (.agg #[.bool z.b,.slice z.p z.k z.c,.slice z.q z.j z.d]) d)(hb:Below w.heap.size w W):
  qpd w r g W.heap.size x z q d (W.alloc (.cells #[.bool z.b,.slice z.p z.k z.c,.slice z.q z.j z.d] 74)):=by
 have aD:Below W.heap.size W (W.alloc (.cells #[.bool z.b,.slice z.p z.k z.c,.slice z.q z.j z.d] 74)):=zam _ _;exact⟨qgg W z,Own.later hr (aD.mono hr.1),Own.later hg (aD.mono hg.1),hx.later aD,hz.later aD,hb.trans (aD.mono hb.size)⟩
def qnv(q:Rat):Rat:=((100:Int):Rat)-q
theorem qza(s:BA)(w:World)(hg:GW w)(hs:s.size≤1073741824)(hc:qaa s.data.toList=0)(h0:0≤sgn (qav s.data.toList))(h1:0<sgn (qnv (qav s.data.toList))):
  Calls Tryz.prog 64 #[.string s] w fun e w'=>(∃z:NV,e = .returned (.tuple #[.agg #[.bool z.b,.slice z.p z.k z.c,.slice z.q z.j z.d],.int .i64 0])∧qaj w' (.agg #[.bool z.b,.slice z.p z.k z.c,.slice z.q z.j z.d]) (qnv (qav s.data.toList)))∧Below w.heap.size w w':=by
 have aD:Below w.heap.size w (w.alloc (.cells #[.bool false,.slice none 0 0,.slice none 0 0] 74)):=zam _ _;have eI:=hid aD;have oR:=hid (qgg w ⟨false,none,0,0,none,0,0⟩);have cM:=hid (qmd s _ (hg.later aD) hs hc);have bq:=(qib hc).rs;have b1:=(qlp 100 (by omega) (by omega)).rs;have cS:Hid (rs ((100:Int):Rat)+rs (qav s.data.toList)+2≤Cap):=hid (by unfold Cap;omega);clear aD hc hg bq b1;have tS:¬sgn (qav s.data.toList)<0:=by omega
 have dR:¬sgn (qnv (qav s.data.toList))≤0:=by omega
 clear h0 h1;generalize qav s.data.toList=q at *;go_enter Tryz.func64,Tryz.ntmps64;go_wp2_with fail;refine cM.out.mono ?_;rintro e w1 ⟨⟨v,rfl,hv⟩,hb⟩;obtain⟨x,rfl⟩:=hv.nv;have bT:Below w1.heap.size w1 (w1.alloc (.cells #[.bool x.b,.slice x.p x.k x.c,.slice x.q x.j x.d] 74)):=zam _ _;have aT:=hb.trans (bT.mono hb.size);have HB:=hid (eI.out.trans (aT.mono eI.out.size));have HR:=hid (oR.out.later (aT.mono oR.out.1));have HX:=hid (hv.later bT);have HW:=hid (qgg w1 x);clear hv hb bT aT cM;go_wp2_with fail;have dO:Hid (Below (w1.alloc (.cells #[.bool x.b,.slice x.p x.k x.c,.slice x.q x.j x.d] 74)).heap.size (w1.alloc (.cells #[.bool x.b,.slice x.p x.k x.c,.slice x.q x.j x.d] 74)) (w1.alloc (.cells #[.bool x.b,.slice x.p x.k x.c,.slice x.q x.j x.d] 74)).drew):=hid ((zan _ _).drew);have dM:(w1.alloc (.cells #[.bool x.b,.slice x.p x.k x.c,.slice x.q x.j x.d] 74)).heap.size=w1.heap.size+1:=zao _ _;have zQ:=hid dM;clear dM;generalize w1.alloc (.cells #[.bool x.b,.slice x.p x.k x.c,.slice x.q x.j x.d] 74)=w2 at *;have e0:w2.cell? ⟨w1.heap.size,0,none⟩=some (.bool x.b)∧w2.cell? ⟨w1.heap.size,1,none⟩=some (.slice x.p x.k x.c)∧w2.cell? ⟨w1.heap.size,2,none⟩=some (.slice x.q x.j x.d):=(One.cells HW.out).1;have e0d:(w2.alloc (.cells #[.bool false,.slice none 0 0,.slice none 0 0] 74)).drew.cell? ⟨w1.heap.size,0,none⟩=some (.bool x.b)∧(w2.alloc (.cells #[.bool false,.slice none 0 0,.slice none 0 0] 74)).drew.cell? ⟨w1.heap.size,1,none⟩=some (.slice x.p x.k x.c)∧(w2.alloc (.cells #[.bool false,.slice none 0 0,.slice none 0 0] 74)).drew.cell? ⟨w1.heap.size,2,none⟩=some (.slice x.q x.j x.d):=al3 _ e0
 go_region_held3 (fun W=>W.cell? ⟨w1.heap.size,0,none⟩=some (.bool x.b)∧W.cell? ⟨w1.heap.size,1,none⟩=some (.slice x.p x.k x.c)∧W.cell? ⟨w1.heap.size,2,none⟩=some (.slice x.q x.j x.d)) (first|with_reducible exact eA|with_reducible exact eB|with_reducible exact al3 _ eA|with_reducible exact al3 _ eB|with_reducible exact e0d|with_reducible exact al3 _ e0|with_reducible exact st3 eB vI _ _ _|exact e0)
  (first
   | (go_at_call 97;((with_reducible refine(qcn (qsm _ _ _ _ _ (q5k eQ.out (by(first|exact zan _ _|exact zam _ _))) (HX.out.later (by(first|exact bQ.out|exact bQ.out.alloc bQ.out.size _))) cS.out)).mono ?_);rintro e wB ⟨⟨t2,rfl,hn⟩,hb⟩;have cO:Hid (qaj wB (.agg #[.bool t2.b,.slice t2.p t2.k t2.c,.slice t2.q t2.j t2.d]) (qnv q)):=hid hn;have aX:Hid (Below w2.heap.size w2 wB):=(by(first|exact hid (bQ.out.trans (hb.mono bQ.out.size))|exact hid (qrw bQ.out hb)|exact hid (qt1 bQ.out hb)));have eB:wB.cell? ⟨w1.heap.size,0,none⟩=some (.bool x.b)∧wB.cell? ⟨w1.heap.size,1,none⟩=some (.slice x.p x.k x.c)∧wB.cell? ⟨w1.heap.size,2,none⟩=some (.slice x.q x.j x.d):=(One.cells (HW.out.later (aX.out.mono HW.out.1))).1;(first|(have kU:=hid (gC.out.later (hb.mono gC.out.1));have vI:w2.heap.size≠w1.heap.size:=(by have:=zQ.out;omega);obtain⟨⟨n0,n1,n2⟩,f0,f1,f2⟩:=One.cells kU.out)|(have kU:Hid (One wB wA.heap.size ⟨false,none,0,0,none,0,0⟩):=(by first|exact hid (q6s hb)|exact hid (q2m hb));have vI:wA.heap.size≠w1.heap.size:=(by have:=zQ.out;have:=bQ.out.size;omega);obtain⟨⟨n0,n1,n2⟩,f0,f1,f2⟩:=One.cells kU.out)|skip);clear hn hb))
   | (go_at_call 35;((with_reducible refine(qcn (qeq 100 _ (by omega) (by omega))).mono ?_);rintro e wA ⟨⟨t1,rfl,hn⟩,hb⟩;have eQ:=hid hn;have bQ:Hid (Below w2.heap.size w2 wA):=(by(first|exact hid (dO.out.trans hb)|exact hid (qrw (zan _ _) hb)|exact hid (qt1 (zan _ _) hb)|exact hid (qrw dO.out hb)));have eA:wA.cell? ⟨w1.heap.size,0,none⟩=some (.bool x.b)∧wA.cell? ⟨w1.heap.size,1,none⟩=some (.slice x.p x.k x.c)∧wA.cell? ⟨w1.heap.size,2,none⟩=some (.slice x.q x.j x.d):=(One.cells (HW.out.later (bQ.out.mono HW.out.1))).1;(first|have gC:Hid (One wA w2.heap.size ⟨false,none,0,0,none,0,0⟩):=hid (q6s hb)|have gC:Hid (One wA w2.heap.size ⟨false,none,0,0,none,0,0⟩):=hid (q2m hb)|skip);clear hn hb)))
 all_goals first
  | (have HM:=hid (qt2 (n:=wA.heap.size) (z:=t2) (w:=w) kU.out (HR.out.later (aX.out.mono HR.out.1)) (HW.out.later (aX.out.mono HW.out.1)) (HX.out.later aX.out) cO.out (HB.out.trans (aX.out.mono HB.out.size)) (by have:=HR.out.1;have:=bQ.out.size;omega) (Ne.symm vI) (by have:=HB.out.size;have:=bQ.out.size;omega));generalize ((wB.setCell ⟨wA.heap.size,0,none⟩ (.bool t2.b)).setCell ⟨wA.heap.size,1,none⟩ (.slice t2.p t2.k t2.c)).setCell ⟨wA.heap.size,2,none⟩ (.slice t2.q t2.j t2.d)=w5 at *;generalize wA.heap.size=n5 at *)
  | (have HM:=hid (qt2 (n:=w2.heap.size) (m:=⟨false,none,0,0,none,0,0⟩) (z:=t2) (w:=w) kU.out (HR.out.later (aX.out.mono HR.out.1)) (HW.out.later (aX.out.mono HW.out.1)) (HX.out.later aX.out) cO.out (HB.out.trans (aX.out.mono HB.out.size)) (by have:=HR.out.1;omega) (Ne.symm vI) (by have:=HB.out.size;omega));generalize ((wB.setCell ⟨w2.heap.size,0,none⟩ (.bool t2.b)).setCell ⟨w2.heap.size,1,none⟩ (.slice t2.p t2.k t2.c)).setCell ⟨w2.heap.size,2,none⟩ (.slice t2.q t2.j t2.d)=w5 at *;generalize w2.heap.size=n5 at *)
  | (have HM:=hid (q2n (w:=w) (HR.out.later (aX.out.mono HR.out.1)) (HW.out.later (aX.out.mono HW.out.1)) (HX.out.later aX.out) cO.out (HB.out.trans (aX.out.mono HB.out.size)));generalize wB.alloc (.cells #[.bool t2.b,.slice t2.p t2.k t2.c,.slice t2.q t2.j t2.d] 74)=w5 at *;generalize wB.heap.size=n5 at *)
 all_goals
  clear e0 e0d eA eB dO HX HW HR eI oR bQ aX eQ cO
  try clear gC
  try clear kU n0 n1 n2 f0 f1 f2 vI
  obtain⟨⟨m0,m1,m2⟩,_⟩:=One.cells HM.out.1;obtain⟨⟨x0,x1,x2⟩,_⟩:=One.cells HM.out.2.2.1;have eH:=hid (qdl _ _ _ HM.out.2.2.2.1);go_wp2_with fail;refine eH.out.mono ?_;rintro e w6 ⟨rfl,hb⟩;have Ia:=hid (HM.out.later hb);clear m0 m1 m2 x0 x1 x2 hb HM eH;obtain⟨⟨m0,m1,m2⟩,_⟩:=One.cells Ia.out.1;have dE:=hid (qdl _ _ _ Ia.out.2.2.2.2.1);go_wp2_with fail;refine dE.out.mono ?_;rintro e w7 ⟨rfl,hb⟩;have Ux:=hid (Ia.out.later hb);clear m0 m1 m2 hb Ia dE;obtain⟨⟨m0,m1,m2⟩,_⟩:=One.cells Ux.out.1;obtain⟨⟨r0,r1,r2⟩,g0,g1,g2⟩:=One.cells Ux.out.2.1;have HP:=hid (One.put (x:=t2) Ux.out.2.1);go_wp2_with fail;refine bodyPost_ret (v := .tuple #[.agg #[.bool t2.b,.slice t2.p t2.k t2.c,.slice t2.q t2.j t2.d],.int .i64 0]) ?_ rfl ?_
  ·simp[results,Tryz.results64,go_sem,r0,r1,r2]
  ·exact⟨⟨t2,rfl,HP.out.2.1 _ _ Ux.out.2.2.2.2.1⟩,HP.out.2.2.1 _ _ (zap _) Ux.out.2.2.2.2.2⟩
theorem qzb(l:List BA)(b o c:Nat)(w:World)(hg:GW w)(aB:∀i s,l[i]? = some s→w.cell? ⟨b,o+i,none⟩=some (.string s))(hl:l.length≤1048576)(hs:∀s ∈ l,s.size≤1073741824∧qaa s.data.toList=0∧0≤sgn ((qav s.data.toList))∧0<sgn (qnv (qav s.data.toList))):
  Calls Tryz.prog 63 #[.slice (some ⟨b,o,none⟩) l.length c,.func (.func 64) #[] #[]] w
   (fun e w'=>(∃g,w.heap.size≤g∧e = .returned (.tuple #[.slice (some ⟨g,0,none⟩) l.length l.length,.int .i64 0])∧qjm w' g l.length (l.map fun s=>qnv (qav s.data.toList)))∧Below w.heap.size w w'):=by
 have HG:=hid hg;have bN:=hid aB;have HS:=hid hs;have lS:=qor l.length hl;obtain⟨i0,hi,cT,dT,dU⟩:=info_parts (show(Tryz.prog.info? 74).map (fun i=>(i.zero,i.size,i.bytes))=some (some (.agg #[.bool false,.slice none 0 0,.slice none 0 0]),3,56) by kernel_rfl);have HI:=hid hi;clear hg aB hs hi cT dU;go_enter Tryz.func63,Tryz.ntmps63;go_wp2_with fail;clear lS;have gE:=hid (qme w l.length);have eY:Hid (Below w.heap.size w (w.alloc (.cells (madeCells #[.bool false,.slice none 0 0,.slice none 0 0] (l.length*3)) 74))):=hid (zam _ _);generalize w.alloc (.cells (madeCells #[.bool false,.slice none 0 0,.slice none 0 0] (l.length*3)) 74)=w0 at *
 go_loopw [6,16] (fun r i wr=>∃k:Nat,k≤l.length∧i = .int .i64 k∧r = .slice (some ⟨w.heap.size,0,none⟩) k l.length∧Hid (qjm wr w.heap.size l.length ((l.take k).map fun s=>qnv (qav s.data.toList)))∧Hid (Below w.heap.size w wr)) (fun _ i _=>l.length-(intOf i).toNat)
 case atStart=>exact⟨0,Nat.zero_le _,rfl,rfl,gE,eY⟩
 case round=>
  obtain⟨k,hk,rfl,rfl,HN,HB⟩:=hrel;clear gE eY;by_cases cV:k<l.length
  ·obtain⟨s,eL⟩:∃s,l[k]? = some s:=⟨l[k],zau cV⟩
   have jU:=bN.out k s eL
   have aC:wr.cell? ⟨b,o+k,none⟩=some (.string s):=by
    rw[HB.out.cell (zaq w _ jU)];exact jU
   obtain⟨eW,jF,lH,hs4⟩:=HS.out s (zax eL);have fG:=hid (qza s wr (HG.out.later HB.out) eW jF lH hs4);have pI:=hid eL;clear jU eL eW jF lH hs4
   ·skip
    go_wp2_with fail;refine fG.out.mono ?_;rintro e w1 ⟨⟨x,rfl,hv⟩,hb⟩;obtain⟨sg,p1,k1,c1,p2,k2,c2⟩:=x
    have jQ:((l.take k).map fun s=>qnv (qav s.data.toList))++[qnv (qav s.data.toList)]=(l.take (k+1)).map fun s=>qnv (qav s.data.toList):=by
     rw[qcm pI.out,List.map_append];rfl
    have yT:=hid jQ;have jB:((l.take k).map fun s=>qnv (qav s.data.toList)).length=k:=by rw[List.length_map,List.length_take];omega
    have cX:=hid (HN.out.later hb);have eQ:=hid hv;have aQ:=hid (HB.out.trans (hb.mono HB.out.size));clear jQ hv hb HN HB fG aC;generalize qnv (qav s.data.toList)=q at *;generalize ((l.take k).map fun s=>qnv (qav s.data.toList))=qs at *;obtain⟨aD,iB⟩:=qu2 w1 sg (.slice p1 k1 c1) (.slice p2 k2 c2);have fM:=hid (cX.out.later aD);have cO:=hid (eQ.out.later aD);have kJ:w.heap.size≤w1.heap.size:=aQ.out.size;have aR:=hid (aQ.out.trans (aD.mono kJ));obtain⟨x0,x1,x2⟩:=qbe iB;have bT:Below (w1.alloc (.cells #[.bool sg,.slice p1 k1 c1,.slice p2 k2 c2] 74)).heap.size (w1.alloc (.cells #[.bool sg,.slice p1 k1 c1,.slice p2 k2 c2] 74)) ((w1.alloc (.cells #[.bool sg,.slice p1 k1 c1,.slice p2 k2 c2] 74)).alloc (.cells #[.bool sg,.slice p1 k1 c1,.slice p2 k2 c2] 74)):=zam _ _;obtain⟨cur,eJ,bZ,cK,bM⟩:=(fM.out.later bT).push (by rw[jB];exact cV) (cO.out.later bT);have jI:=heap_alloc_new (w1.alloc (.cells #[.bool sg,.slice p1 k1 c1,.slice p2 k2 c2] 74)) (.cells #[.bool sg,.slice p1 k1 c1,.slice p2 k2 c2] 74);rw[zao] at jI;rw[jB] at bZ cK bM;simp only[List.append_assoc,List.cons_append,List.nil_append] at cK bM;have cH:=hid cK;have aH:=hid (aR.out.trans ((bT.mono (by rw[zao];omega)).trans (bM w.heap.size (zap _))));have lB:=hid eJ;have kU:=hid jI;have dQ:=hid bZ;clear aD iB bT kJ eJ bZ cK bM jI cX eQ aQ fM cO aR jB;go_wp2_with (at_builtin;refine qbi _ rfl _ _ 112 rfl 74 i0 3 Tryz.underlying112 HI.out dT w.heap.size k l.length cur rfl lB.out ⟨w1.heap.size+1,0,none⟩ 1 1 [.bool sg,.slice p1 k1 c1,.slice p2 k2 c2] rfl rfl (World.news_of_block kU.out) ?mT (by omega) dQ.out ?_)
    case mT=>
     intro u hu;simp only[List.mem_cons,List.not_mem_nil,or_false] at hu;rcases hu with rfl|rfl|rfl<;>rfl
    clear x0 x1 x2;go_wp2_with fail;go_roundw
    case rel=>exact⟨k+1,cV,by go_num,rfl,hid (by rw[←yT.out];exact cH.out),aH⟩
    case measure=>simp[intOf];omega
  ·obtain rfl:k=l.length:=by omega
   have hN:=HN.out;rw[List.take_length] at hN;have HN':=hid hN;clear hN HN;go_wp2_with fail;go_ret2;exact⟨⟨w.heap.size,zap _,rfl,HN'.out⟩,HB.out⟩
def q8q(ms:Int)(a b:BA):Rat:=((ms:Int):Rat)*qnv (qav a.data.toList)/qnv (qav b.data.toList)
def q2o(s:BA):Prop:=s.size≤1073741824∧qaa s.data.toList=0∧0≤sgn (qav s.data.toList)∧0<sgn (qnv (qav s.data.toList))
theorem q9s{q:Rat}(h:0<sgn q):q.num≠0:=by
 intro h0;unfold sgn at h;rw[h0] at h;exact absurd h (by decide)
theorem q5l(ms:Int)(a b:BA)(w:World)(hg:GW w)(h0:0≤ms)(h1:ms≤999999999)(ha:q2o a)(hb:q2o b):
  Calls Tryz.prog 25 #[.int .i64 ms,.string a,.string b] w fun e w'=>e = .returned (.tuple #[.string (qcw (q8q ms a b)),.int .i64 (qfa (q8q ms a b):Nat)])∧Below w.heap.size w w':=by
 have aD:Below w.heap.size w (w.alloc (.cells #[.string a,.string b] 26)):=zam _ _;have eI:=hid aD
 have On:=hid (qzb [a,b] w.heap.size 0 2 (w.alloc (.cells #[.string a,.string b] 26)) (hg.later aD) (fun i s hi=>by
  match i,hi with
  | 0,hi=>cases hi;simp
  | 1,hi=>cases hi;simp) (by show 2≤1048576;omega) (fun s hs=>by
  simp only[List.mem_cons,List.not_mem_nil,or_false] at hs;rcases hs with rfl|rfl
  ·exact ha
  ·exact hb))
 have bm:=qlp ms h0 h1;have ba:=q0o (qlp 100 (by omega) (by omega)) (qib ha.2.1);have bb:=q0o (qlp 100 (by omega) (by omega)) (qib hb.2.1)
 have cS:Hid (rs ((ms:Int):Rat)+rs (qnv (qav a.data.toList))≤Cap∧rs (((ms:Int):Rat)*qnv (qav a.data.toList))+rs (qnv (qav b.data.toList))≤Cap∧rs (q8q ms a b)≤Cap):=hid (by
  have a1:=bm.rs;have a2:=ba.rs;have a3:=bb.rs;have a4:=(qex bm ba).rs;have a5:=(qmy (qex bm ba) bb).rs
  unfold q8q qnv Cap;omega)
 have Kp:=hid (q9s hb.2.2.2);have tS:¬ms<0:=by omega
 have dR:¬999999999<ms:=by omega
 have HWQ:Hid (q8q ms a b=((ms:Int):Rat)*qnv (qav a.data.toList)/qnv (qav b.data.toList)):=hid rfl;have gI : -9223372036854775808≤ms∧ms≤9223372036854775807:=by omega
 have hJ:=hid gI;clear gI aD ha hb hg bm ba bb;simp only[List.map_cons,List.map_nil,List.length_cons,List.length_nil,Nat.zero_add,Nat.reduceAdd] at On;generalize q8q ms a b=wq at *;generalize qnv (qav a.data.toList)=da at *;generalize qnv (qav b.data.toList)=db at *;go_enter Tryz.func25,Tryz.ntmps25;go_wp2_with fail;refine On.out.mono ?_;rintro e w1 ⟨⟨g,hgg,rfl,hn⟩,hb⟩;have HB:=hid (eI.out.trans (hb.mono eI.out.size));obtain⟨x,⟨e0,e1,e2⟩,hx⟩:=(qjm.at hn).nv 0 da rfl;obtain⟨y,⟨e3,e4,e5⟩,hy⟩:=(qjm.at hn).nv 1 db rfl;simp only[Nat.zero_mul,Nat.zero_add,Nat.one_mul,Nat.reduceAdd] at e0 e1 e2 e3 e4 e5;have sG:Hid (qaj w1 (.agg #[.bool x.b,.slice x.p x.k x.c,.slice x.q x.j x.d]) da∧qaj w1 (.agg #[.bool y.b,.slice y.p y.k y.c,.slice y.q y.j y.d]) db):=hid ⟨hx,hy⟩;have eZ:w1.cell? ⟨g,0,none⟩=some (.bool x.b)∧w1.cell? ⟨g,1,none⟩=some (.slice x.p x.k x.c)∧w1.cell? ⟨g,2,none⟩=some (.slice x.q x.j x.d)∧w1.cell? ⟨g,3,none⟩=some (.bool y.b)∧w1.cell? ⟨g,4,none⟩=some (.slice y.p y.k y.c)∧w1.cell? ⟨g,5,none⟩=some (.slice y.q y.j y.d):=⟨e0,e1,e2,e3,e4,e5⟩
 have HC:Hid (∀W,Below w1.heap.size w1 W→W.cell? ⟨g,0,none⟩=some (.bool x.b)∧W.cell? ⟨g,1,none⟩=some (.slice x.p x.k x.c)∧W.cell? ⟨g,2,none⟩=some (.slice x.q x.j x.d)∧W.cell? ⟨g,3,none⟩=some (.bool y.b)∧W.cell? ⟨g,4,none⟩=some (.slice y.p y.k y.c)∧W.cell? ⟨g,5,none⟩=some (.slice y.q y.j y.d)):=hid fun W hW=>by
  obtain⟨h0,h1,h2,h3,h4,h5⟩:=eZ;refine⟨?_, ?_, ?_, ?_, ?_, ?_⟩
  ·rw[hW.cell (zaq w1 _ h0)];exact h0
  ·rw[hW.cell (zaq w1 _ h1)];exact h1
  ·rw[hW.cell (zaq w1 _ h2)];exact h2
  ·rw[hW.cell (zaq w1 _ h3)];exact h3
  ·rw[hW.cell (zaq w1 _ h4)];exact h4
  ·rw[hW.cell (zaq w1 _ h5)];exact h5
 clear hx hy hn hgg hb On e0 e1 e2 e3 e4 e5;go_wp2_with fail;have dO:Hid (Below w1.heap.size w1 w1.drew):=hid ((zan _ _).drew)
 go_region_held3 (fun W=>W.cell? ⟨g,0,none⟩=some (.bool x.b)∧W.cell? ⟨g,1,none⟩=some (.slice x.p x.k x.c)∧W.cell? ⟨g,2,none⟩=some (.slice x.q x.j x.d)∧W.cell? ⟨g,3,none⟩=some (.bool y.b)∧W.cell? ⟨g,4,none⟩=some (.slice y.p y.k y.c)∧W.cell? ⟨g,5,none⟩=some (.slice y.q y.j y.d)) (first|with_reducible exact eA|with_reducible exact eB|with_reducible exact eC|with_reducible exact eD|exact eZ)
  (first
   | (go_at_call 35;((with_reducible refine(qcn (qeq ms _ hJ.out.1 hJ.out.2)).mono ?_);rintro e wA ⟨⟨t1,rfl,hn⟩,hb⟩;have eQ:=hid hn;have bQ:Hid (Below w1.heap.size w1 wA):=hid (dO.out.trans hb);have eA:=HC.out _ bQ.out;clear hn hb))
   | (go_at_call 37;((with_reducible refine(qcn (qdx _ _ _ _ wA eQ.out (sG.out.1.later bQ.out) cS.out.1)).mono ?_);rintro e wB ⟨⟨t2,rfl,hn⟩,hb⟩;have cO:=hid hn;have aX:=hid (bQ.out.trans (hb.mono bQ.out.size));have eB:=HC.out _ aX.out;clear hn hb))
   | (go_at_call 38;((with_reducible refine(qcn (qff _ _ _ _ wB cO.out (sG.out.2.later aX.out) Kp.out cS.out.2.1)).mono ?_);rintro e wC ⟨⟨t3,rfl,hn⟩,hb⟩;rw[←HWQ.out] at hn;have kC:=hid hn;have dY:=hid (aX.out.trans (hb.mono aX.out.size));have eC:=HC.out _ dY.out;clear hn hb))
   | (go_at_call 50;((with_reducible refine(qiv _ _ wC kC.out cS.out.2.2).mono ?_);rintro e wD h;obtain⟨rfl,hb⟩:=qmj h;have eE:=hid (dY.out.trans (hb.mono dY.out.size));have eD:=HC.out _ eE.out;clear hb h)))
 all_goals
  go_wp2_with fail;go_ret2;exact⟨rfl,HB.out.trans (eE.out.mono HB.out.size)⟩
end Go.Proofs.YtclimablgihlhaaGreatDoor
