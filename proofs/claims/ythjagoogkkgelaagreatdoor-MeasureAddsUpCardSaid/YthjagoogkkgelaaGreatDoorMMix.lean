/- Mix, where it has no error. -/
import Derived.Test.YthjagoogkkgelaaGreatDoorMMassesOf
import Derived.BigQuiet
import Derived.Test.YthjagoogkkgelaaGreatDoorMMean
import Derived.Test.YthjagoogkkgelaaGreatDoorMRounded
import Derived.Test.YthjagoogkkgelaaGreatDoorMSpans
import Derived.Test.YthjagoogkkgelaaGreatDoorMEachLayer
set_option linter.all false
namespace Go.Proofs.YthjagoogkkgelaaGreatDoor
open Go.RowKit
set_option maxRecDepth 100000
set_option maxHeartbeats 16000000
def ql6(D:List (ByteArray × Rat))(k:ByteArray):Rat:=((D.find? fun p=>k==p.1).map (·.2)).getD 0
theorem q0e(E:Ent)(k:ByteArray):qk7 E k=ql6 (qki E) k:=by
 unfold qk7 ql6 qki;rw[List.find?_map,Option.map_map];rfl
theorem q6t{D:List (ByteArray × Rat)}{k:ByteArray}{d:Rat}{N:Nat}(h:∀p ∈ D,p.1.size≤N)(hk:k.size≤N):∀p ∈ q24 D k d,p.1.size≤N:=by
 intro p hp;unfold q24 at hp;split at hp
 ·rw[List.mem_map] at hp
  obtain⟨q,hq,rfl⟩:=hp;split
  ·exact h q hq
  ·exact h q hq
 ·rw[List.mem_append,List.mem_singleton] at hp
  rcases hp with hp|rfl
  ·exact h p hp
  ·exact hk
theorem q9m{D:List (ByteArray × Rat)}{k:ByteArray}{d:Rat}:q24 D k d≠[]:=by
 unfold q24;split
 ·rename_i h
  intro h2;rw[List.map_eq_nil_iff] at h2;subst h2;cases h
 ·simp
theorem qwn{m:Int}{N:Nat}(ss:List (ByteArray × ByteArray)):∀ {D:List (ByteArray × Rat)},(∀p ∈ D,p.1.size≤N)→(∀s ∈ ss,s.1.size≤N)→∀p ∈ qf1 m D ss,p.1.size≤N:=by
 induction ss with
 | nil=>intro D h _;exact h
 | cons s ss ih=>
  intro D h hs;exact ih (D:=q24 D s.1 (qkh s*((m:Int):Rat))) (q6t h (hs s (List.mem_cons_self ..))) (fun t ht=>hs t (List.mem_cons_of_mem _ ht))
theorem q0f{m:Int}(ss:List (ByteArray × ByteArray)):∀ {D:List (ByteArray × Rat)},(D≠[]∨ss≠[])→qf1 m D ss≠[]:=by
 induction ss with
 | nil=>intro D h;exact h.resolve_right (fun h=>h rfl)
 | cons s ss ih=>intro D _;exact ih (D:=q24 D s.1 (qkh s*((m:Int):Rat))) (.inl q9m)
theorem q27{N:Nat}(l:List Lay)(h:∀x ∈ l,∀s ∈ x.shares,s.1.size≤N):∀p ∈ qfs l,p.1.size≤N:=by
 induction l using qg7 with
 | h0=>intro p hp;cases hp
 | h1 l x ih=>
  rw[qne];exact qwn _ (ih fun y hy=>h y (List.mem_append_left _ hy)) (h x (by simp))
theorem q6u(l:List Lay)(hl:l≠[])(h:∀x ∈ l,x.shares≠[]):qfs l≠[]:=by
 induction l using qg7 with
 | h0=>exact absurd rfl hl
 | h1 l x ih=>
  rw[qne];exact q0f _ (.inr (h x (by simp)))
theorem qnx{α:Type}(f:α→Nat)(l:List α)(h:∀x ∈ l,f x=0):qac (l.map f)=0:=by
 induction l with
 | nil=>rfl
 | cons a l ih=>
  show(if f a=0 then qac (l.map f) else f a)=0;rw[if_pos (h a (List.mem_cons_self ..))];exact ih fun x hx=>h x (List.mem_cons_of_mem _ hx)
def qca(l:List Lay):Int:=l.foldl (fun a x=>a+x.mass) 0
theorem qny(l:List Lay)(x:Lay):qca (l++[x])=qca l+x.mass:=by unfold qca;rw[List.foldl_append];rfl
theorem qre(l:List Lay)(h:∀x ∈ l,qdm x=0):(l.length:Int)≤qca l∧qca l≤999999999*(l.length:Int):=by
 induction l using qg7 with
 | h0=>exact⟨Int.le_refl _,Int.le_refl _⟩
 | h1 l x ih=>
  rw[qny,List.length_append,List.length_singleton];obtain⟨h1,h2⟩:=ih fun y hy=>h y (List.mem_append_left _ hy);obtain⟨h3,h4,_⟩:=qha (h x (by simp));omega
def q9n(l:List Lay)(g0:ByteArray)(w:World)(e:Ending)(w':World):Prop:=
 ∃(ss:List (List UInt8)) (g:Nat),ss.Perm ((qfs l).map fun p=>p.1.data.toList)∧w.heap.size≤g∧
  e = .returned (.tuple #[.agg #[.string g0,.int .i64 (qca l),.slice (some ⟨g,0,none⟩) (qcj ss).length (qcj ss).length],.int .i64 0])∧
  qdb shK w' g (qcj ss).length ((qcj ss).map fun s=>(s,qc8 (ql6 (qfs l) s/((qca l:Int):Rat))))∧Below w.heap.size w w'
theorem qpx{l:List Lay}{b o c:Nat}{w:World}(hg:GW w)(hrow:qfk w b o l)(hl:l.length≤64)(hs:∀x ∈ l,∀s ∈ x.shares,s.2.size≤1073741824)(hok:∀x ∈ l,qdm x=0):
  Calls Tryz.prog 62 #[.slice (some ⟨b,o,none⟩) l.length c,.func (.func 63) #[] #[]] w fun e w'=>(∃g,w.heap.size≤g∧e = .returned (.tuple #[.slice (some ⟨g,0,none⟩) l.length l.length,.int .i64 0])∧qdb q5e w' g l.length (l.map qrb))∧Below w.heap.size w w':=
 (qz3 l b o c w hg hrow (by omega) hs).mono fun e w' h=>by
  unfold qjh at h;rw[if_pos (qnx qdm l hok),List.length_map] at h;exact h
theorem q6v{W:World}{g g' cap:Nat}{l:List (ByteArray × ByteArray)}(h:qdb shK W g cap l)(hne:g≠g')(x y z:Value):qdb shK (((W.setCell ⟨g',0,none⟩ x).setCell ⟨g',1,none⟩ y).setCell ⟨g',2,none⟩ z) g cap l:=by
 obtain⟨h1,cur,hg,h2,h3,h4⟩:=h;exact⟨h1,cur,qem.other3 (W:=W) (g:=g) (cs:=cur) (t:=shK.ty) hg hne x y z,h2,h3,h4⟩
theorem q6w(l:List Lay)(g0:ByteArray)(b o c:Nat)(w:World)(hg:GW w)(hrow:qfk w b o l)(hl1:1≤l.length)(hl:l.length≤64)(_hc:c≤maxLen)
  (hs:∀x ∈ l,∀s ∈ x.shares,s.1.size≤1073741824∧s.2.size≤1073741824) (hok:∀x ∈ l,qdm x=0) (hgr:∀x ∈ l,x.grain=g0) (hsum:qca l≤999999999)
  (hlots:(qfs l).length≤64) (hfit:∀s,qfj (ql6 (qfs l) s/((qca l:Int):Rat))=0):
  Calls Tryz.prog 27 #[.slice (some ⟨b,o,none⟩) l.length c] w (q9n l g0 w):=by
 have hal:Below w.heap.size w (w.alloc (.cells #[.string ⟨#[]⟩,.int .i64 0,.slice none 0 0] 64)):=(Below.refl _ _).alloc (Nat.le_refl _) _;have HAL:=hid hal;have HO:=hid (qe5 w 64 (.string ⟨#[]⟩) (.int .i64 0) (.slice none 0 0));have HEL:=hid (qpx (c:=c) (hg.later hal) (hrow.later hal) hl (fun x hx s hs'=>(hs x hx s hs').2) hok);have HROW:=hid hrow;obtain⟨hm1,hm2⟩:=qre l hok;have HOK:=hid hok;have HGR:=hid hgr;have HMO:Hid (∀W g,Below w.heap.size w W→qdb q5e W g l.length (l.map qrb)→Calls Tryz.prog 65 #[.slice (some ⟨b,o,none⟩) l.length c,.slice (some ⟨g,0,none⟩) l.length l.length] W fun e w'=>(∃E,e = .returned (.map (some W.heap.size))∧qiw w' W.heap.size E∧qki E=qfs l∧∀e ∈ E,bd e.2.2 (602*64*64+1))∧Below W.heap.size W w'):=hid fun W g hW hr=>qug l b o c g W (hrow.later hW) hl hok hr
 have HSO:Hid (∀W E r,qki E=qfs l→qiw W r E→(∀e ∈ E,bd e.2.2 (602*64*64+1))→Calls Tryz.prog 64 #[.map (some r),.int .i64 (qca l)] W fun e w'=>∃(ss:List (List UInt8)) (g:Nat),ss.Perm ((qfs l).map fun p=>p.1.data.toList)∧W.heap.size≤g∧e = .returned (.tuple #[.slice (some ⟨g,0,none⟩) (qcj ss).length (qcj ss).length,.int .i64 0])∧qdb shK w' g (qcj ss).length ((qcj ss).map fun s=>(s,qc8 (ql6 (qfs l) s/((qca l:Int):Rat))))∧Below W.heap.size W w'):=hid fun W E r hd hN hb=>by
  have hkeys:=q27 l (N:=1073741824) fun x hx s hs'=>(hs x hx s hs').1
  have hne:=q6u l (by rintro rfl;exact absurd hl1 (by decide)) fun x hx h=>by
   have:=(qha (hok x hx)).2.2.1;rw[h] at this;exact absurd this (by decide)
  rw[←hd] at hkeys hne hlots;have hEl:E.length≤64:=by unfold qki at hlots;rwa [List.length_map] at hlots
  refine(quh r E (qca l) W hN (by rintro rfl;exact hne rfl) (fun e he => ?_) (by omega) hsum hb).mono fun e w' h => ?_
  ·have:=hkeys (e.1,e.2.2) (by unfold qki;exact List.mem_map_of_mem (f:=fun e:ByteArray × NV × Rat=>(e.1,e.2.2)) he)
   exact Nat.le_trans this (by decide)
  ·unfold q0b at h
   rw[if_neg (by omega)] at h;obtain⟨ss,hp,h⟩:=h;have hq:∀s,qol E (qca l) s=ql6 (qfs l) s/((qca l:Int):Rat):=fun s=>by unfold qol;rw[q0e,hd]
   unfold qjh at h;simp only[hq] at h;rw[if_pos (qnx _ _ fun s _=>hfit s),List.length_map] at h;obtain⟨⟨g,h1,h2,h3⟩,h4⟩:=h;refine⟨ss,g, ?_,h1,h2,h3,h4⟩;rw[←hd];unfold qki;rw[List.map_map];exact hp
 have hb0:((l.length:Int)==0)=false:=beq_eq_false_iff_ne.2 (by omega);have HLZ:=hid hl1;clear hg hrow hs hok hgr hlots hfit hal;go_enter Tryz.func27,Tryz.ntmps27;go_wp2_with fail;refine HEL.out.mono ?_;rintro e w1 ⟨⟨gp,hgp,rfl,hr⟩,hb⟩;have HR:=hid hr;have HB:=hid (HAL.out.trans (hb.mono HAL.out.size));have HO1:=hid (HO.out.later (hb.mono HO.out.1));clear hr hb HEL HO;go_wp2_with fail
 go_loopw [6,29] (fun a i wr=>∃k:Nat,k≤l.length∧i = .int .i64 k∧a = .int .i64 (qca (l.take k))∧Hid (Below w1.heap.size w1 wr)) (fun _ i _=>l.length-(intOf i).toNat)
 case atStart=>exact⟨0,Nat.zero_le _,rfl,rfl,hid (Below.refl _ _)⟩
 case round=>
  obtain⟨k,hk,rfl,rfl,HBW⟩:=hrel;by_cases hkl:k<l.length
  ·obtain⟨x,hsk⟩:∃x,l[k]? = some x:=⟨l[k],List.getElem?_eq_getElem hkl⟩
   obtain⟨y,hy⟩:∃y,l[0]? = some y:=⟨l[0]'(by omega),List.getElem?_eq_getElem _⟩;obtain⟨e0,e1,p,cc,e2,_⟩:=HROW.out k x hsk;obtain⟨f0,_⟩:=HROW.out 0 y hy;rw[HGR.out x (List.mem_of_getElem? hsk)] at e0;rw[HGR.out y (List.mem_of_getElem? hy)] at f0;have hbw:=HB.out.trans (HBW.out.mono HB.out.size);have c0:wr.cell? ⟨b,o+k*3,none⟩=some (.string g0):=by rw[hbw.cell (World.block_lt_of_cell? w _ e0)];exact e0
   have c1:wr.cell? ⟨b,o+k*3+1,none⟩=some (.int .i64 x.mass):=by rw[hbw.cell (World.block_lt_of_cell? w _ e1)];exact e1
   have c2:wr.cell? ⟨b,o+k*3+2,none⟩=some (.slice p x.shares.length cc):=by rw[hbw.cell (World.block_lt_of_cell? w _ e2)];exact e2
   have hal:Below wr.heap.size wr (wr.alloc (.cells #[.string g0,.int .i64 x.mass,.slice p x.shares.length cc] 64)):=(Below.refl _ _).alloc (Nat.le_refl _) _
   have d0:(wr.alloc (.cells #[.string g0,.int .i64 x.mass,.slice p x.shares.length cc] 64)).cell? ⟨b,o,none⟩=some (.string g0):=by
    have h1:=(hbw.trans (hal.mono hbw.size)).cell (World.block_lt_of_cell? w _ f0);rw[f0] at h1
    simpa using h1
   have ho:=qe5 wr 64 (.string g0) (.int .i64 x.mass) (.slice p x.shares.length cc);obtain⟨a0,_⟩:=ho.2 0 (by omega);obtain⟨a1,_⟩:=ho.2 1 (by omega);simp only[qh1,if_pos,Nat.one_ne_zero] at a0 a1;obtain⟨hx0,hx1,_⟩:=qha (HOK.out x (List.mem_of_getElem? hsk));obtain⟨hs0,hs1⟩:=qre (l.take k) fun z hz=>HOK.out z (List.mem_of_mem_take hz);have hlt:(l.take k).length≤64:=Nat.le_trans (List.length_take_le' ..) hl;have HTK:Hid (qca (l.take (k+1))=qca (l.take k)+x.mass):=hid (by rw[qb9 hsk,qny]);have HBW2:=hid (HBW.out.trans (hal.mono HBW.out.size));clear e0 e1 e2 f0 hbw hal ho hsk hy HBW;generalize x.mass=mx at *;generalize x.shares.length=nx at *;generalize qca (l.take k)=a at *;go_wp2_with fail
   go_quiet (fail)
   go_wp2_with fail;go_roundw
   case rel=>exact⟨k+1,by omega,by go_num,by rw[HTK.out],hid (below_drewN HBW2.out _)⟩
   case measure=>simp[intOf];omega
  ·obtain rfl:k=l.length:=by omega
   rw[List.take_length];have HBZ:=hid (HB.out.trans (HBW.out.mono HB.out.size));have HRZ:=hid (HR.out.later qj9 HBW.out);have HMC:=hid (HMO.out wr gp HBZ.out HRZ.out);have HOZ:=hid (HO1.out.later (HBW.out.mono HO1.out.1));obtain⟨y,hy⟩:∃y,l[0]? = some y:=⟨l[0]'(by omega),List.getElem?_eq_getElem _⟩;obtain⟨f0,_⟩:=HROW.out 0 y hy;rw[HGR.out y (List.mem_of_getElem? hy),Nat.zero_mul,Nat.add_zero] at f0;have HF0:=hid f0;have hms:¬999999999<qca l:=by omega
   clear hy f0 HMO HBW HO1 HR;go_wp2_with fail;refine HMC.out.mono ?_;rintro e w2 ⟨⟨E,rfl,hN,hD,hbd⟩,hb⟩;have HSC:=hid (HSO.out w2 E _ hD hN hbd);have HB2:=hid (HBZ.out.trans (hb.mono HBZ.out.size));have HO2:=hid (HOZ.out.later (hb.mono HOZ.out.1));clear hN hD hbd hb HMC HSO HBZ HOZ;go_wp2_with fail;refine HSC.out.mono ?_;rintro e w3 ⟨ss,g,hp,hg,rfl,hrow,hb⟩;have HO3:=hid (HO2.out.later (hb.mono HO2.out.1));have HB3:=hid (HB2.out.trans (hb.mono HB2.out.size));have hgn:g≠w.heap.size:=by have:=HB2.out.size;have:=HO2.out.1;omega
   have HGS:Hid (w.heap.size≤g):=hid (Nat.le_trans HB2.out.size hg);have HROW3:=hid hrow;have hf:w3.cell? ⟨b,o,none⟩=some (.string g0):=by rw[HB3.out.cell (World.block_lt_of_cell? w _ HF0.out)];exact HF0.out
   obtain⟨a0,b0⟩:=HO3.out.2 0 (by omega);obtain⟨a1,b1⟩:=HO3.out.2 1 (by omega);obtain⟨a2,b2⟩:=HO3.out.2 2 (by omega);simp only[qh1,if_pos,Nat.one_ne_zero] at a0 a1 a2;have HP:=hid hp;clear hp hg hrow hb HSC;go_wp2_with fail;refine bodyPost_ret (v := .tuple #[.agg #[.string g0,.int .i64 (qca l),.slice (some ⟨g,0,none⟩) (qcj ss).length (qcj ss).length],.int .i64 0]) ?_ rfl ?_
   ·simp[results,Tryz.results27,go_sem,a0,a1,a2]
   ·exact⟨ss,g,HP.out,HGS.out,rfl,q6v HROW3.out hgn _ _ _,((HB3.out.setCell (p:=⟨w.heap.size,0,none⟩) (Nat.le_refl _) _).setCell (p:=⟨w.heap.size,1,none⟩) (Nat.le_refl _) _).setCell (p:=⟨w.heap.size,2,none⟩) (Nat.le_refl _) _⟩
theorem al3{W:World}{g:Nat}{x:NV}(o:Obj)(h:W.cell? ⟨g,0,none⟩=some (.bool x.b)∧W.cell? ⟨g,1,none⟩=some (.slice x.p x.k x.c)∧W.cell? ⟨g,2,none⟩=some (.slice x.q x.j x.d)):(W.alloc o).cell? ⟨g,0,none⟩=some (.bool x.b)∧(W.alloc o).cell? ⟨g,1,none⟩=some (.slice x.p x.k x.c)∧(W.alloc o).cell? ⟨g,2,none⟩=some (.slice x.q x.j x.d):=by
 obtain⟨h0,h1,h2⟩:=h;refine⟨?_, ?_, ?_⟩
 ·rw[((Below.refl _ _).alloc (Nat.le_refl _) o).cell (World.block_lt_of_cell? W _ h0)];exact h0
 ·rw[((Below.refl _ _).alloc (Nat.le_refl _) o).cell (World.block_lt_of_cell? W _ h1)];exact h1
 ·rw[((Below.refl _ _).alloc (Nat.le_refl _) o).cell (World.block_lt_of_cell? W _ h2)];exact h2
theorem st3{W:World}{g g':Nat}{x:NV}(h:W.cell? ⟨g,0,none⟩=some (.bool x.b)∧W.cell? ⟨g,1,none⟩=some (.slice x.p x.k x.c)∧W.cell? ⟨g,2,none⟩=some (.slice x.q x.j x.d))(hne:g'≠g)(a b c:Value):(((W.setCell ⟨g',0,none⟩ a).setCell ⟨g',1,none⟩ b).setCell ⟨g',2,none⟩ c).cell? ⟨g,0,none⟩=some (.bool x.b)∧(((W.setCell ⟨g',0,none⟩ a).setCell ⟨g',1,none⟩ b).setCell ⟨g',2,none⟩ c).cell? ⟨g,1,none⟩=some (.slice x.p x.k x.c)∧(((W.setCell ⟨g',0,none⟩ a).setCell ⟨g',1,none⟩ b).setCell ⟨g',2,none⟩ c).cell? ⟨g,2,none⟩=some (.slice x.q x.j x.d):=by
 have k:∀(V:World) (i o:Nat) (y:Value),(V.setCell ⟨g',i,none⟩ y).cell? ⟨g,o,none⟩=V.cell? ⟨g,o,none⟩:=fun V i o y=>World.cell?_setCell_other _ _ _ _ (by intro e;injection e with e;exact hne e);simp only[k];exact h
theorem qsm{w W W':World}{o:Obj}(h:Below w.heap.size w W)(hb:Below (W.alloc o).heap.size (W.alloc o) W'):Below w.heap.size w W':=
 (h.alloc h.size o).trans (hb.mono (by rw[World.size_alloc];exact Nat.le_succ_of_le h.size))
theorem qui{w W W':World}{o:Obj}(h:Below w.heap.size w W)(hb:Below (W.alloc o).drew.heap.size (W.alloc o).drew W'):Below w.heap.size w W':=
 (h.alloc h.size o).drew.trans (hb.mono (h.alloc h.size o).size)
theorem q28{W W':World}{x:NV}(hb:Below (W.alloc (.cells #[.bool x.b,.slice x.p x.k x.c,.slice x.q x.j x.d] 80)).drew.heap.size (W.alloc (.cells #[.bool x.b,.slice x.p x.k x.c,.slice x.q x.j x.d] 80)).drew W'):One W' W.heap.size x:=((qgu W x).later ((Below.refl _ _).drew)).later (hb.mono (by show W.heap.size+1≤(W.alloc _).heap.size;rw[World.size_alloc];exact Nat.le_refl _))
theorem q74{W W':World}{x:NV}(hb:Below (W.alloc (.cells #[.bool x.b,.slice x.p x.k x.c,.slice x.q x.j x.d] 80)).heap.size (W.alloc (.cells #[.bool x.b,.slice x.p x.k x.c,.slice x.q x.j x.d] 80)) W'):One W' W.heap.size x:=(qgu W x).later (hb.mono (by rw[World.size_alloc];exact Nat.le_refl _))
theorem q6x{W W':World}{v:Value}{q:Rat}(h:qaj W v q)(hb:Below W.heap.size W W'):qaj W' v q:=h.later hb
def qpy(w:World)(r g n:Nat)(x z:NV)(q d:Rat)(W:World):Prop:=One W n z∧One W r ⟨false,none,0,0,none,0,0⟩∧One W g x∧qaj W (.agg #[.bool x.b,.slice x.p x.k x.c,.slice x.q x.j x.d]) q∧qaj W (.agg #[.bool z.b,.slice z.p z.k z.c,.slice z.q z.j z.d]) d∧Below w.heap.size w W
theorem qpy.later{w W W':World}{r g n:Nat}{x z:NV}{q d:Rat}(h:qpy w r g n x z q d W)(hb:Below W.heap.size W W'):qpy w r g n x z q d W':=by
 obtain⟨h1,h2,h3,h4,h5,h6⟩:=h;exact⟨Own.later h1 (hb.mono h1.1),Own.later h2 (hb.mono h2.1),Own.later h3 (hb.mono h3.1),h4.later hb,h5.later hb,h6.trans (hb.mono h6.size)⟩
theorem quj{w W:World}{r g n:Nat}{m x z:NV}{q d:Rat}(hm:One W n m)(hr:One W r ⟨false,none,0,0,none,0,0⟩)(hg:One W g x)(hx:qaj W (.agg #[.bool x.b,.slice x.p x.k x.c,.slice x.q x.j x.d]) q)(hz:qaj W (.agg #[.bool z.b,.slice z.p z.k z.c,.slice z.q z.j z.d]) d)(hb:Below w.heap.size w W)(h1:r≠n)(h2:g≠n)(h3:w.heap.size≤n):
  qpy w r g n x z q d (((W.setCell ⟨n,0,none⟩ (.bool z.b)).setCell ⟨n,1,none⟩ (.slice z.p z.k z.c)).setCell ⟨n,2,none⟩ (.slice z.q z.j z.d)):=by
 obtain⟨a,b,c,d⟩:=hm.put (x:=z);exact⟨a,d _ _ _ h1 hr,d _ _ _ h2 hg,b _ _ hx,b _ _ hz,c _ _ h3 hb⟩
theorem q29{w W:World}{r g:Nat}{x z:NV}{q d:Rat}(hr:One W r ⟨false,none,0,0,none,0,0⟩)(hg:One W g x)(hx:qaj W (.agg #[.bool x.b,.slice x.p x.k x.c,.slice x.q x.j x.d]) q)(hz:qaj W (.agg #[.bool z.b,.slice z.p z.k z.c,.slice z.q z.j z.d]) d)(hb:Below w.heap.size w W):
  qpy w r g W.heap.size x z q d (W.alloc (.cells #[.bool z.b,.slice z.p z.k z.c,.slice z.q z.j z.d] 80)):=by
 have hal:Below W.heap.size W (W.alloc (.cells #[.bool z.b,.slice z.p z.k z.c,.slice z.q z.j z.d] 80)):=(Below.refl _ _).alloc (Nat.le_refl _) _;exact⟨qgu W z,Own.later hr (hal.mono hr.1),Own.later hg (hal.mono hg.1),hx.later hal,hz.later hal,hb.trans (hal.mono hb.size)⟩
def qom(q:Rat):Rat:=((100:Int):Rat)-q
theorem q0g(s:ByteArray)(w:World)(hg:GW w)(hs:s.size≤1073741824)(hc:qaa s.data.toList=0)(h0:0≤sgn (qav s.data.toList))(h1:0<sgn (qom (qav s.data.toList))):
  Calls Tryz.prog 67 #[.string s] w fun e w'=>(∃z:NV,e = .returned (.tuple #[.agg #[.bool z.b,.slice z.p z.k z.c,.slice z.q z.j z.d],.int .i64 0])∧qaj w' (.agg #[.bool z.b,.slice z.p z.k z.c,.slice z.q z.j z.d]) (qom (qav s.data.toList)))∧Below w.heap.size w w':=by
 have hal:Below w.heap.size w (w.alloc (.cells #[.bool false,.slice none 0 0,.slice none 0 0] 80)):=(Below.refl _ _).alloc (Nat.le_refl _) _;have HAL:=hid hal;have HO0:=hid (qgu w ⟨false,none,0,0,none,0,0⟩);have HRD:=hid (qm4 s _ (hg.later hal) hs hc);have bq:=(qiu hc).rs;have b1:=(ql2 100 (by omega) (by omega)).rs;have HCAP:Hid (rs ((100:Int):Rat)+rs (qav s.data.toList)+2≤Cap):=hid (by unfold Cap;omega);clear hal hc hg bq b1;have hn0:¬sgn (qav s.data.toList)<0:=by omega
 have hn1:¬sgn (qom (qav s.data.toList))≤0:=by omega
 clear h0 h1;generalize qav s.data.toList=q at *;go_enter Tryz.func67,Tryz.ntmps67;go_wp2_with fail;refine HRD.out.mono ?_;rintro e w1 ⟨⟨v,rfl,hv⟩,hb⟩;obtain⟨x,rfl⟩:=hv.nv;have hal2:Below w1.heap.size w1 (w1.alloc (.cells #[.bool x.b,.slice x.p x.k x.c,.slice x.q x.j x.d] 80)):=(Below.refl _ _).alloc (Nat.le_refl _) _;have hb2:=hb.trans (hal2.mono hb.size);have HB:=hid (HAL.out.trans (hb2.mono HAL.out.size));have HR:=hid (HO0.out.later (hb2.mono HO0.out.1));have HX:=hid (hv.later hal2);have HW:=hid (qgu w1 x);clear hv hb hal2 hb2 HRD;go_wp2_with fail;have HBX:Hid (Below (w1.alloc (.cells #[.bool x.b,.slice x.p x.k x.c,.slice x.q x.j x.d] 80)).heap.size (w1.alloc (.cells #[.bool x.b,.slice x.p x.k x.c,.slice x.q x.j x.d] 80)) (w1.alloc (.cells #[.bool x.b,.slice x.p x.k x.c,.slice x.q x.j x.d] 80)).drew):=hid ((Below.refl _ _).drew);have hsz:(w1.alloc (.cells #[.bool x.b,.slice x.p x.k x.c,.slice x.q x.j x.d] 80)).heap.size=w1.heap.size+1:=World.size_alloc _ _;have HSZ:=hid hsz;clear hsz;generalize w1.alloc (.cells #[.bool x.b,.slice x.p x.k x.c,.slice x.q x.j x.d] 80)=w2 at *;have e0:w2.cell? ⟨w1.heap.size,0,none⟩=some (.bool x.b)∧w2.cell? ⟨w1.heap.size,1,none⟩=some (.slice x.p x.k x.c)∧w2.cell? ⟨w1.heap.size,2,none⟩=some (.slice x.q x.j x.d):=(One.cells HW.out).1;have e0d:(w2.alloc (.cells #[.bool false,.slice none 0 0,.slice none 0 0] 80)).drew.cell? ⟨w1.heap.size,0,none⟩=some (.bool x.b)∧(w2.alloc (.cells #[.bool false,.slice none 0 0,.slice none 0 0] 80)).drew.cell? ⟨w1.heap.size,1,none⟩=some (.slice x.p x.k x.c)∧(w2.alloc (.cells #[.bool false,.slice none 0 0,.slice none 0 0] 80)).drew.cell? ⟨w1.heap.size,2,none⟩=some (.slice x.q x.j x.d):=al3 _ e0
 go_region_held3 (fun W=>W.cell? ⟨w1.heap.size,0,none⟩=some (.bool x.b)∧W.cell? ⟨w1.heap.size,1,none⟩=some (.slice x.p x.k x.c)∧W.cell? ⟨w1.heap.size,2,none⟩=some (.slice x.q x.j x.d)) (first|with_reducible exact eA|with_reducible exact eB|with_reducible exact al3 _ eA|with_reducible exact al3 _ eB|with_reducible exact e0d|with_reducible exact al3 _ e0|with_reducible exact st3 eB hneq _ _ _|exact e0)
  (first
   | (go_at_call 102;((with_reducible refine(qcr (qtj _ _ _ _ _ (q6x HV1.out (by(first|exact Below.refl _ _|exact(Below.refl _ _).alloc (Nat.le_refl _) _))) (HX.out.later (by(first|exact HBA.out|exact HBA.out.alloc HBA.out.size _))) HCAP.out)).mono ?_);rintro e wB ⟨⟨t2,rfl,hn⟩,hb⟩;have HV2:Hid (qaj wB (.agg #[.bool t2.b,.slice t2.p t2.k t2.c,.slice t2.q t2.j t2.d]) (qom q)):=hid hn;have HBB:Hid (Below w2.heap.size w2 wB):=(by(first|exact hid (HBA.out.trans (hb.mono HBA.out.size))|exact hid (qsm HBA.out hb)|exact hid (qui HBA.out hb)));have eB:wB.cell? ⟨w1.heap.size,0,none⟩=some (.bool x.b)∧wB.cell? ⟨w1.heap.size,1,none⟩=some (.slice x.p x.k x.c)∧wB.cell? ⟨w1.heap.size,2,none⟩=some (.slice x.q x.j x.d):=(One.cells (HW.out.later (HBB.out.mono HW.out.1))).1;(first|(have HNB:=hid (HNA.out.later (hb.mono HNA.out.1));have hneq:w2.heap.size≠w1.heap.size:=(by have:=HSZ.out;omega);obtain⟨⟨n0,n1,n2⟩,f0,f1,f2⟩:=One.cells HNB.out)|(have HNB:Hid (One wB wA.heap.size ⟨false,none,0,0,none,0,0⟩):=(by first|exact hid (q74 hb)|exact hid (q28 hb));have hneq:wA.heap.size≠w1.heap.size:=(by have:=HSZ.out;have:=HBA.out.size;omega);obtain⟨⟨n0,n1,n2⟩,f0,f1,f2⟩:=One.cells HNB.out)|skip);clear hn hb))
   | (go_at_call 38;((with_reducible refine(qcr (qe0 100 _ (by omega) (by omega))).mono ?_);rintro e wA ⟨⟨t1,rfl,hn⟩,hb⟩;have HV1:=hid hn;have HBA:Hid (Below w2.heap.size w2 wA):=(by(first|exact hid (HBX.out.trans hb)|exact hid (qsm (Below.refl _ _) hb)|exact hid (qui (Below.refl _ _) hb)|exact hid (qsm HBX.out hb)));have eA:wA.cell? ⟨w1.heap.size,0,none⟩=some (.bool x.b)∧wA.cell? ⟨w1.heap.size,1,none⟩=some (.slice x.p x.k x.c)∧wA.cell? ⟨w1.heap.size,2,none⟩=some (.slice x.q x.j x.d):=(One.cells (HW.out.later (HBA.out.mono HW.out.1))).1;(first|have HNA:Hid (One wA w2.heap.size ⟨false,none,0,0,none,0,0⟩):=hid (q74 hb)|have HNA:Hid (One wA w2.heap.size ⟨false,none,0,0,none,0,0⟩):=hid (q28 hb)|skip);clear hn hb)))
 all_goals first
  | (have HM:=hid (quj (n:=wA.heap.size) (z:=t2) (w:=w) HNB.out (HR.out.later (HBB.out.mono HR.out.1)) (HW.out.later (HBB.out.mono HW.out.1)) (HX.out.later HBB.out) HV2.out (HB.out.trans (HBB.out.mono HB.out.size)) (by have:=HR.out.1;have:=HBA.out.size;omega) (Ne.symm hneq) (by have:=HB.out.size;have:=HBA.out.size;omega));generalize ((wB.setCell ⟨wA.heap.size,0,none⟩ (.bool t2.b)).setCell ⟨wA.heap.size,1,none⟩ (.slice t2.p t2.k t2.c)).setCell ⟨wA.heap.size,2,none⟩ (.slice t2.q t2.j t2.d)=w5 at *;generalize wA.heap.size=n5 at *)
  | (have HM:=hid (quj (n:=w2.heap.size) (m:=⟨false,none,0,0,none,0,0⟩) (z:=t2) (w:=w) HNB.out (HR.out.later (HBB.out.mono HR.out.1)) (HW.out.later (HBB.out.mono HW.out.1)) (HX.out.later HBB.out) HV2.out (HB.out.trans (HBB.out.mono HB.out.size)) (by have:=HR.out.1;omega) (Ne.symm hneq) (by have:=HB.out.size;omega));generalize ((wB.setCell ⟨w2.heap.size,0,none⟩ (.bool t2.b)).setCell ⟨w2.heap.size,1,none⟩ (.slice t2.p t2.k t2.c)).setCell ⟨w2.heap.size,2,none⟩ (.slice t2.q t2.j t2.d)=w5 at *;generalize w2.heap.size=n5 at *)
  | (have HM:=hid (q29 (w:=w) (HR.out.later (HBB.out.mono HR.out.1)) (HW.out.later (HBB.out.mono HW.out.1)) (HX.out.later HBB.out) HV2.out (HB.out.trans (HBB.out.mono HB.out.size)));generalize wB.alloc (.cells #[.bool t2.b,.slice t2.p t2.k t2.c,.slice t2.q t2.j t2.d] 80)=w5 at *;generalize wB.heap.size=n5 at *)
 all_goals
  clear e0 e0d eA eB HBX HX HW HR HAL HO0 HBA HBB HV1 HV2
  try clear HNA
  try clear HNB n0 n1 n2 f0 f1 f2 hneq
  obtain⟨⟨m0,m1,m2⟩,_⟩:=One.cells HM.out.1;obtain⟨⟨x0,x1,x2⟩,_⟩:=One.cells HM.out.2.2.1;have HS1:=hid (qdq _ _ _ HM.out.2.2.2.1);go_wp2_with fail;refine HS1.out.mono ?_;rintro e w6 ⟨rfl,hb⟩;have HM6:=hid (HM.out.later hb);clear m0 m1 m2 x0 x1 x2 hb HM HS1;obtain⟨⟨m0,m1,m2⟩,_⟩:=One.cells HM6.out.1;have HS2:=hid (qdq _ _ _ HM6.out.2.2.2.2.1);go_wp2_with fail;refine HS2.out.mono ?_;rintro e w7 ⟨rfl,hb⟩;have HM7:=hid (HM6.out.later hb);clear m0 m1 m2 hb HM6 HS2;obtain⟨⟨m0,m1,m2⟩,_⟩:=One.cells HM7.out.1;obtain⟨⟨r0,r1,r2⟩,g0,g1,g2⟩:=One.cells HM7.out.2.1;have HP:=hid (One.put (x:=t2) HM7.out.2.1);go_wp2_with fail;refine bodyPost_ret (v := .tuple #[.agg #[.bool t2.b,.slice t2.p t2.k t2.c,.slice t2.q t2.j t2.d],.int .i64 0]) ?_ rfl ?_
  ·simp[results,Tryz.results67,go_sem,r0,r1,r2]
  ·exact⟨⟨t2,rfl,HP.out.2.1 _ _ HM7.out.2.2.2.2.1⟩,HP.out.2.2.1 _ _ (Nat.le_refl _) HM7.out.2.2.2.2.2⟩
theorem q0h(l:List ByteArray)(b o c:Nat)(w:World)(hg:GW w)(hrow:∀i s,l[i]? = some s→w.cell? ⟨b,o+i,none⟩=some (.string s))(hl:l.length≤1048576)(hs:∀s ∈ l,s.size≤1073741824∧qaa s.data.toList=0∧0≤sgn ((qav s.data.toList))∧0<sgn (qom (qav s.data.toList))):
  Calls Tryz.prog 66 #[.slice (some ⟨b,o,none⟩) l.length c,.func (.func 67) #[] #[]] w
   (fun e w'=>(∃g,w.heap.size≤g∧e = .returned (.tuple #[.slice (some ⟨g,0,none⟩) l.length l.length,.int .i64 0])∧qj7 w' g l.length (l.map fun s=>qom (qav s.data.toList)))∧Below w.heap.size w w'):=by
 have HG:=hid hg;have HROW:=hid hrow;have HS:=hid hs;have hmk:=qpj l.length hl;obtain⟨i0,hi,hz0,hz1,hz2⟩:=info_parts (show(Tryz.prog.info? 80).map (fun i=>(i.zero,i.size,i.bytes))=some (some (.agg #[.bool false,.slice none 0 0,.slice none 0 0]),3,56) by kernel_rfl);have HI:=hid hi;clear hg hrow hs hi hz0 hz2;go_enter Tryz.func66,Tryz.ntmps66;go_wp2_with fail;clear hmk;have HN0:=hid (qm5 w l.length);have HB0:Hid (Below w.heap.size w (w.alloc (.cells (madeCells #[.bool false,.slice none 0 0,.slice none 0 0] (l.length*3)) 80))):=hid ((Below.refl _ _).alloc (Nat.le_refl _) _);generalize w.alloc (.cells (madeCells #[.bool false,.slice none 0 0,.slice none 0 0] (l.length*3)) 80)=w0 at *
 go_loopw [6,16] (fun r i wr=>∃k:Nat,k≤l.length∧i = .int .i64 k∧r = .slice (some ⟨w.heap.size,0,none⟩) k l.length∧Hid (qj7 wr w.heap.size l.length ((l.take k).map fun s=>qom (qav s.data.toList)))∧Hid (Below w.heap.size w wr)) (fun _ i _=>l.length-(intOf i).toNat)
 case atStart=>exact⟨0,Nat.zero_le _,rfl,rfl,HN0,HB0⟩
 case round=>
  obtain⟨k,hk,rfl,rfl,HN,HB⟩:=hrel;clear HN0 HB0;by_cases hkl:k<l.length
  ·obtain⟨s,hsk⟩:∃s,l[k]? = some s:=⟨l[k],List.getElem?_eq_getElem hkl⟩
   have hcell0:=HROW.out k s hsk
   have hcell:wr.cell? ⟨b,o+k,none⟩=some (.string s):=by
    rw[HB.out.cell (World.block_lt_of_cell? w _ hcell0)];exact hcell0
   obtain⟨hs1,hs2,hs3,hs4⟩:=HS.out s (List.mem_of_getElem? hsk);have HRD2:=hid (q0g s wr (HG.out.later HB.out) hs1 hs2 hs3 hs4);have HSK:=hid hsk;clear hcell0 hsk hs1 hs2 hs3 hs4
   ·skip
    go_wp2_with fail;refine HRD2.out.mono ?_;rintro e w1 ⟨⟨x,rfl,hv⟩,hb⟩;obtain⟨sg,p1,k1,c1,p2,k2,c2⟩:=x
    have hqs:((l.take k).map fun s=>qom (qav s.data.toList))++[qom (qav s.data.toList)]=(l.take (k+1)).map fun s=>qom (qav s.data.toList):=by
     rw[qb9 HSK.out,List.map_append];rfl
    have HQS:=hid hqs;have hql:((l.take k).map fun s=>qom (qav s.data.toList)).length=k:=by rw[List.length_map,List.length_take];omega
    have HN1:=hid (HN.out.later hb);have HV1:=hid hv;have HB1:=hid (HB.out.trans (hb.mono HB.out.size));clear hqs hv hb HN HB HRD2 hcell;generalize qom (qav s.data.toList)=q at *;generalize ((l.take k).map fun s=>qom (qav s.data.toList))=qs at *;obtain⟨hal,hbx⟩:=qv7 w1 sg (.slice p1 k1 c1) (.slice p2 k2 c2);have HN2:=hid (HN1.out.later hal);have HV2:=hid (HV1.out.later hal);have hbs:w.heap.size≤w1.heap.size:=HB1.out.size;have HB2:=hid (HB1.out.trans (hal.mono hbs));obtain⟨x0,x1,x2⟩:=qbf hbx;have hal2:Below (w1.alloc (.cells #[.bool sg,.slice p1 k1 c1,.slice p2 k2 c2] 80)).heap.size (w1.alloc (.cells #[.bool sg,.slice p1 k1 c1,.slice p2 k2 c2] 80)) ((w1.alloc (.cells #[.bool sg,.slice p1 k1 c1,.slice p2 k2 c2] 80)).alloc (.cells #[.bool sg,.slice p1 k1 c1,.slice p2 k2 c2] 80)):=(Below.refl _ _).alloc (Nat.le_refl _) _;obtain⟨cur,hcur,hfit,hnew,hbel⟩:=(HN2.out.later hal2).push (by rw[hql];exact hkl) (HV2.out.later hal2);have hnb:=heap_alloc_new (w1.alloc (.cells #[.bool sg,.slice p1 k1 c1,.slice p2 k2 c2] 80)) (.cells #[.bool sg,.slice p1 k1 c1,.slice p2 k2 c2] 80);rw[World.size_alloc] at hnb;rw[hql] at hfit hnew hbel;simp only[List.append_assoc,List.cons_append,List.nil_append] at hnew hbel;have HNEW:=hid hnew;have HBEL:=hid (HB2.out.trans ((hal2.mono (by rw[World.size_alloc];omega)).trans (hbel w.heap.size (Nat.le_refl _))));have HCUR:=hid hcur;have HNB:=hid hnb;have HFIT:=hid hfit;clear hal hbx hal2 hbs hcur hfit hnew hbel hnb HN1 HV1 HB1 HN2 HV2 HB2 hql;go_wp2_with (at_builtin;refine qbi _ rfl _ _ 118 rfl 80 i0 3 Tryz.underlying118 HI.out hz1 w.heap.size k l.length cur rfl HCUR.out ⟨w1.heap.size+1,0,none⟩ 1 1 [.bool sg,.slice p1 k1 c1,.slice p2 k2 c2] rfl rfl (World.news_of_block HNB.out) ?qc1 (by omega) HFIT.out ?_)
    case qc1=>
     intro u hu;simp only[List.mem_cons,List.not_mem_nil,or_false] at hu;rcases hu with rfl|rfl|rfl<;>rfl
    clear x0 x1 x2;go_wp2_with fail;go_roundw
    case rel=>exact⟨k+1,hkl,by go_num,rfl,hid (by rw[←HQS.out];exact HNEW.out),HBEL⟩
    case measure=>simp[intOf];omega
  ·obtain rfl:k=l.length:=by omega
   have hN:=HN.out;rw[List.take_length] at hN;have HN':=hid hN;clear hN HN;go_wp2_with fail;go_ret2;exact⟨⟨w.heap.size,Nat.le_refl _,rfl,HN'.out⟩,HB.out⟩
def zan(ms:Int)(a b:ByteArray):Rat:=((ms:Int):Rat)*qom (qav a.data.toList)/qom (qav b.data.toList)
def q3a(s:ByteArray):Prop:=s.size≤1073741824∧qaa s.data.toList=0∧0≤sgn (qav s.data.toList)∧0<sgn (qom (qav s.data.toList))
theorem za5{q:Rat}(h:0<sgn q):q.num≠0:=by
 intro h0;unfold sgn at h;rw[h0] at h;exact absurd h (by decide)
theorem q6y(ms:Int)(a b:ByteArray)(w:World)(hg:GW w)(h0:0≤ms)(h1:ms≤999999999)(ha:q3a a)(hb:q3a b):
  Calls Tryz.prog 29 #[.int .i64 ms,.string a,.string b] w fun e w'=>e = .returned (.tuple #[.string (qc8 (zan ms a b)),.int .i64 (qfj (zan ms a b):Nat)])∧Below w.heap.size w w':=by
 have hal:Below w.heap.size w (w.alloc (.cells #[.string a,.string b] 26)):=(Below.refl _ _).alloc (Nat.le_refl _) _;have HAL:=hid hal
 have HEM:=hid (q0h [a,b] w.heap.size 0 2 (w.alloc (.cells #[.string a,.string b] 26)) (hg.later hal) (fun i s hi=>by
  match i,hi with
  | 0,hi=>cases hi;simp
  | 1,hi=>cases hi;simp) (by show 2≤1048576;omega) (fun s hs=>by
  simp only[List.mem_cons,List.not_mem_nil,or_false] at hs;rcases hs with rfl|rfl
  ·exact ha
  ·exact hb))
 have bm:=ql2 ms h0 h1;have ba:=q2b (ql2 100 (by omega) (by omega)) (qiu ha.2.1);have bb:=q2b (ql2 100 (by omega) (by omega)) (qiu hb.2.1)
 have HCAP:Hid (rs ((ms:Int):Rat)+rs (qom (qav a.data.toList))≤Cap∧rs (((ms:Int):Rat)*qom (qav a.data.toList))+rs (qom (qav b.data.toList))≤Cap∧rs (zan ms a b)≤Cap):=hid (by
  have a1:=bm.rs;have a2:=ba.rs;have a3:=bb.rs;have a4:=(qe8 bm ba).rs;have a5:=(qns (qe8 bm ba) bb).rs
  unfold zan qom Cap;omega)
 have HNZ:=hid (za5 hb.2.2.2);have hn0:¬ms<0:=by omega
 have hn1:¬999999999<ms:=by omega
 have HWQ:Hid (zan ms a b=((ms:Int):Rat)*qom (qav a.data.toList)/qom (qav b.data.toList)):=hid rfl;have hm1 : -9223372036854775808≤ms∧ms≤9223372036854775807:=by omega
 have HM1:=hid hm1;clear hm1 hal ha hb hg bm ba bb;simp only[List.map_cons,List.map_nil,List.length_cons,List.length_nil,Nat.zero_add,Nat.reduceAdd] at HEM;generalize zan ms a b=wq at *;generalize qom (qav a.data.toList)=da at *;generalize qom (qav b.data.toList)=db at *;go_enter Tryz.func29,Tryz.ntmps29;go_wp2_with fail;refine HEM.out.mono ?_;rintro e w1 ⟨⟨g,hgg,rfl,hn⟩,hb⟩;have HB:=hid (HAL.out.trans (hb.mono HAL.out.size));obtain⟨x,⟨e0,e1,e2⟩,hx⟩:=(qj7.at hn).nv 0 da rfl;obtain⟨y,⟨e3,e4,e5⟩,hy⟩:=(qj7.at hn).nv 1 db rfl;simp only[Nat.zero_mul,Nat.zero_add,Nat.one_mul,Nat.reduceAdd] at e0 e1 e2 e3 e4 e5;have HXY:Hid (qaj w1 (.agg #[.bool x.b,.slice x.p x.k x.c,.slice x.q x.j x.d]) da∧qaj w1 (.agg #[.bool y.b,.slice y.p y.k y.c,.slice y.q y.j y.d]) db):=hid ⟨hx,hy⟩;have eZ:w1.cell? ⟨g,0,none⟩=some (.bool x.b)∧w1.cell? ⟨g,1,none⟩=some (.slice x.p x.k x.c)∧w1.cell? ⟨g,2,none⟩=some (.slice x.q x.j x.d)∧w1.cell? ⟨g,3,none⟩=some (.bool y.b)∧w1.cell? ⟨g,4,none⟩=some (.slice y.p y.k y.c)∧w1.cell? ⟨g,5,none⟩=some (.slice y.q y.j y.d):=⟨e0,e1,e2,e3,e4,e5⟩
 have HC:Hid (∀W,Below w1.heap.size w1 W→W.cell? ⟨g,0,none⟩=some (.bool x.b)∧W.cell? ⟨g,1,none⟩=some (.slice x.p x.k x.c)∧W.cell? ⟨g,2,none⟩=some (.slice x.q x.j x.d)∧W.cell? ⟨g,3,none⟩=some (.bool y.b)∧W.cell? ⟨g,4,none⟩=some (.slice y.p y.k y.c)∧W.cell? ⟨g,5,none⟩=some (.slice y.q y.j y.d)):=hid fun W hW=>by
  obtain⟨h0,h1,h2,h3,h4,h5⟩:=eZ;refine⟨?_, ?_, ?_, ?_, ?_, ?_⟩
  ·rw[hW.cell (World.block_lt_of_cell? w1 _ h0)];exact h0
  ·rw[hW.cell (World.block_lt_of_cell? w1 _ h1)];exact h1
  ·rw[hW.cell (World.block_lt_of_cell? w1 _ h2)];exact h2
  ·rw[hW.cell (World.block_lt_of_cell? w1 _ h3)];exact h3
  ·rw[hW.cell (World.block_lt_of_cell? w1 _ h4)];exact h4
  ·rw[hW.cell (World.block_lt_of_cell? w1 _ h5)];exact h5
 clear hx hy hn hgg hb HEM e0 e1 e2 e3 e4 e5;go_wp2_with fail;have HBX:Hid (Below w1.heap.size w1 w1.drew):=hid ((Below.refl _ _).drew)
 go_region_held3 (fun W=>W.cell? ⟨g,0,none⟩=some (.bool x.b)∧W.cell? ⟨g,1,none⟩=some (.slice x.p x.k x.c)∧W.cell? ⟨g,2,none⟩=some (.slice x.q x.j x.d)∧W.cell? ⟨g,3,none⟩=some (.bool y.b)∧W.cell? ⟨g,4,none⟩=some (.slice y.p y.k y.c)∧W.cell? ⟨g,5,none⟩=some (.slice y.q y.j y.d)) (first|with_reducible exact eA|with_reducible exact eB|with_reducible exact eC|with_reducible exact eD|exact eZ)
  (first
   | (go_at_call 38;((with_reducible refine(qcr (qe0 ms _ HM1.out.1 HM1.out.2)).mono ?_);rintro e wA ⟨⟨t1,rfl,hn⟩,hb⟩;have HV1:=hid hn;have HBA:Hid (Below w1.heap.size w1 wA):=hid (HBX.out.trans hb);have eA:=HC.out _ HBA.out;clear hn hb))
   | (go_at_call 40;((with_reducible refine(qcr (qd3 _ _ _ _ wA HV1.out (HXY.out.1.later HBA.out) HCAP.out.1)).mono ?_);rintro e wB ⟨⟨t2,rfl,hn⟩,hb⟩;have HV2:=hid hn;have HBB:=hid (HBA.out.trans (hb.mono HBA.out.size));have eB:=HC.out _ HBB.out;clear hn hb))
   | (go_at_call 41;((with_reducible refine(qcr (qfo _ _ _ _ wB HV2.out (HXY.out.2.later HBB.out) HNZ.out HCAP.out.2.1)).mono ?_);rintro e wC ⟨⟨t3,rfl,hn⟩,hb⟩;rw[←HWQ.out] at hn;have HV3:=hid hn;have HBC:=hid (HBB.out.trans (hb.mono HBB.out.size));have eC:=HC.out _ HBC.out;clear hn hb))
   | (go_at_call 56;((with_reducible refine(qjc _ _ wC HV3.out HCAP.out.2.2).mono ?_);rintro e wD h;obtain⟨rfl,hb⟩:=qm6 h;have HBD:=hid (HBC.out.trans (hb.mono HBC.out.size));have eD:=HC.out _ HBD.out;clear hb h)))
 all_goals
  go_wp2_with fail;go_ret2;exact⟨rfl,HB.out.trans (HBD.out.mono HB.out.size)⟩
end Go.Proofs.YthjagoogkkgelaaGreatDoor
