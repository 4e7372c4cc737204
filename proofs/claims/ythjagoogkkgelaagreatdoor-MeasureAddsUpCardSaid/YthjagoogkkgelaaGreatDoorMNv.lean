/- Numbers by their cells; intervals. -/
import Derived.Test.YthjagoogkkgelaaGreatDoorMSpans
set_option linter.all false
namespace Go.Proofs.YthjagoogkkgelaaGreatDoor
open Go.RowKit
set_option maxRecDepth 100000
set_option maxHeartbeats 4000000
structure NV where
 b:Bool
 p:Option Addr
 k:Nat
 c:Nat
 q:Option Addr
 j:Nat
 d:Nat
theorem qaj.nv{w:World}{v:Value}{a:Rat}(h:qaj w v a):∃x:NV,v = .agg #[.bool x.b,.slice x.p x.k x.c,.slice x.q x.j x.d]:=by
 obtain⟨p1,k1,c1,p2,k2,c2,rfl,_,_⟩:=h.parts;exact⟨⟨_,p1,k1,c1,p2,k2,c2⟩,rfl⟩
theorem qg1.nv{w:World}{v:Value}{lo hi:Rat}(h:qg1 w v lo hi):∃x y:NV,v = .agg #[.bool x.b,.slice x.p x.k x.c,.slice x.q x.j x.d,.bool y.b,.slice y.p y.k y.c,.slice y.q y.j y.d]∧qaj w (.agg #[.bool x.b,.slice x.p x.k x.c,.slice x.q x.j x.d]) lo∧qaj w (.agg #[.bool y.b,.slice y.p y.k y.c,.slice y.q y.j y.d]) hi:=by
 obtain⟨b,p1,k1,c1,p2,k2,c2,b',p1',k1',c1',p2',k2',c2',e,h1,h2⟩:=h;exact⟨⟨b,p1,k1,c1,p2,k2,c2⟩,⟨b',p1',k1',c1',p2',k2',c2'⟩,e,h1,h2⟩
theorem qgd{w:World}{lo hi:Rat}{x y:NV}(h1:qaj w (.agg #[.bool x.b,.slice x.p x.k x.c,.slice x.q x.j x.d]) lo)(h2:qaj w (.agg #[.bool y.b,.slice y.p y.k y.c,.slice y.q y.j y.d]) hi):qg1 w (.agg #[.bool x.b,.slice x.p x.k x.c,.slice x.q x.j x.d,.bool y.b,.slice y.p y.k y.c,.slice y.q y.j y.d]) lo hi:=
 ⟨_,_,_,_,_,_,_,_,_,_,_,_,_,_,rfl,h1,h2⟩
def qe7(W:World)(g:Nat)(x y:NV):Prop:=Own W g 6 (qkz x.b (.slice x.p x.k x.c) (.slice x.q x.j x.d) y.b (.slice y.p y.k y.c) (.slice y.q y.j y.d))
def zcm(W:World)(g:Nat):Prop:=Own W g 6 (qkz false (.slice none 0 0) (.slice none 0 0) false (.slice none 0 0) (.slice none 0 0))
abbrev zb5(g:Nat)(x y:NV)(W:World):Prop:=
 W.cell? ⟨g,0,none⟩=some (.bool x.b)∧W.cell? ⟨g,1,none⟩=some (.slice x.p x.k x.c)∧W.cell? ⟨g,2,none⟩=some (.slice x.q x.j x.d)∧
 W.cell? ⟨g,3,none⟩=some (.bool y.b)∧W.cell? ⟨g,4,none⟩=some (.slice y.p y.k y.c)∧W.cell? ⟨g,5,none⟩=some (.slice y.q y.j y.d)
theorem qe7.cells{W:World}{g:Nat}{x y:NV}(h:qe7 W g x y):zb5 g x y W:=
 ⟨(h.2 0 (by omega)).1,(h.2 1 (by omega)).1,(h.2 2 (by omega)).1,(h.2 3 (by omega)).1,(h.2 4 (by omega)).1,(h.2 5 (by omega)).1⟩
def qs2(w:World)(x y x' y':NV)(W:World):Prop:=
 Below w.heap.size w W∧qe7 W w.heap.size x y∧qe7 W (w.heap.size+1) x' y'∧zcm W (w.heap.size+1+1)
theorem qs2.later{w W W':World}{x y x' y':NV}(h:qs2 w x y x' y' W)(hb:Below W.heap.size W W'):qs2 w x y x' y' W':=
 ⟨h.1.trans (hb.mono h.1.size),h.2.1.later (hb.mono h.2.1.1),h.2.2.1.later (hb.mono h.2.2.1.1),h.2.2.2.later (hb.mono h.2.2.2.1)⟩
theorem qx8(w:World)(x y x' y':NV)(t1 t2 t3:TypeId):qs2 w x y x' y' (((w.alloc (.cells #[.bool x.b,.slice x.p x.k x.c,.slice x.q x.j x.d,.bool y.b,.slice y.p y.k y.c,.slice y.q y.j y.d] t1)).alloc (.cells #[.bool x'.b,.slice x'.p x'.k x'.c,.slice x'.q x'.j x'.d,.bool y'.b,.slice y'.p y'.k y'.c,.slice y'.q y'.j y'.d] t2)).alloc (.cells #[.bool false,.slice none 0 0,.slice none 0 0,.bool false,.slice none 0 0,.slice none 0 0] t3)):=by
 have h1:Below w.heap.size w (w.alloc (.cells #[.bool x.b,.slice x.p x.k x.c,.slice x.q x.j x.d,.bool y.b,.slice y.p y.k y.c,.slice y.q y.j y.d] t1)):=(Below.refl _ _).alloc (Nat.le_refl _) _;have p1:=qk0 w x.b (.slice x.p x.k x.c) (.slice x.q x.j x.d) y.b (.slice y.p y.k y.c) (.slice y.q y.j y.d) t1;have p2:=qk0 (w.alloc (.cells #[.bool x.b,.slice x.p x.k x.c,.slice x.q x.j x.d,.bool y.b,.slice y.p y.k y.c,.slice y.q y.j y.d] t1)) x'.b (.slice x'.p x'.k x'.c) (.slice x'.q x'.j x'.d) y'.b (.slice y'.p y'.k y'.c) (.slice y'.q y'.j y'.d) t2;have p3:=qk0 ((w.alloc (.cells #[.bool x.b,.slice x.p x.k x.c,.slice x.q x.j x.d,.bool y.b,.slice y.p y.k y.c,.slice y.q y.j y.d] t1)).alloc (.cells #[.bool x'.b,.slice x'.p x'.k x'.c,.slice x'.q x'.j x'.d,.bool y'.b,.slice y'.p y'.k y'.c,.slice y'.q y'.j y'.d] t2)) false (.slice none 0 0) (.slice none 0 0) false (.slice none 0 0) (.slice none 0 0) t3;have s1:(w.alloc (.cells #[.bool x.b,.slice x.p x.k x.c,.slice x.q x.j x.d,.bool y.b,.slice y.p y.k y.c,.slice y.q y.j y.d] t1)).heap.size=w.heap.size+1:=World.size_alloc _ _;have s2:((w.alloc (.cells #[.bool x.b,.slice x.p x.k x.c,.slice x.q x.j x.d,.bool y.b,.slice y.p y.k y.c,.slice y.q y.j y.d] t1)).alloc (.cells #[.bool x'.b,.slice x'.p x'.k x'.c,.slice x'.q x'.j x'.d,.bool y'.b,.slice y'.p y'.k y'.c,.slice y'.q y'.j y'.d] t2)).heap.size=w.heap.size+1+1:=by rw[World.size_alloc,s1]
 rw[s1] at p2;rw[s2] at p3;refine⟨(h1.alloc (by rw[s1];omega) _).alloc (by rw[s2];omega) _, ?_, ?_,p3⟩
 ·exact Own.later (Own.later p1 ((Below.refl _ _).alloc (by rw[s1];omega) _)) ((Below.refl _ _).alloc (by rw[s2];omega) _)
 ·exact Own.later p2 ((Below.refl _ _).alloc (by rw[s2];omega) _)
theorem qm7{w W:World}{x y x' y':NV}{f:FuncId}{args:Array Value}{_R:Ending→Prop}{q:Rat}(hW:qs2 w x y x' y' W)
  (h:Calls Tryz.prog f args W fun e w'=>(∃v',e = .returned v'∧qaj w' v' q)∧Below W.heap.size W w'):
  Calls Tryz.prog f args W fun e w'=>(∃z:NV,e = .returned (.agg #[.bool z.b,.slice z.p z.k z.c,.slice z.q z.j z.d])∧qaj w' (.agg #[.bool z.b,.slice z.p z.k z.c,.slice z.q z.j z.d]) q)∧qs2 w x y x' y' w'∧Below W.heap.size W w':=
 h.mono fun e w' ⟨⟨v',he,hn⟩,hb⟩=>by
  obtain⟨z,rfl⟩:=hn.nv;exact⟨⟨z,he,hn⟩,hW.later hb,hb⟩
theorem qe3{W:World}{g g':Nat}{x y:NV}(h:zb5 g x y W)(hne:g'≠g)(x0 x1 x2 x3 x4 x5:Value):
  zb5 g x y ((((((W.setCell ⟨g',0,none⟩ x0).setCell ⟨g',1,none⟩ x1).setCell ⟨g',2,none⟩ x2).setCell ⟨g',3,none⟩ x3).setCell ⟨g',4,none⟩ x4).setCell ⟨g',5,none⟩ x5):=by
 have k:∀(V:World) (i o:Nat) (v:Value),(V.setCell ⟨g',i,none⟩ v).cell? ⟨g,o,none⟩=V.cell? ⟨g,o,none⟩:=fun V i o v=>World.cell?_setCell_other _ _ _ _ (by intro e;injection e with e;exact hne e);unfold zb5 at h ⊢;simp only[k];exact h
structure qvm(α:Type) where
 ty:TypeId
 size:Nat
 ok:Value→Prop
 E:World→List Value→α→Prop
structure qvm.Law{α:Type}(K:qvm α):Prop where
 pos:0<K.size
 cells:∀W cs x,K.E W cs x→cs.length=K.size∧∀c ∈ cs,K.ok c∧c.oneCell'=true
 later:∀W W' cs x,K.E W cs x→Below W.heap.size W W'→K.E W' cs x
 set:∀W g cur ty fr cs x cs',K.E W cs x→W.heap[g]? = some (.cells cur ty fr)→(∀c ∈ cur.toList,K.ok c)→K.E (W.setRow g cs') cs x
def qdb{α:Type}(K:qvm α)(W:World)(g cap:Nat)(l:List α):Prop:=
 l.length≤cap∧∃cur:Array Value,W.heap[g]? = some (.cells cur K.ty (0,0))∧cur.size=cap*K.size∧(∀c ∈ cur.toList,K.ok c)∧
  ∀(j:Nat) (x:α),l[j]? = some x→∃cs,K.E W cs x∧∀i c,cs[i]? = some c→cur.toList[j*K.size+i]? = some c
theorem qdb.lt{α:Type}{K:qvm α}{W:World}{g cap:Nat}{l:List α}(h:qdb K W g cap l):g<W.heap.size:=by
 obtain⟨_,cur,hg,_⟩:=h;rcases Nat.lt_or_ge g W.heap.size with h1|h1
 ·exact h1
 ·rw[Array.getElem?_eq_none h1] at hg;cases hg
theorem qdb.later{α:Type}{K:qvm α}(L:K.Law){W W':World}{g cap:Nat}{l:List α}(h:qdb K W g cap l)(hb:Below W.heap.size W W'):qdb K W' g cap l:=by
 have hlt:=h.lt;obtain⟨h1,cur,hg,h2,h3,h4⟩:=h;refine⟨h1,cur,(hb.block g hlt).trans hg,h2,h3,fun j x hx => ?_⟩;obtain⟨cs,e,hc⟩:=h4 j x hx;exact⟨cs,L.later _ _ _ _ e hb,hc⟩
theorem qk1{α:Type}{K:qvm α}(L:K.Law)(w:World)(cap n:Nat)(zs:Array Value)(hn:n=cap*K.size)(hz:zs.size=K.size)(ho:∀c ∈ zs.toList,K.ok c):
  qdb K (w.alloc (.cells (madeCells zs n) K.ty)) w.heap.size cap []:=by
 refine⟨Nat.zero_le _,_,heap_alloc_new w _,by rw[size_madeCells,hn],fun c hc => ?_,fun j x h=>by simp at h⟩;unfold madeCells at hc;simp only[Array.toList_map,Array.toList_range,List.mem_map] at hc;obtain⟨i,_,rfl⟩:=hc;have hi:i % zs.size<zs.size:=Nat.mod_lt _ (by rw[hz];exact L.pos);refine ho _ ?_;simp[hi]
theorem qdb.push{α:Type}{K:qvm α}(L:K.Law){W:World}{g cap:Nat}{l:List α}{cs:List Value}{x:α}(h:qdb K W g cap l)(hk:l.length<cap)(hv:K.E W cs x):
  ∃cur:Array Value,W.heap[g]? = some (.cells cur K.ty (0,0))∧l.length*K.size+cs.length≤cur.size∧
   qdb K (W.setRow g (cur.toList.take (l.length*K.size)++cs++cur.toList.drop (l.length*K.size+cs.length)).toArray) g cap (l++[x])∧
   ∀B,B≤g→Below B W (W.setRow g (cur.toList.take (l.length*K.size)++cs++cur.toList.drop (l.length*K.size+cs.length)).toArray):=by
 obtain⟨h1,cur,hg,h2,h3,h4⟩:=h;obtain⟨hlen,hok⟩:=L.cells _ _ _ hv;have hpos:=L.pos
 have hmul:l.length*K.size+K.size≤cap*K.size:=by
  have:=Nat.mul_le_mul_right K.size (Nat.succ_le_of_lt hk);rw[Nat.succ_mul] at this;exact this
 have hfit:l.length*K.size+cs.length≤cur.size:=by rw[hlen,h2];exact hmul
 have hfit':l.length*K.size+cs.length≤cur.toList.length:=by rw[Array.length_toList];exact hfit
 have htl:(cur.toList.take (l.length*K.size)).length=l.length*K.size:=by rw[List.length_take];omega
 refine⟨cur,hg,hfit,⟨by rw[List.length_append];simp;omega,_,setRow_heap W g cur _ _ _ hg, ?_, ?_, ?_⟩,fun B hB=>⟨rfl,rfl,rfl,by simp[World.setRow],fun k hk=>setRow_other W g k _ (by omega)⟩⟩
 ·simp only[List.size_toArray,List.length_append,htl,List.length_drop,Array.length_toList]
  omega
 ·intro c hc
  rw[List.mem_append,List.mem_append] at hc;rcases hc with(hc|hc)|hc
  ·exact h3 c (List.mem_of_mem_take hc)
  ·exact(hok c hc).1
  ·exact h3 c (List.mem_of_mem_drop hc)
 ·intro j y hy
  rcases Nat.lt_or_ge j l.length with hj|hj
  ·rw[List.getElem?_append_left hj] at hy
   obtain⟨cs',e,hc⟩:=h4 j y hy;refine⟨cs',L.set _ _ _ _ _ _ _ _ e hg h3,fun i c hi => ?_⟩
   have hi1:i<K.size:=by
    rw[←(L.cells _ _ _ e).1];exact(List.getElem?_eq_some_iff.1 hi).1
   have hlt:j*K.size+i<l.length*K.size:=by
    have:=Nat.mul_le_mul_right K.size (Nat.succ_le_of_lt hj);rw[Nat.succ_mul] at this;omega
   show(cur.toList.take (l.length*K.size)++cs++cur.toList.drop (l.length*K.size+cs.length))[j*K.size+i]? = some c;rw[List.append_assoc,List.getElem?_append_left (by rw[htl];exact hlt),List.getElem?_take_of_lt hlt];exact hc i c hi
  ·have hj':j=l.length:=by
    have:=(List.getElem?_eq_some_iff.1 hy).1;rw[List.length_append] at this;simp at this;omega
   subst hj'
   have hxy:y=x:=by
    rw[List.getElem?_append_right (Nat.le_refl _),Nat.sub_self] at hy
    simpa using hy.symm
   subst hxy;refine⟨cs,L.set _ _ _ _ _ _ _ _ hv hg h3,fun i c hi => ?_⟩;have hi1:i<cs.length:=(List.getElem?_eq_some_iff.1 hi).1;show(cur.toList.take (l.length*K.size)++cs++cur.toList.drop (l.length*K.size+cs.length))[l.length*K.size+i]? = some c;rw[List.append_assoc,List.getElem?_append_right (by rw[htl];omega),htl,Nat.add_sub_cancel_left,List.getElem?_append_left hi1];exact hi
theorem qdb.get{α:Type}{K:qvm α}{W:World}{g cap:Nat}{l:List α}(h:qdb K W g cap l)(j:Nat)(x:α)(hx:l[j]? = some x):∃cs,K.E W cs x∧∀i c,cs[i]? = some c→W.cell? ⟨g,j*K.size+i,none⟩=some c:=by
 obtain⟨_,cur,hg,_,_,h4⟩:=h;obtain⟨cs,e,hc⟩:=h4 j x hx;refine⟨cs,e,fun i c hi => ?_⟩;rw[cell_of_row W g _ cur _ (0,0) hg,←Array.getElem?_toList];exact hc i c hi
def qjh{α:Type}(K:qvm α)(errs:List Nat)(l:List α)(w:World)(e:Ending)(w':World):Prop:=
 (if qac errs=0 then ∃g,w.heap.size≤g∧e = .returned (.tuple #[.slice (some ⟨g,0,none⟩) l.length l.length,.int .i64 0])∧qdb K w' g l.length l
  else e = .returned (.tuple #[.slice none 0 0,.int .i64 (qac errs)]))∧Below w.heap.size w w'
theorem qpl{α:Type}{K:qvm α}{errs:List Nat}{l:List α}{w w':World}{k:Nat}{e:Ending}(h:qac errs=k)(hk:k≠0)(he:e = .returned (.tuple #[.slice none 0 0,.int .i64 (k:Int)]))(hb:Below w.heap.size w w'):qjh K errs l w e w':=by
 unfold qjh;rw[if_neg (by omega),h];exact⟨he,hb⟩
theorem qm8{α:Type}{K:qvm α}{errs:List Nat}{l:List α}{w w':World}{g n:Nat}{e:Ending}(h:qac errs=0)(hn:l.length=n)(hg:w.heap.size≤g)(he:e = .returned (.tuple #[.slice (some ⟨g,0,none⟩) n n,.int .i64 0]))(hv:qdb K w' g n l)(hb:Below w.heap.size w w'):qjh K errs l w e w':=by
 unfold qjh;rw[if_pos h,hn];exact⟨⟨g,hg,he,hv⟩,hb⟩
def ivK:qvm (Rat × Rat) where
 ty:=82
 size:=6
 ok:=fun c=>∀k z,c ≠ .int k z
 E:=fun W cs r=>∃x y:NV,cs=[.bool x.b,.slice x.p x.k x.c,.slice x.q x.j x.d,.bool y.b,.slice y.p y.k y.c,.slice y.q y.j y.d]∧qaj W (.agg #[.bool x.b,.slice x.p x.k x.c,.slice x.q x.j x.d]) r.1∧qaj W (.agg #[.bool y.b,.slice y.p y.k y.c,.slice y.q y.j y.d]) r.2
theorem qe4:ivK.Law where
 pos:=by show 0<6;omega
 cells:=by
  rintro W cs r ⟨x,y,rfl,_,_⟩;refine⟨rfl,fun c hc => ?_⟩;simp only[List.mem_cons,List.not_mem_nil,or_false] at hc;rcases hc with rfl|rfl|rfl|rfl|rfl|rfl<;>exact⟨fun _ _ h=>(by cases h),rfl⟩
 later:=by
  rintro W W' cs r ⟨x,y,rfl,h1,h2⟩ hb;exact⟨x,y,rfl,h1.later hb,h2.later hb⟩
 set:=by
  rintro W g cur ty fr cs r cs' ⟨x,y,rfl,h1,h2⟩ hg hc;exact⟨x,y,rfl,h1.setRow hg hc cs',h2.setRow hg hc cs'⟩
def qb3(s:ByteArray × ByteArray):Nat:=qdd s.1 s.2
def spQ(s:ByteArray × ByteArray):Rat × Rat:=(qav s.1.data.toList,qav s.2.data.toList)
def qfd(W:World)(b o:Nat)(l:List (ByteArray × ByteArray)):Prop:=
 ∀(j:Nat) (s:ByteArray × ByteArray),l[j]? = some s→W.cell? ⟨b,o+j*2,none⟩=some (.string s.1)∧W.cell? ⟨b,o+j*2+1,none⟩=some (.string s.2)
theorem q6e(n:Nat)(hn:n≤1048576)(w:World):
  (Instr.makeSlice 74 (.int .i64 0) (.int .i64 (n:Int))).run Tryz.prog w = .ok (.slice (some ⟨w.heap.size,0,none⟩) 0 n) (w.alloc (.cells (madeCells #[.bool false,.slice none 0 0,.slice none 0 0,.bool false,.slice none 0 0,.slice none 0 0] (n*6)) 82)):=by
 obtain⟨i0,hi,hz0,hz1,hz2⟩:=info_parts (show(Tryz.prog.info? 82).map (fun i=>(i.zero,i.size,i.bytes))=some (some (.agg #[.bool false,.slice none 0 0,.slice none 0 0,.bool false,.slice none 0 0,.slice none 0 0]),6,112) by kernel_rfl);have h:=run_make (P:=Tryz.prog) w 74 82 i0 _ Tryz.underlying74 hi hz0 .i64 .i64 0 (n:Int) (Int.le_refl _) (by omega) (by rw[hz2];omega) (by omega);rw[hz1] at h
 simpa [Value.cells] using h
theorem qsb{s:ByteArray × ByteArray}{w:World}(h:Calls Tryz.prog 71 #[.agg #[.string s.1,.string s.2]] w (qly s.1 s.2 w))(hc:qb3 s=0):
  Calls Tryz.prog 71 #[.agg #[.string s.1,.string s.2]] w fun e w'=>(∃x y:NV,e = .returned (.tuple #[.agg #[.bool x.b,.slice x.p x.k x.c,.slice x.q x.j x.d,.bool y.b,.slice y.p y.k y.c,.slice y.q y.j y.d],.int .i64 0])∧ivK.E w' [.bool x.b,.slice x.p x.k x.c,.slice x.q x.j x.d,.bool y.b,.slice y.p y.k y.c,.slice y.q y.j y.d] (spQ s))∧Below w.heap.size w w':=by
 refine h.mono ?_;rintro e w' ⟨h1,h2⟩;unfold qb3 at hc;rw[if_pos hc] at h1;obtain⟨v,he,hv⟩:=h1;obtain⟨x,y,rfl,hx,hy⟩:=hv.nv;exact⟨⟨x,y,he,x,y,rfl,hx,hy⟩,h2⟩
theorem qt1{s:ByteArray × ByteArray}{w:World}(h:Calls Tryz.prog 71 #[.agg #[.string s.1,.string s.2]] w (qly s.1 s.2 w))(hc:qb3 s≠0):
  Calls Tryz.prog 71 #[.agg #[.string s.1,.string s.2]] w fun e w'=>e = .returned (.tuple #[.agg #[.bool false,.slice none 0 0,.slice none 0 0,.bool false,.slice none 0 0,.slice none 0 0],.int .i64 (qb3 s:Nat)])∧Below w.heap.size w w':=by
 refine h.mono ?_;rintro e w' ⟨h1,h2⟩;unfold qb3 at hc;rw[if_neg hc] at h1;exact⟨h1,h2⟩
theorem qt2(l:List (ByteArray × ByteArray))(b o c:Nat)(w:World)(hg:GW w)(hrow:qfd w b o l)(hl:l.length≤1048576)(hs:∀s ∈ l,s.1.size≤1073741824∧s.2.size≤1073741824):
  Calls Tryz.prog 70 #[.slice (some ⟨b,o,none⟩) l.length c,.func (.func 71) #[] #[]] w
   (qjh ivK (l.map qb3) (l.map spQ) w):=by
 have HG:=hid hg;have HROW:=hid hrow;have HS:=hid hs;have hmk:=q6e l.length hl;obtain⟨i0,hi,hz0,hz1,hz2⟩:=info_parts (show(Tryz.prog.info? 82).map (fun i=>(i.zero,i.size,i.bytes))=some (some (.agg #[.bool false,.slice none 0 0,.slice none 0 0,.bool false,.slice none 0 0,.slice none 0 0]),6,112) by kernel_rfl);have HI:=hid hi;clear hrow hs hi hz0 hz2
 have HN0:=hid (qk1 qe4 w l.length (l.length*6) #[.bool false,.slice none 0 0,.slice none 0 0,.bool false,.slice none 0 0,.slice none 0 0] rfl rfl (by
  intro c hc;simp only[List.mem_cons,List.not_mem_nil,or_false] at hc
  rcases hc with rfl|rfl|rfl|rfl|rfl|rfl<;>(intro _ _ h;cases h)))
 have HB0:Hid (Below w.heap.size w (w.alloc (.cells (madeCells #[.bool false,.slice none 0 0,.slice none 0 0,.bool false,.slice none 0 0,.slice none 0 0] (l.length*6)) 82))):=hid ((Below.refl _ _).alloc (Nat.le_refl _) _);clear hg;go_enter Tryz.func70,Tryz.ntmps70;go_wp2_with fail;clear hmk
 replace HN0:Hid (qdb ivK (w.alloc (.cells (madeCells #[.bool false,.slice none 0 0,.slice none 0 0,.bool false,.slice none 0 0,.slice none 0 0] (l.length*6)) 82)) w.heap.size l.length []):=HN0
 generalize w.alloc (.cells (madeCells #[.bool false,.slice none 0 0,.slice none 0 0,.bool false,.slice none 0 0,.slice none 0 0] (l.length*6)) 82)=w0 at *
 go_loopw [6,16] (fun r i wr=>∃k:Nat,k≤l.length∧i = .int .i64 k∧r = .slice (some ⟨w.heap.size,0,none⟩) k l.length∧Hid (qdb ivK wr w.heap.size l.length ((l.take k).map spQ))∧Hid (qac ((l.take k).map qb3)=0)∧Hid (Below w.heap.size w wr)) (fun _ i _=>l.length-(intOf i).toNat)
 case atStart=>exact⟨0,Nat.zero_le _,rfl,rfl,HN0,hid rfl,HB0⟩
 case round=>
  obtain⟨k,hk,rfl,rfl,HN,HE,HB⟩:=hrel;clear HN0 HB0;by_cases hkl:k<l.length
  ·obtain⟨s,hsk⟩:∃s,l[k]? = some s:=⟨l[k],List.getElem?_eq_getElem hkl⟩
   obtain⟨e0,e1⟩:=HROW.out k s hsk;have hc0:wr.cell? ⟨b,o+k*2,none⟩=some (.string s.1):=by rw[HB.out.cell (World.block_lt_of_cell? w _ e0)];exact e0
   have hc1:wr.cell? ⟨b,o+k*2+1,none⟩=some (.string s.2):=by rw[HB.out.cell (World.block_lt_of_cell? w _ e1)];exact e1
   have hal:Below wr.heap.size wr (wr.alloc (.cells #[.string s.1,.string s.2] 28)):=(Below.refl _ _).alloc (Nat.le_refl _) _;have hss:=HS.out s (List.mem_of_getElem? hsk);have HRD:=hid (qt0 s.1 s.2 (wr.alloc (.cells #[.string s.1,.string s.2] 28)) ((HG.out.later HB.out).later hal) hss.1 hss.2);obtain⟨x0,x1⟩:=qag (qbl wr 28 (.string s.1) (.string s.2));have HAL:=hid hal;have HSK:=hid hsk;clear e0 e1 hsk hal hss;by_cases hc:qb3 s=0
   ·have HRD2:=hid (qsb HRD.out hc)
    have HE2:=hid (qhy qb3 HSK.out HE.out hc)
    have hqs:((l.take k).map spQ)++[spQ s]=(l.take (k+1)).map spQ:=by
     rw[qb9 HSK.out,List.map_append];rfl
    have HQS:=hid hqs;have hql:((l.take k).map spQ).length=k:=by rw[List.length_map,List.length_take];omega
    have HN1:=hid (HN.out.later qe4 HAL.out);have HB1:=hid (HB.out.trans (HAL.out.mono HB.out.size));clear HRD HE hc hqs HN HB HAL;generalize spQ s=q at *;generalize ((l.take k).map spQ)=qs at *;go_wp2_with fail;refine HRD2.out.mono ?_;rintro e w1 ⟨⟨x,y,rfl,hv⟩,hb⟩;have hal:Below w1.heap.size w1 (w1.alloc (.cells #[.bool x.b,.slice x.p x.k x.c,.slice x.q x.j x.d,.bool y.b,.slice y.p y.k y.c,.slice y.q y.j y.d] 82)):=(Below.refl _ _).alloc (Nat.le_refl _) _;have HN2:=hid ((HN1.out.later qe4 hb).later qe4 hal);have HV2:=hid (qe4.later _ _ _ _ hv hal);have HBB:=hid (HB1.out.trans (hb.mono HB1.out.size));have hbs:w.heap.size≤w1.heap.size:=HBB.out.size;have HB2:=hid (HBB.out.trans (hal.mono hbs));obtain⟨⟨y0,_⟩,⟨y1,_⟩,⟨y2,_⟩,⟨y3,_⟩,⟨y4,_⟩,⟨y5,_⟩⟩:=qbm (qk0 w1 x.b (.slice x.p x.k x.c) (.slice x.q x.j x.d) y.b (.slice y.p y.k y.c) (.slice y.q y.j y.d) 82);have hal2:Below (w1.alloc (.cells #[.bool x.b,.slice x.p x.k x.c,.slice x.q x.j x.d,.bool y.b,.slice y.p y.k y.c,.slice y.q y.j y.d] 82)).heap.size (w1.alloc (.cells #[.bool x.b,.slice x.p x.k x.c,.slice x.q x.j x.d,.bool y.b,.slice y.p y.k y.c,.slice y.q y.j y.d] 82)) ((w1.alloc (.cells #[.bool x.b,.slice x.p x.k x.c,.slice x.q x.j x.d,.bool y.b,.slice y.p y.k y.c,.slice y.q y.j y.d] 82)).alloc (.cells #[.bool x.b,.slice x.p x.k x.c,.slice x.q x.j x.d,.bool y.b,.slice y.p y.k y.c,.slice y.q y.j y.d] 82)):=(Below.refl _ _).alloc (Nat.le_refl _) _;obtain⟨cur,hcur,hfit,hnew,hbel⟩:=(HN2.out.later qe4 hal2).push qe4 (by rw[hql];exact hkl) (qe4.later _ _ _ _ HV2.out hal2);have hnb:=heap_alloc_new (w1.alloc (.cells #[.bool x.b,.slice x.p x.k x.c,.slice x.q x.j x.d,.bool y.b,.slice y.p y.k y.c,.slice y.q y.j y.d] 82)) (.cells #[.bool x.b,.slice x.p x.k x.c,.slice x.q x.j x.d,.bool y.b,.slice y.p y.k y.c,.slice y.q y.j y.d] 82)
    rw[World.size_alloc] at hnb;rw[hql] at hfit hnew hbel;simp only[List.append_assoc,List.cons_append,List.nil_append,ivK,List.length_cons,List.length_nil,Nat.zero_add,Nat.reduceAdd] at hnew hbel hfit hcur;have HNEW:Hid (qdb ivK _ _ _ _):=hid hnew;have HBEL:=hid (HB2.out.trans ((hal2.mono (by rw[World.size_alloc];omega)).trans (hbel w.heap.size (Nat.le_refl _))));have HCUR:=hid hcur;have HNB:=hid hnb;have HFIT:=hid hfit;clear hal hal2 hbs hcur hfit hnew hbel hnb HN1 HB1 HN2 HV2 HB2 hql hv hb HBB x0 x1 hc0 hc1 HRD2;go_wp2_with (at_builtin;refine qbi _ rfl _ _ 74 rfl 82 i0 6 Tryz.underlying74 HI.out hz1 w.heap.size k l.length cur rfl HCUR.out ⟨w1.heap.size+1,0,none⟩ 1 1 [.bool x.b,.slice x.p x.k x.c,.slice x.q x.j x.d,.bool y.b,.slice y.p y.k y.c,.slice y.q y.j y.d] rfl rfl (World.news_of_block HNB.out) ?qc1 (by omega) HFIT.out ?_)
    case qc1=>
     intro u hu;simp only[List.mem_cons,List.not_mem_nil,or_false] at hu;rcases hu with rfl|rfl|rfl|rfl|rfl|rfl<;>rfl
    clear y0 y1 y2 y3 y4 y5;go_wp2_with fail;go_roundw
    case rel=>exact⟨k+1,hkl,by go_num,rfl,hid (by rw[←HQS.out];exact HNEW.out),HE2,HBEL⟩
    case measure=>simp[intOf];omega
   ·have HRD2:=hid (qt1 HRD.out hc)
    have HF:=hid (qjg qb3 HSK.out HE.out hc);clear HRD HE;generalize qb3 s=ck at *;have hck:((ck:Int)==0)=false:=beq_eq_false_iff_ne.2 (by omega);have HCK:=hid hc;clear hc;go_wp2_with fail;refine HRD2.out.mono ?_;rintro e w1 ⟨rfl,hb⟩;have h1:=HB.out.trans ((HAL.out.trans (hb.mono HAL.out.size)).mono HB.out.size);have HB1:=hid (h1.trans ((Below.refl w.heap.size w1).alloc h1.size (.cells #[.bool false,.slice none 0 0,.slice none 0 0,.bool false,.slice none 0 0,.slice none 0 0] 82)));clear hb HB HRD2 x0 x1 hc0 hc1 h1;go_wp2_with fail;go_ret2;exact qpl HF.out HCK.out rfl HB1.out
  ·obtain rfl:k=l.length:=by omega
   have hE:=HE.out;have hN:=HN.out;rw[List.take_length] at hE hN;have HE':=hid hE;have HN':=hid hN;clear hE hN HE HN;go_wp2_with fail;go_ret2;exact qm8 HE'.out (by rw[List.length_map]) (Nat.le_refl _) rfl HN'.out HB.out
def qbr(w:World)(v:Value)(l:List (ByteArray × ByteArray)):Prop:=
 ∃p c,v = .slice p l.length c∧l.length≤c∧c≤maxLen∧(l.length=0∨∃b o,p=some ⟨b,o,none⟩∧qfd w b o l)
theorem qfd.later{w w':World}{b o:Nat}{l:List (ByteArray × ByteArray)}(h:qfd w b o l)(hb:Below w.heap.size w w'):qfd w' b o l:=fun j s hj=>by
 obtain⟨e0,e1⟩:=h j s hj;rw[hb.cell (World.block_lt_of_cell? w _ e0),hb.cell (World.block_lt_of_cell? w _ e1)];exact⟨e0,e1⟩
theorem qbr.later{w w':World}{v:Value}{l:List (ByteArray × ByteArray)}(h:qbr w v l)(hb:Below w.heap.size w w'):qbr w' v l:=by
 obtain⟨p,c,h1,h2,h3,h4⟩:=h;refine⟨p,c,h1,h2,h3, ?_⟩;rcases h4 with h4|⟨b,o,h5,h6⟩
 ·exact .inl h4
 ·exact .inr ⟨b,o,h5,h6.later hb⟩
def qak(l:List (ByteArray × ByteArray)):Nat:=if l.length=0 then 2 else if 256<l.length then 5 else qac (l.map qb3)
def qcw(l:List (ByteArray × ByteArray))(w:World)(e:Ending)(w':World):Prop:=
 (if qak l=0 then ∃g,w.heap.size≤g∧e = .returned (.tuple #[.slice (some ⟨g,0,none⟩) l.length l.length,.int .i64 0])∧qdb ivK w' g l.length (l.map spQ)
  else e = .returned (.tuple #[.slice none 0 0,.int .i64 (qak l:Nat)]))∧Below w.heap.size w w'
theorem qpm{l:List (ByteArray × ByteArray)}{w:World}(k:Nat){z:Int}(h:qak l=k)(hk:k≠0)(hz:z=k):qcw l w (.returned (.tuple #[.slice none 0 0,.int .i64 z])) w:=by
 unfold qcw;rw[h,if_neg hk,hz];exact⟨rfl,Below.refl _ _⟩
theorem qt3{l:List (ByteArray × ByteArray)}{w w':World}{e:Ending}(hs:qak l=qac (l.map qb3))(h:qjh ivK (l.map qb3) (l.map spQ) w e w'):qcw l w e w':=by
 unfold qcw;rw[hs];unfold qjh at h;rw[List.length_map] at h;exact h
theorem q2m{l:List (ByteArray × ByteArray)}{w w':World}{e:Ending}(h:qcw l w e w'):∃(p:Option Addr) (n c:Nat) (z:Int),e = .returned (.tuple #[.slice p n c,.int .i64 z]):=by
 unfold qcw at h;obtain⟨h,_⟩:=h;split at h
 ·obtain⟨g,_,he,_⟩:=h
  exact⟨_,_,_,_,he⟩
 ·exact⟨_,_,_,_,h⟩
theorem qbw(v:Value)(l:List (ByteArray × ByteArray))(w:World)(hg:GW w)(hv:qbr w v l)(hs:∀s ∈ l,s.1.size≤1073741824∧s.2.size≤1073741824):
  Calls Tryz.prog 32 #[v] w (qcw l w):=by
 obtain⟨p,c,rfl,hc1,hc2,hcells⟩:=hv;unfold maxLen at hc2;by_cases h0:l.length=0
 ·have HF:Hid (qcw l w (.returned (.tuple #[.slice none 0 0,.int .i64 2])) w):=hid (qpm 2 (by unfold qak;rw[if_pos h0]) (by omega) rfl)
  have hb:((l.length:Int)==0)=true:=by rw[h0];rfl
  clear hcells hs hg;go_enter Tryz.func32,Tryz.ntmps32;go_wp2_with fail;go_ret2;exact HF.out
 ·have hb:((l.length:Int)==0)=false:=beq_eq_false_iff_ne.2 (by omega)
  by_cases h1:256<l.length
  ·have HF:Hid (qcw l w (.returned (.tuple #[.slice none 0 0,.int .i64 5])) w):=hid (qpm 5 (by unfold qak;rw[if_neg h0,if_pos h1]) (by omega) rfl)
   clear hcells hs hg;go_enter Tryz.func32,Tryz.ntmps32;go_wp2_with fail;go_ret2;exact HF.out
  ·obtain⟨b,o,rfl,hrow⟩:=hcells.resolve_left h0
   have HE:=hid ((qt2 l b o c w hg hrow (by omega) hs).mono fun e w' h=>qt3 (by unfold qak;rw[if_neg h0,if_neg h1]) h);clear hrow hs hg hcells;go_enter Tryz.func32,Tryz.ntmps32;go_wp2_with fail;refine HE.out.mono ?_;rintro e w1 hq;obtain⟨p,n,c',z,rfl⟩:=q2m hq;have HQ:=hid hq;clear hq HE;go_wp2_with fail;go_ret2;exact HQ.out
def qk2(lo hi:Rat)(a b:ByteArray × ByteArray)(w:World)(e:Ending)(w':World):Prop:=
 if qac [qb3 a,qb3 b]≠0 then e = .returned (.tuple #[.agg #[.string ⟨#[]⟩,.string ⟨#[]⟩],.int .i64 (qac [qb3 a,qb3 b])])∧Below w.heap.size w w'
 else qd0 lo hi w e w'
def zam(w:World)(a b:ByteArray × ByteArray)(W:World):Prop:=
 Below w.heap.size w W∧Own W w.heap.size 2 (qml (.string a.1) (.string a.2))∧Own W (w.heap.size+1) 2 (qml (.string b.1) (.string b.2))∧Own W (w.heap.size+1+1) 2 (qml (.string ⟨#[]⟩) (.string ⟨#[]⟩))
theorem zam.later{w W W':World}{a b:ByteArray × ByteArray}(h:zam w a b W)(hb:Below W.heap.size W W'):zam w a b W':=
 ⟨h.1.trans (hb.mono h.1.size),h.2.1.later (hb.mono h.2.1.1),h.2.2.1.later (hb.mono h.2.2.1.1),h.2.2.2.later (hb.mono h.2.2.2.1)⟩
theorem qx9(w:World)(a b:ByteArray × ByteArray)(t1 t2 t3:TypeId):zam w a b (((w.alloc (.cells #[.string a.1,.string a.2] t1)).alloc (.cells #[.string b.1,.string b.2] t2)).alloc (.cells #[.string ⟨#[]⟩,.string ⟨#[]⟩] t3)):=by
 have h1:Below w.heap.size w (w.alloc (.cells #[.string a.1,.string a.2] t1)):=(Below.refl _ _).alloc (Nat.le_refl _) _;have p1:=qbl w t1 (.string a.1) (.string a.2);have p2:=qbl (w.alloc (.cells #[.string a.1,.string a.2] t1)) t2 (.string b.1) (.string b.2);have p3:=qbl ((w.alloc (.cells #[.string a.1,.string a.2] t1)).alloc (.cells #[.string b.1,.string b.2] t2)) t3 (.string ⟨#[]⟩) (.string ⟨#[]⟩);have s1:(w.alloc (.cells #[.string a.1,.string a.2] t1)).heap.size=w.heap.size+1:=World.size_alloc _ _;have s2:((w.alloc (.cells #[.string a.1,.string a.2] t1)).alloc (.cells #[.string b.1,.string b.2] t2)).heap.size=w.heap.size+1+1:=by rw[World.size_alloc,s1]
 rw[s1] at p2;rw[s2] at p3;refine⟨(h1.alloc (by rw[s1];omega) _).alloc (by rw[s2];omega) _, ?_, ?_,p3⟩
 ·exact Own.later (Own.later p1 ((Below.refl _ _).alloc (by rw[s1];omega) _)) ((Below.refl _ _).alloc (by rw[s2];omega) _)
 ·exact Own.later p2 ((Below.refl _ _).alloc (by rw[s2];omega) _)
theorem q89(w:World)(o1 o2 o3:Obj):(((w.alloc o1).alloc o2).alloc o3).heap.size=w.heap.size+1+1+1:=by
 rw[World.size_alloc,World.size_alloc,World.size_alloc]
theorem qwa(W:World)(a b:ByteArray × ByteArray)(ty:TypeId):qfd (W.alloc (.cells #[.string a.1,.string a.2,.string b.1,.string b.2] ty)) W.heap.size 0 [a,b]:=by
 intro j s hj
 match j,hj with
 | 0,hj=>cases hj;constructor<;>(rw[World.cell?_alloc_at _ _ _ _ rfl];rfl)
 | 1,hj=>cases hj;constructor<;>(rw[World.cell?_alloc_at _ _ _ _ rfl];rfl)
theorem q9a{w W:World}{a b:ByteArray × ByteArray}(hW:zam w a b W)(hs:W.heap.size=w.heap.size+1+1+1)(hg:GW w)(ha:a.1.size≤1073741824∧a.2.size≤1073741824)(hb:b.1.size≤1073741824∧b.2.size≤1073741824):
  Calls Tryz.prog 70 #[.slice (some ⟨w.heap.size+1+1+1,0,none⟩) 2 2,.func (.func 71) #[] #[]] (W.alloc (.cells #[.string a.1,.string a.2,.string b.1,.string b.2] 28))
   (fun e w'=>(if qac [qb3 a,qb3 b]=0 then ∃g,w.heap.size+1+1<g∧e = .returned (.tuple #[.slice (some ⟨g,0,none⟩) 2 2,.int .i64 0])∧qdb ivK w' g 2 [spQ a,spQ b]
    else e = .returned (.tuple #[.slice none 0 0,.int .i64 (qac [qb3 a,qb3 b])]))∧zam w a b w'):=by
 rw[←hs];have hal:Below W.heap.size W (W.alloc (.cells #[.string a.1,.string a.2,.string b.1,.string b.2] 28)):=(Below.refl _ _).alloc (Nat.le_refl _) _
 refine(qt2 [a,b] W.heap.size 0 2 _ ((hg.later hW.1).later hal) (qwa W a b _) (by simp) (by
  intro s hs;simp only[List.mem_cons,List.not_mem_nil,or_false] at hs
  rcases hs with rfl|rfl<;>assumption)).mono ?_
 rintro e w' ⟨h1,h2⟩;refine⟨?_,hW.later (hal.trans (h2.mono (by rw[World.size_alloc];omega)))⟩;split at h1
 ·rename_i h0
  have h0':qac [qb3 a,qb3 b]=0:=h0;rw[if_pos h0'];obtain⟨g,hgs,he,hr⟩:=h1;rw[World.size_alloc] at hgs;exact⟨g,by omega,he,hr⟩
 ·rename_i h0
  have h0':¬qac [qb3 a,qb3 b]=0:=h0;rw[if_neg h0'];exact h1
theorem q2n{W:World}{g:Nat}{p q:Rat × Rat}(h:qdb ivK W g 2 [p,q]):∃x y x' y':NV,
  (∀W',Below W.heap.size W W'→W'.cell? ⟨g,0,none⟩=some (.bool x.b)∧W'.cell? ⟨g,1,none⟩=some (.slice x.p x.k x.c)∧W'.cell? ⟨g,2,none⟩=some (.slice x.q x.j x.d)∧
   W'.cell? ⟨g,3,none⟩=some (.bool y.b)∧W'.cell? ⟨g,4,none⟩=some (.slice y.p y.k y.c)∧W'.cell? ⟨g,5,none⟩=some (.slice y.q y.j y.d)∧
   W'.cell? ⟨g,6,none⟩=some (.bool x'.b)∧W'.cell? ⟨g,7,none⟩=some (.slice x'.p x'.k x'.c)∧W'.cell? ⟨g,8,none⟩=some (.slice x'.q x'.j x'.d)∧
   W'.cell? ⟨g,9,none⟩=some (.bool y'.b)∧W'.cell? ⟨g,10,none⟩=some (.slice y'.p y'.k y'.c)∧W'.cell? ⟨g,11,none⟩=some (.slice y'.q y'.j y'.d))∧
  qg1 W (.agg #[.bool x.b,.slice x.p x.k x.c,.slice x.q x.j x.d,.bool y.b,.slice y.p y.k y.c,.slice y.q y.j y.d]) p.1 p.2∧qg1 W (.agg #[.bool x'.b,.slice x'.p x'.k x'.c,.slice x'.q x'.j x'.d,.bool y'.b,.slice y'.p y'.k y'.c,.slice y'.q y'.j y'.d]) q.1 q.2:=by
 obtain⟨cs,⟨x,y,rfl,h1,h2⟩,hc⟩:=h.get 0 p rfl;obtain⟨cs',⟨x',y',rfl,h3,h4⟩,hc'⟩:=h.get 1 q rfl;refine⟨x,y,x',y',fun W' hb => ?_,qgd h1 h2,qgd h3 h4⟩;have key:∀(o:Nat),W'.cell? ⟨g,o,none⟩=W.cell? ⟨g,o,none⟩:=fun o=>hb.cell h.lt;simp only[key];exact⟨hc 0 _ rfl,hc 1 _ rfl,hc 2 _ rfl,hc 3 _ rfl,hc 4 _ rfl,hc 5 _ rfl,hc' 0 _ rfl,hc' 1 _ rfl,hc' 2 _ rfl,hc' 3 _ rfl,hc' 4 _ rfl,hc' 5 _ rfl⟩
theorem qwb{W:World}{g g':Nat}{c0 c1 c2 c3 c4 c5 c6 c7 c8 c9 c10 c11:Option Value}(h:W.cell? ⟨g,0,none⟩=c0∧W.cell? ⟨g,1,none⟩=c1∧W.cell? ⟨g,2,none⟩=c2∧W.cell? ⟨g,3,none⟩=c3∧W.cell? ⟨g,4,none⟩=c4∧W.cell? ⟨g,5,none⟩=c5∧W.cell? ⟨g,6,none⟩=c6∧W.cell? ⟨g,7,none⟩=c7∧W.cell? ⟨g,8,none⟩=c8∧W.cell? ⟨g,9,none⟩=c9∧W.cell? ⟨g,10,none⟩=c10∧W.cell? ⟨g,11,none⟩=c11)(hne:g'≠g)(x y:Value):
  ((W.setCell ⟨g',0,none⟩ x).setCell ⟨g',1,none⟩ y).cell? ⟨g,0,none⟩=c0∧((W.setCell ⟨g',0,none⟩ x).setCell ⟨g',1,none⟩ y).cell? ⟨g,1,none⟩=c1∧((W.setCell ⟨g',0,none⟩ x).setCell ⟨g',1,none⟩ y).cell? ⟨g,2,none⟩=c2∧((W.setCell ⟨g',0,none⟩ x).setCell ⟨g',1,none⟩ y).cell? ⟨g,3,none⟩=c3∧((W.setCell ⟨g',0,none⟩ x).setCell ⟨g',1,none⟩ y).cell? ⟨g,4,none⟩=c4∧((W.setCell ⟨g',0,none⟩ x).setCell ⟨g',1,none⟩ y).cell? ⟨g,5,none⟩=c5∧((W.setCell ⟨g',0,none⟩ x).setCell ⟨g',1,none⟩ y).cell? ⟨g,6,none⟩=c6∧((W.setCell ⟨g',0,none⟩ x).setCell ⟨g',1,none⟩ y).cell? ⟨g,7,none⟩=c7∧((W.setCell ⟨g',0,none⟩ x).setCell ⟨g',1,none⟩ y).cell? ⟨g,8,none⟩=c8∧((W.setCell ⟨g',0,none⟩ x).setCell ⟨g',1,none⟩ y).cell? ⟨g,9,none⟩=c9∧((W.setCell ⟨g',0,none⟩ x).setCell ⟨g',1,none⟩ y).cell? ⟨g,10,none⟩=c10∧((W.setCell ⟨g',0,none⟩ x).setCell ⟨g',1,none⟩ y).cell? ⟨g,11,none⟩=c11:=by
 have k:∀(V:World) (i o:Nat) (v:Value),(V.setCell ⟨g',i,none⟩ v).cell? ⟨g,o,none⟩=V.cell? ⟨g,o,none⟩:=fun V i o v=>World.cell?_setCell_other _ _ _ _ (by intro e;injection e with e;exact hne e);simp only[k];exact h
theorem qsc{a:ByteArray × ByteArray}(h:qb3 a=0):bd (spQ a).1 600∧bd (spQ a).2 600∧(spQ a).1≤(spQ a).2:=by
 unfold qb3 qdd at h;split at h
 ·rename_i h1;exact absurd h h1
 ·rename_i h1
  obtain⟨c1,c2⟩:=qj8 (by omega:qac [qaa a.1.data.toList,qaa a.2.data.toList]=0);split at h
  ·cases h
  ·rename_i h2
   exact⟨qiu c1,qiu c2,qmv.1 (show qcu (qav a.1.data.toList) (qav a.2.data.toList)≤0 by omega)⟩
theorem qzy{lo hi:Rat}{a b:ByteArray × ByteArray}{w w':World}{e:Ending}(h:qk2 lo hi a b w e w'):∃(t1 t2:ByteArray) (ec:Int),e = .returned (.tuple #[.agg #[.string t1,.string t2],.int .i64 ec])∧qk2 lo hi a b w (.returned (.tuple #[.agg #[.string t1,.string t2],.int .i64 ec])) w'∧Below w.heap.size w w':=by
 have h0:=h;unfold qk2 at h;split at h
 ·obtain⟨rfl,hb⟩:=h
  exact⟨_,_,_,rfl,h0,hb⟩
 ·obtain⟨t1,t2,ec,rfl,h2⟩:=qfp h
  exact⟨t1,t2,ec,rfl,h0,h2.2⟩
theorem qzz{lo hi:Rat}{a b:ByteArray × ByteArray}{w0 w1 w w':World}{e:Ending}(h:qk2 lo hi a b w0 e w1)(hb:Below w.heap.size w w'):qk2 lo hi a b w e w':=by
 unfold qk2 at h ⊢;split at h
 ·rename_i h0;rw[if_pos h0];exact⟨h.1,hb⟩
 ·rename_i h0;rw[if_neg h0];exact⟨h.1,hb⟩
theorem qbk{W:World}{g:Nat}{w:World}(h:Below w.heap.size w W)(hg:w.heap.size≤g)(x y:Value):Below w.heap.size w ((W.setCell ⟨g,0,none⟩ x).setCell ⟨g,1,none⟩ y):=
 (h.setCell (p:=⟨g,0,none⟩) hg x).setCell (p:=⟨g,1,none⟩) hg y
end Go.Proofs.YthjagoogkkgelaaGreatDoor
