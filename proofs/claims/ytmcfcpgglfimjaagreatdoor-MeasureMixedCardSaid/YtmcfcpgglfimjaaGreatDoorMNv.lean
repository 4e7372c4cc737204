/- Numbers by their cells; intervals. -/
import Derived.Test.YtmcfcpgglfimjaaGreatDoorMSpans
set_option linter.all false
namespace Go.Proofs.YtmcfcpgglfimjaaGreatDoor
open Go.RowKit
set_option maxRecDepth 100000
set_option maxHeartbeats 4000000
structure NV where
 b:Bool
 p:Option Addr
 k:Nat
 c:Nat
 q:Option Addr
 j:Nat
 d:Nat
theorem qaw.nv{w:World}{v:Value}{a:Rat}(h:qaw w v a):∃x:NV,v = .agg #[.bool x.b,.slice x.p x.k x.c,.slice x.q x.j x.d]:=by
 obtain⟨p1,k1,c1,p2,k2,c2,rfl,_,_⟩:=h.parts;exact⟨⟨_,p1,k1,c1,p2,k2,c2⟩,rfl⟩
theorem qgo.nv{w:World}{v:Value}{lo hi:Rat}(h:qgo w v lo hi):∃x y:NV,v = .agg #[.bool x.b,.slice x.p x.k x.c,.slice x.q x.j x.d,.bool y.b,.slice y.p y.k y.c,.slice y.q y.j y.d]∧qaw w (.agg #[.bool x.b,.slice x.p x.k x.c,.slice x.q x.j x.d]) lo∧qaw w (.agg #[.bool y.b,.slice y.p y.k y.c,.slice y.q y.j y.d]) hi:=by
 obtain⟨b,p1,k1,c1,p2,k2,c2,b',p1',k1',c1',p2',k2',c2',e,h1,h2⟩:=h;exact⟨⟨b,p1,k1,c1,p2,k2,c2⟩,⟨b',p1',k1',c1',p2',k2',c2'⟩,e,h1,h2⟩
theorem qib{w:World}{lo hi:Rat}{x y:NV}(h1:qaw w (.agg #[.bool x.b,.slice x.p x.k x.c,.slice x.q x.j x.d]) lo)(h2:qaw w (.agg #[.bool y.b,.slice y.p y.k y.c,.slice y.q y.j y.d]) hi):qgo w (.agg #[.bool x.b,.slice x.p x.k x.c,.slice x.q x.j x.d,.bool y.b,.slice y.p y.k y.c,.slice y.q y.j y.d]) lo hi:=
 ⟨_,_,_,_,_,_,_,_,_,_,_,_,_,_,rfl,h1,h2⟩
def qkb(W:World)(g:Nat)(x y:NV):Prop:=Own W g 6 (qkr x.b (.slice x.p x.k x.c) (.slice x.q x.j x.d) y.b (.slice y.p y.k y.c) (.slice y.q y.j y.d))
def zbe(W:World)(g:Nat):Prop:=Own W g 6 (qkr false (.slice none 0 0) (.slice none 0 0) false (.slice none 0 0) (.slice none 0 0))
abbrev zas(g:Nat)(x y:NV)(W:World):Prop:=
 W.cell? ⟨g,0,none⟩=some (.bool x.b)∧W.cell? ⟨g,1,none⟩=some (.slice x.p x.k x.c)∧W.cell? ⟨g,2,none⟩=some (.slice x.q x.j x.d)∧
 W.cell? ⟨g,3,none⟩=some (.bool y.b)∧W.cell? ⟨g,4,none⟩=some (.slice y.p y.k y.c)∧W.cell? ⟨g,5,none⟩=some (.slice y.q y.j y.d)
theorem qkb.cells{W:World}{g:Nat}{x y:NV}(h:qkb W g x y):zas g x y W:=
 ⟨(h.2 0 (by omega)).1,(h.2 1 (by omega)).1,(h.2 2 (by omega)).1,(h.2 3 (by omega)).1,(h.2 4 (by omega)).1,(h.2 5 (by omega)).1⟩
def qsj(w:World)(x y x' y':NV)(W:World):Prop:=
 Below w.heap.size w W∧qkb W w.heap.size x y∧qkb W (w.heap.size+1) x' y'∧zbe W (w.heap.size+1+1)
theorem qsj.later{w W W':World}{x y x' y':NV}(h:qsj w x y x' y' W)(hb:Below W.heap.size W W'):qsj w x y x' y' W':=
 ⟨h.1.trans (hb.mono h.1.size),h.2.1.later (hb.mono h.2.1.1),h.2.2.1.later (hb.mono h.2.2.1.1),h.2.2.2.later (hb.mono h.2.2.2.1)⟩
theorem qxm(w:World)(x y x' y':NV)(t1 t2 t3:TypeId):qsj w x y x' y' (((w.alloc (.cells #[.bool x.b,.slice x.p x.k x.c,.slice x.q x.j x.d,.bool y.b,.slice y.p y.k y.c,.slice y.q y.j y.d] t1)).alloc (.cells #[.bool x'.b,.slice x'.p x'.k x'.c,.slice x'.q x'.j x'.d,.bool y'.b,.slice y'.p y'.k y'.c,.slice y'.q y'.j y'.d] t2)).alloc (.cells #[.bool false,.slice none 0 0,.slice none 0 0,.bool false,.slice none 0 0,.slice none 0 0] t3)):=by
 have h1:Below w.heap.size w (w.alloc (.cells #[.bool x.b,.slice x.p x.k x.c,.slice x.q x.j x.d,.bool y.b,.slice y.p y.k y.c,.slice y.q y.j y.d] t1)):=qad _ _;have p1:=qks w x.b (.slice x.p x.k x.c) (.slice x.q x.j x.d) y.b (.slice y.p y.k y.c) (.slice y.q y.j y.d) t1;have p2:=qks (w.alloc (.cells #[.bool x.b,.slice x.p x.k x.c,.slice x.q x.j x.d,.bool y.b,.slice y.p y.k y.c,.slice y.q y.j y.d] t1)) x'.b (.slice x'.p x'.k x'.c) (.slice x'.q x'.j x'.d) y'.b (.slice y'.p y'.k y'.c) (.slice y'.q y'.j y'.d) t2;have p3:=qks ((w.alloc (.cells #[.bool x.b,.slice x.p x.k x.c,.slice x.q x.j x.d,.bool y.b,.slice y.p y.k y.c,.slice y.q y.j y.d] t1)).alloc (.cells #[.bool x'.b,.slice x'.p x'.k x'.c,.slice x'.q x'.j x'.d,.bool y'.b,.slice y'.p y'.k y'.c,.slice y'.q y'.j y'.d] t2)) false (.slice none 0 0) (.slice none 0 0) false (.slice none 0 0) (.slice none 0 0) t3;have s1:(w.alloc (.cells #[.bool x.b,.slice x.p x.k x.c,.slice x.q x.j x.d,.bool y.b,.slice y.p y.k y.c,.slice y.q y.j y.d] t1)).heap.size=w.heap.size+1:=qab _ _;have s2:((w.alloc (.cells #[.bool x.b,.slice x.p x.k x.c,.slice x.q x.j x.d,.bool y.b,.slice y.p y.k y.c,.slice y.q y.j y.d] t1)).alloc (.cells #[.bool x'.b,.slice x'.p x'.k x'.c,.slice x'.q x'.j x'.d,.bool y'.b,.slice y'.p y'.k y'.c,.slice y'.q y'.j y'.d] t2)).heap.size=w.heap.size+1+1:=by rw[qab,s1]
 rw[s1] at p2;rw[s2] at p3;refine⟨(h1.alloc (by rw[s1];omega) _).alloc (by rw[s2];omega) _, ?_, ?_,p3⟩
 ·exact Own.later (Own.later p1 ((qaa _ _).alloc (by rw[s1];omega) _)) ((qaa _ _).alloc (by rw[s2];omega) _)
 ·exact Own.later p2 ((qaa _ _).alloc (by rw[s2];omega) _)
theorem qmu{w W:World}{x y x' y':NV}{f:FuncId}{args:Array Value}{_R:Ending→Prop}{q:Rat}(hW:qsj w x y x' y' W)
  (h:Calls Tryz.prog f args W fun e w'=>(∃v',e = .returned v'∧qaw w' v' q)∧Below W.heap.size W w'):
  Calls Tryz.prog f args W fun e w'=>(∃z:NV,e = .returned (.agg #[.bool z.b,.slice z.p z.k z.c,.slice z.q z.j z.d])∧qaw w' (.agg #[.bool z.b,.slice z.p z.k z.c,.slice z.q z.j z.d]) q)∧qsj w x y x' y' w'∧Below W.heap.size W w':=
 h.mono fun e w' ⟨⟨v',he,hn⟩,hb⟩=>by
  obtain⟨z,rfl⟩:=hn.nv;exact⟨⟨z,he,hn⟩,hW.later hb,hb⟩
theorem qlo{W:World}{g g':Nat}{x y:NV}(h:zas g x y W)(hne:g'≠g)(x0 x1 x2 x3 x4 x5:Value):
  zas g x y ((((((W.setCell ⟨g',0,none⟩ x0).setCell ⟨g',1,none⟩ x1).setCell ⟨g',2,none⟩ x2).setCell ⟨g',3,none⟩ x3).setCell ⟨g',4,none⟩ x4).setCell ⟨g',5,none⟩ x5):=by
 have k:∀(V:World) (i o:Nat) (v:Value),(V.setCell ⟨g',i,none⟩ v).cell? ⟨g,o,none⟩=V.cell? ⟨g,o,none⟩:=fun V i o v=>World.cell?_setCell_other _ _ _ _ (by intro e;injection e with e;exact hne e);unfold zas at h ⊢;simp only[k];exact h
structure qur(α:Type) where
 ty:TypeId
 size:Nat
 ok:Value→Prop
 E:World→List Value→α→Prop
structure qur.Law{α:Type}(K:qur α):Prop where
 pos:0<K.size
 cells:∀W cs x,K.E W cs x→cs.length=K.size∧∀c ∈ cs,K.ok c∧c.oneCell'=true
 later:∀W W' cs x,K.E W cs x→Below W.heap.size W W'→K.E W' cs x
 set:∀W g cur ty fr cs x cs',K.E W cs x→W.heap[g]? = some (.cells cur ty fr)→(∀c ∈ cur.toList,K.ok c)→K.E (W.setRow g cs') cs x
def qdk{α:Type}(K:qur α)(W:World)(g cap:Nat)(l:List α):Prop:=
 l.length≤cap∧∃cur:Array Value,W.heap[g]? = some (.cells cur K.ty (0,0))∧cur.size=cap*K.size∧(∀c ∈ cur.toList,K.ok c)∧
  ∀(j:Nat) (x:α),l[j]? = some x→∃cs,K.E W cs x∧∀i c,cs[i]? = some c→cur.toList[j*K.size+i]? = some c
theorem qdk.lt{α:Type}{K:qur α}{W:World}{g cap:Nat}{l:List α}(h:qdk K W g cap l):g<W.heap.size:=by
 obtain⟨_,cur,hg,_⟩:=h;rcases Nat.lt_or_ge g W.heap.size with h1|h1
 ·exact h1
 ·rw[Array.getElem?_eq_none h1] at hg;cases hg
theorem qdk.later{α:Type}{K:qur α}(L:K.Law){W W':World}{g cap:Nat}{l:List α}(h:qdk K W g cap l)(hb:Below W.heap.size W W'):qdk K W' g cap l:=by
 have bC:=h.lt;obtain⟨h1,cur,hg,h2,h3,h4⟩:=h;refine⟨h1,cur,(hb.block g bC).trans hg,h2,h3,fun j x hx => ?_⟩;obtain⟨cs,e,hc⟩:=h4 j x hx;exact⟨cs,L.later _ _ _ _ e hb,hc⟩
theorem qkt{α:Type}{K:qur α}(L:K.Law)(w:World)(cap n:Nat)(zs:Array Value)(hn:n=cap*K.size)(hz:zs.size=K.size)(ho:∀c ∈ zs.toList,K.ok c):
  qdk K (w.alloc (.cells (madeCells zs n) K.ty)) w.heap.size cap []:=by
 refine⟨Nat.zero_le _,_,heap_alloc_new w _,by rw[size_madeCells,hn],fun c hc => ?_,fun j x h=>by simp at h⟩;unfold madeCells at hc;simp only[Array.toList_map,Array.toList_range,List.mem_map] at hc;obtain⟨i,_,rfl⟩:=hc;have hi:i % zs.size<zs.size:=Nat.mod_lt _ (by rw[hz];exact L.pos);refine ho _ ?_;simp[hi]
theorem qdk.push{α:Type}{K:qur α}(L:K.Law){W:World}{g cap:Nat}{l:List α}{cs:List Value}{x:α}(h:qdk K W g cap l)(hk:l.length<cap)(hv:K.E W cs x):
  ∃cur:Array Value,W.heap[g]? = some (.cells cur K.ty (0,0))∧l.length*K.size+cs.length≤cur.size∧
   qdk K (W.setRow g (cur.toList.take (l.length*K.size)++cs++cur.toList.drop (l.length*K.size+cs.length)).toArray) g cap (l++[x])∧
   ∀B,B≤g→Below B W (W.setRow g (cur.toList.take (l.length*K.size)++cs++cur.toList.drop (l.length*K.size+cs.length)).toArray):=by
 obtain⟨h1,cur,hg,h2,h3,h4⟩:=h;obtain⟨aE,cV⟩:=L.cells _ _ _ hv;have jN:=L.pos
 have Bi:l.length*K.size+K.size≤cap*K.size:=by
  have:=Nat.mul_le_mul_right K.size (Nat.succ_le_of_lt hk);rw[Nat.succ_mul] at this;exact this
 have bM:l.length*K.size+cs.length≤cur.size:=by rw[aE,h2];exact Bi
 have hfit':l.length*K.size+cs.length≤cur.toList.length:=by rw[Array.length_toList];exact bM
 have rQ:(cur.toList.take (l.length*K.size)).length=l.length*K.size:=by rw[List.length_take];omega
 refine⟨cur,hg,bM,⟨by rw[List.length_append];simp;omega,_,setRow_heap W g cur _ _ _ hg, ?_, ?_, ?_⟩,fun B hB=>⟨rfl,rfl,rfl,by simp[World.setRow],fun k hk=>setRow_other W g k _ (by omega)⟩⟩
 ·simp only[List.size_toArray,List.length_append,rQ,List.length_drop,Array.length_toList]
  omega
 ·intro c hc
  rw[List.mem_append,List.mem_append] at hc;rcases hc with(hc|hc)|hc
  ·exact h3 c (List.mem_of_mem_take hc)
  ·exact(cV c hc).1
  ·exact h3 c (List.mem_of_mem_drop hc)
 ·intro j y hy
  rcases Nat.lt_or_ge j l.length with hj|hj
  ·rw[List.getElem?_append_left hj] at hy
   obtain⟨cs',e,hc⟩:=h4 j y hy;refine⟨cs',L.set _ _ _ _ _ _ _ _ e hg h3,fun i c hi => ?_⟩
   have zK:i<K.size:=by
    rw[←(L.cells _ _ _ e).1];exact(List.getElem?_eq_some_iff.1 hi).1
   have bC:j*K.size+i<l.length*K.size:=by
    have:=Nat.mul_le_mul_right K.size (Nat.succ_le_of_lt hj);rw[Nat.succ_mul] at this;omega
   show(cur.toList.take (l.length*K.size)++cs++cur.toList.drop (l.length*K.size+cs.length))[j*K.size+i]? = some c;rw[List.append_assoc,List.getElem?_append_left (by rw[rQ];exact bC),List.getElem?_take_of_lt bC];exact hc i c hi
  ·have hj':j=l.length:=by
    have:=(List.getElem?_eq_some_iff.1 hy).1;rw[List.length_append] at this;simp at this;omega
   subst hj'
   have tQ:y=x:=by
    rw[List.getElem?_append_right (qac _),Nat.sub_self] at hy
    simpa using hy.symm
   subst tQ;refine⟨cs,L.set _ _ _ _ _ _ _ _ hv hg h3,fun i c hi => ?_⟩;have zK:i<cs.length:=(List.getElem?_eq_some_iff.1 hi).1;show(cur.toList.take (l.length*K.size)++cs++cur.toList.drop (l.length*K.size+cs.length))[l.length*K.size+i]? = some c;rw[List.append_assoc,List.getElem?_append_right (by rw[rQ];omega),rQ,Nat.add_sub_cancel_left,List.getElem?_append_left zK];exact hi
theorem qdk.get{α:Type}{K:qur α}{W:World}{g cap:Nat}{l:List α}(h:qdk K W g cap l)(j:Nat)(x:α)(hx:l[j]? = some x):∃cs,K.E W cs x∧∀i c,cs[i]? = some c→W.cell? ⟨g,j*K.size+i,none⟩=some c:=by
 obtain⟨_,cur,hg,_,_,h4⟩:=h;obtain⟨cs,e,hc⟩:=h4 j x hx;refine⟨cs,e,fun i c hi => ?_⟩;rw[cell_of_row W g _ cur _ (0,0) hg,←Array.getElem?_toList];exact hc i c hi
def qji{α:Type}(K:qur α)(errs:List Nat)(l:List α)(w:World)(e:Ending)(w':World):Prop:=
 (if qai errs=0 then ∃g,w.heap.size≤g∧e = .returned (.tuple #[.slice (some ⟨g,0,none⟩) l.length l.length,.int .i64 0])∧qdk K w' g l.length l
  else e = .returned (.tuple #[.slice none 0 0,.int .i64 (qai errs)]))∧Below w.heap.size w w'
theorem qo7{α:Type}{K:qur α}{errs:List Nat}{l:List α}{w w':World}{k:Nat}{e:Ending}(h:qai errs=k)(hk:k≠0)(he:e = .returned (.tuple #[.slice none 0 0,.int .i64 (k:Int)]))(hb:Below w.heap.size w w'):qji K errs l w e w':=by
 unfold qji;rw[if_neg (by omega),h];exact⟨he,hb⟩
theorem qmv{α:Type}{K:qur α}{errs:List Nat}{l:List α}{w w':World}{g n:Nat}{e:Ending}(h:qai errs=0)(hn:l.length=n)(hg:w.heap.size≤g)(he:e = .returned (.tuple #[.slice (some ⟨g,0,none⟩) n n,.int .i64 0]))(hv:qdk K w' g n l)(hb:Below w.heap.size w w'):qji K errs l w e w':=by
 unfold qji;rw[if_pos h,hn];exact⟨⟨g,hg,he,hv⟩,hb⟩
def ivK:qur (Rat × Rat) where
 ty:=101
 size:=6
 ok:=fun c=>∀k z,c ≠ .int k z
 E:=fun W cs r=>∃x y:NV,cs=[.bool x.b,.slice x.p x.k x.c,.slice x.q x.j x.d,.bool y.b,.slice y.p y.k y.c,.slice y.q y.j y.d]∧qaw W (.agg #[.bool x.b,.slice x.p x.k x.c,.slice x.q x.j x.d]) r.1∧qaw W (.agg #[.bool y.b,.slice y.p y.k y.c,.slice y.q y.j y.d]) r.2
theorem qfs:ivK.Law where
 pos:=by show 0<6;omega
 cells:=by
  rintro W cs r ⟨x,y,rfl,_,_⟩;refine⟨rfl,fun c hc => ?_⟩;simp only[List.mem_cons,List.not_mem_nil,or_false] at hc;rcases hc with rfl|rfl|rfl|rfl|rfl|rfl<;>exact⟨fun _ _ h=>(by cases h),rfl⟩
 later:=by
  rintro W W' cs r ⟨x,y,rfl,h1,h2⟩ hb;exact⟨x,y,rfl,h1.later hb,h2.later hb⟩
 set:=by
  rintro W g cur ty fr cs r cs' ⟨x,y,rfl,h1,h2⟩ hg hc;exact⟨x,y,rfl,h1.setRow hg hc cs',h2.setRow hg hc cs'⟩
def qdf(s:BA × BA):Nat:=qka s.1 s.2
def spQ(s:BA × BA):Rat × Rat:=(qa9 s.1.data.toList,qa9 s.2.data.toList)
def qb0(W:World)(b o:Nat)(l:List (BA × BA)):Prop:=
 ∀(j:Nat) (s:BA × BA),l[j]? = some s→W.cell? ⟨b,o+j*2,none⟩=some (.string s.1)∧W.cell? ⟨b,o+j*2+1,none⟩=some (.string s.2)
theorem q51(n:Nat)(hn:n≤1048576)(w:World):
  (Instr.makeSlice 102 (.int .i64 0) (.int .i64 (n:Int))).run Tryz.prog w = .ok (.slice (some ⟨w.heap.size,0,none⟩) 0 n) (w.alloc (.cells (madeCells #[.bool false,.slice none 0 0,.slice none 0 0,.bool false,.slice none 0 0,.slice none 0 0] (n*6)) 101)):=by
 obtain⟨i0,hi,cP,dV,eF⟩:=info_parts (show(Tryz.prog.info? 101).map (fun i=>(i.zero,i.size,i.bytes))=some (some (.agg #[.bool false,.slice none 0 0,.slice none 0 0,.bool false,.slice none 0 0,.slice none 0 0]),6,112) by kernel_rfl);have h:=run_make (P:=Tryz.prog) w 102 101 i0 _ Tryz.underlying102 hi cP .i64 .i64 0 (n:Int) (Int.le_refl _) (by omega) (by rw[eF];omega) (by omega);rw[dV] at h
 simpa [Value.cells] using h
theorem qrz{s:BA × BA}{w:World}(h:Calls Tryz.prog 95 #[.agg #[.string s.1,.string s.2]] w (qlm s.1 s.2 w))(hc:qdf s=0):
  Calls Tryz.prog 95 #[.agg #[.string s.1,.string s.2]] w fun e w'=>(∃x y:NV,e = .returned (.tuple #[.agg #[.bool x.b,.slice x.p x.k x.c,.slice x.q x.j x.d,.bool y.b,.slice y.p y.k y.c,.slice y.q y.j y.d],.int .i64 0])∧ivK.E w' [.bool x.b,.slice x.p x.k x.c,.slice x.q x.j x.d,.bool y.b,.slice y.p y.k y.c,.slice y.q y.j y.d] (spQ s))∧Below w.heap.size w w':=by
 refine h.mono ?_;rintro e w' ⟨h1,h2⟩;unfold qdf at hc;rw[if_pos hc] at h1;obtain⟨v,he,hv⟩:=h1;obtain⟨x,y,rfl,hx,hy⟩:=hv.nv;exact⟨⟨x,y,he,x,y,rfl,hx,hy⟩,h2⟩
theorem qtw{s:BA × BA}{w:World}(h:Calls Tryz.prog 95 #[.agg #[.string s.1,.string s.2]] w (qlm s.1 s.2 w))(hc:qdf s≠0):
  Calls Tryz.prog 95 #[.agg #[.string s.1,.string s.2]] w fun e w'=>e = .returned (.tuple #[.agg #[.bool false,.slice none 0 0,.slice none 0 0,.bool false,.slice none 0 0,.slice none 0 0],.int .i64 (qdf s:Nat)])∧Below w.heap.size w w':=by
 refine h.mono ?_;rintro e w' ⟨h1,h2⟩;unfold qdf at hc;rw[if_neg hc] at h1;exact⟨h1,h2⟩
theorem qtx(l:List (BA × BA))(b o c:Nat)(w:World)(hg:GW w)(aB:qb0 w b o l)(hl:l.length≤1048576)(hs:∀s ∈ l,s.1.size≤1073741824∧s.2.size≤1073741824):
  Calls Tryz.prog 94 #[.slice (some ⟨b,o,none⟩) l.length c,.func (.func 95) #[] #[]] w
   (qji ivK (l.map qdf) (l.map spQ) w):=by
 have HG:=hid hg;have bP:=hid aB;have HS:=hid hs;have kX:=q51 l.length hl;obtain⟨i0,hi,cP,dV,eF⟩:=info_parts (show(Tryz.prog.info? 101).map (fun i=>(i.zero,i.size,i.bytes))=some (some (.agg #[.bool false,.slice none 0 0,.slice none 0 0,.bool false,.slice none 0 0,.slice none 0 0]),6,112) by kernel_rfl);have HI:=hid hi;clear aB hs hi cP eF
 have gJ:=hid (qkt qfs w l.length (l.length*6) #[.bool false,.slice none 0 0,.slice none 0 0,.bool false,.slice none 0 0,.slice none 0 0] rfl rfl (by
  intro c hc;simp only[List.mem_cons,List.not_mem_nil,or_false] at hc
  rcases hc with rfl|rfl|rfl|rfl|rfl|rfl<;>(intro _ _ h;cases h)))
 have dU:Hid (Below w.heap.size w (w.alloc (.cells (madeCells #[.bool false,.slice none 0 0,.slice none 0 0,.bool false,.slice none 0 0,.slice none 0 0] (l.length*6)) 101))):=hid (qad _ _);clear hg;go_enter Tryz.func94,Tryz.ntmps94;go_wp2_with fail;clear kX
 replace gJ:Hid (qdk ivK (w.alloc (.cells (madeCells #[.bool false,.slice none 0 0,.slice none 0 0,.bool false,.slice none 0 0,.slice none 0 0] (l.length*6)) 101)) w.heap.size l.length []):=gJ
 generalize w.alloc (.cells (madeCells #[.bool false,.slice none 0 0,.slice none 0 0,.bool false,.slice none 0 0,.slice none 0 0] (l.length*6)) 101)=w0 at *
 go_loopw [6,16] (fun r i wr=>∃k:Nat,k≤l.length∧i = .int .i64 k∧r = .slice (some ⟨w.heap.size,0,none⟩) k l.length∧Hid (qdk ivK wr w.heap.size l.length ((l.take k).map spQ))∧Hid (qai ((l.take k).map qdf)=0)∧Hid (Below w.heap.size w wr)) (fun _ i _=>l.length-(intOf i).toNat)
 case atStart=>exact⟨0,Nat.zero_le _,rfl,rfl,gJ,hid rfl,dU⟩
 case round=>
  obtain⟨k,hk,rfl,rfl,HN,HE,HB⟩:=hrel;clear gJ dU;by_cases cQ:k<l.length
  ·obtain⟨s,cI⟩:∃s,l[k]? = some s:=⟨l[k],qat cQ⟩
   obtain⟨e0,e1⟩:=bP.out k s cI;have fA:wr.cell? ⟨b,o+k*2,none⟩=some (.string s.1):=by rw[HB.out.cell (qaf w _ e0)];exact e0
   have bO:wr.cell? ⟨b,o+k*2+1,none⟩=some (.string s.2):=by rw[HB.out.cell (qaf w _ e1)];exact e1
   have aD:Below wr.heap.size wr (wr.alloc (.cells #[.string s.1,.string s.2] 47)):=qad _ _;have fM:=HS.out s (qbj cI);have cH:=hid (qtv s.1 s.2 (wr.alloc (.cells #[.string s.1,.string s.2] 47)) ((HG.out.later HB.out).later aD) fM.1 fM.2);obtain⟨x0,x1⟩:=qap (qd2 wr 47 (.string s.1) (.string s.2));have dK:=hid aD;have oE:=hid cI;clear e0 e1 cI aD fM;by_cases hc:qdf s=0
   ·have eS:=hid (qrz cH.out hc)
    have gB:=hid (qhl qdf oE.out HE.out hc)
    have jU:((l.take k).map spQ)++[spQ s]=(l.take (k+1)).map spQ:=by
     rw[qbp oE.out,List.map_append];rfl
    have vJ:=hid jU;have gT:((l.take k).map spQ).length=k:=by rw[List.length_map,List.length_take];omega
    have dI:=hid (HN.out.later qfs dK.out);have aP:=hid (HB.out.trans (dK.out.mono HB.out.size));clear cH HE hc jU HN HB dK;generalize spQ s=q at *;generalize ((l.take k).map spQ)=qs at *;go_wp2_with fail;refine eS.out.mono ?_;rintro e w1 ⟨⟨x,y,rfl,hv⟩,hb⟩;have aD:Below w1.heap.size w1 (w1.alloc (.cells #[.bool x.b,.slice x.p x.k x.c,.slice x.q x.j x.d,.bool y.b,.slice y.p y.k y.c,.slice y.q y.j y.d] 101)):=qad _ _;have fX:=hid ((dI.out.later qfs hb).later qfs aD);have cK:=hid (qfs.later _ _ _ _ hv aD);have aV:=hid (aP.out.trans (hb.mono aP.out.size));have kB:w.heap.size≤w1.heap.size:=aV.out.size;have aK:=hid (aV.out.trans (aD.mono kB));obtain⟨⟨y0,_⟩,⟨y1,_⟩,⟨y2,_⟩,⟨y3,_⟩,⟨y4,_⟩,⟨y5,_⟩⟩:=qd3 (qks w1 x.b (.slice x.p x.k x.c) (.slice x.q x.j x.d) y.b (.slice y.p y.k y.c) (.slice y.q y.j y.d) 101);have bL:Below (w1.alloc (.cells #[.bool x.b,.slice x.p x.k x.c,.slice x.q x.j x.d,.bool y.b,.slice y.p y.k y.c,.slice y.q y.j y.d] 101)).heap.size (w1.alloc (.cells #[.bool x.b,.slice x.p x.k x.c,.slice x.q x.j x.d,.bool y.b,.slice y.p y.k y.c,.slice y.q y.j y.d] 101)) ((w1.alloc (.cells #[.bool x.b,.slice x.p x.k x.c,.slice x.q x.j x.d,.bool y.b,.slice y.p y.k y.c,.slice y.q y.j y.d] 101)).alloc (.cells #[.bool x.b,.slice x.p x.k x.c,.slice x.q x.j x.d,.bool y.b,.slice y.p y.k y.c,.slice y.q y.j y.d] 101)):=qad _ _;obtain⟨cur,dX,bM,bZ,bI⟩:=(fX.out.later qfs bL).push qfs (by rw[gT];exact cQ) (qfs.later _ _ _ _ cK.out bL);have iD:=heap_alloc_new (w1.alloc (.cells #[.bool x.b,.slice x.p x.k x.c,.slice x.q x.j x.d,.bool y.b,.slice y.p y.k y.c,.slice y.q y.j y.d] 101)) (.cells #[.bool x.b,.slice x.p x.k x.c,.slice x.q x.j x.d,.bool y.b,.slice y.p y.k y.c,.slice y.q y.j y.d] 101);rw[qab] at iD;rw[gT] at bM bZ bI
    simp only[List.append_assoc,List.cons_append,List.nil_append,ivK,List.length_cons,List.length_nil,Nat.zero_add,Nat.reduceAdd] at bZ bI bM dX;have bV:Hid (qdk ivK _ _ _ _):=hid bZ;have aG:=hid (aK.out.trans ((bL.mono (by rw[qab];omega)).trans (bI w.heap.size (qac _))));have kE:=hid dX;have jL:=hid iD;have dF:=hid bM;clear aD bL kB dX bM bZ bI iD dI aP fX cK aK gT hv hb aV x0 x1 fA bO eS;go_wp2_with (at_builtin;refine qbu _ rfl _ _ 102 rfl 101 i0 6 Tryz.underlying102 HI.out dV w.heap.size k l.length cur rfl kE.out ⟨w1.heap.size+1,0,none⟩ 1 1 [.bool x.b,.slice x.p x.k x.c,.slice x.q x.j x.d,.bool y.b,.slice y.p y.k y.c,.slice y.q y.j y.d] rfl rfl (World.news_of_block jL.out) ?lQ (by omega) dF.out ?_)
    case lQ=>
     intro u hu;simp only[List.mem_cons,List.not_mem_nil,or_false] at hu;rcases hu with rfl|rfl|rfl|rfl|rfl|rfl<;>rfl
    clear y0 y1 y2 y3 y4 y5;go_wp2_with fail;go_roundw
    case rel=>exact⟨k+1,cQ,by go_num,rfl,hid (by rw[←vJ.out];exact bV.out),gB,aG⟩
    case measure=>simp[intOf];omega
   ·have eS:=hid (qtw cH.out hc)
    have HF:=hid (qjg qdf oE.out HE.out hc);clear cH HE;generalize qdf s=ck at *;have nE:((ck:Int)==0)=false:=qan (by omega);have eY:=hid hc;clear hc;go_wp2_with fail;refine eS.out.mono ?_;rintro e w1 ⟨rfl,hb⟩;have h1:=HB.out.trans ((dK.out.trans (hb.mono dK.out.size)).mono HB.out.size);have aP:=hid (h1.trans ((qaa w.heap.size w1).alloc h1.size (.cells #[.bool false,.slice none 0 0,.slice none 0 0,.bool false,.slice none 0 0,.slice none 0 0] 101)));clear hb HB eS x0 x1 fA bO h1;go_wp2_with fail;go_ret2;exact qo7 HF.out eY.out rfl aP.out
  ·obtain rfl:k=l.length:=by omega
   have hE:=HE.out;have hN:=HN.out;rw[List.take_length] at hE hN;have HE':=hid hE;have HN':=hid hN;clear hE hN HE HN;go_wp2_with fail;go_ret2;exact qmv HE'.out (by rw[List.length_map]) (qac _) rfl HN'.out HB.out
def qdc(w:World)(v:Value)(l:List (BA × BA)):Prop:=
 ∃p c,v = .slice p l.length c∧l.length≤c∧c≤maxLen∧(l.length=0∨∃b o,p=some ⟨b,o,none⟩∧qb0 w b o l)
theorem qb0.later{w w':World}{b o:Nat}{l:List (BA × BA)}(h:qb0 w b o l)(hb:Below w.heap.size w w'):qb0 w' b o l:=fun j s hj=>by
 obtain⟨e0,e1⟩:=h j s hj;rw[hb.cell (qaf w _ e0),hb.cell (qaf w _ e1)];exact⟨e0,e1⟩
theorem qdc.later{w w':World}{v:Value}{l:List (BA × BA)}(h:qdc w v l)(hb:Below w.heap.size w w'):qdc w' v l:=by
 obtain⟨p,c,h1,h2,h3,h4⟩:=h;refine⟨p,c,h1,h2,h3, ?_⟩;rcases h4 with h4|⟨b,o,h5,h6⟩
 ·exact .inl h4
 ·exact .inr ⟨b,o,h5,h6.later hb⟩
def qb8(l:List (BA × BA)):Nat:=if l.length=0 then 2 else if 256<l.length then 5 else qai (l.map qdf)
def qft(l:List (BA × BA))(w:World)(e:Ending)(w':World):Prop:=
 (if qb8 l=0 then ∃g,w.heap.size≤g∧e = .returned (.tuple #[.slice (some ⟨g,0,none⟩) l.length l.length,.int .i64 0])∧qdk ivK w' g l.length (l.map spQ)
  else e = .returned (.tuple #[.slice none 0 0,.int .i64 (qb8 l:Nat)]))∧Below w.heap.size w w'
theorem qo8{l:List (BA × BA)}{w:World}(k:Nat){z:Int}(h:qb8 l=k)(hk:k≠0)(hz:z=k):qft l w (.returned (.tuple #[.slice none 0 0,.int .i64 z])) w:=by
 unfold qft;rw[h,if_neg hk,hz];exact⟨rfl,qaa _ _⟩
theorem qty{l:List (BA × BA)}{w w':World}{e:Ending}(hs:qb8 l=qai (l.map qdf))(h:qji ivK (l.map qdf) (l.map spQ) w e w'):qft l w e w':=by
 unfold qft;rw[hs];unfold qji at h;rw[List.length_map] at h;exact h
theorem q2r{l:List (BA × BA)}{w w':World}{e:Ending}(h:qft l w e w'):∃(p:Option Addr) (n c:Nat) (z:Int),e = .returned (.tuple #[.slice p n c,.int .i64 z]):=by
 unfold qft at h;obtain⟨h,_⟩:=h;split at h
 ·obtain⟨g,_,he,_⟩:=h
  exact⟨_,_,_,_,he⟩
 ·exact⟨_,_,_,_,h⟩
theorem qic(v:Value)(l:List (BA × BA))(w:World)(hg:GW w)(hv:qdc w v l)(hs:∀s ∈ l,s.1.size≤1073741824∧s.2.size≤1073741824):
  Calls Tryz.prog 48 #[v] w (qft l w):=by
 obtain⟨p,c,rfl,bO,bJ,aA⟩:=hv;unfold maxLen at bJ;by_cases h0:l.length=0
 ·have HF:Hid (qft l w (.returned (.tuple #[.slice none 0 0,.int .i64 2])) w):=hid (qo8 2 (by unfold qb8;rw[if_pos h0]) (by omega) rfl)
  have hb:((l.length:Int)==0)=true:=by rw[h0];rfl
  clear aA hs hg;go_enter Tryz.func48,Tryz.ntmps48;go_wp2_with fail;go_ret2;exact HF.out
 ·have hb:((l.length:Int)==0)=false:=qan (by omega)
  by_cases h1:256<l.length
  ·have HF:Hid (qft l w (.returned (.tuple #[.slice none 0 0,.int .i64 5])) w):=hid (qo8 5 (by unfold qb8;rw[if_neg h0,if_pos h1]) (by omega) rfl)
   clear aA hs hg;go_enter Tryz.func48,Tryz.ntmps48;go_wp2_with fail;go_ret2;exact HF.out
  ·obtain⟨b,o,rfl,aB⟩:=aA.resolve_left h0
   have HE:=hid ((qtx l b o c w hg aB (by omega) hs).mono fun e w' h=>qty (by unfold qb8;rw[if_neg h0,if_neg h1]) h);clear aB hs hg aA;go_enter Tryz.func48,Tryz.ntmps48;go_wp2_with fail;refine HE.out.mono ?_;rintro e w1 hq;obtain⟨p,n,c',z,rfl⟩:=q2r hq;have HQ:=hid hq;clear hq HE;go_wp2_with fail;go_ret2;exact HQ.out
def qku(lo hi:Rat)(a b:BA × BA)(w:World)(e:Ending)(w':World):Prop:=
 if qai [qdf a,qdf b]≠0 then e = .returned (.tuple #[.agg #[.string ⟨#[]⟩,.string ⟨#[]⟩],.int .i64 (qai [qdf a,qdf b])])∧Below w.heap.size w w'
 else qe8 lo hi w e w'
def q9f(w:World)(a b:BA × BA)(W:World):Prop:=
 Below w.heap.size w W∧Own W w.heap.size 2 (qvs (.string a.1) (.string a.2))∧Own W (w.heap.size+1) 2 (qvs (.string b.1) (.string b.2))∧Own W (w.heap.size+1+1) 2 (qvs (.string ⟨#[]⟩) (.string ⟨#[]⟩))
theorem q9f.later{w W W':World}{a b:BA × BA}(h:q9f w a b W)(hb:Below W.heap.size W W'):q9f w a b W':=
 ⟨h.1.trans (hb.mono h.1.size),h.2.1.later (hb.mono h.2.1.1),h.2.2.1.later (hb.mono h.2.2.1.1),h.2.2.2.later (hb.mono h.2.2.2.1)⟩
theorem qxn(w:World)(a b:BA × BA)(t1 t2 t3:TypeId):q9f w a b (((w.alloc (.cells #[.string a.1,.string a.2] t1)).alloc (.cells #[.string b.1,.string b.2] t2)).alloc (.cells #[.string ⟨#[]⟩,.string ⟨#[]⟩] t3)):=by
 have h1:Below w.heap.size w (w.alloc (.cells #[.string a.1,.string a.2] t1)):=qad _ _;have p1:=qd2 w t1 (.string a.1) (.string a.2);have p2:=qd2 (w.alloc (.cells #[.string a.1,.string a.2] t1)) t2 (.string b.1) (.string b.2);have p3:=qd2 ((w.alloc (.cells #[.string a.1,.string a.2] t1)).alloc (.cells #[.string b.1,.string b.2] t2)) t3 (.string ⟨#[]⟩) (.string ⟨#[]⟩);have s1:(w.alloc (.cells #[.string a.1,.string a.2] t1)).heap.size=w.heap.size+1:=qab _ _;have s2:((w.alloc (.cells #[.string a.1,.string a.2] t1)).alloc (.cells #[.string b.1,.string b.2] t2)).heap.size=w.heap.size+1+1:=by rw[qab,s1]
 rw[s1] at p2;rw[s2] at p3;refine⟨(h1.alloc (by rw[s1];omega) _).alloc (by rw[s2];omega) _, ?_, ?_,p3⟩
 ·exact Own.later (Own.later p1 ((qaa _ _).alloc (by rw[s1];omega) _)) ((qaa _ _).alloc (by rw[s2];omega) _)
 ·exact Own.later p2 ((qaa _ _).alloc (by rw[s2];omega) _)
theorem q8i(w:World)(o1 o2 o3:Obj):(((w.alloc o1).alloc o2).alloc o3).heap.size=w.heap.size+1+1+1:=by
 rw[qab,qab,qab]
theorem qv1(W:World)(a b:BA × BA)(ty:TypeId):qb0 (W.alloc (.cells #[.string a.1,.string a.2,.string b.1,.string b.2] ty)) W.heap.size 0 [a,b]:=by
 intro j s hj
 match j,hj with
 | 0,hj=>cases hj;constructor<;>(rw[World.cell?_alloc_at _ _ _ _ rfl];rfl)
 | 1,hj=>cases hj;constructor<;>(rw[World.cell?_alloc_at _ _ _ _ rfl];rfl)
theorem q8j{w W:World}{a b:BA × BA}(hW:q9f w a b W)(hs:W.heap.size=w.heap.size+1+1+1)(hg:GW w)(ha:a.1.size≤1073741824∧a.2.size≤1073741824)(hb:b.1.size≤1073741824∧b.2.size≤1073741824):
  Calls Tryz.prog 94 #[.slice (some ⟨w.heap.size+1+1+1,0,none⟩) 2 2,.func (.func 95) #[] #[]] (W.alloc (.cells #[.string a.1,.string a.2,.string b.1,.string b.2] 47))
   (fun e w'=>(if qai [qdf a,qdf b]=0 then ∃g,w.heap.size+1+1<g∧e = .returned (.tuple #[.slice (some ⟨g,0,none⟩) 2 2,.int .i64 0])∧qdk ivK w' g 2 [spQ a,spQ b]
    else e = .returned (.tuple #[.slice none 0 0,.int .i64 (qai [qdf a,qdf b])]))∧q9f w a b w'):=by
 rw[←hs];have aD:Below W.heap.size W (W.alloc (.cells #[.string a.1,.string a.2,.string b.1,.string b.2] 47)):=qad _ _
 refine(qtx [a,b] W.heap.size 0 2 _ ((hg.later hW.1).later aD) (qv1 W a b _) (by simp) (by
  intro s hs;simp only[List.mem_cons,List.not_mem_nil,or_false] at hs
  rcases hs with rfl|rfl<;>assumption)).mono ?_
 rintro e w' ⟨h1,h2⟩;refine⟨?_,hW.later (aD.trans (h2.mono (by rw[qab];omega)))⟩;split at h1
 ·rename_i h0
  have h0':qai [qdf a,qdf b]=0:=h0;rw[if_pos h0'];obtain⟨g,Cj,he,hr⟩:=h1;rw[qab] at Cj;exact⟨g,by omega,he,hr⟩
 ·rename_i h0
  have h0':¬qai [qdf a,qdf b]=0:=h0;rw[if_neg h0'];exact h1
theorem q2s{W:World}{g:Nat}{p q:Rat × Rat}(h:qdk ivK W g 2 [p,q]):∃x y x' y':NV,
  (∀W',Below W.heap.size W W'→W'.cell? ⟨g,0,none⟩=some (.bool x.b)∧W'.cell? ⟨g,1,none⟩=some (.slice x.p x.k x.c)∧W'.cell? ⟨g,2,none⟩=some (.slice x.q x.j x.d)∧
   W'.cell? ⟨g,3,none⟩=some (.bool y.b)∧W'.cell? ⟨g,4,none⟩=some (.slice y.p y.k y.c)∧W'.cell? ⟨g,5,none⟩=some (.slice y.q y.j y.d)∧
   W'.cell? ⟨g,6,none⟩=some (.bool x'.b)∧W'.cell? ⟨g,7,none⟩=some (.slice x'.p x'.k x'.c)∧W'.cell? ⟨g,8,none⟩=some (.slice x'.q x'.j x'.d)∧
   W'.cell? ⟨g,9,none⟩=some (.bool y'.b)∧W'.cell? ⟨g,10,none⟩=some (.slice y'.p y'.k y'.c)∧W'.cell? ⟨g,11,none⟩=some (.slice y'.q y'.j y'.d))∧
  qgo W (.agg #[.bool x.b,.slice x.p x.k x.c,.slice x.q x.j x.d,.bool y.b,.slice y.p y.k y.c,.slice y.q y.j y.d]) p.1 p.2∧qgo W (.agg #[.bool x'.b,.slice x'.p x'.k x'.c,.slice x'.q x'.j x'.d,.bool y'.b,.slice y'.p y'.k y'.c,.slice y'.q y'.j y'.d]) q.1 q.2:=by
 obtain⟨cs,⟨x,y,rfl,h1,h2⟩,hc⟩:=h.get 0 p rfl;obtain⟨cs',⟨x',y',rfl,h3,h4⟩,hc'⟩:=h.get 1 q rfl;refine⟨x,y,x',y',fun W' hb => ?_,qib h1 h2,qib h3 h4⟩;have key:∀(o:Nat),W'.cell? ⟨g,o,none⟩=W.cell? ⟨g,o,none⟩:=fun o=>hb.cell h.lt;simp only[key];exact⟨hc 0 _ rfl,hc 1 _ rfl,hc 2 _ rfl,hc 3 _ rfl,hc 4 _ rfl,hc 5 _ rfl,hc' 0 _ rfl,hc' 1 _ rfl,hc' 2 _ rfl,hc' 3 _ rfl,hc' 4 _ rfl,hc' 5 _ rfl⟩
theorem qv2{W:World}{g g':Nat}{c0 c1 c2 c3 c4 c5 c6 c7 c8 c9 c10 c11:Option Value}(h:W.cell? ⟨g,0,none⟩=c0∧W.cell? ⟨g,1,none⟩=c1∧W.cell? ⟨g,2,none⟩=c2∧W.cell? ⟨g,3,none⟩=c3∧W.cell? ⟨g,4,none⟩=c4∧W.cell? ⟨g,5,none⟩=c5∧W.cell? ⟨g,6,none⟩=c6∧W.cell? ⟨g,7,none⟩=c7∧W.cell? ⟨g,8,none⟩=c8∧W.cell? ⟨g,9,none⟩=c9∧W.cell? ⟨g,10,none⟩=c10∧W.cell? ⟨g,11,none⟩=c11)(hne:g'≠g)(x y:Value):
  ((W.setCell ⟨g',0,none⟩ x).setCell ⟨g',1,none⟩ y).cell? ⟨g,0,none⟩=c0∧((W.setCell ⟨g',0,none⟩ x).setCell ⟨g',1,none⟩ y).cell? ⟨g,1,none⟩=c1∧((W.setCell ⟨g',0,none⟩ x).setCell ⟨g',1,none⟩ y).cell? ⟨g,2,none⟩=c2∧((W.setCell ⟨g',0,none⟩ x).setCell ⟨g',1,none⟩ y).cell? ⟨g,3,none⟩=c3∧((W.setCell ⟨g',0,none⟩ x).setCell ⟨g',1,none⟩ y).cell? ⟨g,4,none⟩=c4∧((W.setCell ⟨g',0,none⟩ x).setCell ⟨g',1,none⟩ y).cell? ⟨g,5,none⟩=c5∧((W.setCell ⟨g',0,none⟩ x).setCell ⟨g',1,none⟩ y).cell? ⟨g,6,none⟩=c6∧((W.setCell ⟨g',0,none⟩ x).setCell ⟨g',1,none⟩ y).cell? ⟨g,7,none⟩=c7∧((W.setCell ⟨g',0,none⟩ x).setCell ⟨g',1,none⟩ y).cell? ⟨g,8,none⟩=c8∧((W.setCell ⟨g',0,none⟩ x).setCell ⟨g',1,none⟩ y).cell? ⟨g,9,none⟩=c9∧((W.setCell ⟨g',0,none⟩ x).setCell ⟨g',1,none⟩ y).cell? ⟨g,10,none⟩=c10∧((W.setCell ⟨g',0,none⟩ x).setCell ⟨g',1,none⟩ y).cell? ⟨g,11,none⟩=c11:=by
 have k:∀(V:World) (i o:Nat) (v:Value),(V.setCell ⟨g',i,none⟩ v).cell? ⟨g,o,none⟩=V.cell? ⟨g,o,none⟩:=fun V i o v=>World.cell?_setCell_other _ _ _ _ (by intro e;injection e with e;exact hne e);simp only[k];exact h
theorem qr0{a:BA × BA}(h:qdf a=0):bd (spQ a).1 600∧bd (spQ a).2 600∧(spQ a).1≤(spQ a).2:=by
 unfold qdf qka at h;split at h
 ·rename_i h1;exact absurd h h1
 ·rename_i h1
  obtain⟨c1,c2⟩:=qms (by omega:qai [qah a.1.data.toList,qah a.2.data.toList]=0);split at h
  ·cases h
  ·rename_i h2
   exact⟨qin c1,qin c2,q2e.1 (show qfd (qa9 a.1.data.toList) (qa9 a.2.data.toList)≤0 by omega)⟩
theorem qzq{lo hi:Rat}{a b:BA × BA}{w w':World}{e:Ending}(h:qku lo hi a b w e w'):∃(t1 t2:BA) (ec:Int),e = .returned (.tuple #[.agg #[.string t1,.string t2],.int .i64 ec])∧qku lo hi a b w (.returned (.tuple #[.agg #[.string t1,.string t2],.int .i64 ec])) w'∧Below w.heap.size w w':=by
 have h0:=h;unfold qku at h;split at h
 ·obtain⟨rfl,hb⟩:=h
  exact⟨_,_,_,rfl,h0,hb⟩
 ·obtain⟨t1,t2,ec,rfl,h2⟩:=qjh h
  exact⟨t1,t2,ec,rfl,h0,h2.2⟩
theorem qzr{lo hi:Rat}{a b:BA × BA}{w0 w1 w w':World}{e:Ending}(h:qku lo hi a b w0 e w1)(hb:Below w.heap.size w w'):qku lo hi a b w e w':=by
 unfold qku at h ⊢;split at h
 ·rename_i h0;rw[if_pos h0];exact⟨h.1,hb⟩
 ·rename_i h0;rw[if_neg h0];exact⟨h.1,hb⟩
theorem qho{W:World}{g:Nat}{w:World}(h:Below w.heap.size w W)(hg:w.heap.size≤g)(x y:Value):Below w.heap.size w ((W.setCell ⟨g,0,none⟩ x).setCell ⟨g,1,none⟩ y):=
 (h.setCell (p:=⟨g,0,none⟩) hg x).setCell (p:=⟨g,1,none⟩) hg y
end Go.Proofs.YtmcfcpgglfimjaaGreatDoor
