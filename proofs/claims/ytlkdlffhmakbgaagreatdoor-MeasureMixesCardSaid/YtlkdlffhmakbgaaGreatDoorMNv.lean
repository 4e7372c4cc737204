/- Numbers by their cells; intervals. -/
import Derived.Test.YtlkdlffhmakbgaaGreatDoorMSpans
set_option linter.all false
namespace Go.Proofs.YtlkdlffhmakbgaaGreatDoor
open Go.RowKit
set_option maxRecDepth 100000
set_option maxHeartbeats 4000000
structure NV where
 b:Bool
 p:Option Addr
 k:Nat
 c:Nat
 q:Option Addr
 j:Nat
 d:Nat
theorem qau.nv{w:World}{v:Value}{a:Rat}(h:qau w v a):∃x:NV,v = .agg #[.bool x.b,.slice x.p x.k x.c,.slice x.q x.j x.d]:=by
 obtain⟨p1,k1,c1,p2,k2,c2,rfl,_,_⟩:=h.parts;exact⟨⟨_,p1,k1,c1,p2,k2,c2⟩,rfl⟩
theorem qgl.nv{w:World}{v:Value}{lo hi:Rat}(h:qgl w v lo hi):∃x y:NV,v = .agg #[.bool x.b,.slice x.p x.k x.c,.slice x.q x.j x.d,.bool y.b,.slice y.p y.k y.c,.slice y.q y.j y.d]∧qau w (.agg #[.bool x.b,.slice x.p x.k x.c,.slice x.q x.j x.d]) lo∧qau w (.agg #[.bool y.b,.slice y.p y.k y.c,.slice y.q y.j y.d]) hi:=by
 obtain⟨b,p1,k1,c1,p2,k2,c2,b',p1',k1',c1',p2',k2',c2',e,h1,h2⟩:=h;exact⟨⟨b,p1,k1,c1,p2,k2,c2⟩,⟨b',p1',k1',c1',p2',k2',c2'⟩,e,h1,h2⟩
theorem qh5{w:World}{lo hi:Rat}{x y:NV}(h1:qau w (.agg #[.bool x.b,.slice x.p x.k x.c,.slice x.q x.j x.d]) lo)(h2:qau w (.agg #[.bool y.b,.slice y.p y.k y.c,.slice y.q y.j y.d]) hi):qgl w (.agg #[.bool x.b,.slice x.p x.k x.c,.slice x.q x.j x.d,.bool y.b,.slice y.p y.k y.c,.slice y.q y.j y.d]) lo hi:=
 ⟨_,_,_,_,_,_,_,_,_,_,_,_,_,_,rfl,h1,h2⟩
def qka(W:World)(g:Nat)(x y:NV):Prop:=Own W g 6 (qkn x.b (.slice x.p x.k x.c) (.slice x.q x.j x.d) y.b (.slice y.p y.k y.c) (.slice y.q y.j y.d))
def za5(W:World)(g:Nat):Prop:=Own W g 6 (qkn false (.slice none 0 0) (.slice none 0 0) false (.slice none 0 0) (.slice none 0 0))
abbrev zaj(g:Nat)(x y:NV)(W:World):Prop:=
 W.cell? ⟨g,0,none⟩=some (.bool x.b)∧W.cell? ⟨g,1,none⟩=some (.slice x.p x.k x.c)∧W.cell? ⟨g,2,none⟩=some (.slice x.q x.j x.d)∧
 W.cell? ⟨g,3,none⟩=some (.bool y.b)∧W.cell? ⟨g,4,none⟩=some (.slice y.p y.k y.c)∧W.cell? ⟨g,5,none⟩=some (.slice y.q y.j y.d)
theorem qka.cells{W:World}{g:Nat}{x y:NV}(h:qka W g x y):zaj g x y W:=
 ⟨(h.2 0 (by omega)).1,(h.2 1 (by omega)).1,(h.2 2 (by omega)).1,(h.2 3 (by omega)).1,(h.2 4 (by omega)).1,(h.2 5 (by omega)).1⟩
def qsk(w:World)(x y x' y':NV)(W:World):Prop:=
 Below w.heap.size w W∧qka W w.heap.size x y∧qka W (w.heap.size+1) x' y'∧za5 W (w.heap.size+1+1)
theorem qsk.later{w W W':World}{x y x' y':NV}(h:qsk w x y x' y' W)(hb:Below W.heap.size W W'):qsk w x y x' y' W':=
 ⟨h.1.trans (hb.mono h.1.size),h.2.1.later (hb.mono h.2.1.1),h.2.2.1.later (hb.mono h.2.2.1.1),h.2.2.2.later (hb.mono h.2.2.2.1)⟩
theorem qxe(w:World)(x y x' y':NV)(t1 t2 t3:TypeId):qsk w x y x' y' (((w.alloc (.cells #[.bool x.b,.slice x.p x.k x.c,.slice x.q x.j x.d,.bool y.b,.slice y.p y.k y.c,.slice y.q y.j y.d] t1)).alloc (.cells #[.bool x'.b,.slice x'.p x'.k x'.c,.slice x'.q x'.j x'.d,.bool y'.b,.slice y'.p y'.k y'.c,.slice y'.q y'.j y'.d] t2)).alloc (.cells #[.bool false,.slice none 0 0,.slice none 0 0,.bool false,.slice none 0 0,.slice none 0 0] t3)):=by
 have h1:Below w.heap.size w (w.alloc (.cells #[.bool x.b,.slice x.p x.k x.c,.slice x.q x.j x.d,.bool y.b,.slice y.p y.k y.c,.slice y.q y.j y.d] t1)):=qad _ _;have p1:=qko w x.b (.slice x.p x.k x.c) (.slice x.q x.j x.d) y.b (.slice y.p y.k y.c) (.slice y.q y.j y.d) t1;have p2:=qko (w.alloc (.cells #[.bool x.b,.slice x.p x.k x.c,.slice x.q x.j x.d,.bool y.b,.slice y.p y.k y.c,.slice y.q y.j y.d] t1)) x'.b (.slice x'.p x'.k x'.c) (.slice x'.q x'.j x'.d) y'.b (.slice y'.p y'.k y'.c) (.slice y'.q y'.j y'.d) t2;have p3:=qko ((w.alloc (.cells #[.bool x.b,.slice x.p x.k x.c,.slice x.q x.j x.d,.bool y.b,.slice y.p y.k y.c,.slice y.q y.j y.d] t1)).alloc (.cells #[.bool x'.b,.slice x'.p x'.k x'.c,.slice x'.q x'.j x'.d,.bool y'.b,.slice y'.p y'.k y'.c,.slice y'.q y'.j y'.d] t2)) false (.slice none 0 0) (.slice none 0 0) false (.slice none 0 0) (.slice none 0 0) t3;have s1:(w.alloc (.cells #[.bool x.b,.slice x.p x.k x.c,.slice x.q x.j x.d,.bool y.b,.slice y.p y.k y.c,.slice y.q y.j y.d] t1)).heap.size=w.heap.size+1:=qab _ _;have s2:((w.alloc (.cells #[.bool x.b,.slice x.p x.k x.c,.slice x.q x.j x.d,.bool y.b,.slice y.p y.k y.c,.slice y.q y.j y.d] t1)).alloc (.cells #[.bool x'.b,.slice x'.p x'.k x'.c,.slice x'.q x'.j x'.d,.bool y'.b,.slice y'.p y'.k y'.c,.slice y'.q y'.j y'.d] t2)).heap.size=w.heap.size+1+1:=by rw[qab,s1]
 rw[s1] at p2;rw[s2] at p3;refine⟨(h1.alloc (by rw[s1];omega) _).alloc (by rw[s2];omega) _, ?_, ?_,p3⟩
 ·exact Own.later (Own.later p1 ((qaa _ _).alloc (by rw[s1];omega) _)) ((qaa _ _).alloc (by rw[s2];omega) _)
 ·exact Own.later p2 ((qaa _ _).alloc (by rw[s2];omega) _)
theorem qmw{w W:World}{x y x' y':NV}{f:FuncId}{args:Array Value}{_R:Ending→Prop}{q:Rat}(hW:qsk w x y x' y' W)
  (h:Calls Tryz.prog f args W fun e w'=>(∃v',e = .returned v'∧qau w' v' q)∧Below W.heap.size W w'):
  Calls Tryz.prog f args W fun e w'=>(∃z:NV,e = .returned (.agg #[.bool z.b,.slice z.p z.k z.c,.slice z.q z.j z.d])∧qau w' (.agg #[.bool z.b,.slice z.p z.k z.c,.slice z.q z.j z.d]) q)∧qsk w x y x' y' w'∧Below W.heap.size W w':=
 h.mono fun e w' ⟨⟨v',he,hn⟩,hb⟩=>by
  obtain⟨z,rfl⟩:=hn.nv;exact⟨⟨z,he,hn⟩,hW.later hb,hb⟩
theorem qlm{W:World}{g g':Nat}{x y:NV}(h:zaj g x y W)(hne:g'≠g)(x0 x1 x2 x3 x4 x5:Value):
  zaj g x y ((((((W.setCell ⟨g',0,none⟩ x0).setCell ⟨g',1,none⟩ x1).setCell ⟨g',2,none⟩ x2).setCell ⟨g',3,none⟩ x3).setCell ⟨g',4,none⟩ x4).setCell ⟨g',5,none⟩ x5):=by
 have k:∀(V:World) (i o:Nat) (v:Value),(V.setCell ⟨g',i,none⟩ v).cell? ⟨g,o,none⟩=V.cell? ⟨g,o,none⟩:=fun V i o v=>World.cell?_setCell_other _ _ _ _ (by intro e;injection e with e;exact hne e);unfold zaj at h ⊢;simp only[k];exact h
structure qur(α:Type) where
 ty:TypeId
 size:Nat
 ok:Value→Prop
 E:World→List Value→α→Prop
structure qur.Law{α:Type}(K:qur α):Prop where
 pos:0<K.size
 cells:∀W cs x,K.E W cs x→cs.length=K.size∧∀c ∈ cs,K.ok c∧c.oneCell'=true
 later:∀W W' cs x,K.E W cs x→Below W.heap.size W W'→K.E W' cs x
 set:∀W g cur ty fr cs x cs',K.E W cs x→W.heap[g]? = some (.cells cur ty fr)→(∀c ∈ cur.toList,K.ok c)→K.E (W.setRow g cs') cs x
def qdg{α:Type}(K:qur α)(W:World)(g cap:Nat)(l:List α):Prop:=
 l.length≤cap∧∃cur:Array Value,W.heap[g]? = some (.cells cur K.ty (0,0))∧cur.size=cap*K.size∧(∀c ∈ cur.toList,K.ok c)∧
  ∀(j:Nat) (x:α),l[j]? = some x→∃cs,K.E W cs x∧∀i c,cs[i]? = some c→cur.toList[j*K.size+i]? = some c
theorem qdg.lt{α:Type}{K:qur α}{W:World}{g cap:Nat}{l:List α}(h:qdg K W g cap l):g<W.heap.size:=by
 obtain⟨_,cur,hg,_⟩:=h;rcases Nat.lt_or_ge g W.heap.size with h1|h1
 ·exact h1
 ·rw[Array.getElem?_eq_none h1] at hg;cases hg
theorem qdg.later{α:Type}{K:qur α}(L:K.Law){W W':World}{g cap:Nat}{l:List α}(h:qdg K W g cap l)(hb:Below W.heap.size W W'):qdg K W' g cap l:=by
 have aY:=h.lt;obtain⟨h1,cur,hg,h2,h3,h4⟩:=h;refine⟨h1,cur,(hb.block g aY).trans hg,h2,h3,fun j x hx => ?_⟩;obtain⟨cs,e,hc⟩:=h4 j x hx;exact⟨cs,L.later _ _ _ _ e hb,hc⟩
theorem qkp{α:Type}{K:qur α}(L:K.Law)(w:World)(cap n:Nat)(zs:Array Value)(hn:n=cap*K.size)(hz:zs.size=K.size)(ho:∀c ∈ zs.toList,K.ok c):
  qdg K (w.alloc (.cells (madeCells zs n) K.ty)) w.heap.size cap []:=by
 refine⟨Nat.zero_le _,_,heap_alloc_new w _,by rw[size_madeCells,hn],fun c hc => ?_,fun j x h=>by simp at h⟩;unfold madeCells at hc;simp only[Array.toList_map,Array.toList_range,List.mem_map] at hc;obtain⟨i,_,rfl⟩:=hc;have hi:i % zs.size<zs.size:=Nat.mod_lt _ (by rw[hz];exact L.pos);refine ho _ ?_;simp[hi]
theorem qdg.push{α:Type}{K:qur α}(L:K.Law){W:World}{g cap:Nat}{l:List α}{cs:List Value}{x:α}(h:qdg K W g cap l)(hk:l.length<cap)(hv:K.E W cs x):
  ∃cur:Array Value,W.heap[g]? = some (.cells cur K.ty (0,0))∧l.length*K.size+cs.length≤cur.size∧
   qdg K (W.setRow g (cur.toList.take (l.length*K.size)++cs++cur.toList.drop (l.length*K.size+cs.length)).toArray) g cap (l++[x])∧
   ∀B,B≤g→Below B W (W.setRow g (cur.toList.take (l.length*K.size)++cs++cur.toList.drop (l.length*K.size+cs.length)).toArray):=by
 obtain⟨h1,cur,hg,h2,h3,h4⟩:=h;obtain⟨aE,cM⟩:=L.cells _ _ _ hv;have lM:=L.pos
 have Cq:l.length*K.size+K.size≤cap*K.size:=by
  have:=Nat.mul_le_mul_right K.size (Nat.succ_le_of_lt hk);rw[Nat.succ_mul] at this;exact this
 have bU:l.length*K.size+cs.length≤cur.size:=by rw[aE,h2];exact Cq
 have hfit':l.length*K.size+cs.length≤cur.toList.length:=by rw[Array.length_toList];exact bU
 have sQ:(cur.toList.take (l.length*K.size)).length=l.length*K.size:=by rw[List.length_take];omega
 refine⟨cur,hg,bU,⟨by rw[List.length_append];simp;omega,_,setRow_heap W g cur _ _ _ hg, ?_, ?_, ?_⟩,fun B hB=>⟨rfl,rfl,rfl,by simp[World.setRow],fun k hk=>setRow_other W g k _ (by omega)⟩⟩
 ·simp only[List.size_toArray,List.length_append,sQ,List.length_drop,Array.length_toList]
  omega
 ·intro c hc
  rw[List.mem_append,List.mem_append] at hc;rcases hc with(hc|hc)|hc
  ·exact h3 c (List.mem_of_mem_take hc)
  ·exact(cM c hc).1
  ·exact h3 c (List.mem_of_mem_drop hc)
 ·intro j y hy
  rcases Nat.lt_or_ge j l.length with hj|hj
  ·rw[List.getElem?_append_left hj] at hy
   obtain⟨cs',e,hc⟩:=h4 j y hy;refine⟨cs',L.set _ _ _ _ _ _ _ _ e hg h3,fun i c hi => ?_⟩
   have tO:i<K.size:=by
    rw[←(L.cells _ _ _ e).1];exact(List.getElem?_eq_some_iff.1 hi).1
   have aY:j*K.size+i<l.length*K.size:=by
    have:=Nat.mul_le_mul_right K.size (Nat.succ_le_of_lt hj);rw[Nat.succ_mul] at this;omega
   show(cur.toList.take (l.length*K.size)++cs++cur.toList.drop (l.length*K.size+cs.length))[j*K.size+i]? = some c;rw[List.append_assoc,List.getElem?_append_left (by rw[sQ];exact aY),List.getElem?_take_of_lt aY];exact hc i c hi
  ·have hj':j=l.length:=by
    have:=(List.getElem?_eq_some_iff.1 hy).1;rw[List.length_append] at this;simp at this;omega
   subst hj'
   have uH:y=x:=by
    rw[List.getElem?_append_right (qac _),Nat.sub_self] at hy
    simpa using hy.symm
   subst uH;refine⟨cs,L.set _ _ _ _ _ _ _ _ hv hg h3,fun i c hi => ?_⟩;have tO:i<cs.length:=(List.getElem?_eq_some_iff.1 hi).1;show(cur.toList.take (l.length*K.size)++cs++cur.toList.drop (l.length*K.size+cs.length))[l.length*K.size+i]? = some c;rw[List.append_assoc,List.getElem?_append_right (by rw[sQ];omega),sQ,Nat.add_sub_cancel_left,List.getElem?_append_left tO];exact hi
theorem qdg.get{α:Type}{K:qur α}{W:World}{g cap:Nat}{l:List α}(h:qdg K W g cap l)(j:Nat)(x:α)(hx:l[j]? = some x):∃cs,K.E W cs x∧∀i c,cs[i]? = some c→W.cell? ⟨g,j*K.size+i,none⟩=some c:=by
 obtain⟨_,cur,hg,_,_,h4⟩:=h;obtain⟨cs,e,hc⟩:=h4 j x hx;refine⟨cs,e,fun i c hi => ?_⟩;rw[cell_of_row W g _ cur _ (0,0) hg,←Array.getElem?_toList];exact hc i c hi
def qip{α:Type}(K:qur α)(errs:List Nat)(l:List α)(w:World)(e:Ending)(w':World):Prop:=
 (if qaj errs=0 then ∃g,w.heap.size≤g∧e = .returned (.tuple #[.slice (some ⟨g,0,none⟩) l.length l.length,.int .i64 0])∧qdg K w' g l.length l
  else e = .returned (.tuple #[.slice none 0 0,.int .i64 (qaj errs)]))∧Below w.heap.size w w'
theorem qo4{α:Type}{K:qur α}{errs:List Nat}{l:List α}{w w':World}{k:Nat}{e:Ending}(h:qaj errs=k)(hk:k≠0)(he:e = .returned (.tuple #[.slice none 0 0,.int .i64 (k:Int)]))(hb:Below w.heap.size w w'):qip K errs l w e w':=by
 unfold qip;rw[if_neg (by omega),h];exact⟨he,hb⟩
theorem qmx{α:Type}{K:qur α}{errs:List Nat}{l:List α}{w w':World}{g n:Nat}{e:Ending}(h:qaj errs=0)(hn:l.length=n)(hg:w.heap.size≤g)(he:e = .returned (.tuple #[.slice (some ⟨g,0,none⟩) n n,.int .i64 0]))(hv:qdg K w' g n l)(hb:Below w.heap.size w w'):qip K errs l w e w':=by
 unfold qip;rw[if_pos h,hn];exact⟨⟨g,hg,he,hv⟩,hb⟩
def ivK:qur (Rat × Rat) where
 ty:=103
 size:=6
 ok:=fun c=>∀k z,c ≠ .int k z
 E:=fun W cs r=>∃x y:NV,cs=[.bool x.b,.slice x.p x.k x.c,.slice x.q x.j x.d,.bool y.b,.slice y.p y.k y.c,.slice y.q y.j y.d]∧qau W (.agg #[.bool x.b,.slice x.p x.k x.c,.slice x.q x.j x.d]) r.1∧qau W (.agg #[.bool y.b,.slice y.p y.k y.c,.slice y.q y.j y.d]) r.2
theorem qfu:ivK.Law where
 pos:=by show 0<6;omega
 cells:=by
  rintro W cs r ⟨x,y,rfl,_,_⟩;refine⟨rfl,fun c hc => ?_⟩;simp only[List.mem_cons,List.not_mem_nil,or_false] at hc;rcases hc with rfl|rfl|rfl|rfl|rfl|rfl<;>exact⟨fun _ _ h=>(by cases h),rfl⟩
 later:=by
  rintro W W' cs r ⟨x,y,rfl,h1,h2⟩ hb;exact⟨x,y,rfl,h1.later hb,h2.later hb⟩
 set:=by
  rintro W g cur ty fr cs r cs' ⟨x,y,rfl,h1,h2⟩ hg hc;exact⟨x,y,rfl,h1.setRow hg hc cs',h2.setRow hg hc cs'⟩
def qdh(s:BA × BA):Nat:=qj9 s.1 s.2
def spQ(s:BA × BA):Rat × Rat:=(qbc s.1.data.toList,qbc s.2.data.toList)
def qbm(W:World)(b o:Nat)(l:List (BA × BA)):Prop:=
 ∀(j:Nat) (s:BA × BA),l[j]? = some s→W.cell? ⟨b,o+j*2,none⟩=some (.string s.1)∧W.cell? ⟨b,o+j*2+1,none⟩=some (.string s.2)
theorem q5i(n:Nat)(hn:n≤1048576)(w:World):
  (Instr.makeSlice 104 (.int .i64 0) (.int .i64 (n:Int))).run Tryz.prog w = .ok (.slice (some ⟨w.heap.size,0,none⟩) 0 n) (w.alloc (.cells (madeCells #[.bool false,.slice none 0 0,.slice none 0 0,.bool false,.slice none 0 0,.slice none 0 0] (n*6)) 103)):=by
 obtain⟨i0,hi,cU,eE,eK⟩:=info_parts (show(Tryz.prog.info? 103).map (fun i=>(i.zero,i.size,i.bytes))=some (some (.agg #[.bool false,.slice none 0 0,.slice none 0 0,.bool false,.slice none 0 0,.slice none 0 0]),6,112) by kernel_rfl);have h:=run_make (P:=Tryz.prog) w 104 103 i0 _ Tryz.underlying104 hi cU .i64 .i64 0 (n:Int) (Int.le_refl _) (by omega) (by rw[eK];omega) (by omega);rw[eE] at h
 simpa [Value.cells] using h
theorem qrr{s:BA × BA}{w:World}(h:Calls Tryz.prog 104 #[.agg #[.string s.1,.string s.2]] w (qlk s.1 s.2 w))(hc:qdh s=0):
  Calls Tryz.prog 104 #[.agg #[.string s.1,.string s.2]] w fun e w'=>(∃x y:NV,e = .returned (.tuple #[.agg #[.bool x.b,.slice x.p x.k x.c,.slice x.q x.j x.d,.bool y.b,.slice y.p y.k y.c,.slice y.q y.j y.d],.int .i64 0])∧ivK.E w' [.bool x.b,.slice x.p x.k x.c,.slice x.q x.j x.d,.bool y.b,.slice y.p y.k y.c,.slice y.q y.j y.d] (spQ s))∧Below w.heap.size w w':=by
 refine h.mono ?_;rintro e w' ⟨h1,h2⟩;unfold qdh at hc;rw[if_pos hc] at h1;obtain⟨v,he,hv⟩:=h1;obtain⟨x,y,rfl,hx,hy⟩:=hv.nv;exact⟨⟨x,y,he,x,y,rfl,hx,hy⟩,h2⟩
theorem qtj{s:BA × BA}{w:World}(h:Calls Tryz.prog 104 #[.agg #[.string s.1,.string s.2]] w (qlk s.1 s.2 w))(hc:qdh s≠0):
  Calls Tryz.prog 104 #[.agg #[.string s.1,.string s.2]] w fun e w'=>e = .returned (.tuple #[.agg #[.bool false,.slice none 0 0,.slice none 0 0,.bool false,.slice none 0 0,.slice none 0 0],.int .i64 (qdh s:Nat)])∧Below w.heap.size w w':=by
 refine h.mono ?_;rintro e w' ⟨h1,h2⟩;unfold qdh at hc;rw[if_neg hc] at h1;exact⟨h1,h2⟩
theorem qtk(l:List (BA × BA))(b o c:Nat)(w:World)(hg:GW w)(aB:qbm w b o l)(hl:l.length≤1048576)(hs:∀s ∈ l,s.1.size≤1073741824∧s.2.size≤1073741824):
  Calls Tryz.prog 103 #[.slice (some ⟨b,o,none⟩) l.length c,.func (.func 104) #[] #[]] w
   (qip ivK (l.map qdh) (l.map spQ) w):=by
 have HG:=hid hg;have bL:=hid aB;have HS:=hid hs;have lO:=q5i l.length hl;obtain⟨i0,hi,cU,eE,eK⟩:=info_parts (show(Tryz.prog.info? 103).map (fun i=>(i.zero,i.size,i.bytes))=some (some (.agg #[.bool false,.slice none 0 0,.slice none 0 0,.bool false,.slice none 0 0,.slice none 0 0]),6,112) by kernel_rfl);have HI:=hid hi;clear aB hs hi cU eK
 have hU:=hid (qkp qfu w l.length (l.length*6) #[.bool false,.slice none 0 0,.slice none 0 0,.bool false,.slice none 0 0,.slice none 0 0] rfl rfl (by
  intro c hc;simp only[List.mem_cons,List.not_mem_nil,or_false] at hc
  rcases hc with rfl|rfl|rfl|rfl|rfl|rfl<;>(intro _ _ h;cases h)))
 have dM:Hid (Below w.heap.size w (w.alloc (.cells (madeCells #[.bool false,.slice none 0 0,.slice none 0 0,.bool false,.slice none 0 0,.slice none 0 0] (l.length*6)) 103))):=hid (qad _ _);clear hg;go_enter Tryz.func103,Tryz.ntmps103;go_wp2_with fail;clear lO
 replace hU:Hid (qdg ivK (w.alloc (.cells (madeCells #[.bool false,.slice none 0 0,.slice none 0 0,.bool false,.slice none 0 0,.slice none 0 0] (l.length*6)) 103)) w.heap.size l.length []):=hU
 generalize w.alloc (.cells (madeCells #[.bool false,.slice none 0 0,.slice none 0 0,.bool false,.slice none 0 0,.slice none 0 0] (l.length*6)) 103)=w0 at *
 go_loopw [6,16] (fun r i wr=>∃k:Nat,k≤l.length∧i = .int .i64 k∧r = .slice (some ⟨w.heap.size,0,none⟩) k l.length∧Hid (qdg ivK wr w.heap.size l.length ((l.take k).map spQ))∧Hid (qaj ((l.take k).map qdh)=0)∧Hid (Below w.heap.size w wr)) (fun _ i _=>l.length-(intOf i).toNat)
 case atStart=>exact⟨0,Nat.zero_le _,rfl,rfl,hU,hid rfl,dM⟩
 case round=>
  obtain⟨k,hk,rfl,rfl,HN,HE,HB⟩:=hrel;clear hU dM;by_cases cT:k<l.length
  ·obtain⟨s,bV⟩:∃s,l[k]? = some s:=⟨l[k],qap cT⟩
   obtain⟨e0,e1⟩:=bL.out k s bV;have eY:wr.cell? ⟨b,o+k*2,none⟩=some (.string s.1):=by rw[HB.out.cell (qae w _ e0)];exact e0
   have bO:wr.cell? ⟨b,o+k*2+1,none⟩=some (.string s.2):=by rw[HB.out.cell (qae w _ e1)];exact e1
   have aD:Below wr.heap.size wr (wr.alloc (.cells #[.string s.1,.string s.2] 46)):=qad _ _;have eT:=HS.out s (qbh bV);have cJ:=hid (qti s.1 s.2 (wr.alloc (.cells #[.string s.1,.string s.2] 46)) ((HG.out.later HB.out).later aD) eT.1 eT.2);obtain⟨x0,x1⟩:=qaq (qd3 wr 46 (.string s.1) (.string s.2));have cX:=hid aD;have oZ:=hid bV;clear e0 e1 bV aD eT;by_cases hc:qdh s=0
   ·have fC:=hid (qrr cJ.out hc)
    have gN:=hid (qhf qdh oZ.out HE.out hc)
    have iU:((l.take k).map spQ)++[spQ s]=(l.take (k+1)).map spQ:=by
     rw[qbl oZ.out,List.map_append];rfl
    have xN:=hid iU;have iG:((l.take k).map spQ).length=k:=by rw[List.length_map,List.length_take];omega
    have dH:=hid (HN.out.later qfu cX.out);have aP:=hid (HB.out.trans (cX.out.mono HB.out.size));clear cJ HE hc iU HN HB cX;generalize spQ s=q at *;generalize ((l.take k).map spQ)=qs at *;go_wp2_with fail;refine fC.out.mono ?_;rintro e w1 ⟨⟨x,y,rfl,hv⟩,hb⟩;have aD:Below w1.heap.size w1 (w1.alloc (.cells #[.bool x.b,.slice x.p x.k x.c,.slice x.q x.j x.d,.bool y.b,.slice y.p y.k y.c,.slice y.q y.j y.d] 103)):=qad _ _;have gI:=hid ((dH.out.later qfu hb).later qfu aD);have cO:=hid (qfu.later _ _ _ _ hv aD);have aW:=hid (aP.out.trans (hb.mono aP.out.size));have kM:w.heap.size≤w1.heap.size:=aW.out.size;have aK:=hid (aW.out.trans (aD.mono kM));obtain⟨⟨y0,_⟩,⟨y1,_⟩,⟨y2,_⟩,⟨y3,_⟩,⟨y4,_⟩,⟨y5,_⟩⟩:=qd4 (qko w1 x.b (.slice x.p x.k x.c) (.slice x.q x.j x.d) y.b (.slice y.p y.k y.c) (.slice y.q y.j y.d) 103);have bP:Below (w1.alloc (.cells #[.bool x.b,.slice x.p x.k x.c,.slice x.q x.j x.d,.bool y.b,.slice y.p y.k y.c,.slice y.q y.j y.d] 103)).heap.size (w1.alloc (.cells #[.bool x.b,.slice x.p x.k x.c,.slice x.q x.j x.d,.bool y.b,.slice y.p y.k y.c,.slice y.q y.j y.d] 103)) ((w1.alloc (.cells #[.bool x.b,.slice x.p x.k x.c,.slice x.q x.j x.d,.bool y.b,.slice y.p y.k y.c,.slice y.q y.j y.d] 103)).alloc (.cells #[.bool x.b,.slice x.p x.k x.c,.slice x.q x.j x.d,.bool y.b,.slice y.p y.k y.c,.slice y.q y.j y.d] 103)):=qad _ _;obtain⟨cur,eH,bU,cG,bK⟩:=(gI.out.later qfu bP).push qfu (by rw[iG];exact cT) (qfu.later _ _ _ _ cO.out bP);have gO:=heap_alloc_new (w1.alloc (.cells #[.bool x.b,.slice x.p x.k x.c,.slice x.q x.j x.d,.bool y.b,.slice y.p y.k y.c,.slice y.q y.j y.d] 103)) (.cells #[.bool x.b,.slice x.p x.k x.c,.slice x.q x.j x.d,.bool y.b,.slice y.p y.k y.c,.slice y.q y.j y.d] 103);rw[qab] at gO;rw[iG] at bU cG bK
    simp only[List.append_assoc,List.cons_append,List.nil_append,ivK,List.length_cons,List.length_nil,Nat.zero_add,Nat.reduceAdd] at cG bK bU eH;have bY:Hid (qdg ivK _ _ _ _):=hid cG;have aG:=hid (aK.out.trans ((bP.mono (by rw[qab];omega)).trans (bK w.heap.size (qac _))));have kT:=hid eH;have kA:=hid gO;have dJ:=hid bU;clear aD bP kM eH bU cG bK gO dH aP gI cO aK iG hv hb aW x0 x1 eY bO fC;go_wp2_with (at_builtin;refine qbw _ rfl _ _ 104 rfl 103 i0 6 Tryz.underlying104 HI.out eE w.heap.size k l.length cur rfl kT.out ⟨w1.heap.size+1,0,none⟩ 1 1 [.bool x.b,.slice x.p x.k x.c,.slice x.q x.j x.d,.bool y.b,.slice y.p y.k y.c,.slice y.q y.j y.d] rfl rfl (World.news_of_block kA.out) ?mK (by omega) dJ.out ?_)
    case mK=>
     intro u hu;simp only[List.mem_cons,List.not_mem_nil,or_false] at hu;rcases hu with rfl|rfl|rfl|rfl|rfl|rfl<;>rfl
    clear y0 y1 y2 y3 y4 y5;go_wp2_with fail;go_roundw
    case rel=>exact⟨k+1,cT,by go_num,rfl,hid (by rw[←xN.out];exact bY.out),gN,aG⟩
    case measure=>simp[intOf];omega
   ·have fC:=hid (qtj cJ.out hc)
    have HF:=hid (qja qdh oZ.out HE.out hc);clear cJ HE;generalize qdh s=ck at *;have lV:((ck:Int)==0)=false:=qam (by omega);have eX:=hid hc;clear hc;go_wp2_with fail;refine fC.out.mono ?_;rintro e w1 ⟨rfl,hb⟩;have h1:=HB.out.trans ((cX.out.trans (hb.mono cX.out.size)).mono HB.out.size);have aP:=hid (h1.trans ((qaa w.heap.size w1).alloc h1.size (.cells #[.bool false,.slice none 0 0,.slice none 0 0,.bool false,.slice none 0 0,.slice none 0 0] 103)));clear hb HB fC x0 x1 eY bO h1;go_wp2_with fail;go_ret2;exact qo4 HF.out eX.out rfl aP.out
  ·obtain rfl:k=l.length:=by omega
   have hE:=HE.out;have hN:=HN.out;rw[List.take_length] at hE hN;have HE':=hid hE;have HN':=hid hN;clear hE hN HE HN;go_wp2_with fail;go_ret2;exact qmx HE'.out (by rw[List.length_map]) (qac _) rfl HN'.out HB.out
def qc9(w:World)(v:Value)(l:List (BA × BA)):Prop:=
 ∃p c,v = .slice p l.length c∧l.length≤c∧c≤maxLen∧(l.length=0∨∃b o,p=some ⟨b,o,none⟩∧qbm w b o l)
theorem qbm.later{w w':World}{b o:Nat}{l:List (BA × BA)}(h:qbm w b o l)(hb:Below w.heap.size w w'):qbm w' b o l:=fun j s hj=>by
 obtain⟨e0,e1⟩:=h j s hj;rw[hb.cell (qae w _ e0),hb.cell (qae w _ e1)];exact⟨e0,e1⟩
theorem qc9.later{w w':World}{v:Value}{l:List (BA × BA)}(h:qc9 w v l)(hb:Below w.heap.size w w'):qc9 w' v l:=by
 obtain⟨p,c,h1,h2,h3,h4⟩:=h;refine⟨p,c,h1,h2,h3, ?_⟩;rcases h4 with h4|⟨b,o,h5,h6⟩
 ·exact .inl h4
 ·exact .inr ⟨b,o,h5,h6.later hb⟩
def qb7(l:List (BA × BA)):Nat:=if l.length=0 then 2 else if 256<l.length then 5 else qaj (l.map qdh)
def qfv(l:List (BA × BA))(w:World)(e:Ending)(w':World):Prop:=
 (if qb7 l=0 then ∃g,w.heap.size≤g∧e = .returned (.tuple #[.slice (some ⟨g,0,none⟩) l.length l.length,.int .i64 0])∧qdg ivK w' g l.length (l.map spQ)
  else e = .returned (.tuple #[.slice none 0 0,.int .i64 (qb7 l:Nat)]))∧Below w.heap.size w w'
theorem qo5{l:List (BA × BA)}{w:World}(k:Nat){z:Int}(h:qb7 l=k)(hk:k≠0)(hz:z=k):qfv l w (.returned (.tuple #[.slice none 0 0,.int .i64 z])) w:=by
 unfold qfv;rw[h,if_neg hk,hz];exact⟨rfl,qaa _ _⟩
theorem qtl{l:List (BA × BA)}{w w':World}{e:Ending}(hs:qb7 l=qaj (l.map qdh))(h:qip ivK (l.map qdh) (l.map spQ) w e w'):qfv l w e w':=by
 unfold qfv;rw[hs];unfold qip at h;rw[List.length_map] at h;exact h
theorem q1t{l:List (BA × BA)}{w w':World}{e:Ending}(h:qfv l w e w'):∃(p:Option Addr) (n c:Nat) (z:Int),e = .returned (.tuple #[.slice p n c,.int .i64 z]):=by
 unfold qfv at h;obtain⟨h,_⟩:=h;split at h
 ·obtain⟨g,_,he,_⟩:=h
  exact⟨_,_,_,_,he⟩
 ·exact⟨_,_,_,_,h⟩
theorem qh6(v:Value)(l:List (BA × BA))(w:World)(hg:GW w)(hv:qc9 w v l)(hs:∀s ∈ l,s.1.size≤1073741824∧s.2.size≤1073741824):
  Calls Tryz.prog 50 #[v] w (qfv l w):=by
 obtain⟨p,c,rfl,bO,bG,aA⟩:=hv;unfold maxLen at bG;by_cases h0:l.length=0
 ·have HF:Hid (qfv l w (.returned (.tuple #[.slice none 0 0,.int .i64 2])) w):=hid (qo5 2 (by unfold qb7;rw[if_pos h0]) (by omega) rfl)
  have hb:((l.length:Int)==0)=true:=by rw[h0];rfl
  clear aA hs hg;go_enter Tryz.func50,Tryz.ntmps50;go_wp2_with fail;go_ret2;exact HF.out
 ·have hb:((l.length:Int)==0)=false:=qam (by omega)
  by_cases h1:256<l.length
  ·have HF:Hid (qfv l w (.returned (.tuple #[.slice none 0 0,.int .i64 5])) w):=hid (qo5 5 (by unfold qb7;rw[if_neg h0,if_pos h1]) (by omega) rfl)
   clear aA hs hg;go_enter Tryz.func50,Tryz.ntmps50;go_wp2_with fail;go_ret2;exact HF.out
  ·obtain⟨b,o,rfl,aB⟩:=aA.resolve_left h0
   have HE:=hid ((qtk l b o c w hg aB (by omega) hs).mono fun e w' h=>qtl (by unfold qb7;rw[if_neg h0,if_neg h1]) h);clear aB hs hg aA;go_enter Tryz.func50,Tryz.ntmps50;go_wp2_with fail;refine HE.out.mono ?_;rintro e w1 hq;obtain⟨p,n,c',z,rfl⟩:=q1t hq;have HQ:=hid hq;clear hq HE;go_wp2_with fail;go_ret2;exact HQ.out
def qkq(lo hi:Rat)(a b:BA × BA)(w:World)(e:Ending)(w':World):Prop:=
 if qaj [qdh a,qdh b]≠0 then e = .returned (.tuple #[.agg #[.string ⟨#[]⟩,.string ⟨#[]⟩],.int .i64 (qaj [qdh a,qdh b])])∧Below w.heap.size w w'
 else qe9 lo hi w e w'
def q87(w:World)(a b:BA × BA)(W:World):Prop:=
 Below w.heap.size w W∧Own W w.heap.size 2 (qu8 (.string a.1) (.string a.2))∧Own W (w.heap.size+1) 2 (qu8 (.string b.1) (.string b.2))∧Own W (w.heap.size+1+1) 2 (qu8 (.string ⟨#[]⟩) (.string ⟨#[]⟩))
theorem q87.later{w W W':World}{a b:BA × BA}(h:q87 w a b W)(hb:Below W.heap.size W W'):q87 w a b W':=
 ⟨h.1.trans (hb.mono h.1.size),h.2.1.later (hb.mono h.2.1.1),h.2.2.1.later (hb.mono h.2.2.1.1),h.2.2.2.later (hb.mono h.2.2.2.1)⟩
theorem qxf(w:World)(a b:BA × BA)(t1 t2 t3:TypeId):q87 w a b (((w.alloc (.cells #[.string a.1,.string a.2] t1)).alloc (.cells #[.string b.1,.string b.2] t2)).alloc (.cells #[.string ⟨#[]⟩,.string ⟨#[]⟩] t3)):=by
 have h1:Below w.heap.size w (w.alloc (.cells #[.string a.1,.string a.2] t1)):=qad _ _;have p1:=qd3 w t1 (.string a.1) (.string a.2);have p2:=qd3 (w.alloc (.cells #[.string a.1,.string a.2] t1)) t2 (.string b.1) (.string b.2);have p3:=qd3 ((w.alloc (.cells #[.string a.1,.string a.2] t1)).alloc (.cells #[.string b.1,.string b.2] t2)) t3 (.string ⟨#[]⟩) (.string ⟨#[]⟩);have s1:(w.alloc (.cells #[.string a.1,.string a.2] t1)).heap.size=w.heap.size+1:=qab _ _;have s2:((w.alloc (.cells #[.string a.1,.string a.2] t1)).alloc (.cells #[.string b.1,.string b.2] t2)).heap.size=w.heap.size+1+1:=by rw[qab,s1]
 rw[s1] at p2;rw[s2] at p3;refine⟨(h1.alloc (by rw[s1];omega) _).alloc (by rw[s2];omega) _, ?_, ?_,p3⟩
 ·exact Own.later (Own.later p1 ((qaa _ _).alloc (by rw[s1];omega) _)) ((qaa _ _).alloc (by rw[s2];omega) _)
 ·exact Own.later p2 ((qaa _ _).alloc (by rw[s2];omega) _)
theorem q7s(w:World)(o1 o2 o3:Obj):(((w.alloc o1).alloc o2).alloc o3).heap.size=w.heap.size+1+1+1:=by
 rw[qab,qab,qab]
theorem qvh(W:World)(a b:BA × BA)(ty:TypeId):qbm (W.alloc (.cells #[.string a.1,.string a.2,.string b.1,.string b.2] ty)) W.heap.size 0 [a,b]:=by
 intro j s hj
 match j,hj with
 | 0,hj=>cases hj;constructor<;>(rw[World.cell?_alloc_at _ _ _ _ rfl];rfl)
 | 1,hj=>cases hj;constructor<;>(rw[World.cell?_alloc_at _ _ _ _ rfl];rfl)
theorem q7t{w W:World}{a b:BA × BA}(hW:q87 w a b W)(hs:W.heap.size=w.heap.size+1+1+1)(hg:GW w)(ha:a.1.size≤1073741824∧a.2.size≤1073741824)(hb:b.1.size≤1073741824∧b.2.size≤1073741824):
  Calls Tryz.prog 103 #[.slice (some ⟨w.heap.size+1+1+1,0,none⟩) 2 2,.func (.func 104) #[] #[]] (W.alloc (.cells #[.string a.1,.string a.2,.string b.1,.string b.2] 46))
   (fun e w'=>(if qaj [qdh a,qdh b]=0 then ∃g,w.heap.size+1+1<g∧e = .returned (.tuple #[.slice (some ⟨g,0,none⟩) 2 2,.int .i64 0])∧qdg ivK w' g 2 [spQ a,spQ b]
    else e = .returned (.tuple #[.slice none 0 0,.int .i64 (qaj [qdh a,qdh b])]))∧q87 w a b w'):=by
 rw[←hs];have aD:Below W.heap.size W (W.alloc (.cells #[.string a.1,.string a.2,.string b.1,.string b.2] 46)):=qad _ _
 refine(qtk [a,b] W.heap.size 0 2 _ ((hg.later hW.1).later aD) (qvh W a b _) (by simp) (by
  intro s hs;simp only[List.mem_cons,List.not_mem_nil,or_false] at hs
  rcases hs with rfl|rfl<;>assumption)).mono ?_
 rintro e w' ⟨h1,h2⟩;refine⟨?_,hW.later (aD.trans (h2.mono (by rw[qab];omega)))⟩;split at h1
 ·rename_i h0
  have h0':qaj [qdh a,qdh b]=0:=h0;rw[if_pos h0'];obtain⟨g,Do,he,hr⟩:=h1;rw[qab] at Do;exact⟨g,by omega,he,hr⟩
 ·rename_i h0
  have h0':¬qaj [qdh a,qdh b]=0:=h0;rw[if_neg h0'];exact h1
theorem q1u{W:World}{g:Nat}{p q:Rat × Rat}(h:qdg ivK W g 2 [p,q]):∃x y x' y':NV,
  (∀W',Below W.heap.size W W'→W'.cell? ⟨g,0,none⟩=some (.bool x.b)∧W'.cell? ⟨g,1,none⟩=some (.slice x.p x.k x.c)∧W'.cell? ⟨g,2,none⟩=some (.slice x.q x.j x.d)∧
   W'.cell? ⟨g,3,none⟩=some (.bool y.b)∧W'.cell? ⟨g,4,none⟩=some (.slice y.p y.k y.c)∧W'.cell? ⟨g,5,none⟩=some (.slice y.q y.j y.d)∧
   W'.cell? ⟨g,6,none⟩=some (.bool x'.b)∧W'.cell? ⟨g,7,none⟩=some (.slice x'.p x'.k x'.c)∧W'.cell? ⟨g,8,none⟩=some (.slice x'.q x'.j x'.d)∧
   W'.cell? ⟨g,9,none⟩=some (.bool y'.b)∧W'.cell? ⟨g,10,none⟩=some (.slice y'.p y'.k y'.c)∧W'.cell? ⟨g,11,none⟩=some (.slice y'.q y'.j y'.d))∧
  qgl W (.agg #[.bool x.b,.slice x.p x.k x.c,.slice x.q x.j x.d,.bool y.b,.slice y.p y.k y.c,.slice y.q y.j y.d]) p.1 p.2∧qgl W (.agg #[.bool x'.b,.slice x'.p x'.k x'.c,.slice x'.q x'.j x'.d,.bool y'.b,.slice y'.p y'.k y'.c,.slice y'.q y'.j y'.d]) q.1 q.2:=by
 obtain⟨cs,⟨x,y,rfl,h1,h2⟩,hc⟩:=h.get 0 p rfl;obtain⟨cs',⟨x',y',rfl,h3,h4⟩,hc'⟩:=h.get 1 q rfl;refine⟨x,y,x',y',fun W' hb => ?_,qh5 h1 h2,qh5 h3 h4⟩;have key:∀(o:Nat),W'.cell? ⟨g,o,none⟩=W.cell? ⟨g,o,none⟩:=fun o=>hb.cell h.lt;simp only[key];exact⟨hc 0 _ rfl,hc 1 _ rfl,hc 2 _ rfl,hc 3 _ rfl,hc 4 _ rfl,hc 5 _ rfl,hc' 0 _ rfl,hc' 1 _ rfl,hc' 2 _ rfl,hc' 3 _ rfl,hc' 4 _ rfl,hc' 5 _ rfl⟩
theorem qvi{W:World}{g g':Nat}{c0 c1 c2 c3 c4 c5 c6 c7 c8 c9 c10 c11:Option Value}(h:W.cell? ⟨g,0,none⟩=c0∧W.cell? ⟨g,1,none⟩=c1∧W.cell? ⟨g,2,none⟩=c2∧W.cell? ⟨g,3,none⟩=c3∧W.cell? ⟨g,4,none⟩=c4∧W.cell? ⟨g,5,none⟩=c5∧W.cell? ⟨g,6,none⟩=c6∧W.cell? ⟨g,7,none⟩=c7∧W.cell? ⟨g,8,none⟩=c8∧W.cell? ⟨g,9,none⟩=c9∧W.cell? ⟨g,10,none⟩=c10∧W.cell? ⟨g,11,none⟩=c11)(hne:g'≠g)(x y:Value):
  ((W.setCell ⟨g',0,none⟩ x).setCell ⟨g',1,none⟩ y).cell? ⟨g,0,none⟩=c0∧((W.setCell ⟨g',0,none⟩ x).setCell ⟨g',1,none⟩ y).cell? ⟨g,1,none⟩=c1∧((W.setCell ⟨g',0,none⟩ x).setCell ⟨g',1,none⟩ y).cell? ⟨g,2,none⟩=c2∧((W.setCell ⟨g',0,none⟩ x).setCell ⟨g',1,none⟩ y).cell? ⟨g,3,none⟩=c3∧((W.setCell ⟨g',0,none⟩ x).setCell ⟨g',1,none⟩ y).cell? ⟨g,4,none⟩=c4∧((W.setCell ⟨g',0,none⟩ x).setCell ⟨g',1,none⟩ y).cell? ⟨g,5,none⟩=c5∧((W.setCell ⟨g',0,none⟩ x).setCell ⟨g',1,none⟩ y).cell? ⟨g,6,none⟩=c6∧((W.setCell ⟨g',0,none⟩ x).setCell ⟨g',1,none⟩ y).cell? ⟨g,7,none⟩=c7∧((W.setCell ⟨g',0,none⟩ x).setCell ⟨g',1,none⟩ y).cell? ⟨g,8,none⟩=c8∧((W.setCell ⟨g',0,none⟩ x).setCell ⟨g',1,none⟩ y).cell? ⟨g,9,none⟩=c9∧((W.setCell ⟨g',0,none⟩ x).setCell ⟨g',1,none⟩ y).cell? ⟨g,10,none⟩=c10∧((W.setCell ⟨g',0,none⟩ x).setCell ⟨g',1,none⟩ y).cell? ⟨g,11,none⟩=c11:=by
 have k:∀(V:World) (i o:Nat) (v:Value),(V.setCell ⟨g',i,none⟩ v).cell? ⟨g,o,none⟩=V.cell? ⟨g,o,none⟩:=fun V i o v=>World.cell?_setCell_other _ _ _ _ (by intro e;injection e with e;exact hne e);simp only[k];exact h
theorem qrs{a:BA × BA}(h:qdh a=0):bd (spQ a).1 600∧bd (spQ a).2 600∧(spQ a).1≤(spQ a).2:=by
 unfold qdh qj9 at h;split at h
 ·rename_i h1;exact absurd h h1
 ·rename_i h1
  obtain⟨c1,c2⟩:=qmu (by omega:qaj [qah a.1.data.toList,qah a.2.data.toList]=0);split at h
  ·cases h
  ·rename_i h2
   exact⟨qim c1,qim c2,q04.1 (show qfe (qbc a.1.data.toList) (qbc a.2.data.toList)≤0 by omega)⟩
theorem qzf{lo hi:Rat}{a b:BA × BA}{w w':World}{e:Ending}(h:qkq lo hi a b w e w'):∃(t1 t2:BA) (ec:Int),e = .returned (.tuple #[.agg #[.string t1,.string t2],.int .i64 ec])∧qkq lo hi a b w (.returned (.tuple #[.agg #[.string t1,.string t2],.int .i64 ec])) w'∧Below w.heap.size w w':=by
 have h0:=h;unfold qkq at h;split at h
 ·obtain⟨rfl,hb⟩:=h
  exact⟨_,_,_,rfl,h0,hb⟩
 ·obtain⟨t1,t2,ec,rfl,h2⟩:=qjb h
  exact⟨t1,t2,ec,rfl,h0,h2.2⟩
theorem qzg{lo hi:Rat}{a b:BA × BA}{w0 w1 w w':World}{e:Ending}(h:qkq lo hi a b w0 e w1)(hb:Below w.heap.size w w'):qkq lo hi a b w e w':=by
 unfold qkq at h ⊢;split at h
 ·rename_i h0;rw[if_pos h0];exact⟨h.1,hb⟩
 ·rename_i h0;rw[if_neg h0];exact⟨h.1,hb⟩
theorem qhi{W:World}{g:Nat}{w:World}(h:Below w.heap.size w W)(hg:w.heap.size≤g)(x y:Value):Below w.heap.size w ((W.setCell ⟨g,0,none⟩ x).setCell ⟨g,1,none⟩ y):=
 (h.setCell (p:=⟨g,0,none⟩) hg x).setCell (p:=⟨g,1,none⟩) hg y
end Go.Proofs.YtlkdlffhmakbgaaGreatDoor
