/- readShare. -/
import Derived.Test.YtclimablgihlhaaGreatDoorMMinMax
import Derived.WalkLawsBesides
import Derived.OneCell
import Derived.Test.YtclimablgihlhaaGreatDoorMRules
import Derived.MapKept
import Derived.Maps.Own
import Derived.Sort.KeysCollected
import Derived.Test.YtclimablgihlhaaGreatDoorMNv
set_option linter.all false
namespace Go.Proofs.YtclimablgihlhaaGreatDoor
open Go.RowKit
set_option maxRecDepth 100000
set_option maxHeartbeats 8000000
def q47(a b:BA):Bool:=Op.bytesLess a.toList b.toList||a.toList==b.toList
def qay(before:BA)(s:BA × BA):Nat:=
 if qhf s.1.data.toList=false then 8 else if q47 s.1 before=true then 11 else if qaa s.2.data.toList≠0 then qaa s.2.data.toList else if(qav s.2.data.toList).num≤0 then 12 else 0
def qgh(before:BA)(s:BA × BA)(w:World)(e:Ending)(w':World):Prop:=
 (if qay before s=0 then ∃z:NV,e = .returned (.tuple #[.agg #[.bool z.b,.slice z.p z.k z.c,.slice z.q z.j z.d],.int .i64 0])∧qaj w' (.agg #[.bool z.b,.slice z.p z.k z.c,.slice z.q z.j z.d]) (qav s.2.data.toList)
  else e = .returned (.tuple #[.agg #[.bool false,.slice none 0 0,.slice none 0 0],.int .i64 (qay before s:Nat)]))∧Below w.heap.size w w'
theorem qh8{before:BA}{s:BA × BA}{w w':World}(k:Nat){z:Int}(h:qay before s=k)(hk:k≠0)(hz:z=k)(hb:Below w.heap.size w w'):qgh before s w (.returned (.tuple #[.agg #[.bool false,.slice none 0 0,.slice none 0 0],.int .i64 z])) w':=by
 unfold qgh;rw[h,if_neg hk,hz];exact⟨rfl,hb⟩
def qr6(w:World)(s:BA × BA)(W:World):Prop:=
 Below w.heap.size w W∧Own W w.heap.size 2 (qko (.string s.1) (.string s.2))∧One W (w.heap.size+1) ⟨false,none,0,0,none,0,0⟩
theorem qr6.later{w W W':World}{s:BA × BA}(h:qr6 w s W)(hb:Below W.heap.size W W'):qr6 w s W':=
 ⟨h.1.trans (hb.mono h.1.size),h.2.1.later (hb.mono h.2.1.1),h.2.2.later (hb.mono h.2.2.1)⟩
theorem qw6(w:World)(s:BA × BA)(t:TypeId):qr6 w s ((w.alloc (.cells #[.string s.1,.string s.2] t)).alloc (.cells #[.bool false,.slice none 0 0,.slice none 0 0] 74)):=by
 have h1:Below w.heap.size w (w.alloc (.cells #[.string s.1,.string s.2] t)):=zam _ _;have p1:=qbg w t (.string s.1) (.string s.2);have p2:=qp7 (w.alloc (.cells #[.string s.1,.string s.2] t)) false (.slice none 0 0) (.slice none 0 0);rw[zao] at p2;exact⟨h1.alloc (by rw[zao];omega) _,p1.later ((zan _ _).alloc (by rw[zao];omega) _),p2⟩
theorem qr6.cells{w W:World}{s:BA × BA}(h:qr6 w s W):(W.cell? ⟨w.heap.size,0,none⟩=some (.string s.1)∧W.cell? ⟨w.heap.size,1,none⟩=some (.string s.2))∧
  (W.cell? ⟨w.heap.size+1,0,none⟩=some (.bool false)∧W.cell? ⟨w.heap.size+1,1,none⟩=some (.slice none 0 0)∧W.cell? ⟨w.heap.size+1,2,none⟩=some (.slice none 0 0))∧
  W.frozen? ⟨w.heap.size+1,0,none⟩=false∧W.frozen? ⟨w.heap.size+1,1,none⟩=false∧W.frozen? ⟨w.heap.size+1,2,none⟩=false:=
 ⟨qag h.2.1,h.2.2.cells.1,h.2.2.cells.2⟩
theorem q6q{q:Rat}:sgn q≤0↔q.num≤0:=by
 unfold sgn;split
 ·constructor<;>intro<;>omega
 ·split<;>constructor<;>intro<;>omega
theorem qrq{w W:World}{s:BA × BA}(h:qr6 w s W):Below w.heap.size w (((W.setCell ⟨w.heap.size+1,0,none⟩ (.bool false)).setCell ⟨w.heap.size+1,1,none⟩ (.slice none 0 0)).setCell ⟨w.heap.size+1,2,none⟩ (.slice none 0 0)):=
 ((h.1.setCell (p:=⟨w.heap.size+1,0,none⟩) (by show w.heap.size≤w.heap.size+1;omega) _).setCell (p:=⟨w.heap.size+1,1,none⟩) (by show w.heap.size≤w.heap.size+1;omega) _).setCell (p:=⟨w.heap.size+1,2,none⟩) (by show w.heap.size≤w.heap.size+1;omega) _
theorem qrr(before:BA)(s:BA × BA)(w:World)(hg:GW w)(hs:s.2.size≤1073741824):
  Calls Tryz.prog 160 #[.agg #[.string s.1,.string s.2],.string before] w (qgh before s w):=by
 have aO:=hid (qw6 w s 62);obtain⟨⟨s0,s1⟩,⟨r0,r1,r2⟩,g0,g1,g2⟩:=aO.out.cells;have gC:Hid (Calls Tryz.prog 28 #[.string s.1] ((w.alloc (.cells #[.string s.1,.string s.2] 62)).alloc (.cells #[.bool false,.slice none 0 0,.slice none 0 0] 74)) fun e w'=>e = .returned (.bool (qhf s.1.data.toList))∧qr6 w s w'):=hid ((qjj s.1 _).mono fun e w' ⟨h1,h2⟩=>⟨h1,aO.out.later h2⟩);by_cases hn:qhf s.1.data.toList=false
 ·have aG:Hid (∀w',Below w.heap.size w w'→qgh before s w (.returned (.tuple #[.agg #[.bool false,.slice none 0 0,.slice none 0 0],.int .i64 8])) w'):=hid fun w' hb=>qh8 8 (by unfold qay;rw[if_pos hn]) (by omega) rfl hb
  rw[hn] at gC;clear hg hs hn;go_enter Tryz.func160,Tryz.ntmps160;go_wp2_with fail;clear r0 r1 r2 g0 g1 g2 s0 s1;refine gC.out.mono ?_;rintro e w1 ⟨rfl,ht⟩;obtain⟨⟨s0,s1⟩,⟨r0,r1,r2⟩,g0,g1,g2⟩:=qr6.cells ht;have HB:=hid (qrq ht);clear ht;go_wp2_with fail;refine bodyPost_ret (v := .tuple #[.agg #[.bool false,.slice none 0 0,.slice none 0 0],.int .i64 8]) ?_ rfl ?_
  ·simp[results,Tryz.results160,go_sem,r0,r1,r2]
  ·exact aG.out _ HB.out
 ·have hn':qhf s.1.data.toList=true:=by simpa using hn
  rw[hn'] at gC;by_cases dF:q47 s.1 before=true
  ·have aG:Hid (∀w',Below w.heap.size w w'→qgh before s w (.returned (.tuple #[.agg #[.bool false,.slice none 0 0,.slice none 0 0],.int .i64 11])) w'):=hid fun w' hb=>qh8 11 (by unfold qay;rw[if_neg hn,if_pos dF]) (by omega) rfl hb
   have hAB:Op.bytesLess s.1.toList before.toList=true∨(Op.bytesLess s.1.toList before.toList=false∧(s.1.toList==before.toList)=true):=by
    unfold q47 at dF;cases h:Op.bytesLess s.1.toList before.toList
    ·right;rw[h] at dF;exact⟨rfl,by simpa using dF⟩
    ·exact .inl rfl
   clear hg hs hn hn' dF;rcases hAB with hA|⟨hA,hB⟩
   all_goals
    go_enter Tryz.func160,Tryz.ntmps160;go_wp2_with fail;clear r0 r1 r2 g0 g1 g2 s0 s1;refine gC.out.mono ?_;rintro e w1 ⟨rfl,ht⟩;obtain⟨⟨s0,s1⟩,⟨r0,r1,r2⟩,g0,g1,g2⟩:=qr6.cells ht;have HB:=hid (qrq ht);clear ht;go_wp2_with fail;refine bodyPost_ret (v := .tuple #[.agg #[.bool false,.slice none 0 0,.slice none 0 0],.int .i64 11]) ?_ rfl ?_
    ·simp[results,Tryz.results160,go_sem,r0,r1,r2]
    ·exact aG.out _ HB.out
  ·obtain⟨hA,hB⟩:Op.bytesLess s.1.toList before.toList=false∧(s.1.toList==before.toList)=false:=by
    unfold q47 at dF
    simpa [Bool.or_eq_true] using dF
   by_cases hc:qaa s.2.data.toList=0
   ·have cM:Hid (∀W,qr6 w s W→Calls Tryz.prog 51 #[.string s.2] W fun e w'=>(∃z:NV,e = .returned (.tuple #[.agg #[.bool z.b,.slice z.p z.k z.c,.slice z.q z.j z.d],.int .i64 0])∧qaj w' (.agg #[.bool z.b,.slice z.p z.k z.c,.slice z.q z.j z.d]) (qav s.2.data.toList))∧qr6 w s w'):=hid fun W hW=>(qmd s.2 W (hg.later hW.1) hs hc).mono fun e w' ⟨⟨v,he,hv⟩,hb⟩=>by
     obtain⟨z,rfl⟩:=hv.nv;exact⟨⟨z,he,hv⟩,hW.later hb⟩
    by_cases hp:(qav s.2.data.toList).num≤0
    ·have aG:Hid (∀w',Below w.heap.size w w'→qgh before s w (.returned (.tuple #[.agg #[.bool false,.slice none 0 0,.slice none 0 0],.int .i64 12])) w'):=hid fun w' hb=>qh8 12 (by unfold qay;rw[if_neg hn,if_neg dF,if_neg (by omega),if_pos hp]) (by omega) rfl hb
     have mE:sgn (qav s.2.data.toList)≤0:=q6q.2 hp;clear hg hs hn hn' dF hc hp;have fS:=hid (fun v W=>qdl v (qav s.2.data.toList) W);generalize sgn (qav s.2.data.toList)=sg at *;go_enter Tryz.func160,Tryz.ntmps160;go_wp2_with fail;clear r0 r1 r2 g0 g1 g2 s0 s1;refine gC.out.mono ?_;rintro e w1 ⟨rfl,ht⟩;have cE:=hid ht;obtain⟨⟨s0,s1⟩,⟨r0,r1,r2⟩,g0,g1,g2⟩:=qr6.cells ht;clear ht gC;go_wp2_with fail;clear r0 r1 r2 g0 g1 g2 s0 s1;refine(cM.out _ cE.out).mono ?_;rintro e w2 ⟨⟨z,rfl,hv⟩,ht⟩;have aD:Below w2.heap.size w2 (w2.alloc (.cells #[.bool z.b,.slice z.p z.k z.c,.slice z.q z.j z.d] 74)):=zam _ _;have dW:=hid (ht.later aD);obtain⟨q0,q1,q2⟩:=(qgg w2 z).cells.1;have dE:=hid (fS.out _ _ (hv.later aD));clear ht hv aD cM fS;go_wp2_with fail;refine dE.out.mono ?_;rintro e w3 ⟨rfl,hb⟩;have qB:=hid (dW.out.later hb);obtain⟨⟨s0,s1⟩,⟨r0,r1,r2⟩,g0,g1,g2⟩:=qB.out.cells;have HB:=hid (qrq qB.out);clear hb q0 q1 q2 dE;go_wp2_with fail;refine bodyPost_ret (v := .tuple #[.agg #[.bool false,.slice none 0 0,.slice none 0 0],.int .i64 12]) ?_ rfl ?_
     ·simp[results,Tryz.results160,go_sem,r0,r1,r2]
     ·exact aG.out _ HB.out
    ·have aG:Hid (∀w' (z:NV),qaj w' (.agg #[.bool z.b,.slice z.p z.k z.c,.slice z.q z.j z.d]) (qav s.2.data.toList)→Below w.heap.size w w'→qgh before s w (.returned (.tuple #[.agg #[.bool z.b,.slice z.p z.k z.c,.slice z.q z.j z.d],.int .i64 0])) w'):=hid fun w' z hv hb=>by
      have h0:qay before s=0:=by unfold qay;rw[if_neg hn,if_neg dF,if_neg (by omega),if_neg hp]
      unfold qgh;rw[if_pos h0];exact⟨⟨z,rfl,hv⟩,hb⟩
     have mE:¬sgn (qav s.2.data.toList)≤0:=fun h=>hp (q6q.1 h);clear hg hs hn hn' dF hc hp;have fS:=hid (fun v W=>qdl v (qav s.2.data.toList) W);generalize sgn (qav s.2.data.toList)=sg at *;go_enter Tryz.func160,Tryz.ntmps160;go_wp2_with fail;clear r0 r1 r2 g0 g1 g2 s0 s1;refine gC.out.mono ?_;rintro e w1 ⟨rfl,ht⟩;have cE:=hid ht;obtain⟨⟨s0,s1⟩,⟨r0,r1,r2⟩,g0,g1,g2⟩:=qr6.cells ht;clear ht gC;go_wp2_with fail;clear r0 r1 r2 g0 g1 g2 s0 s1;refine(cM.out _ cE.out).mono ?_;rintro e w2 ⟨⟨z,rfl,hv⟩,ht⟩;have aD:Below w2.heap.size w2 (w2.alloc (.cells #[.bool z.b,.slice z.p z.k z.c,.slice z.q z.j z.d] 74)):=zam _ _;have dW:=hid (ht.later aD);have kQ:=hid (qgg w2 z);obtain⟨q0,q1,q2⟩:=kQ.out.cells.1;have dE:=hid (fS.out _ _ (hv.later aD));have cO:=hid (hv.later aD);clear ht hv aD cM fS;go_wp2_with fail;clear q0 q1 q2;refine dE.out.mono ?_;rintro e w3 ⟨rfl,hb⟩;have qB:=hid (dW.out.later hb);have kC:=hid (cO.out.later hb);obtain⟨⟨s0,s1⟩,⟨r0,r1,r2⟩,g0,g1,g2⟩:=qB.out.cells;obtain⟨q0,q1,q2⟩:=(One.cells (kQ.out.later (hb.mono kQ.out.1))).1;have bJ:=qB.out.2.2.put (x:=z);have HNV:=hid (bJ.2.1 _ _ kC.out);have HB:=hid (bJ.2.2.1 _ _ (by omega) qB.out.1);clear hb dE bJ;go_wp2_with fail;refine bodyPost_ret (v := .tuple #[.agg #[.bool z.b,.slice z.p z.k z.c,.slice z.q z.j z.d],.int .i64 0]) ?_ rfl ?_
     ·simp[results,Tryz.results160,go_sem,r0,r1,r2]
     ·exact aG.out _ _ HNV.out HB.out
   ·have cM:Hid (∀W,qr6 w s W→Calls Tryz.prog 51 #[.string s.2] W fun e w'=>e = .returned (.tuple #[.agg #[.bool false,.slice none 0 0,.slice none 0 0],.int .i64 (qaa s.2.data.toList:Nat)])∧qr6 w s w'):=hid fun W hW=>(qoq s.2 W (hg.later hW.1) hs hc).mono fun e w' ⟨h1,hb⟩=>⟨h1,hW.later hb⟩
    have aG:Hid (∀w',Below w.heap.size w w'→qgh before s w (.returned (.tuple #[.agg #[.bool false,.slice none 0 0,.slice none 0 0],.int .i64 (qaa s.2.data.toList:Nat)])) w'):=hid fun w' hb=>qh8 _ (by unfold qay;rw[if_neg hn,if_neg dF,if_pos hc]) hc rfl hb;have dL:((qaa s.2.data.toList:Int)==0)=false:=zat (by omega);clear hg hs hn hn' dF hc;generalize qaa s.2.data.toList=ck at *;go_enter Tryz.func160,Tryz.ntmps160;go_wp2_with fail;clear r0 r1 r2 g0 g1 g2 s0 s1;refine gC.out.mono ?_;rintro e w1 ⟨rfl,ht⟩;have cE:=hid ht;obtain⟨⟨s0,s1⟩,⟨r0,r1,r2⟩,g0,g1,g2⟩:=qr6.cells ht;clear ht gC;go_wp2_with fail;clear r0 r1 r2 g0 g1 g2 s0 s1;refine(cM.out _ cE.out).mono ?_;rintro e w2 ⟨rfl,ht⟩;have aD:Below w2.heap.size w2 (w2.alloc (.cells #[.bool false,.slice none 0 0,.slice none 0 0] 74)):=zam _ _;have dW:=hid (ht.later aD);obtain⟨⟨s0,s1⟩,⟨r0,r1,r2⟩,g0,g1,g2⟩:=qr6.cells dW.out;have HB:=hid (qrq dW.out);clear ht aD cM;go_wp2_with fail;refine bodyPost_ret (v := .tuple #[.agg #[.bool false,.slice none 0 0,.slice none 0 0],.int .i64 ck]) ?_ rfl ?_
    ·simp[results,Tryz.results160,go_sem,r0,r1,r2]
    ·exact aG.out _ HB.out
def qef(W:World)(g:Nat)(cs:Array Value)(t:TypeId):Prop:=W.heap[g]? = some (.cells cs t (0,0))
theorem qef.lt{W:World}{g:Nat}{cs:Array Value}{t:TypeId}(h:qef W g cs t):g<W.heap.size:=lt_of_block h
theorem qef.later{W W':World}{g:Nat}{cs:Array Value}{t:TypeId}(h:qef W g cs t)(hb:Below W.heap.size W W'):qef W' g cs t:=(hb.block g h.lt).trans h
theorem qef.other{W:World}{g g':Nat}{cs:Array Value}{t:TypeId}(h:qef W g cs t)(hne:g≠g')(o:Nat)(v:Value):qef (W.setCell ⟨g',o,none⟩ v) g cs t:=(Below.heap_setCell _ _ _ _ hne).trans h
theorem qef.set{W:World}{g:Nat}{cs:Array Value}{t:TypeId}(h:qef W g cs t)(o:Nat)(v:Value):qef (W.setCell ⟨g,o,none⟩ v) g (cs.setIfInBounds o v) t:=by
 have bI:=h.lt
 have h':W.heap[g] = .cells cs t (0,0):=by
  have:=h;unfold qef at this
  simpa [Array.getElem?_eq_getElem bI] using this
 show(W.heap.modify g _)[g]? = _;rw[Array.getElem?_eq_getElem (by simpa using bI),Array.getElem_modify_self,h'];rfl
theorem qef.own{W:World}{g n:Nat}{cs:Array Value}{t:TypeId}{f:Nat→Value}(h:qef W g cs t)(hf:∀i,i<n→cs[i]? = some (f i)):Own W g n f:=by
 refine⟨h.lt,fun i hi=>⟨?_, ?_⟩⟩
 ·rw[cell_of_row W g i cs t (0,0) h];exact hf i hi
 ·have:=h
  unfold qef at this;simp[World.frozen?,this]
theorem qrs(W:World)(cs:Array Value)(t:TypeId):qef (W.alloc (.cells cs t)) W.heap.size cs t:=heap_alloc_new W _
theorem qef.own1{W:World}{g:Nat}{v:Value}{t:TypeId}(h:qef W g #[v] t):Own W g 1 (fun _=>v):=h.own fun i hi=>by
 match i,hi with
 | 0,_=>rfl
theorem qef.one{W:World}{g:Nat}{x:NV}{t:TypeId}(h:qef W g #[.bool x.b,.slice x.p x.k x.c,.slice x.q x.j x.d] t):One W g x:=h.own fun i hi=>by
 match i,hi with
 | 0,_=>rfl
 | 1,_=>rfl
 | 2,_=>rfl
theorem qef.str{W:World}{g:Nat}{s:BA}{t:TypeId}(h:qef W g #[.string s] t):W.cell? ⟨g,0,none⟩=some (.string s)∧W.frozen? ⟨g,0,none⟩=false:=⟨cell_of_one h,free_of_one h⟩
theorem qef.put3{W:World}{g:Nat}{x z:NV}{t:TypeId}(h:qef W g #[.bool x.b,.slice x.p x.k x.c,.slice x.q x.j x.d] t):qef (((W.setCell ⟨g,0,none⟩ (.bool z.b)).setCell ⟨g,1,none⟩ (.slice z.p z.k z.c)).setCell ⟨g,2,none⟩ (.slice z.q z.j z.d)) g #[.bool z.b,.slice z.p z.k z.c,.slice z.q z.j z.d] t:=
 ((h.set 0 (.bool z.b)).set 1 (.slice z.p z.k z.c)).set 2 (.slice z.q z.j z.d)
theorem qef.other3{W:World}{g g':Nat}{cs:Array Value}{t:TypeId}(h:qef W g cs t)(hne:g≠g')(a b c:Value):qef (((W.setCell ⟨g',0,none⟩ a).setCell ⟨g',1,none⟩ b).setCell ⟨g',2,none⟩ c) g cs t:=
 ((h.other hne _ _).other hne _ _).other hne _ _
def Chg(g1 g2:Nat)(W W':World):Prop:=Below (min g1 g2) W W'∧∀k,k<W.heap.size→k≠g1→k≠g2→W'.heap[k]? = W.heap[k]?
theorem Chg.refl(g1 g2:Nat)(W:World):Chg g1 g2 W W:=⟨zan _ _,fun _ _ _ _=>rfl⟩
theorem Chg.trans{g1 g2:Nat}{a b c:World}(h:Chg g1 g2 a b)(k:Chg g1 g2 b c):Chg g1 g2 a c:=⟨h.1.trans k.1,fun i h0 h1 h2=>(k.2 i (Nat.lt_of_lt_of_le h0 h.1.size) h1 h2).trans (h.2 i h0 h1 h2)⟩
theorem Chg.below{g1 g2:Nat}{a b c:World}(h:Chg g1 g2 a b)(hg:min g1 g2≤b.heap.size)(k:Below b.heap.size b c):Chg g1 g2 a c:=⟨h.1.trans (k.mono hg),fun i h0 h1 h2=>(k.block i (Nat.lt_of_lt_of_le h0 h.1.size)).trans (h.2 i h0 h1 h2)⟩
theorem Chg.set{g1 g2 g:Nat}{a b:World}(h:Chg g1 g2 a b)(hg:g=g1∨g=g2∨a.heap.size≤g)(hm:min g1 g2≤g)(o:Nat)(v:Value):Chg g1 g2 a (b.setCell ⟨g,o,none⟩ v):=
 ⟨h.1.setCell hm v,fun i h0 h1 h2=>(Below.heap_setCell _ _ _ _ (by intro e;subst e;rcases hg with e|e|e<;>omega)).trans (h.2 i h0 h1 h2)⟩
theorem qln{W:World}{g b o:Nat}{cs:Array Value}{t:TypeId}{k:IntKind}{z:Int}(h:qef W g cs t)(hc:∀c ∈ cs.toList,∀k z,c ≠ .int k z)(aC:W.cell? ⟨b,o,none⟩=some (.int k z)):b≠g:=by
 rintro rfl;rw[cell_of_row W b o cs t (0,0) h] at aC;rw[←Array.getElem?_toList] at aC;exact hc _ (zax aC) _ _ rfl
theorem qap.chg{g1 g2:Nat}{W W':World}{v:Value}{n:Nat}{c1 c2:Array Value}{t1 t2:TypeId}(h:qap W v n)(hc:Chg g1 g2 W W')(b1:qef W g1 c1 t1)(b2:qef W g2 c2 t2)(n1:∀c ∈ c1.toList,∀k z,c ≠ .int k z)(n2:∀c ∈ c2.toList,∀k z,c ≠ .int k z):qap W' v n:=by
 obtain⟨h1,q,c,h2,h3,h4,h5⟩:=h;refine⟨h1,q,c,h2,h3,h4, ?_⟩;rcases h5 with h5|⟨b,o,h6,h7⟩
 ·exact .inl h5
 ·refine .inr ⟨b,o,h6,fun i hi => ?_⟩
  have aC:=h7 i hi;have hb:=zaq W _ aC;have e:=hc.2 b hb (qln b1 n1 aC) (qln b2 n2 aC);rw[World.cell?_of_block (a:=⟨b,o+i,none⟩) e];exact aC
theorem qaj.chg{g1 g2:Nat}{W W':World}{v:Value}{q:Rat}{c1 c2:Array Value}{t1 t2:TypeId}(h:qaj W v q)(hc:Chg g1 g2 W W')(b1:qef W g1 c1 t1)(b2:qef W g2 c2 t2)(n1:∀c ∈ c1.toList,∀k z,c ≠ .int k z)(n2:∀c ∈ c2.toList,∀k z,c ≠ .int k z):qaj W' v q:=by
 obtain⟨t,b,e,h1,h2⟩:=h;exact⟨t,b,e,h1.chg hc b1 b2 n1 n2,h2.chg hc b1 b2 n1 n2⟩
theorem qtr(s:BA):∀c ∈ (#[Value.string s]:Array Value).toList,∀k z,c ≠ .int k z:=by
 intro c hc;simp only[List.mem_cons,List.not_mem_nil,or_false] at hc;subst hc;intro _ _ h;cases h
theorem qw7(x:NV):∀c ∈ (#[.bool x.b,.slice x.p x.k x.c,.slice x.q x.j x.d]:Array Value).toList,∀k z,c ≠ .int k z:=by
 intro c hc;simp only[List.mem_cons,List.not_mem_nil,or_false] at hc;rcases hc with rfl|rfl|rfl<;>(intro _ _ h;cases h)
def qo5(w:World)(r:Nat)(D:List (BA × Value)):Prop:=
 ∃es clock,w.heap[r]? = some (.map es clock)∧es.toList.map (fun e=>(e.key,e.val))=D.map (fun p=>(Value.string p.1,p.2))∧MapKept.Stamped es clock
theorem qo5.smap{w:World}{r:Nat}{D:List (BA × Value)}(h:qo5 w r D):qq8 w r D:=by
 obtain⟨es,clock,h1,h2,_⟩:=h;exact⟨es,clock,h1,h2⟩
theorem qo5.lt{w:World}{r:Nat}{D:List (BA × Value)}(h:qo5 w r D):r<w.heap.size:=by
 obtain⟨es,clock,h1,_⟩:=h;exact lt_of_block h1
theorem qo5.later{w w':World}{r:Nat}{D:List (BA × Value)}(h:qo5 w r D)(hb:Below w.heap.size w w'):qo5 w' r D:=by
 have bI:=h.lt;obtain⟨es,clock,h1,h2,h3⟩:=h;exact⟨es,clock,by rw[hb.block r bI];exact h1,h2,h3⟩
theorem q2a(w:World):qo5 (w.alloc (.map #[] 0)) w.heap.size []:=⟨#[],0,heap_alloc_new w _,rfl,MapKept.stamped_empty 0⟩
def q9r(D:List (BA × Value))(k:BA)(v:Value):List (BA × Value):=
 if D.any (fun p=>k==p.1) then D.map (fun p=>if k==p.1 then(p.1,v) else p) else D++[(k,v)]
theorem qeg(a b:BA):(a==b)=true↔a=b:=MapKept.bytes_beq a b
theorem qgi{es:List MapEntry}{D:List (BA × Value)}(h:es.map (fun e=>(e.key,e.val))=D.map (fun p=>(Value.string p.1,p.2)))(i:Nat):
  (∀e,es[i]? = some e→∃p,D[i]? = some p∧e.key = .string p.1∧e.val=p.2)∧(∀p,D[i]? = some p→∃e,es[i]? = some e∧e.key = .string p.1∧e.val=p.2):=by
 have h1:(es.map (fun e=>(e.key,e.val)))[i]? = (D.map (fun p=>(Value.string p.1,p.2)))[i]? := by rw[h]
 rw[List.getElem?_map,List.getElem?_map] at h1;constructor
 ·intro e he
  rw[he] at h1;cases hd:D[i]? with
  | none=>rw[hd] at h1;cases h1
  | some p=>
   rw[hd] at h1;simp only[Option.map_some,Option.some.injEq,Prod.mk.injEq] at h1;exact⟨p,rfl,h1.1,h1.2⟩
 ·intro p hp
  rw[hp] at h1;cases he:es[i]? with
  | none=>rw[he] at h1;cases h1
  | some e=>
   rw[he] at h1;simp only[Option.map_some,Option.some.injEq,Prod.mk.injEq] at h1;exact⟨e,rfl,h1.1,h1.2⟩
section
variable {P:Program}
theorem q48(w:World)(t kt et:TypeId)(ht:P.underlying t=some (.map kt et))(hk:P.underlying kt=some .string)(r:Nat)(D:List (BA × Value))(hm:qo5 w r D)(k:BA)(v:Value):
  ∃w',(Instr.mapUpdate t (.map (some r)) (.string k) v).run P w = .ok () w'∧qo5 w' r (q9r D k v)∧Below r w w'∧w'.heap.size=w.heap.size∧∀j,j≠r→w'.heap[j]? = w.heap[j]? := by
 obtain⟨es,clock,h1,h2,h3⟩:=hm;have Dr:MapKept.IsKey .string (.string k):=by simp[MapKept.IsKey]
 have sN:∀x ∈ es.toList,MapKept.IsKey .string x.key:=by
  intro x hx;obtain⟨i,hi⟩:=List.getElem?_of_mem hx;obtain⟨p,_,e,_⟩:=(qgi h2 i).1 x hi;rw[e];simp[MapKept.IsKey]
 rcases MapKept.findNow_spec Dr es.toList 0 sN with⟨g1,g2⟩|⟨j,e,g1,g2,g3⟩
 ·have hno:D.any (fun p=>k==p.1)=false:=by
   rw[List.any_eq_false];intro p hp;obtain⟨i,hi⟩:=List.getElem?_of_mem hp;obtain⟨x,hx,e1,_⟩:=(qgi h2 i).2 p hi;intro hb;exact g2 x (zax hx) (by rw[e1,(qeg _ _).1 hb])
  refine⟨_,by simp[Instr.mapUpdate,run_underlying ht,MapKept.run_getObj_map h1,MapKept.run_checkKey hk Dr,MapKept.run_findKey hk g1,MapKept.run_setObj_map _ h1,Result.andThen];rfl, ?_, ?_, ?_, ?_⟩
  ·refine⟨_,_,(MapKept.heap_set h1).1, ?_,MapKept.stamped_push h3 g2⟩
   unfold q9r;rw[hno];simp[h2]
  ·exact⟨rfl,rfl,rfl,by simp,fun j hj=>(MapKept.heap_set h1).2 j (by omega)⟩
  ·simp
  ·exact fun j hj=>(MapKept.heap_set h1).2 j hj
 ·have hj:es[j]? = some e:=by simpa using g2
  obtain⟨p,hp,e1,e2⟩:=(qgi h2 j).1 e g2;have hpk:p.1=k:=by rw[g3] at e1;simpa using e1.symm
  have hyes:D.any (fun p=>k==p.1)=true:=by
   rw[List.any_eq_true];exact⟨p,zax hp,(qeg _ _).2 hpk.symm⟩
  have hkey:∀e',es[j]? = some e'→({ e' with key := .string k,val:=v }:MapEntry).key=e'.key:=fun e' he'=>by rw[hj] at he';cases he';exact g3.symm
  refine⟨_,by simp[Instr.mapUpdate,run_underlying ht,MapKept.run_getObj_map h1,MapKept.run_checkKey hk Dr,MapKept.run_findKey hk g1,hj,g3,MapKept.run_keyThatStays Dr,MapKept.run_setObj_map _ h1,Result.andThen];rfl, ?_, ?_, ?_, ?_⟩
  ·refine⟨_,_,(MapKept.heap_set h1).1, ?_,MapKept.stamped_modify h3 _ _ (fun _ _=>rfl) (fun e' _ he'=>hkey e' he')⟩
   unfold q9r;rw[if_pos hyes];refine List.ext_getElem? fun i => ?_;rw[List.getElem?_map,List.getElem?_map,List.getElem?_map,Array.toList_modify,List.getElem?_modify];by_cases hij:j=i
   ·subst hij
    rw[g2,hp];simp[hpk,(qeg k k).2 rfl]
   ·simp only[hij,if_false,Option.map_eq_map,Option.map_id']
    cases hd:D[i]? with
    | none=>
     have:es.toList[i]? = none:=by
      cases he:es.toList[i]? with
      | none=>rfl
      | some e'=>obtain⟨p',hp',_⟩:=(qgi h2 i).1 e' he;rw[hd] at hp';cases hp'
     rw[this];rfl
    | some p'=>
     obtain⟨e',he',f1,f2⟩:=(qgi h2 i).2 p' hd;rw[he']
     have hne:(k==p'.1)=false:=by
      rw[Bool.eq_false_iff];intro hb;have kA:=(qeg _ _).1 hb;have Gy:=h3.2.2;have Dp:i<(es.toList.map (·.key)).length:=by rw[List.length_map];exact(List.getElem?_eq_some_iff.1 he').1
      have hj1:j<(es.toList.map (·.key)).length:=by rw[List.length_map];exact(List.getElem?_eq_some_iff.1 g2).1
      have hg:(es.toList.map (·.key))[i]=(es.toList.map (·.key))[j]:=by
       rw[List.getElem_map,List.getElem_map];have a1:=(List.getElem?_eq_some_iff.1 he').2;have a2:=(List.getElem?_eq_some_iff.1 g2).2;rw[a1,a2,f1,g3,←kA]
      exact hij ((List.getElem_inj Gy).1 hg).symm
     simp[f1,f2,hne]
  ·exact⟨rfl,rfl,rfl,by simp,fun j' hj'=>(MapKept.heap_set h1).2 j' (by omega)⟩
  ·simp
  ·exact fun j' hj'=>(MapKept.heap_set h1).2 j' hj'
end
theorem qo5.owns{H:Type}{P:Program}{kt:TypeId}{w:World}{r:Nat}{D:List (BA × Value)}(h:qo5 w r D)(hk:P.underlying kt=some .string)(hl:∀p ∈ D,p.1.size≤maxLen)(hn:D.length≤1048576):
  ∃D0:DataW H,w.ownsMap P kt (fun _=>some (.nil,[])) r D.length D0∧(Go.strKeys D0).Perm (D.map fun p=>p.1.data.toList)∧Maps.size D0=D.length:=by
 obtain⟨es,clock,h1,h2,h3⟩:=h
 have aF:es.toList.length=D.length:=by
  have:=congrArg List.length h2
  rwa [List.length_map,List.length_map] at this
 have zL:∀x ∈ es.toList,∃p ∈ D,x.key = .string p.1∧WideElems.rd (H:=H) P kt (fun _=>some (.nil,[])) x=some (.string p.1.data.toList,.nil):=by
  intro x hx;obtain⟨i,hi⟩:=List.getElem?_of_mem hx;obtain⟨p,hp,e,_⟩:=(qgi h2 i).1 x hi;refine⟨p,zax hp,e, ?_⟩;unfold WideElems.rd;rw[e,WideMaps.keyOf_string_mk hk (hl p (zax hp))];rfl
 refine⟨_,⟨es,clock,h1,⟨by rw[←Array.length_toList,aF];unfold maxLen;omega,h3,fun x hx => ?_⟩,by rw[←Array.length_toList,aF];exact zap _,rfl⟩, ?_, ?_⟩
 ·obtain⟨p,_,_,e⟩:=zL x hx
  exact⟨_,e⟩
 ·show((es.toList.map (WideElems.rg P kt _)).foldr DataW.insert []).map (fun p=>Go.strOf p.1) |>.Perm _
  refine((WideShapes.sorted_perm _).map _).trans ?_;rw[List.map_map];refine List.Perm.of_eq (List.ext_getElem? fun i => ?_);rw[List.getElem?_map,List.getElem?_map];cases hd:es.toList[i]? with
  | none=>
   have:D[i]? = none:=by
    rw[List.getElem?_eq_none_iff] at hd ⊢;omega
   rw[this];rfl
  | some x=>
   obtain⟨p,hp,e,_⟩:=(qgi h2 i).1 x hd;rw[hp]
   have hr:WideElems.rd (H:=H) P kt (fun _=>some (.nil,[])) x=some (.string p.1.data.toList,.nil):=by
    unfold WideElems.rd;rw[e,WideMaps.keyOf_string_mk hk (hl p (zax hp))];rfl
   simp[WideElems.rg,hr,Go.strOf]
 ·show((es.toList.map (WideElems.rg P kt _)).foldr DataW.insert []).length=_
  rw[(WideShapes.sorted_perm _).length_eq,List.length_map,aF]
def qvs(gb gs:Nat)(bef:BA)(q:Rat)(s:BA × BA)(w:World)(e:Ending)(w':World):Prop:=
 (if qay bef s=0 then ∃z m:NV,e = .returned (.tuple #[.agg #[.bool z.b,.slice z.p z.k z.c,.slice z.q z.j z.d],.int .i64 0])∧qaj w' (.agg #[.bool z.b,.slice z.p z.k z.c,.slice z.q z.j z.d]) (qav s.2.data.toList)∧qef w' gs #[.bool m.b,.slice m.p m.k m.c,.slice m.q m.j m.d] 74∧qaj w' (.agg #[.bool m.b,.slice m.p m.k m.c,.slice m.q m.j m.d]) (q+qav s.2.data.toList)
  else e = .returned (.tuple #[.agg #[.bool false,.slice none 0 0,.slice none 0 0],.int .i64 (qay bef s:Nat)]))∧qef w' gb #[.string s.1] 9∧Chg gb gs w w'
theorem qmm(w:World):qaj w (.agg #[.bool false,.slice none 0 0,.slice none 0 0]) 0:=qjf w 0 false (.slice none 0 0) (.slice none 0 0) rfl (qap.nil w) (qap.nil w)
theorem q7z:rs 0=1:=by
 have:=qjh 0;rw[show wl (0:Int).natAbs=0 from qck] at this;exact this
theorem qts(gb gs:Nat)(bef:BA)(m:NV)(q:Rat)(s:BA × BA)(w:World)(hg:GW w)(hs:s.2.size≤1073741824)(bb:qef w gb #[.string bef] 9)(bs:qef w gs #[.bool m.b,.slice m.p m.k m.c,.slice m.q m.j m.d] 74)(hne:gb≠gs)(hm:qaj w (.agg #[.bool m.b,.slice m.p m.k m.c,.slice m.q m.j m.d]) q)(aP:rs q+1300≤Cap):
  Calls Tryz.prog 159 #[.agg #[.string s.1,.string s.2],.pointer (some ⟨gb,0,none⟩),.pointer (some ⟨gs,0,none⟩)] w (qvs gb gs bef q s w):=by
 have aO:=hid (qw6 w s 62);have cU:=hid ((qrr bef s _ (hg.later aO.out.1) hs));obtain⟨⟨s0,s1⟩,⟨r0,r1,r2⟩,g0,g1,g2⟩:=aO.out.cells;have BB0:=hid (bb.later aO.out.1);have BS0:=hid (bs.later aO.out.1);have zJ:=hid (hm.later aO.out.1);obtain⟨dL,Fk⟩:=BB0.out.str;have dG:=bb.lt;have hls:=bs.lt;have lL:=hid (Chg.below (Chg.refl gb gs w) (by omega) aO.out.1);by_cases h0:qay bef s=0
 ·have aG:Hid (∀w' (z m:NV),qaj w' (.agg #[.bool z.b,.slice z.p z.k z.c,.slice z.q z.j z.d]) (qav s.2.data.toList)→qef w' gs #[.bool m.b,.slice m.p m.k m.c,.slice m.q m.j m.d] 74→qaj w' (.agg #[.bool m.b,.slice m.p m.k m.c,.slice m.q m.j m.d]) (q+qav s.2.data.toList)→qef w' gb #[.string s.1] 9→Chg gb gs w w'→qvs gb gs bef q s w (.returned (.tuple #[.agg #[.bool z.b,.slice z.p z.k z.c,.slice z.q z.j z.d],.int .i64 0])) w'):=hid fun w' z m h1 h2 h3 h4 h5=>by
   unfold qvs;rw[if_pos h0];exact⟨⟨z,m,rfl,h1,h2,h3⟩,h4,h5⟩
  have fC:qaa s.2.data.toList=0:=by
   unfold qay at h0;split at h0
   ·cases h0
   ·split at h0
    ·cases h0
    ·split at h0
     ·rename_i h;exact absurd h0 h
     ·omega
  have bq:=(qib fC).rs
  have cM:Hid (Calls Tryz.prog 160 #[.agg #[.string s.1,.string s.2],.string bef] ((w.alloc (.cells #[.string s.1,.string s.2] 62)).alloc (.cells #[.bool false,.slice none 0 0,.slice none 0 0] 74)) fun e w'=>(∃z:NV,e = .returned (.tuple #[.agg #[.bool z.b,.slice z.p z.k z.c,.slice z.q z.j z.d],.int .i64 0])∧qaj w' (.agg #[.bool z.b,.slice z.p z.k z.c,.slice z.q z.j z.d]) (qav s.2.data.toList))∧Below ((w.alloc (.cells #[.string s.1,.string s.2] 62)).alloc (.cells #[.bool false,.slice none 0 0,.slice none 0 0] 74)).heap.size ((w.alloc (.cells #[.string s.1,.string s.2] 62)).alloc (.cells #[.bool false,.slice none 0 0,.slice none 0 0] 74)) w'):=hid (cU.out.mono fun e w' h=>by
   unfold qgh at h;rw[if_pos h0] at h;obtain⟨⟨z,h1,h2⟩,h3⟩:=h
   exact⟨⟨z,h1,h2⟩,h3⟩)
  clear h0 fC hg hs bb bs hm cU;generalize qav s.2.data.toList=pq at *;have hbs0:w.heap.size<((w.alloc (.cells #[.string s.1,.string s.2] 62)).alloc (.cells #[.bool false,.slice none 0 0,.slice none 0 0] 74)).heap.size:=by have:=aO.out.2.1.1;exact this
  go_enter Tryz.func159,Tryz.ntmps159;go_wp2_with fail;clear r0 r1 r2 g0 g1 g2;refine cM.out.mono ?_;rintro e w2 ⟨⟨z,rfl,hz⟩,hb⟩;have aD:Below w2.heap.size w2 (w2.alloc (.cells #[.bool z.b,.slice z.p z.k z.c,.slice z.q z.j z.d] 74)):=zam _ _;have hb':=hb.trans (aD.mono hb.size);have dW:=hid (aO.out.later hb');have BB2:=hid (BB0.out.later hb');have BS2:=hid (BS0.out.later hb');have fY:=hid (hz.later aD);have fE:=hid (zJ.out.later hb');have BZ2:=hid (qrs w2 #[.bool z.b,.slice z.p z.k z.c,.slice z.q z.j z.d] 74);have eU:=hid (lL.out.below (by have:=aO.out.1.size;omega) hb');have mI:w.heap.size+1<w2.heap.size:=by have:=aO.out.2.2.1;have:=hb.size;omega
  clear hz hb aD hb' s0 s1 dL Fk cM BB0 BS0 zJ lL;generalize nZ:w2.heap.size=gz at *;have BS3:=hid (BS2.out.other (Ne.symm hne) 0 (.string s.1));have BB3:Hid (qef ((w2.alloc (.cells #[.bool z.b,.slice z.p z.k z.c,.slice z.q z.j z.d] 74)).setCell ⟨gb,0,none⟩ (.string s.1)) gb #[.string s.1] 9):=hid (BB2.out.set 0 _);have BZ3:=hid (BZ2.out.other (show gz≠gb by omega) 0 (.string s.1));have Nn:=hid (qa7 fE.out BB2.out.own1 0 (by omega) (by intro k z e;cases e) (.string s.1));have HZ3:=hid (qa7 fY.out BB2.out.own1 0 (by omega) (by intro k z e;cases e) (.string s.1));have xQ:=hid (eU.out.set (g:=gb) (.inl rfl) (Nat.min_le_left _ _) 0 (.string s.1));have qB:Hid (One ((w2.alloc (.cells #[.bool z.b,.slice z.p z.k z.c,.slice z.q z.j z.d] 74)).setCell ⟨gb,0,none⟩ (.string s.1)) (w.heap.size+1) ⟨false,none,0,0,none,0,0⟩):=hid (((qe6.refl gb _).set 0 _).own dW.out.2.2 (by omega));have iH:=hid (qht _ _ _ _ _ Nn.out HZ3.out (by unfold Cap at *;omega));obtain⟨⟨s0,s1⟩,_⟩:=dW.out.cells;obtain⟨dL,Fk⟩:=BB2.out.str;obtain⟨⟨p0,p1,p2⟩,_⟩:=BZ2.out.one.cells;obtain⟨⟨q0,q1,q2⟩,_⟩:=BS3.out.one.cells;obtain⟨⟨t0,t1,t2⟩,_⟩:=BZ3.out.one.cells;go_wp2_with fail;clear s0 s1 dL Fk p0 p1 p2 q0 q1 q2 t0 t1 t2;refine iH.out.mono ?_;rintro e w4 ⟨⟨v4,rfl,hv⟩,hb⟩;obtain⟨m',rfl⟩:=hv.nv;have BS4:=BS3.out.later hb;have BB4:=BB3.out.later hb;have BZ4:=BZ3.out.later hb;have El:=qB.out.later (hb.mono qB.out.1);have HZ4:=HZ3.out.later hb;have bJ:=BS4.one.put (x:=m');have HM5:=hid (bJ.2.1 _ _ hv);have HZ5:=hid (bJ.2.1 _ _ HZ4);have BS5:=hid (BS4.put3 (z:=m'));have BB5:=hid (BB4.other3 hne (.bool m'.b) (.slice m'.p m'.k m'.c) (.slice m'.q m'.j m'.d));have BZ5:=hid (BZ4.other3 (show gz≠gs by omega) (.bool m'.b) (.slice m'.p m'.k m'.c) (.slice m'.q m'.j m'.d))
  have Hz:Hid (One (((w4.setCell ⟨gs,0,none⟩ (.bool m'.b)).setCell ⟨gs,1,none⟩ (.slice m'.p m'.k m'.c)).setCell ⟨gs,2,none⟩ (.slice m'.q m'.j m'.d)) (w.heap.size+1) ⟨false,none,0,0,none,0,0⟩):=hid (bJ.2.2.2 _ _ _ (by omega) El);have Ds:=xQ.out.below (by have:=xQ.out.1.size;have:=Nat.min_le_left gb gs;simp;omega) hb;have HC5:=hid (((Ds.set (g:=gs) (.inr (.inl rfl)) (Nat.min_le_right _ _) 0 (.bool m'.b)).set (g:=gs) (.inr (.inl rfl)) (Nat.min_le_right _ _) 1 (.slice m'.p m'.k m'.c)).set (g:=gs) (.inr (.inl rfl)) (Nat.min_le_right _ _) 2 (.slice m'.q m'.j m'.d));obtain⟨⟨q0,q1,q2⟩,f0,f1,f2⟩:=BS4.one.cells;obtain⟨⟨t0,t1,t2⟩,_⟩:=BZ5.out.one.cells;obtain⟨⟨r0,r1,r2⟩,g0,g1,g2⟩:=One.cells Hz.out;clear bJ hv hb BS4 BB4 BZ4 El HZ4 Ds iH;have yM:=Hz.out.put (x:=z);have HZ6:=hid (yM.2.1 _ _ HZ5.out);have Ia:=hid (yM.2.1 _ _ HM5.out);have BS6:=hid (BS5.out.other3 (show gs≠w.heap.size+1 by omega) (.bool z.b) (.slice z.p z.k z.c) (.slice z.q z.j z.d));have BB6:=hid (BB5.out.other3 (show gb≠w.heap.size+1 by omega) (.bool z.b) (.slice z.p z.k z.c) (.slice z.q z.j z.d));have Fl:=Nat.min_le_left gb gs;have HC6:=hid (((HC5.out.set (g:=w.heap.size+1) (.inr (.inr (by omega))) (by omega) 0 (.bool z.b)).set (g:=w.heap.size+1) (.inr (.inr (by omega))) (by omega) 1 (.slice z.p z.k z.c)).set (g:=w.heap.size+1) (.inr (.inr (by omega))) (by omega) 2 (.slice z.q z.j z.d));clear yM;go_wp2_with fail;refine bodyPost_ret (v := .tuple #[.agg #[.bool z.b,.slice z.p z.k z.c,.slice z.q z.j z.d],.int .i64 0]) ?_ rfl ?_
  ·simp[results,Tryz.results159,go_sem,r0,r1,r2]
  ·exact aG.out _ _ _ HZ6.out BS6.out Ia.out BB6.out HC6.out
 ·have aG:Hid (∀w',qef w' gb #[.string s.1] 9→Chg gb gs w w'→qvs gb gs bef q s w (.returned (.tuple #[.agg #[.bool false,.slice none 0 0,.slice none 0 0],.int .i64 (qay bef s:Nat)])) w'):=hid fun w' h4 h5=>by
   unfold qvs;rw[if_neg h0];exact⟨rfl,h4,h5⟩
  have cM:Hid (Calls Tryz.prog 160 #[.agg #[.string s.1,.string s.2],.string bef] ((w.alloc (.cells #[.string s.1,.string s.2] 62)).alloc (.cells #[.bool false,.slice none 0 0,.slice none 0 0] 74)) fun e w'=>e = .returned (.tuple #[.agg #[.bool false,.slice none 0 0,.slice none 0 0],.int .i64 (qay bef s:Nat)])∧Below ((w.alloc (.cells #[.string s.1,.string s.2] 62)).alloc (.cells #[.bool false,.slice none 0 0,.slice none 0 0] 74)).heap.size ((w.alloc (.cells #[.string s.1,.string s.2] 62)).alloc (.cells #[.bool false,.slice none 0 0,.slice none 0 0] 74)) w'):=hid (cU.out.mono fun e w' h=>by
   unfold qgh at h;rw[if_neg h0] at h
   exact h)
  clear h0 hg hs bb bs hm cU;generalize qay bef s=ck at *;go_enter Tryz.func159,Tryz.ntmps159;go_wp2_with fail;clear r0 r1 r2 g0 g1 g2;refine cM.out.mono ?_;rintro e w2 ⟨rfl,hb⟩;have aD:Below w2.heap.size w2 (w2.alloc (.cells #[.bool false,.slice none 0 0,.slice none 0 0] 74)):=zam _ _;have hb':=hb.trans (aD.mono hb.size);have dW:=hid (aO.out.later hb');have BB2:=hid (BB0.out.later hb');have BS2:=hid (BS0.out.later hb');have fY:=hid (qmm (w2.alloc (.cells #[.bool false,.slice none 0 0,.slice none 0 0] 74)));have fE:=hid (zJ.out.later hb');have BZ2:Hid (qef (w2.alloc (.cells #[.bool false,.slice none 0 0,.slice none 0 0] 74)) w2.heap.size #[.bool false,.slice none 0 0,.slice none 0 0] 74):=hid (qrs w2 #[.bool false,.slice none 0 0,.slice none 0 0] 74);have eU:=hid (lL.out.below (by have:=aO.out.1.size;omega) hb');have mI:w.heap.size+1<w2.heap.size:=by have:=aO.out.2.2.1;have:=hb.size;omega
  clear hb aD hb' s0 s1 dL Fk cM BB0 BS0 zJ lL;generalize nZ:w2.heap.size=gz at *;have BS3:=hid (BS2.out.other (Ne.symm hne) 0 (.string s.1));have BB3:Hid (qef ((w2.alloc (.cells #[.bool false,.slice none 0 0,.slice none 0 0] 74)).setCell ⟨gb,0,none⟩ (.string s.1)) gb #[.string s.1] 9):=hid (BB2.out.set 0 _);have BZ3:=hid (BZ2.out.other (show gz≠gb by omega) 0 (.string s.1));have Nn:=hid (qa7 fE.out BB2.out.own1 0 (by omega) (by intro k z e;cases e) (.string s.1));have HZ3:=hid (qa7 fY.out BB2.out.own1 0 (by omega) (by intro k z e;cases e) (.string s.1));have xQ:=hid (eU.out.set (g:=gb) (.inl rfl) (Nat.min_le_left _ _) 0 (.string s.1));have qB:Hid (One ((w2.alloc (.cells #[.bool false,.slice none 0 0,.slice none 0 0] 74)).setCell ⟨gb,0,none⟩ (.string s.1)) (w.heap.size+1) ⟨false,none,0,0,none,0,0⟩):=hid (((qe6.refl gb _).set 0 _).own dW.out.2.2 (by omega));have iH:=hid (qht _ _ _ _ _ Nn.out HZ3.out (by have:rs 0=1:=q7z;unfold Cap at *;omega));obtain⟨⟨s0,s1⟩,_⟩:=dW.out.cells;obtain⟨dL,Fk⟩:=BB2.out.str;obtain⟨⟨p0,p1,p2⟩,_⟩:=(qef.one (x:=⟨false,none,0,0,none,0,0⟩) BZ2.out).cells;obtain⟨⟨q0,q1,q2⟩,_⟩:=BS3.out.one.cells;obtain⟨⟨t0,t1,t2⟩,_⟩:=(qef.one (x:=⟨false,none,0,0,none,0,0⟩) BZ3.out).cells;go_wp2_with fail;clear s0 s1 dL Fk p0 p1 p2 q0 q1 q2 t0 t1 t2;refine iH.out.mono ?_;rintro e w4 ⟨⟨v4,rfl,hv⟩,hb⟩;obtain⟨m',rfl⟩:=hv.nv;have BS4:=BS3.out.later hb;have BB4:=BB3.out.later hb;have BZ4:=BZ3.out.later hb;have El:=qB.out.later (hb.mono qB.out.1);have BB5:=hid (BB4.other3 hne (.bool m'.b) (.slice m'.p m'.k m'.c) (.slice m'.q m'.j m'.d));have BZ5:=hid (BZ4.other3 (show gz≠gs by omega) (.bool m'.b) (.slice m'.p m'.k m'.c) (.slice m'.q m'.j m'.d))
  have Hz:Hid (One (((w4.setCell ⟨gs,0,none⟩ (.bool m'.b)).setCell ⟨gs,1,none⟩ (.slice m'.p m'.k m'.c)).setCell ⟨gs,2,none⟩ (.slice m'.q m'.j m'.d)) (w.heap.size+1) ⟨false,none,0,0,none,0,0⟩):=hid (BS4.one.put.2.2.2 _ _ _ (by omega) El);have Ds:=xQ.out.below (by have:=xQ.out.1.size;have:=Nat.min_le_left gb gs;simp;omega) hb;have HC5:=hid (((Ds.set (g:=gs) (.inr (.inl rfl)) (Nat.min_le_right _ _) 0 (.bool m'.b)).set (g:=gs) (.inr (.inl rfl)) (Nat.min_le_right _ _) 1 (.slice m'.p m'.k m'.c)).set (g:=gs) (.inr (.inl rfl)) (Nat.min_le_right _ _) 2 (.slice m'.q m'.j m'.d));obtain⟨⟨q0,q1,q2⟩,f0,f1,f2⟩:=BS4.one.cells;obtain⟨⟨t0,t1,t2⟩,_⟩:=(qef.one (x:=⟨false,none,0,0,none,0,0⟩) BZ5.out).cells;obtain⟨⟨r0,r1,r2⟩,g0,g1,g2⟩:=One.cells Hz.out;clear hv hb BS4 BB4 BZ4 El Ds iH;have BB6:=hid (BB5.out.other3 (show gb≠w.heap.size+1 by omega) (.bool false) (.slice none 0 0) (.slice none 0 0));have Fl:=Nat.min_le_left gb gs;have HC6:=hid (((HC5.out.set (g:=w.heap.size+1) (.inr (.inr (by omega))) (by omega) 0 (.bool false)).set (g:=w.heap.size+1) (.inr (.inr (by omega))) (by omega) 1 (.slice none 0 0)).set (g:=w.heap.size+1) (.inr (.inr (by omega))) (by omega) 2 (.slice none 0 0));go_wp2_with fail;refine bodyPost_ret (v := .tuple #[.agg #[.bool false,.slice none 0 0,.slice none 0 0],.int .i64 ck]) ?_ rfl ?_
  ·simp[results,Tryz.results159,go_sem,r0,r1,r2]
  ·exact aG.out _ BB6.out HC6.out
def qpw(b:BA)(l:List (BA × BA)):BA:=l.foldl (fun _ s=>s.1) b
def qns(l:List (BA × BA)):Rat:=l.foldl (fun a s=>a+qav s.2.data.toList) 0
def qba:BA→List (BA × BA)→List Nat
 | _,[]=>[]
 | b,s::l=>qay b s::qba s.1 l
theorem qyx(b:BA)(l:List (BA × BA))(s:BA × BA):qpw b (l++[s])=s.1:=by unfold qpw;rw[List.foldl_append];rfl
theorem qtt(l:List (BA × BA))(s:BA × BA):qns (l++[s])=qns l+qav s.2.data.toList:=by unfold qns;rw[List.foldl_append];rfl
theorem qfo(l m:List (BA × BA)):∀b,qba b (l++m)=qba b l++qba (qpw b l) m:=by
 induction l with
 | nil=>intro b;rfl
 | cons s l ih=>intro b;show qay b s::qba s.1 (l++m)=_;rw[ih s.1];rfl
theorem qjy{b:BA}{s:BA × BA}(h:qay b s=0):qaa s.2.data.toList=0:=by
 unfold qay at h;split at h
 ·cases h
 ·split at h
  ·cases h
  ·split at h
   ·rename_i h1;exact absurd h h1
   ·omega
theorem qlo{l m:List Nat}(h:qac (l++m)=0):qac l=0∧qac m=0:=by
 induction l with
 | nil=>exact⟨rfl,h⟩
 | cons e l ih=>
  have h1:(if e=0 then qac (l++m) else e)=0:=h;by_cases he:e=0
  ·rw[if_pos he] at h1
   refine⟨?_,(ih h1).2⟩;show(if e=0 then qac l else e)=0;rw[if_pos he];exact(ih h1).1
  ·rw[if_neg he] at h1;exact absurd h1 he
theorem qgt{α:Type}{P:List α→Prop}(h0:P [])(h1:∀l x,P l→P (l++[x]))(l:List α):P l:=by
 have:∀l:List α,P l.reverse:=by
  intro l
  induction l with
  | nil=>exact h0
  | cons x l ih=>rw[List.reverse_cons];exact h1 _ _ ih
 have h:=this l.reverse
 rwa [List.reverse_reverse] at h
theorem q2b(b:BA)(l:List (BA × BA))(h:qac (qba b l)=0):bd (qns l) (601*l.length+1):=by
 induction l using qgt with
 | h0=>exact qiu _ (by simp)
 | h1 l s ih=>
  rw[qfo] at h;obtain⟨h1,h2⟩:=qlo h
  have h3:qay (qpw b l) s=0:=by
   have:(if qay (qpw b l) s=0 then qac [] else qay (qpw b l) s)=0:=h2;by_cases hz:qay (qpw b l) s=0
   ·exact hz
   ·rw[if_neg hz] at this;exact absurd this hz
  rw[qtt];refine(qmx (ih h1) (qib (qjy h3))).mono ?_;rw[List.length_append];simp;omega
theorem GW.chg{g1 g2:Nat}{W W':World}{c1 c2:Array Value}{t1 t2:TypeId}(h:GW W)(hc:Chg g1 g2 W W')(b1:qef W g1 c1 t1)(b2:qef W g2 c2 t2)(n1:∀c ∈ c1.toList,∀k z,c ≠ .int k z)(n2:∀c ∈ c2.toList,∀k z,c ≠ .int k z):GW W':=by
 obtain⟨h0,m,hm⟩:=h;refine⟨Nat.lt_of_lt_of_le h0 hc.1.size,m, ?_⟩;have e:=hc.2 _ (zaq W _ hm) (qln b1 n1 hm) (qln b2 n2 hm);rw[World.cell?_of_block (a:=⟨_,0,none⟩) e];exact hm
theorem qjm.chg{g1 g2 g cap:Nat}{W W':World}{qs:List Rat}{c1 c2:Array Value}{t1 t2:TypeId}(h:qjm W g cap qs)(hc:Chg g1 g2 W W')(h1:g≠g1)(h2:g≠g2)(b1:qef W g1 c1 t1)(b2:qef W g2 c2 t2)(n1:∀c ∈ c1.toList,∀k z,c ≠ .int k z)(n2:∀c ∈ c2.toList,∀k z,c ≠ .int k z):qjm W' g cap qs:=by
 have bI:=h.lt;obtain⟨e1,cur,hg,e2,e3,e4⟩:=h;refine⟨e1,cur,(hc.2 g bI h1 h2).trans hg,e2,e3,fun j q hq => ?_⟩;obtain⟨b,p1,k1,c1,p2,k2,c2,a1,a2,a3,hv⟩:=e4 j q hq;exact⟨b,p1,k1,c1,p2,k2,c2,a1,a2,a3,hv.chg hc b1 b2 n1 n2⟩
theorem Chg.cell{g1 g2 b o:Nat}{W W':World}{v:Value}(hc:Chg g1 g2 W W')(h:W.cell? ⟨b,o,none⟩=some v)(h1:b≠g1)(h2:b≠g2):W'.cell? ⟨b,o,none⟩=some v:=by
 rw[World.cell?_of_block (a:=⟨b,o,none⟩) (hc.2 b (zaq W _ h) h1 h2)];exact h
def qo6(gb gs:Nat)(b0:BA)(l:List (BA × BA))(w:World)(e:Ending)(w':World):Prop:=
 (if qac (qba b0 l)=0 then(∃g,w.heap.size≤g∧e = .returned (.tuple #[.slice (some ⟨g,0,none⟩) l.length l.length,.int .i64 0])∧qjm w' g l.length (l.map fun s=>qav s.2.data.toList))∧∃m:NV,qef w' gs #[.bool m.b,.slice m.p m.k m.c,.slice m.q m.j m.d] 74∧qaj w' (.agg #[.bool m.b,.slice m.p m.k m.c,.slice m.q m.j m.d]) (qns l)
  else e = .returned (.tuple #[.slice none 0 0,.int .i64 (qac (qba b0 l))]))∧Chg gb gs w w'
theorem qyy{gb gs:Nat}{b0:BA}{l:List (BA × BA)}{w w':World}{k:Nat}(h:qac (qba b0 l)=k)(hk:k≠0)(hc:Chg gb gs w w'):qo6 gb gs b0 l w (.returned (.tuple #[.slice none 0 0,.int .i64 (k:Int)])) w':=by
 unfold qo6;rw[h,if_neg hk];exact⟨rfl,hc⟩
theorem qvt{gb gs:Nat}{b0:BA}{l:List (BA × BA)}{w w':World}{m:NV}(h:qac (qba b0 l)=0)(hn:qjm w' w.heap.size l.length (l.map fun s=>qav s.2.data.toList))(hm:qef w' gs #[.bool m.b,.slice m.p m.k m.c,.slice m.q m.j m.d] 74∧qaj w' (.agg #[.bool m.b,.slice m.p m.k m.c,.slice m.q m.j m.d]) (qns l))(hc:Chg gb gs w w'):
  qo6 gb gs b0 l w (.returned (.tuple #[.slice (some ⟨w.heap.size,0,none⟩) l.length l.length,.int .i64 0])) w':=by
 unfold qo6;rw[if_pos h];exact⟨⟨⟨w.heap.size,zap _,rfl,hn⟩,m,hm⟩,hc⟩
theorem q2c{W:World}{g g':Nat}{cs cur:Array Value}{t:TypeId}(hr:∀kk,kk≠g'→(W.setRow g' cur).heap[kk]? = W.heap[kk]?)(h:qef W g cs t)(hne:g≠g'):qef (W.setRow g' cur) g cs t:=(hr g hne).trans h
theorem q70{g1 g2 g:Nat}{w W:World}{cur:Array Value}(h:Chg g1 g2 w W)(hb:Below w.heap.size W (W.setRow g cur))(hr:∀kk,kk≠g→(W.setRow g cur).heap[kk]? = W.heap[kk]?)(hg:w.heap.size≤g)(hm:min g1 g2≤w.heap.size:=by omega):Chg g1 g2 w (W.setRow g cur):=
 ⟨h.1.trans (hb.mono hm),fun i h0 h1 h2=>(hr i (by omega)).trans (h.2 i h0 h1 h2)⟩
theorem zae{W:World}{g cap:Nat}{qs:List Rat}{cur:Array Value}(h:qjm W g cap qs)(hg:W.heap[g]? = some (.cells cur 74 (0,0))):∀c ∈ cur.toList,∀k z,c ≠ .int k z:=by
 obtain⟨_,cur',hg',_,h3,_⟩:=h;rw[hg] at hg';cases hg'
 exact h3
theorem qyz(gb gs:Nat)(b0:BA)(m0:NV)(l:List (BA × BA))(b o c:Nat)(w:World)(hg:GW w)(aB:qe4 w b o l)(hl:l.length≤64)(hs:∀s ∈ l,s.2.size≤1073741824)
  (bb:qef w gb #[.string b0] 9) (bs:qef w gs #[.bool m0.b,.slice m0.p m0.k m0.c,.slice m0.q m0.j m0.d] 74) (hne:gb≠gs) (hm:qaj w (.agg #[.bool m0.b,.slice m0.p m0.k m0.c,.slice m0.q m0.j m0.d]) 0) (bB:b≠gb) (aT:b≠gs):
  Calls Tryz.prog 158 #[.slice (some ⟨b,o,none⟩) l.length c,.func (.func 159) #[] #[.pointer (some ⟨gb,0,none⟩),.pointer (some ⟨gs,0,none⟩)]] w (qo6 gb gs b0 l w):=by
 have HG:=hid hg;have bN:=hid aB;have HS:=hid hs;have lS:=qor l.length (by omega);obtain⟨i0,hi,cT,dT,dU⟩:=info_parts (show(Tryz.prog.info? 74).map (fun i=>(i.zero,i.size,i.bytes))=some (some (.agg #[.bool false,.slice none 0 0,.slice none 0 0]),3,56) by kernel_rfl);have HI:=hid hi;have bV:Below w.heap.size w (w.alloc (.cells (madeCells #[.bool false,.slice none 0 0,.slice none 0 0] (l.length*3)) 74)):=zam _ _;have yB:=bb.lt;have Dq:=bs.lt;have gE:=hid (qme w l.length);have BBW:=hid bb;have BSW:=hid bs;have BB0:=hid (bb.later bV);have BS0:=hid (bs.later bV);have zJ:=hid (hm.later bV);have lL:=hid (Chg.below (Chg.refl gb gs w) (by omega) bV);clear aB hs hi cT dU bb bs hm bV hg;go_enter Tryz.func158,Tryz.ntmps158;go_wp2_with fail;clear lS;generalize w.alloc (.cells (madeCells #[.bool false,.slice none 0 0,.slice none 0 0] (l.length*3)) 74)=w0 at *
 go_loopw [6,16] (fun r i wr=>∃k:Nat,k≤l.length∧i = .int .i64 k∧r = .slice (some ⟨w.heap.size,0,none⟩) k l.length∧Hid (qjm wr w.heap.size l.length ((l.take k).map fun s=>qav s.2.data.toList))∧Hid (qac (qba b0 (l.take k))=0)∧Hid (Chg gb gs w wr)∧Hid (qef wr gb #[.string (qpw b0 (l.take k))] 9)∧∃m:NV,Hid (qef wr gs #[.bool m.b,.slice m.p m.k m.c,.slice m.q m.j m.d] 74∧qaj wr (.agg #[.bool m.b,.slice m.p m.k m.c,.slice m.q m.j m.d]) (qns (l.take k)))) (fun _ i _=>l.length-(intOf i).toNat)
 case atStart=>exact⟨0,Nat.zero_le _,rfl,rfl,gE,hid rfl,lL,BB0,m0,hid ⟨BS0.out,zJ.out⟩⟩
 case round=>
  obtain⟨k,hk,rfl,rfl,HN,HE,HC,BB,m,HM⟩:=hrel;clear gE lL BB0 BS0 zJ;by_cases cV:k<l.length
  ·obtain⟨s,eL⟩:∃s,l[k]? = some s:=⟨l[k],zau cV⟩
   obtain⟨e0,e1⟩:=bN.out k s eL;have fC:wr.cell? ⟨b,o+k*2,none⟩=some (.string s.1):=HC.out.cell e0 bB aT;have bP:wr.cell? ⟨b,o+k*2+1,none⟩=some (.string s.2):=HC.out.cell e1 bB aT;have aD:Below wr.heap.size wr (wr.alloc (.cells #[.string s.1,.string s.2] 62)):=zam _ _;have iU:=HS.out s (zax eL);have dM:=HC.out.1.size;have iG:Hid (l.take (k+1)=l.take k++[s]):=hid (qcm eL);have Tz:=hid ((HG.out.chg HC.out BBW.out BSW.out (qtr _) (qw7 _)).later aD);have BB1:=hid (BB.out.later aD);have BS1:=hid (HM.out.1.later aD);have hJ:=hid (HM.out.2.later aD);have cX:=hid (HN.out.later aD);have gG:=hid (HC.out.below (by omega) aD);have aP:=(q2b b0 _ HE.out).rs;have tR:(l.take k).length≤k:=List.length_take_le _ _;have fX:=hid (qts gb gs (qpw b0 (l.take k)) m (qns (l.take k)) s _ Tz.out iU BB1.out BS1.out hne hJ.out (by unfold Cap;omega));obtain⟨x0,x1⟩:=qag (qbg wr 62 (.string s.1) (.string s.2));have Ua:Hid (w.heap.size≠gb∧w.heap.size≠gs):=hid ⟨by omega,by omega⟩;have lA:=hid (qfo (l.take k) [s] b0);have Nl:=hid (qyx b0 (l.take k) s);have HQN:=hid (qtt (l.take k) s);have yZ:Hid (∃d,l=l.take (k+1)++d):=hid ⟨l.drop (k+1),(List.take_append_drop _ _).symm⟩;clear e0 e1 aD iU aP tR eL BB HM HN HC;generalize qpw b0 (l.take k)=bef at *;generalize qns (l.take k)=sq at *;by_cases hc:qay bef s=0
   ·have jR:Hid (qac (qba b0 (l.take (k+1)))=0):=hid (by
     rw[iG.out,lA.out,qfy _ _ HE.out];show(if qay bef s=0 then qac [] else qay bef s)=0
     rw[if_pos hc];rfl)
    have Ci:=hid (fX.out.mono (R':=fun e w'=>(∃z m:NV,e = .returned (.tuple #[.agg #[.bool z.b,.slice z.p z.k z.c,.slice z.q z.j z.d],.int .i64 0])∧qaj w' (.agg #[.bool z.b,.slice z.p z.k z.c,.slice z.q z.j z.d]) (qav s.2.data.toList)∧qef w' gs #[.bool m.b,.slice m.p m.k m.c,.slice m.q m.j m.d] 74∧qaj w' (.agg #[.bool m.b,.slice m.p m.k m.c,.slice m.q m.j m.d]) (sq+qav s.2.data.toList))∧qef w' gb #[.string s.1] 9∧Chg gb gs (wr.alloc (.cells #[.string s.1,.string s.2] 62)) w') (fun e w' h=>by
     unfold qvs at h;rw[if_pos hc] at h
     exact h))
    have jQ:((l.take k).map fun s=>qav s.2.data.toList)++[qav s.2.data.toList]=(l.take (k+1)).map fun s=>qav s.2.data.toList:=by
     rw[iG.out,List.map_append];rfl
    have yT:=hid jQ;have jB:((l.take k).map fun s=>qav s.2.data.toList).length=k:=by rw[List.length_map,List.length_take];omega
    clear fX HE hc jQ;generalize qav s.2.data.toList=q at *;generalize ((l.take k).map fun s=>qav s.2.data.toList)=qs at *;go_wp2_with fail;refine Ci.out.mono ?_;rintro e w1 ⟨⟨z,m',rfl,hz,kJ,hm'⟩,hbb,nS⟩;have fM:=cX.out.chg nS Ua.out.1 Ua.out.2 BB1.out BS1.out (qtr _) (qw7 _);have eU:=gG.out.trans nS;have aD:Below w1.heap.size w1 (w1.alloc (.cells #[.bool z.b,.slice z.p z.k z.c,.slice z.q z.j z.d] 74)):=zam _ _;have bT:Below (w1.alloc (.cells #[.bool z.b,.slice z.p z.k z.c,.slice z.q z.j z.d] 74)).heap.size (w1.alloc (.cells #[.bool z.b,.slice z.p z.k z.c,.slice z.q z.j z.d] 74)) ((w1.alloc (.cells #[.bool z.b,.slice z.p z.k z.c,.slice z.q z.j z.d] 74)).alloc (.cells #[.bool z.b,.slice z.p z.k z.c,.slice z.q z.j z.d] 74)):=zam _ _;have sX:=aD.trans (bT.mono (by simp));obtain⟨y0,y1,y2⟩:=(qgg w1 z).cells.1;obtain⟨cur,eJ,bZ,cK,bM⟩:=(fM.later sX).push (by rw[jB];exact cV) (hz.later sX);have jI:=heap_alloc_new (w1.alloc (.cells #[.bool z.b,.slice z.p z.k z.c,.slice z.q z.j z.d] 74)) (.cells #[.bool z.b,.slice z.p z.k z.c,.slice z.q z.j z.d] 74);rw[zao] at jI;have hrowg:=fM.lt;have Ub:min gb gs≤w1.heap.size:=by have:=eU.1.size;omega
    have xQ:=eU.below Ub sX;rw[jB] at bZ cK bM;simp only[List.append_assoc,List.cons_append,List.nil_append] at cK bM;have xR:∀kk,kk≠w.heap.size→(((w1.alloc (.cells #[.bool z.b,.slice z.p z.k z.c,.slice z.q z.j z.d] 74)).alloc (.cells #[.bool z.b,.slice z.p z.k z.c,.slice z.q z.j z.d] 74)).setRow w.heap.size (List.take (k*3) cur.toList ++ .bool z.b :: .slice z.p z.k z.c :: .slice z.q z.j z.d::List.drop (k*3+3) cur.toList).toArray).heap[kk]? = ((w1.alloc (.cells #[.bool z.b,.slice z.p z.k z.c,.slice z.q z.j z.d] 74)).alloc (.cells #[.bool z.b,.slice z.p z.k z.c,.slice z.q z.j z.d] 74)).heap[kk]? := fun kk hkk=>setRow_other _ _ _ _ hkk;have BB4:=hid (q2c xR (hbb.later sX) (by omega));have BS4:=hid (q2c xR (kJ.later sX) (by omega));have HM4:=hid ((hm'.later sX).setRow eJ (zae (fM.later sX) eJ) (List.take (k*3) cur.toList ++ .bool z.b :: .slice z.p z.k z.c :: .slice z.q z.j z.d::List.drop (k*3+3) cur.toList).toArray);have Ds:=hid (q70 xQ (bM w.heap.size (zap _)) xR (by omega));have cH:=hid cK;have lB:=hid eJ;have kU:=hid jI;have dQ:=hid bZ;clear aD bT sX eJ bZ cK bM jI jB hz kJ hm' hbb nS fM eU xQ xR x0 x1 fC bP Ci;go_wp2_with (at_builtin;refine qbi _ rfl _ _ 112 rfl 74 i0 3 Tryz.underlying112 HI.out dT w.heap.size k l.length cur rfl lB.out ⟨w1.heap.size+1,0,none⟩ 1 1 [.bool z.b,.slice z.p z.k z.c,.slice z.q z.j z.d] rfl rfl (World.news_of_block kU.out) ?mT (by omega) dQ.out ?_)
    case mT=>
     intro u hu;simp only[List.mem_cons,List.not_mem_nil,or_false] at hu;rcases hu with rfl|rfl|rfl<;>rfl
    clear y0 y1 y2;go_wp2_with fail;go_roundw
    case rel=>exact⟨k+1,cV,by go_num,rfl,hid (by rw[←yT.out];exact cH.out),jR,Ds,hid (by rw[iG.out,Nl.out];exact BB4.out),m',hid ⟨BS4.out,by rw[iG.out,HQN.out];exact HM4.out⟩⟩
    case measure=>simp[intOf];omega
   ·have Ci:=hid (fX.out.mono (R':=fun e w'=>e = .returned (.tuple #[.agg #[.bool false,.slice none 0 0,.slice none 0 0],.int .i64 (qay bef s:Nat)])∧Chg gb gs (wr.alloc (.cells #[.string s.1,.string s.2] 62)) w') (fun e w' h=>by
     unfold qvs at h;rw[if_neg hc] at h
     exact⟨h.1,h.2.2⟩))
    have HF:Hid (qac (qba b0 l)=qay bef s):=hid (by
     obtain⟨d,hd⟩:=yZ.out;rw[hd,iG.out,qfo,lA.out,List.append_assoc,qfy _ _ HE.out];show(if qay bef s=0 then _ else qay bef s)=_
     rw[if_neg hc])
    clear fX HE;generalize qay bef s=ck at *;have oF:((ck:Int)==0)=false:=zat (by omega);have gN:=hid hc;clear hc;go_wp2_with fail;refine Ci.out.mono ?_;rintro e w1 ⟨rfl,nS⟩;have eU:=gG.out.trans nS;have xQ:=hid (eU.below (by have:=eU.1.size;omega) ((zan w1.heap.size w1).alloc (zap _) (.cells #[.bool false,.slice none 0 0,.slice none 0 0] 74)));clear nS eU x0 x1 fC bP Ci;go_wp2_with fail;go_ret2;exact qyy HF.out gN.out xQ.out
  ·obtain rfl:k=l.length:=by omega
   have hE:=HE.out;have hN:=HN.out;have hM:=HM.out;rw[List.take_length] at hE hN hM;have HE':=hid hE;have HN':=hid hN;have HM':=hid hM;clear hE hN hM HE HN HM;go_wp2_with fail;go_ret2;exact qvt HE'.out HN'.out HM'.out HC.out
def qcx(l:List (BA × BA)):Nat:=
 if l.length=0 then 2 else if 64<l.length then 5 else if qac (qba ⟨#[]⟩ l)≠0 then qac (qba ⟨#[]⟩ l) else if qns l=1 then 0 else 12
def qjv(s:BA × BA):Rat:=qav s.2.data.toList
def qc9(l:List (BA × BA))(w:World)(e:Ending)(w':World):Prop:=
 (if qcx l=0 then ∃g,w.heap.size≤g∧e = .returned (.tuple #[.slice (some ⟨g,0,none⟩) l.length l.length,.int .i64 0])∧qjm w' g l.length (l.map qjv)
  else e = .returned (.tuple #[.slice none 0 0,.int .i64 (qcx l:Nat)]))∧Below w.heap.size w w'
theorem qgu{l:List (BA × BA)}{w w':World}(k:Nat){z:Int}(h:qcx l=k)(hk:k≠0)(hz:z=k)(hb:Below w.heap.size w w'):qc9 l w (.returned (.tuple #[.slice none 0 0,.int .i64 z])) w':=by
 unfold qc9;rw[h,if_neg hk,hz];exact⟨rfl,hb⟩
theorem q71{a b:Rat}:qcq a b=0↔a=b:=by
 rcases qp9 a b with⟨h1,h2⟩|⟨h1,h2⟩|⟨h1,h2⟩
 ·constructor
  ·intro h;omega
  ·rintro rfl;exact absurd h2 Rat.lt_irrefl
 ·exact⟨fun _=>h2,fun _=>h1⟩
 ·constructor
  ·intro h;omega
  ·rintro rfl;exact absurd h2 Rat.lt_irrefl
theorem qpx(v:Value)(l:List (BA × BA))(w:World)(hg:GW w)(hv:qbq w v l)(hs:∀s ∈ l,s.2.size≤1073741824):
  Calls Tryz.prog 103 #[v] w (qc9 l w):=by
 obtain⟨p,c,rfl,bP,bK,aA⟩:=hv;unfold maxLen at bK;by_cases h0:l.length=0
 ·have HF:Hid (qc9 l w (.returned (.tuple #[.slice none 0 0,.int .i64 2])) w):=hid (qgu 2 (by unfold qcx;rw[if_pos h0]) (by omega) rfl (zan _ _))
  have hb:((l.length:Int)==0)=true:=by rw[h0];rfl
  clear aA hs hg;go_enter Tryz.func103,Tryz.ntmps103;go_wp2_with fail;go_ret2;exact HF.out
 have hb:((l.length:Int)==0)=false:=zat (by omega);by_cases h1:64<l.length
 ·have HF:Hid (qc9 l w (.returned (.tuple #[.slice none 0 0,.int .i64 5])) w):=hid (qgu 5 (by unfold qcx;rw[if_neg h0,if_pos h1]) (by omega) rfl (zan _ _))
  clear aA hs hg;go_enter Tryz.func103,Tryz.ntmps103;go_wp2_with fail;go_ret2;exact HF.out
 obtain⟨b,o,rfl,aB⟩:=aA.resolve_left h0;have gB:Below w.heap.size w (w.alloc (.cells #[.string ⟨#[]⟩] 9)):=zam _ _;have aD:Below w.heap.size w ((w.alloc (.cells #[.string ⟨#[]⟩] 9)).alloc (.cells #[.bool false,.slice none 0 0,.slice none 0 0] 74)):=gB.alloc (by simp) _;have hblt:b<w.heap.size:=zaq w _ (aB 0 (l[0]) (zau (by omega))).1;have b1:=qrs w #[.string ⟨#[]⟩] 9;have b2:=qrs (w.alloc (.cells #[.string ⟨#[]⟩] 9)) #[.bool false,.slice none 0 0,.slice none 0 0] 74;rw[zao] at b2;have HE:=hid (qyz w.heap.size (w.heap.size+1) ⟨#[]⟩ ⟨false,none,0,0,none,0,0⟩ l b o c ((w.alloc (.cells #[.string ⟨#[]⟩] 9)).alloc (.cells #[.bool false,.slice none 0 0,.slice none 0 0] 74)) (hg.later aD) (aB.later aD) (by omega) hs (b1.later (zam _ _)) b2 (by omega) (qmm _) (by omega) (by omega));have eI:=hid aD;have Fl:min w.heap.size (w.heap.size+1)=w.heap.size:=Nat.min_eq_left (by omega);have tW:Hid (∀w',Chg w.heap.size (w.heap.size+1) ((w.alloc (.cells #[.string ⟨#[]⟩] 9)).alloc (.cells #[.bool false,.slice none 0 0,.slice none 0 0] 74)) w'→Below w.heap.size w w'):=hid fun w' h=>eI.out.trans (by have:=h.1;rwa [Fl] at this);clear aB hs hg aA aD gB b1 b2 hblt Fl;by_cases he:qac (qba ⟨#[]⟩ l)=0
 ·have jR:=hid (HE.out.mono (R':=fun e w'=>((∃g,w.heap.size≤g∧e = .returned (.tuple #[.slice (some ⟨g,0,none⟩) l.length l.length,.int .i64 0])∧qjm w' g l.length (l.map qjv))∧∃m:NV,qef w' (w.heap.size+1) #[.bool m.b,.slice m.p m.k m.c,.slice m.q m.j m.d] 74∧qaj w' (.agg #[.bool m.b,.slice m.p m.k m.c,.slice m.q m.j m.d]) (qns l))∧Below w.heap.size w w') (fun e w' h=>by
   unfold qo6 at h;rw[if_pos he] at h;obtain⟨⟨⟨g,h1,h2,h3⟩,hm⟩,hc⟩:=h
   exact⟨⟨⟨g,by simp at h1;omega,h2,h3⟩,hm⟩,tW.out _ hc⟩))
  have bq:=(q2b ⟨#[]⟩ l he).rs;have b1:rs (1:Rat)≤2:=(qes 1 (by omega) (by omega)).rs;have HCQ:Hid (∀W vs vw,qaj W vs (qns l)→qaj W vw ((1:Int):Rat)→Calls Tryz.prog 33 #[vs,vw] W fun e w'=>e = .returned (.int .i64 (qcq (qns l) 1))∧Below W.heap.size W w'):=hid fun W vs vw h1 h2=>qb5 vs vw _ _ W h1 h2 (by unfold Cap;omega)
  have mM:Hid (∀w' g,qns l=1→w.heap.size≤g→qjm w' g l.length (l.map qjv)→Below w.heap.size w w'→qc9 l w (.returned (.tuple #[.slice (some ⟨g,0,none⟩) l.length l.length,.int .i64 0])) w'):=hid fun w' g hq hg hn hb=>by
   have hz:qcx l=0:=by unfold qcx;rw[if_neg h0,if_neg h1,if_neg (by omega),if_pos hq]
   unfold qc9;rw[if_pos hz];exact⟨⟨g,hg,rfl,hn⟩,hb⟩
  have nE:Hid (∀w',qns l≠1→Below w.heap.size w w'→qc9 l w (.returned (.tuple #[.slice none 0 0,.int .i64 12])) w'):=hid fun w' hq hb=>qgu 12 (by unfold qcx;rw[if_neg h0,if_neg h1,if_neg (by omega),if_neg hq]) (by omega) rfl hb;have yS:=hid (fun W=>qeq 1 W (by omega) (by omega));have hcz:=@q71 (qns l) 1;have HCZ:=hid hcz;clear HE he bq b1 hcz;by_cases hq:qcq (qns l) 1=0
  ·have HQ:=hid (HCZ.out.1 hq)
   have dL:(qcq (qns l) 1==0)=true:=beq_iff_eq.2 hq;clear hq HCZ nE;generalize qcq (qns l) 1=cr at *;generalize qns l=sq at *;generalize l.map qjv=qs at *;go_enter Tryz.func103,Tryz.ntmps103;go_wp2_with fail;refine jR.out.mono ?_;rintro e w2 ⟨⟨⟨g,hgg,rfl,hn⟩,m,hm,hv⟩,mR⟩;obtain⟨⟨m0,m1,m2⟩,_⟩:=hm.one.cells;have c0:=hm.one.cells.1;have fE:=hid hm;have fM:=hid hn;have cO:=hid hv;have aR:=hid mR;clear hm hn hv mR jR;go_wp2_with fail
   go_region_held3 (fun W=>W.cell? ⟨w.heap.size+1,0,none⟩=some (.bool m.b)∧W.cell? ⟨w.heap.size+1,1,none⟩=some (.slice m.p m.k m.c)∧W.cell? ⟨w.heap.size+1,2,none⟩=some (.slice m.q m.j m.d)) (first|with_reducible exact c1|with_reducible exact c2|exact c0)
    (first
     | (go_at_call 35;refine(yS.out _).mono ?_;rintro e wA ⟨⟨v1,rfl,hn⟩,hb⟩;have mN:=hid hn;have bQ:Hid (Below w2.heap.size w2 wA):=hid ((zan _ _).drew.trans hb);have c1:=((fE.out.later bQ.out).one.cells).1;clear hn hb)
     | (go_at_call 33;refine(HCQ.out _ _ _ (cO.out.later bQ.out) mN.out).mono ?_;rintro e wB ⟨rfl,hb⟩;have aX:=hid (bQ.out.trans (hb.mono bQ.out.size));have c2:=((fE.out.later aX.out).one.cells).1;clear hb))
   all_goals
    have fT:=hid (aR.out.trans (aX.out.mono aR.out.size));have Cj:=hid (fM.out.later aX.out);go_wp2_with fail;go_ret2;exact mM.out _ _ HQ.out hgg Cj.out fT.out
  ·have HQ:Hid (qns l≠1):=hid (fun h=>hq (HCZ.out.2 h))
   have dL:(qcq (qns l) 1==0)=false:=zat hq;clear hq HCZ mM;generalize qcq (qns l) 1=cr at *;generalize qns l=sq at *;generalize l.map qjv=qs at *;go_enter Tryz.func103,Tryz.ntmps103;go_wp2_with fail;refine jR.out.mono ?_;rintro e w2 ⟨⟨⟨g,hgg,rfl,hn⟩,m,hm,hv⟩,mR⟩;obtain⟨⟨m0,m1,m2⟩,_⟩:=hm.one.cells;have c0:=hm.one.cells.1;have fE:=hid hm;have cO:=hid hv;have aR:=hid mR;clear hm hn hv mR jR;go_wp2_with fail
   go_region_held3 (fun W=>W.cell? ⟨w.heap.size+1,0,none⟩=some (.bool m.b)∧W.cell? ⟨w.heap.size+1,1,none⟩=some (.slice m.p m.k m.c)∧W.cell? ⟨w.heap.size+1,2,none⟩=some (.slice m.q m.j m.d)) (first|with_reducible exact c1|with_reducible exact c2|exact c0)
    (first
     | (go_at_call 35;refine(yS.out _).mono ?_;rintro e wA ⟨⟨v1,rfl,hn⟩,hb⟩;have mN:=hid hn;have bQ:Hid (Below w2.heap.size w2 wA):=hid ((zan _ _).drew.trans hb);have c1:=((fE.out.later bQ.out).one.cells).1;clear hn hb)
     | (go_at_call 33;refine(HCQ.out _ _ _ (cO.out.later bQ.out) mN.out).mono ?_;rintro e wB ⟨rfl,hb⟩;have aX:=hid (bQ.out.trans (hb.mono bQ.out.size));have c2:=((fE.out.later aX.out).one.cells).1;clear hb))
   all_goals
    have fT:=hid (aR.out.trans (aX.out.mono aR.out.size));go_wp2_with fail;go_ret2;exact nE.out _ HQ.out fT.out
 ·have jR:=hid (HE.out.mono (R':=fun e w'=>e = .returned (.tuple #[.slice none 0 0,.int .i64 (qac (qba ⟨#[]⟩ l):Nat)])∧Below w.heap.size w w') (fun e w' h=>by
   unfold qo6 at h;rw[if_neg he] at h
   exact⟨h.1,tW.out _ h.2⟩))
  have HG:Hid (∀w',Below w.heap.size w w'→qc9 l w (.returned (.tuple #[.slice none 0 0,.int .i64 (qac (qba ⟨#[]⟩ l):Nat)])) w'):=hid fun w' hb=>qgu _ (by unfold qcx;rw[if_neg h0,if_neg h1,if_pos he]) he rfl hb;have dL:((qac (qba ⟨#[]⟩ l):Int)==0)=false:=zat (by omega);clear HE he;generalize qac (qba ⟨#[]⟩ l)=ck at *;go_enter Tryz.func103,Tryz.ntmps103;go_wp2_with fail;refine jR.out.mono ?_;rintro e w2 ⟨rfl,mR⟩;have aR:=hid mR;clear mR jR;go_wp2_with fail;go_ret2;exact HG.out _ aR.out
end Go.Proofs.YtclimablgihlhaaGreatDoor
