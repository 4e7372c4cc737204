/- readShare. -/
import Derived.Test.YtlkdlffhmakbgaaGreatDoorMMinMax
import Derived.WalkLawsBesides
import Derived.OneCell
import Derived.Test.YtlkdlffhmakbgaaGreatDoorMRules
import Derived.MapKept
import Derived.Maps.Own
import Derived.Sort.KeysCollected
import Derived.Test.YtlkdlffhmakbgaaGreatDoorMNv
set_option linter.all false
namespace Go.Proofs.YtlkdlffhmakbgaaGreatDoor
open Go.RowKit
set_option maxRecDepth 100000
set_option maxHeartbeats 8000000
def qrt(a b:BA):Bool:=Op.bytesLess a.toList b.toList||a.toList==b.toList
def qao(before:BA)(s:BA × BA):Nat:=
 if qdl s.1.data.toList=false then 8 else if qrt s.1 before=true then 11 else if qah s.2.data.toList≠0 then qah s.2.data.toList else if(qbc s.2.data.toList).num≤0 then 12 else 0
def qgh(before:BA)(s:BA × BA)(w:World)(e:Ending)(w':World):Prop:=
 (if qao before s=0 then ∃z:NV,e = .returned (.tuple #[.agg #[.bool z.b,.slice z.p z.k z.c,.slice z.q z.j z.d],.int .i64 0])∧qau w' (.agg #[.bool z.b,.slice z.p z.k z.c,.slice z.q z.j z.d]) (qbc s.2.data.toList)
  else e = .returned (.tuple #[.agg #[.bool false,.slice none 0 0,.slice none 0 0],.int .i64 (qao before s:Nat)]))∧Below w.heap.size w w'
theorem qh7{before:BA}{s:BA × BA}{w w':World}(k:Nat){z:Int}(h:qao before s=k)(hk:k≠0)(hz:z=k)(hb:Below w.heap.size w w'):qgh before s w (.returned (.tuple #[.agg #[.bool false,.slice none 0 0,.slice none 0 0],.int .i64 z])) w':=by
 unfold qgh;rw[h,if_neg hk,hz];exact⟨rfl,hb⟩
def qsl(w:World)(s:BA × BA)(W:World):Prop:=
 Below w.heap.size w W∧Own W w.heap.size 2 (qu8 (.string s.1) (.string s.2))∧One W (w.heap.size+1) ⟨false,none,0,0,none,0,0⟩
theorem qsl.later{w W W':World}{s:BA × BA}(h:qsl w s W)(hb:Below W.heap.size W W'):qsl w s W':=
 ⟨h.1.trans (hb.mono h.1.size),h.2.1.later (hb.mono h.2.1.1),h.2.2.later (hb.mono h.2.2.1)⟩
theorem qxh(w:World)(s:BA × BA)(t:TypeId):qsl w s ((w.alloc (.cells #[.string s.1,.string s.2] t)).alloc (.cells #[.bool false,.slice none 0 0,.slice none 0 0] 87)):=by
 have h1:Below w.heap.size w (w.alloc (.cells #[.string s.1,.string s.2] t)):=qad _ _;have p1:=qd3 w t (.string s.1) (.string s.2);have p2:=qqk (w.alloc (.cells #[.string s.1,.string s.2] t)) false (.slice none 0 0) (.slice none 0 0);rw[qab] at p2;exact⟨h1.alloc (by rw[qab];omega) _,p1.later ((qaa _ _).alloc (by rw[qab];omega) _),p2⟩
theorem qsl.cells{w W:World}{s:BA × BA}(h:qsl w s W):(W.cell? ⟨w.heap.size,0,none⟩=some (.string s.1)∧W.cell? ⟨w.heap.size,1,none⟩=some (.string s.2))∧
  (W.cell? ⟨w.heap.size+1,0,none⟩=some (.bool false)∧W.cell? ⟨w.heap.size+1,1,none⟩=some (.slice none 0 0)∧W.cell? ⟨w.heap.size+1,2,none⟩=some (.slice none 0 0))∧
  W.frozen? ⟨w.heap.size+1,0,none⟩=false∧W.frozen? ⟨w.heap.size+1,1,none⟩=false∧W.frozen? ⟨w.heap.size+1,2,none⟩=false:=
 ⟨qaq h.2.1,h.2.2.cells.1,h.2.2.cells.2⟩
theorem qxi{q:Rat}:sgn q≤0↔q.num≤0:=by
 unfold sgn;split
 ·constructor<;>intro<;>omega
 ·split<;>constructor<;>intro<;>omega
theorem qru{w W:World}{s:BA × BA}(h:qsl w s W):Below w.heap.size w (((W.setCell ⟨w.heap.size+1,0,none⟩ (.bool false)).setCell ⟨w.heap.size+1,1,none⟩ (.slice none 0 0)).setCell ⟨w.heap.size+1,2,none⟩ (.slice none 0 0)):=
 ((h.1.setCell (p:=⟨w.heap.size+1,0,none⟩) (by show w.heap.size≤w.heap.size+1;omega) _).setCell (p:=⟨w.heap.size+1,1,none⟩) (by show w.heap.size≤w.heap.size+1;omega) _).setCell (p:=⟨w.heap.size+1,2,none⟩) (by show w.heap.size≤w.heap.size+1;omega) _
theorem qrv(before:BA)(s:BA × BA)(w:World)(hg:GW w)(hs:s.2.size≤1073741824):
  Calls Tryz.prog 66 #[.agg #[.string s.1,.string s.2],.string before] w (qgh before s w):=by
 have aM:=hid (qxh w s 58);obtain⟨⟨s0,s1⟩,⟨r0,r1,r2⟩,g0,g1,g2⟩:=aM.out.cells;have dR:Hid (Calls Tryz.prog 23 #[.string s.1] ((w.alloc (.cells #[.string s.1,.string s.2] 58)).alloc (.cells #[.bool false,.slice none 0 0,.slice none 0 0] 87)) fun e w'=>e = .returned (.bool (qdl s.1.data.toList))∧qsl w s w'):=hid ((qjs s.1 _).mono fun e w' ⟨h1,h2⟩=>⟨h1,aM.out.later h2⟩);by_cases hn:qdl s.1.data.toList=false
 ·have aF:Hid (∀w',Below w.heap.size w w'→qgh before s w (.returned (.tuple #[.agg #[.bool false,.slice none 0 0,.slice none 0 0],.int .i64 8])) w'):=hid fun w' hb=>qh7 8 (by unfold qao;rw[if_pos hn]) (by omega) rfl hb
  rw[hn] at dR;clear hg hs hn;go_enter Tryz.func66,Tryz.ntmps66;go_wp2_with fail;clear r0 r1 r2 g0 g1 g2 s0 s1;refine dR.out.mono ?_;rintro e w1 ⟨rfl,ht⟩;obtain⟨⟨s0,s1⟩,⟨r0,r1,r2⟩,g0,g1,g2⟩:=qsl.cells ht;have HB:=hid (qru ht);clear ht;go_wp2_with fail;refine bodyPost_ret (v := .tuple #[.agg #[.bool false,.slice none 0 0,.slice none 0 0],.int .i64 8]) ?_ rfl ?_
  ·simp[results,Tryz.results66,go_sem,r0,r1,r2]
  ·exact aF.out _ HB.out
 ·have hn':qdl s.1.data.toList=true:=by simpa using hn
  rw[hn'] at dR;by_cases dY:qrt s.1 before=true
  ·have aF:Hid (∀w',Below w.heap.size w w'→qgh before s w (.returned (.tuple #[.agg #[.bool false,.slice none 0 0,.slice none 0 0],.int .i64 11])) w'):=hid fun w' hb=>qh7 11 (by unfold qao;rw[if_neg hn,if_pos dY]) (by omega) rfl hb
   have hAB:Op.bytesLess s.1.toList before.toList=true∨(Op.bytesLess s.1.toList before.toList=false∧(s.1.toList==before.toList)=true):=by
    unfold qrt at dY;cases h:Op.bytesLess s.1.toList before.toList
    ·right;rw[h] at dY;exact⟨rfl,by simpa using dY⟩
    ·exact .inl rfl
   clear hg hs hn hn' dY;rcases hAB with hA|⟨hA,hB⟩
   all_goals
    go_enter Tryz.func66,Tryz.ntmps66;go_wp2_with fail;clear r0 r1 r2 g0 g1 g2 s0 s1;refine dR.out.mono ?_;rintro e w1 ⟨rfl,ht⟩;obtain⟨⟨s0,s1⟩,⟨r0,r1,r2⟩,g0,g1,g2⟩:=qsl.cells ht;have HB:=hid (qru ht);clear ht;go_wp2_with fail;refine bodyPost_ret (v := .tuple #[.agg #[.bool false,.slice none 0 0,.slice none 0 0],.int .i64 11]) ?_ rfl ?_
    ·simp[results,Tryz.results66,go_sem,r0,r1,r2]
    ·exact aF.out _ HB.out
  ·obtain⟨hA,hB⟩:Op.bytesLess s.1.toList before.toList=false∧(s.1.toList==before.toList)=false:=by
    unfold qrt at dY
    simpa [Bool.or_eq_true] using dY
   by_cases hc:qah s.2.data.toList=0
   ·have cJ:Hid (∀W,qsl w s W→Calls Tryz.prog 45 #[.string s.2] W fun e w'=>(∃z:NV,e = .returned (.tuple #[.agg #[.bool z.b,.slice z.p z.k z.c,.slice z.q z.j z.d],.int .i64 0])∧qau w' (.agg #[.bool z.b,.slice z.p z.k z.c,.slice z.q z.j z.d]) (qbc s.2.data.toList))∧qsl w s w'):=hid fun W hW=>(qms s.2 W (hg.later hW.1) hs hc).mono fun e w' ⟨⟨v,he,hv⟩,hb⟩=>by
     obtain⟨z,rfl⟩:=hv.nv;exact⟨⟨z,he,hv⟩,hW.later hb⟩
    by_cases hp:(qbc s.2.data.toList).num≤0
    ·have aF:Hid (∀w',Below w.heap.size w w'→qgh before s w (.returned (.tuple #[.agg #[.bool false,.slice none 0 0,.slice none 0 0],.int .i64 12])) w'):=hid fun w' hb=>qh7 12 (by unfold qao;rw[if_neg hn,if_neg dY,if_neg (by omega),if_pos hp]) (by omega) rfl hb
     have iJ:sgn (qbc s.2.data.toList)≤0:=qxi.2 hp;clear hg hs hn hn' dY hc hp;have dV:=hid (fun v W=>qdu v (qbc s.2.data.toList) W);generalize sgn (qbc s.2.data.toList)=sg at *;go_enter Tryz.func66,Tryz.ntmps66;go_wp2_with fail;clear r0 r1 r2 g0 g1 g2 s0 s1;refine dR.out.mono ?_;rintro e w1 ⟨rfl,ht⟩;have cV:=hid ht;obtain⟨⟨s0,s1⟩,⟨r0,r1,r2⟩,g0,g1,g2⟩:=qsl.cells ht;clear ht dR;go_wp2_with fail;clear r0 r1 r2 g0 g1 g2 s0 s1;refine(cJ.out _ cV.out).mono ?_;rintro e w2 ⟨⟨z,rfl,hv⟩,ht⟩;have aD:Below w2.heap.size w2 (w2.alloc (.cells #[.bool z.b,.slice z.p z.k z.c,.slice z.q z.j z.d] 87)):=qad _ _;have fZ:=hid (ht.later aD);obtain⟨q0,q1,q2⟩:=(qgg w2 z).cells.1;have cL:=hid (dV.out _ _ (hv.later aD));clear ht hv aD cJ dV;go_wp2_with fail;refine cL.out.mono ?_;rintro e w3 ⟨rfl,hb⟩;have pT:=hid (fZ.out.later hb);obtain⟨⟨s0,s1⟩,⟨r0,r1,r2⟩,g0,g1,g2⟩:=pT.out.cells;have HB:=hid (qru pT.out);clear hb q0 q1 q2 cL;go_wp2_with fail;refine bodyPost_ret (v := .tuple #[.agg #[.bool false,.slice none 0 0,.slice none 0 0],.int .i64 12]) ?_ rfl ?_
     ·simp[results,Tryz.results66,go_sem,r0,r1,r2]
     ·exact aF.out _ HB.out
    ·have aF:Hid (∀w' (z:NV),qau w' (.agg #[.bool z.b,.slice z.p z.k z.c,.slice z.q z.j z.d]) (qbc s.2.data.toList)→Below w.heap.size w w'→qgh before s w (.returned (.tuple #[.agg #[.bool z.b,.slice z.p z.k z.c,.slice z.q z.j z.d],.int .i64 0])) w'):=hid fun w' z hv hb=>by
      have h0:qao before s=0:=by unfold qao;rw[if_neg hn,if_neg dY,if_neg (by omega),if_neg hp]
      unfold qgh;rw[if_pos h0];exact⟨⟨z,rfl,hv⟩,hb⟩
     have iJ:¬sgn (qbc s.2.data.toList)≤0:=fun h=>hp (qxi.1 h);clear hg hs hn hn' dY hc hp;have dV:=hid (fun v W=>qdu v (qbc s.2.data.toList) W);generalize sgn (qbc s.2.data.toList)=sg at *;go_enter Tryz.func66,Tryz.ntmps66;go_wp2_with fail;clear r0 r1 r2 g0 g1 g2 s0 s1;refine dR.out.mono ?_;rintro e w1 ⟨rfl,ht⟩;have cV:=hid ht;obtain⟨⟨s0,s1⟩,⟨r0,r1,r2⟩,g0,g1,g2⟩:=qsl.cells ht;clear ht dR;go_wp2_with fail;clear r0 r1 r2 g0 g1 g2 s0 s1;refine(cJ.out _ cV.out).mono ?_;rintro e w2 ⟨⟨z,rfl,hv⟩,ht⟩;have aD:Below w2.heap.size w2 (w2.alloc (.cells #[.bool z.b,.slice z.p z.k z.c,.slice z.q z.j z.d] 87)):=qad _ _;have fZ:=hid (ht.later aD);have iL:=hid (qgg w2 z);obtain⟨q0,q1,q2⟩:=iL.out.cells.1;have cL:=hid (dV.out _ _ (hv.later aD));have cO:=hid (hv.later aD);clear ht hv aD cJ dV;go_wp2_with fail;clear q0 q1 q2;refine cL.out.mono ?_;rintro e w3 ⟨rfl,hb⟩;have pT:=hid (fZ.out.later hb);have jH:=hid (cO.out.later hb);obtain⟨⟨s0,s1⟩,⟨r0,r1,r2⟩,g0,g1,g2⟩:=pT.out.cells;obtain⟨q0,q1,q2⟩:=(One.cells (iL.out.later (hb.mono iL.out.1))).1;have dX:=pT.out.2.2.put (x:=z);have HNV:=hid (dX.2.1 _ _ jH.out);have HB:=hid (dX.2.2.1 _ _ (by omega) pT.out.1);clear hb cL dX;go_wp2_with fail;refine bodyPost_ret (v := .tuple #[.agg #[.bool z.b,.slice z.p z.k z.c,.slice z.q z.j z.d],.int .i64 0]) ?_ rfl ?_
     ·simp[results,Tryz.results66,go_sem,r0,r1,r2]
     ·exact aF.out _ _ HNV.out HB.out
   ·have cJ:Hid (∀W,qsl w s W→Calls Tryz.prog 45 #[.string s.2] W fun e w'=>e = .returned (.tuple #[.agg #[.bool false,.slice none 0 0,.slice none 0 0],.int .i64 (qah s.2.data.toList:Nat)])∧qsl w s w'):=hid fun W hW=>(qo1 s.2 W (hg.later hW.1) hs hc).mono fun e w' ⟨h1,hb⟩=>⟨h1,hW.later hb⟩
    have aF:Hid (∀w',Below w.heap.size w w'→qgh before s w (.returned (.tuple #[.agg #[.bool false,.slice none 0 0,.slice none 0 0],.int .i64 (qah s.2.data.toList:Nat)])) w'):=hid fun w' hb=>qh7 _ (by unfold qao;rw[if_neg hn,if_neg dY,if_pos hc]) hc rfl hb;have dS:((qah s.2.data.toList:Int)==0)=false:=qam (by omega);clear hg hs hn hn' dY hc;generalize qah s.2.data.toList=ck at *;go_enter Tryz.func66,Tryz.ntmps66;go_wp2_with fail;clear r0 r1 r2 g0 g1 g2 s0 s1;refine dR.out.mono ?_;rintro e w1 ⟨rfl,ht⟩;have cV:=hid ht;obtain⟨⟨s0,s1⟩,⟨r0,r1,r2⟩,g0,g1,g2⟩:=qsl.cells ht;clear ht dR;go_wp2_with fail;clear r0 r1 r2 g0 g1 g2 s0 s1;refine(cJ.out _ cV.out).mono ?_;rintro e w2 ⟨rfl,ht⟩;have aD:Below w2.heap.size w2 (w2.alloc (.cells #[.bool false,.slice none 0 0,.slice none 0 0] 87)):=qad _ _;have fZ:=hid (ht.later aD);obtain⟨⟨s0,s1⟩,⟨r0,r1,r2⟩,g0,g1,g2⟩:=qsl.cells fZ.out;have HB:=hid (qru fZ.out);clear ht aD cJ;go_wp2_with fail;refine bodyPost_ret (v := .tuple #[.agg #[.bool false,.slice none 0 0,.slice none 0 0],.int .i64 ck]) ?_ rfl ?_
    ·simp[results,Tryz.results66,go_sem,r0,r1,r2]
    ·exact aF.out _ HB.out
def qeo(W:World)(g:Nat)(cs:Array Value)(t:TypeId):Prop:=W.heap[g]? = some (.cells cs t (0,0))
theorem qeo.lt{W:World}{g:Nat}{cs:Array Value}{t:TypeId}(h:qeo W g cs t):g<W.heap.size:=lt_of_block h
theorem qeo.later{W W':World}{g:Nat}{cs:Array Value}{t:TypeId}(h:qeo W g cs t)(hb:Below W.heap.size W W'):qeo W' g cs t:=(hb.block g h.lt).trans h
theorem qeo.other{W:World}{g g':Nat}{cs:Array Value}{t:TypeId}(h:qeo W g cs t)(hne:g≠g')(o:Nat)(v:Value):qeo (W.setCell ⟨g',o,none⟩ v) g cs t:=(Below.heap_setCell _ _ _ _ hne).trans h
theorem qeo.set{W:World}{g:Nat}{cs:Array Value}{t:TypeId}(h:qeo W g cs t)(o:Nat)(v:Value):qeo (W.setCell ⟨g,o,none⟩ v) g (cs.setIfInBounds o v) t:=by
 have aY:=h.lt
 have h':W.heap[g] = .cells cs t (0,0):=by
  have:=h;unfold qeo at this
  simpa [Array.getElem?_eq_getElem aY] using this
 show(W.heap.modify g _)[g]? = _;rw[Array.getElem?_eq_getElem (by simpa using aY),Array.getElem_modify_self,h'];rfl
theorem qeo.own{W:World}{g n:Nat}{cs:Array Value}{t:TypeId}{f:Nat→Value}(h:qeo W g cs t)(hf:∀i,i<n→cs[i]? = some (f i)):Own W g n f:=by
 refine⟨h.lt,fun i hi=>⟨?_, ?_⟩⟩
 ·rw[cell_of_row W g i cs t (0,0) h];exact hf i hi
 ·have:=h
  unfold qeo at this;simp[World.frozen?,this]
theorem qrw(W:World)(cs:Array Value)(t:TypeId):qeo (W.alloc (.cells cs t)) W.heap.size cs t:=heap_alloc_new W _
theorem qeo.own1{W:World}{g:Nat}{v:Value}{t:TypeId}(h:qeo W g #[v] t):Own W g 1 (fun _=>v):=h.own fun i hi=>by
 match i,hi with
 | 0,_=>rfl
theorem qeo.one{W:World}{g:Nat}{x:NV}{t:TypeId}(h:qeo W g #[.bool x.b,.slice x.p x.k x.c,.slice x.q x.j x.d] t):One W g x:=h.own fun i hi=>by
 match i,hi with
 | 0,_=>rfl
 | 1,_=>rfl
 | 2,_=>rfl
theorem qeo.str{W:World}{g:Nat}{s:BA}{t:TypeId}(h:qeo W g #[.string s] t):W.cell? ⟨g,0,none⟩=some (.string s)∧W.frozen? ⟨g,0,none⟩=false:=⟨cell_of_one h,free_of_one h⟩
theorem qeo.put3{W:World}{g:Nat}{x z:NV}{t:TypeId}(h:qeo W g #[.bool x.b,.slice x.p x.k x.c,.slice x.q x.j x.d] t):qeo (((W.setCell ⟨g,0,none⟩ (.bool z.b)).setCell ⟨g,1,none⟩ (.slice z.p z.k z.c)).setCell ⟨g,2,none⟩ (.slice z.q z.j z.d)) g #[.bool z.b,.slice z.p z.k z.c,.slice z.q z.j z.d] t:=
 ((h.set 0 (.bool z.b)).set 1 (.slice z.p z.k z.c)).set 2 (.slice z.q z.j z.d)
theorem qeo.other3{W:World}{g g':Nat}{cs:Array Value}{t:TypeId}(h:qeo W g cs t)(hne:g≠g')(a b c:Value):qeo (((W.setCell ⟨g',0,none⟩ a).setCell ⟨g',1,none⟩ b).setCell ⟨g',2,none⟩ c) g cs t:=
 ((h.other hne _ _).other hne _ _).other hne _ _
def Chg(g1 g2:Nat)(W W':World):Prop:=Below (min g1 g2) W W'∧∀k,k<W.heap.size→k≠g1→k≠g2→W'.heap[k]? = W.heap[k]?
theorem Chg.refl(g1 g2:Nat)(W:World):Chg g1 g2 W W:=⟨qaa _ _,fun _ _ _ _=>rfl⟩
theorem Chg.trans{g1 g2:Nat}{a b c:World}(h:Chg g1 g2 a b)(k:Chg g1 g2 b c):Chg g1 g2 a c:=⟨h.1.trans k.1,fun i h0 h1 h2=>(k.2 i (Nat.lt_of_lt_of_le h0 h.1.size) h1 h2).trans (h.2 i h0 h1 h2)⟩
theorem Chg.below{g1 g2:Nat}{a b c:World}(h:Chg g1 g2 a b)(hg:min g1 g2≤b.heap.size)(k:Below b.heap.size b c):Chg g1 g2 a c:=⟨h.1.trans (k.mono hg),fun i h0 h1 h2=>(k.block i (Nat.lt_of_lt_of_le h0 h.1.size)).trans (h.2 i h0 h1 h2)⟩
theorem Chg.set{g1 g2 g:Nat}{a b:World}(h:Chg g1 g2 a b)(hg:g=g1∨g=g2∨a.heap.size≤g)(hm:min g1 g2≤g)(o:Nat)(v:Value):Chg g1 g2 a (b.setCell ⟨g,o,none⟩ v):=
 ⟨h.1.setCell hm v,fun i h0 h1 h2=>(Below.heap_setCell _ _ _ _ (by intro e;subst e;rcases hg with e|e|e<;>omega)).trans (h.2 i h0 h1 h2)⟩
theorem qlo{W:World}{g b o:Nat}{cs:Array Value}{t:TypeId}{k:IntKind}{z:Int}(h:qeo W g cs t)(hc:∀c ∈ cs.toList,∀k z,c ≠ .int k z)(aC:W.cell? ⟨b,o,none⟩=some (.int k z)):b≠g:=by
 rintro rfl;rw[cell_of_row W b o cs t (0,0) h] at aC;rw[←Array.getElem?_toList] at aC;exact hc _ (qbh aC) _ _ rfl
theorem qa5.chg{g1 g2:Nat}{W W':World}{v:Value}{n:Nat}{c1 c2:Array Value}{t1 t2:TypeId}(h:qa5 W v n)(hc:Chg g1 g2 W W')(b1:qeo W g1 c1 t1)(b2:qeo W g2 c2 t2)(n1:∀c ∈ c1.toList,∀k z,c ≠ .int k z)(n2:∀c ∈ c2.toList,∀k z,c ≠ .int k z):qa5 W' v n:=by
 obtain⟨h1,q,c,h2,h3,h4,h5⟩:=h;refine⟨h1,q,c,h2,h3,h4, ?_⟩;rcases h5 with h5|⟨b,o,h6,h7⟩
 ·exact .inl h5
 ·refine .inr ⟨b,o,h6,fun i hi => ?_⟩
  have aC:=h7 i hi;have hb:=qae W _ aC;have e:=hc.2 b hb (qlo b1 n1 aC) (qlo b2 n2 aC);rw[World.cell?_of_block (a:=⟨b,o+i,none⟩) e];exact aC
theorem qau.chg{g1 g2:Nat}{W W':World}{v:Value}{q:Rat}{c1 c2:Array Value}{t1 t2:TypeId}(h:qau W v q)(hc:Chg g1 g2 W W')(b1:qeo W g1 c1 t1)(b2:qeo W g2 c2 t2)(n1:∀c ∈ c1.toList,∀k z,c ≠ .int k z)(n2:∀c ∈ c2.toList,∀k z,c ≠ .int k z):qau W' v q:=by
 obtain⟨t,b,e,h1,h2⟩:=h;exact⟨t,b,e,h1.chg hc b1 b2 n1 n2,h2.chg hc b1 b2 n1 n2⟩
theorem qtm(s:BA):∀c ∈ (#[Value.string s]:Array Value).toList,∀k z,c ≠ .int k z:=by
 intro c hc;simp only[List.mem_cons,List.not_mem_nil,or_false] at hc;subst hc;intro _ _ h;cases h
theorem qxj(x:NV):∀c ∈ (#[.bool x.b,.slice x.p x.k x.c,.slice x.q x.j x.d]:Array Value).toList,∀k z,c ≠ .int k z:=by
 intro c hc;simp only[List.mem_cons,List.not_mem_nil,or_false] at hc;rcases hc with rfl|rfl|rfl<;>(intro _ _ h;cases h)
def qo6(w:World)(r:Nat)(D:List (BA × Value)):Prop:=
 ∃es clock,w.heap[r]? = some (.map es clock)∧es.toList.map (fun e=>(e.key,e.val))=D.map (fun p=>(Value.string p.1,p.2))∧MapKept.Stamped es clock
theorem qo6.smap{w:World}{r:Nat}{D:List (BA × Value)}(h:qo6 w r D):qrm w r D:=by
 obtain⟨es,clock,h1,h2,_⟩:=h;exact⟨es,clock,h1,h2⟩
theorem qo6.lt{w:World}{r:Nat}{D:List (BA × Value)}(h:qo6 w r D):r<w.heap.size:=by
 obtain⟨es,clock,h1,_⟩:=h;exact lt_of_block h1
theorem qo6.later{w w':World}{r:Nat}{D:List (BA × Value)}(h:qo6 w r D)(hb:Below w.heap.size w w'):qo6 w' r D:=by
 have aY:=h.lt;obtain⟨es,clock,h1,h2,h3⟩:=h;exact⟨es,clock,by rw[hb.block r aY];exact h1,h2,h3⟩
theorem q1x(w:World):qo6 (w.alloc (.map #[] 0)) w.heap.size []:=⟨#[],0,heap_alloc_new w _,rfl,MapKept.stamped_empty 0⟩
def q9o(D:List (BA × Value))(k:BA)(v:Value):List (BA × Value):=
 if D.any (fun p=>k==p.1) then D.map (fun p=>if k==p.1 then(p.1,v) else p) else D++[(k,v)]
theorem qbu(a b:BA):(a==b)=true↔a=b:=MapKept.bytes_beq a b
theorem qgi{es:List MapEntry}{D:List (BA × Value)}(h:es.map (fun e=>(e.key,e.val))=D.map (fun p=>(Value.string p.1,p.2)))(i:Nat):
  (∀e,es[i]? = some e→∃p,D[i]? = some p∧e.key = .string p.1∧e.val=p.2)∧(∀p,D[i]? = some p→∃e,es[i]? = some e∧e.key = .string p.1∧e.val=p.2):=by
 have h1:(es.map (fun e=>(e.key,e.val)))[i]? = (D.map (fun p=>(Value.string p.1,p.2)))[i]? := by rw[h]
 rw[List.getElem?_map,List.getElem?_map] at h1;constructor
 ·intro e he
  rw[he] at h1;cases hd:D[i]? with
  | none=>rw[hd] at h1;cases h1
  | some p=>
   rw[hd] at h1;simp only[Option.map_some,Option.some.injEq,Prod.mk.injEq] at h1;exact⟨p,rfl,h1.1,h1.2⟩
 ·intro p hp
  rw[hp] at h1;cases he:es[i]? with
  | none=>rw[he] at h1;cases h1
  | some e=>
   rw[he] at h1;simp only[Option.map_some,Option.some.injEq,Prod.mk.injEq] at h1;exact⟨e,rfl,h1.1,h1.2⟩
section
variable {P:Program}
theorem q5k(w:World)(t kt et:TypeId)(ht:P.underlying t=some (.map kt et))(hk:P.underlying kt=some .string)(r:Nat)(D:List (BA × Value))(hm:qo6 w r D)(k:BA)(v:Value):
  ∃w',(Instr.mapUpdate t (.map (some r)) (.string k) v).run P w = .ok () w'∧qo6 w' r (q9o D k v)∧Below r w w'∧w'.heap.size=w.heap.size∧∀j,j≠r→w'.heap[j]? = w.heap[j]? := by
 obtain⟨es,clock,h1,h2,h3⟩:=hm;have hik:MapKept.IsKey .string (.string k):=by simp[MapKept.IsKey]
 have pV:∀x ∈ es.toList,MapKept.IsKey .string x.key:=by
  intro x hx;obtain⟨i,hi⟩:=List.getElem?_of_mem hx;obtain⟨p,_,e,_⟩:=(qgi h2 i).1 x hi;rw[e];simp[MapKept.IsKey]
 rcases MapKept.findNow_spec hik es.toList 0 pV with⟨g1,g2⟩|⟨j,e,g1,g2,g3⟩
 ·have hno:D.any (fun p=>k==p.1)=false:=by
   rw[List.any_eq_false];intro p hp;obtain⟨i,hi⟩:=List.getElem?_of_mem hp;obtain⟨x,hx,e1,_⟩:=(qgi h2 i).2 p hi;intro hb;exact g2 x (qbh hx) (by rw[e1,(qbu _ _).1 hb])
  refine⟨_,by simp[Instr.mapUpdate,run_underlying ht,MapKept.run_getObj_map h1,MapKept.run_checkKey hk hik,MapKept.run_findKey hk g1,MapKept.run_setObj_map _ h1,Result.andThen];rfl, ?_, ?_, ?_, ?_⟩
  ·refine⟨_,_,(MapKept.heap_set h1).1, ?_,MapKept.stamped_push h3 g2⟩
   unfold q9o;rw[hno];simp[h2]
  ·exact⟨rfl,rfl,rfl,by simp,fun j hj=>(MapKept.heap_set h1).2 j (by omega)⟩
  ·simp
  ·exact fun j hj=>(MapKept.heap_set h1).2 j hj
 ·have hj:es[j]? = some e:=by simpa using g2
  obtain⟨p,hp,e1,e2⟩:=(qgi h2 j).1 e g2;have hpk:p.1=k:=by rw[g3] at e1;simpa using e1.symm
  have hyes:D.any (fun p=>k==p.1)=true:=by
   rw[List.any_eq_true];exact⟨p,qbh hp,(qbu _ _).2 hpk.symm⟩
  have hkey:∀e',es[j]? = some e'→({ e' with key := .string k,val:=v }:MapEntry).key=e'.key:=fun e' he'=>by rw[hj] at he';cases he';exact g3.symm
  refine⟨_,by simp[Instr.mapUpdate,run_underlying ht,MapKept.run_getObj_map h1,MapKept.run_checkKey hk hik,MapKept.run_findKey hk g1,hj,g3,MapKept.run_keyThatStays hik,MapKept.run_setObj_map _ h1,Result.andThen];rfl, ?_, ?_, ?_, ?_⟩
  ·refine⟨_,_,(MapKept.heap_set h1).1, ?_,MapKept.stamped_modify h3 _ _ (fun _ _=>rfl) (fun e' _ he'=>hkey e' he')⟩
   unfold q9o;rw[if_pos hyes];refine List.ext_getElem? fun i => ?_;rw[List.getElem?_map,List.getElem?_map,List.getElem?_map,Array.toList_modify,List.getElem?_modify];by_cases hij:j=i
   ·subst hij
    rw[g2,hp];simp[hpk,(qbu k k).2 rfl]
   ·simp only[hij,if_false,Option.map_eq_map,Option.map_id']
    cases hd:D[i]? with
    | none=>
     have:es.toList[i]? = none:=by
      cases he:es.toList[i]? with
      | none=>rfl
      | some e'=>obtain⟨p',hp',_⟩:=(qgi h2 i).1 e' he;rw[hd] at hp';cases hp'
     rw[this];rfl
    | some p'=>
     obtain⟨e',he',f1,f2⟩:=(qgi h2 i).2 p' hd;rw[he']
     have hne:(k==p'.1)=false:=by
      rw[Bool.eq_false_iff];intro hb;have jN:=(qbu _ _).1 hb;have Fo:=h3.2.2;have tO:i<(es.toList.map (·.key)).length:=by rw[List.length_map];exact(List.getElem?_eq_some_iff.1 he').1
      have Bu:j<(es.toList.map (·.key)).length:=by rw[List.length_map];exact(List.getElem?_eq_some_iff.1 g2).1
      have hg:(es.toList.map (·.key))[i]=(es.toList.map (·.key))[j]:=by
       rw[List.getElem_map,List.getElem_map];have a1:=(List.getElem?_eq_some_iff.1 he').2;have a2:=(List.getElem?_eq_some_iff.1 g2).2;rw[a1,a2,f1,g3,←jN]
      exact hij ((List.getElem_inj Fo).1 hg).symm
     simp[f1,f2,hne]
  ·exact⟨rfl,rfl,rfl,by simp,fun j' hj'=>(MapKept.heap_set h1).2 j' (by omega)⟩
  ·simp
  ·exact fun j' hj'=>(MapKept.heap_set h1).2 j' hj'
end
theorem qo6.owns{H:Type}{P:Program}{kt:TypeId}{w:World}{r:Nat}{D:List (BA × Value)}(h:qo6 w r D)(hk:P.underlying kt=some .string)(hl:∀p ∈ D,p.1.size≤maxLen)(hn:D.length≤1048576):
  ∃D0:DataW H,w.ownsMap P kt (fun _=>some (.nil,[])) r D.length D0∧(Go.strKeys D0).Perm (D.map fun p=>p.1.data.toList)∧Maps.size D0=D.length:=by
 obtain⟨es,clock,h1,h2,h3⟩:=h
 have aE:es.toList.length=D.length:=by
  have:=congrArg List.length h2
  rwa [List.length_map,List.length_map] at this
 have yA:∀x ∈ es.toList,∃p ∈ D,x.key = .string p.1∧WideElems.rd (H:=H) P kt (fun _=>some (.nil,[])) x=some (.string p.1.data.toList,.nil):=by
  intro x hx;obtain⟨i,hi⟩:=List.getElem?_of_mem hx;obtain⟨p,hp,e,_⟩:=(qgi h2 i).1 x hi;refine⟨p,qbh hp,e, ?_⟩;unfold WideElems.rd;rw[e,WideMaps.keyOf_string_mk hk (hl p (qbh hp))];rfl
 refine⟨_,⟨es,clock,h1,⟨by rw[←Array.length_toList,aE];unfold maxLen;omega,h3,fun x hx => ?_⟩,by rw[←Array.length_toList,aE];exact qac _,rfl⟩, ?_, ?_⟩
 ·obtain⟨p,_,_,e⟩:=yA x hx
  exact⟨_,e⟩
 ·show((es.toList.map (WideElems.rg P kt _)).foldr DataW.insert []).map (fun p=>Go.strOf p.1) |>.Perm _
  refine((WideShapes.sorted_perm _).map _).trans ?_;rw[List.map_map];refine List.Perm.of_eq (List.ext_getElem? fun i => ?_);rw[List.getElem?_map,List.getElem?_map];cases hd:es.toList[i]? with
  | none=>
   have:D[i]? = none:=by
    rw[List.getElem?_eq_none_iff] at hd ⊢;omega
   rw[this];rfl
  | some x=>
   obtain⟨p,hp,e,_⟩:=(qgi h2 i).1 x hd;rw[hp]
   have hr:WideElems.rd (H:=H) P kt (fun _=>some (.nil,[])) x=some (.string p.1.data.toList,.nil):=by
    unfold WideElems.rd;rw[e,WideMaps.keyOf_string_mk hk (hl p (qbh hp))];rfl
   simp[WideElems.rg,hr,Go.strOf]
 ·show((es.toList.map (WideElems.rg P kt _)).foldr DataW.insert []).length=_
  rw[(WideShapes.sorted_perm _).length_eq,List.length_map,aE]
def qvn(gb gs:Nat)(bef:BA)(q:Rat)(s:BA × BA)(w:World)(e:Ending)(w':World):Prop:=
 (if qao bef s=0 then ∃z m:NV,e = .returned (.tuple #[.agg #[.bool z.b,.slice z.p z.k z.c,.slice z.q z.j z.d],.int .i64 0])∧qau w' (.agg #[.bool z.b,.slice z.p z.k z.c,.slice z.q z.j z.d]) (qbc s.2.data.toList)∧qeo w' gs #[.bool m.b,.slice m.p m.k m.c,.slice m.q m.j m.d] 87∧qau w' (.agg #[.bool m.b,.slice m.p m.k m.c,.slice m.q m.j m.d]) (q+qbc s.2.data.toList)
  else e = .returned (.tuple #[.agg #[.bool false,.slice none 0 0,.slice none 0 0],.int .i64 (qao bef s:Nat)]))∧qeo w' gb #[.string s.1] 9∧Chg gb gs w w'
theorem qmy(w:World):qau w (.agg #[.bool false,.slice none 0 0,.slice none 0 0]) 0:=qjp w 0 false (.slice none 0 0) (.slice none 0 0) rfl (qa5.nil w) (qa5.nil w)
theorem q7u:rs 0=1:=by
 have:=qjr 0;rw[show wl (0:Int).natAbs=0 from qcw] at this;exact this
theorem qtn(gb gs:Nat)(bef:BA)(m:NV)(q:Rat)(s:BA × BA)(w:World)(hg:GW w)(hs:s.2.size≤1073741824)(bb:qeo w gb #[.string bef] 9)(bs:qeo w gs #[.bool m.b,.slice m.p m.k m.c,.slice m.q m.j m.d] 87)(hne:gb≠gs)(hm:qau w (.agg #[.bool m.b,.slice m.p m.k m.c,.slice m.q m.j m.d]) q)(aQ:rs q+1300≤Cap):
  Calls Tryz.prog 65 #[.agg #[.string s.1,.string s.2],.pointer (some ⟨gb,0,none⟩),.pointer (some ⟨gs,0,none⟩)] w (qvn gb gs bef q s w):=by
 have aM:=hid (qxh w s 58);have dU:=hid ((qrv bef s _ (hg.later aM.out.1) hs));obtain⟨⟨s0,s1⟩,⟨r0,r1,r2⟩,g0,g1,g2⟩:=aM.out.cells;have BB0:=hid (bb.later aM.out.1);have BS0:=hid (bs.later aM.out.1);have xZ:=hid (hm.later aM.out.1);obtain⟨dS,Dp⟩:=BB0.out.str;have cS:=bb.lt;have hls:=bs.lt;have lI:=hid (Chg.below (Chg.refl gb gs w) (by omega) aM.out.1);by_cases h0:qao bef s=0
 ·have aF:Hid (∀w' (z m:NV),qau w' (.agg #[.bool z.b,.slice z.p z.k z.c,.slice z.q z.j z.d]) (qbc s.2.data.toList)→qeo w' gs #[.bool m.b,.slice m.p m.k m.c,.slice m.q m.j m.d] 87→qau w' (.agg #[.bool m.b,.slice m.p m.k m.c,.slice m.q m.j m.d]) (q+qbc s.2.data.toList)→qeo w' gb #[.string s.1] 9→Chg gb gs w w'→qvn gb gs bef q s w (.returned (.tuple #[.agg #[.bool z.b,.slice z.p z.k z.c,.slice z.q z.j z.d],.int .i64 0])) w'):=hid fun w' z m h1 h2 h3 h4 h5=>by
   unfold qvn;rw[if_pos h0];exact⟨⟨z,m,rfl,h1,h2,h3⟩,h4,h5⟩
  have eY:qah s.2.data.toList=0:=by
   unfold qao at h0;split at h0
   ·cases h0
   ·split at h0
    ·cases h0
    ·split at h0
     ·rename_i h;exact absurd h0 h
     ·omega
  have bq:=(qim eY).rs
  have cJ:Hid (Calls Tryz.prog 66 #[.agg #[.string s.1,.string s.2],.string bef] ((w.alloc (.cells #[.string s.1,.string s.2] 58)).alloc (.cells #[.bool false,.slice none 0 0,.slice none 0 0] 87)) fun e w'=>(∃z:NV,e = .returned (.tuple #[.agg #[.bool z.b,.slice z.p z.k z.c,.slice z.q z.j z.d],.int .i64 0])∧qau w' (.agg #[.bool z.b,.slice z.p z.k z.c,.slice z.q z.j z.d]) (qbc s.2.data.toList))∧Below ((w.alloc (.cells #[.string s.1,.string s.2] 58)).alloc (.cells #[.bool false,.slice none 0 0,.slice none 0 0] 87)).heap.size ((w.alloc (.cells #[.string s.1,.string s.2] 58)).alloc (.cells #[.bool false,.slice none 0 0,.slice none 0 0] 87)) w'):=hid (dU.out.mono fun e w' h=>by
   unfold qgh at h;rw[if_pos h0] at h;obtain⟨⟨z,h1,h2⟩,h3⟩:=h
   exact⟨⟨z,h1,h2⟩,h3⟩)
  clear h0 eY hg hs bb bs hm dU;generalize qbc s.2.data.toList=pq at *;have hbs0:w.heap.size<((w.alloc (.cells #[.string s.1,.string s.2] 58)).alloc (.cells #[.bool false,.slice none 0 0,.slice none 0 0] 87)).heap.size:=by have:=aM.out.2.1.1;exact this
  go_enter Tryz.func65,Tryz.ntmps65;go_wp2_with fail;clear r0 r1 r2 g0 g1 g2;refine cJ.out.mono ?_;rintro e w2 ⟨⟨z,rfl,hz⟩,hb⟩;have aD:Below w2.heap.size w2 (w2.alloc (.cells #[.bool z.b,.slice z.p z.k z.c,.slice z.q z.j z.d] 87)):=qad _ _;have hb':=hb.trans (aD.mono hb.size);have fZ:=hid (aM.out.later hb');have BB2:=hid (BB0.out.later hb');have BS2:=hid (BS0.out.later hb');have kW:=hid (hz.later aD);have eV:=hid (xZ.out.later hb');have BZ2:=hid (qrw w2 #[.bool z.b,.slice z.p z.k z.c,.slice z.q z.j z.d] 87);have iE:=hid (lI.out.below (by have:=aM.out.1.size;omega) hb');have mD:w.heap.size+1<w2.heap.size:=by have:=aM.out.2.2.1;have:=hb.size;omega
  clear hz hb aD hb' s0 s1 dS Dp cJ BB0 BS0 xZ lI;generalize nO:w2.heap.size=gz at *;have BS3:=hid (BS2.out.other (Ne.symm hne) 0 (.string s.1));have BB3:Hid (qeo ((w2.alloc (.cells #[.bool z.b,.slice z.p z.k z.c,.slice z.q z.j z.d] 87)).setCell ⟨gb,0,none⟩ (.string s.1)) gb #[.string s.1] 9):=hid (BB2.out.set 0 _);have BZ3:=hid (BZ2.out.other (show gz≠gb by omega) 0 (.string s.1));have Le:=hid (qbp eV.out BB2.out.own1 0 (by omega) (by intro k z e;cases e) (.string s.1));have HZ3:=hid (qbp kW.out BB2.out.own1 0 (by omega) (by intro k z e;cases e) (.string s.1));have Bv:=hid (iE.out.set (g:=gb) (.inl rfl) (Nat.min_le_left _ _) 0 (.string s.1));have pT:Hid (One ((w2.alloc (.cells #[.bool z.b,.slice z.p z.k z.c,.slice z.q z.j z.d] 87)).setCell ⟨gb,0,none⟩ (.string s.1)) (w.heap.size+1) ⟨false,none,0,0,none,0,0⟩):=hid (((qfd.refl gb _).set 0 _).own fZ.out.2.2 (by omega));have hJ:=hid (qhw _ _ _ _ _ Le.out HZ3.out (by unfold Cap at *;omega));obtain⟨⟨s0,s1⟩,_⟩:=fZ.out.cells;obtain⟨dS,Dp⟩:=BB2.out.str;obtain⟨⟨p0,p1,p2⟩,_⟩:=BZ2.out.one.cells;obtain⟨⟨q0,q1,q2⟩,_⟩:=BS3.out.one.cells;obtain⟨⟨t0,t1,t2⟩,_⟩:=BZ3.out.one.cells;go_wp2_with fail;clear s0 s1 dS Dp p0 p1 p2 q0 q1 q2 t0 t1 t2;refine hJ.out.mono ?_;rintro e w4 ⟨⟨v4,rfl,hv⟩,hb⟩;obtain⟨m',rfl⟩:=hv.nv;have BS4:=BS3.out.later hb;have BB4:=BB3.out.later hb;have BZ4:=BZ3.out.later hb;have Cz:=pT.out.later (hb.mono pT.out.1);have HZ4:=HZ3.out.later hb;have dX:=BS4.one.put (x:=m');have HM5:=hid (dX.2.1 _ _ hv);have HZ5:=hid (dX.2.1 _ _ HZ4);have BS5:=hid (BS4.put3 (z:=m'));have BB5:=hid (BB4.other3 hne (.bool m'.b) (.slice m'.p m'.k m'.c) (.slice m'.q m'.j m'.d));have BZ5:=hid (BZ4.other3 (show gz≠gs by omega) (.bool m'.b) (.slice m'.p m'.k m'.c) (.slice m'.q m'.j m'.d))
  have Gb:Hid (One (((w4.setCell ⟨gs,0,none⟩ (.bool m'.b)).setCell ⟨gs,1,none⟩ (.slice m'.p m'.k m'.c)).setCell ⟨gs,2,none⟩ (.slice m'.q m'.j m'.d)) (w.heap.size+1) ⟨false,none,0,0,none,0,0⟩):=hid (dX.2.2.2 _ _ _ (by omega) Cz);have Je:=Bv.out.below (by have:=Bv.out.1.size;have:=Nat.min_le_left gb gs;simp;omega) hb;have HC5:=hid (((Je.set (g:=gs) (.inr (.inl rfl)) (Nat.min_le_right _ _) 0 (.bool m'.b)).set (g:=gs) (.inr (.inl rfl)) (Nat.min_le_right _ _) 1 (.slice m'.p m'.k m'.c)).set (g:=gs) (.inr (.inl rfl)) (Nat.min_le_right _ _) 2 (.slice m'.q m'.j m'.d));obtain⟨⟨q0,q1,q2⟩,f0,f1,f2⟩:=BS4.one.cells;obtain⟨⟨t0,t1,t2⟩,_⟩:=BZ5.out.one.cells;obtain⟨⟨r0,r1,r2⟩,g0,g1,g2⟩:=One.cells Gb.out;clear dX hv hb BS4 BB4 BZ4 Cz HZ4 Je hJ;have xG:=Gb.out.put (x:=z);have HZ6:=hid (xG.2.1 _ _ HZ5.out);have Gc:=hid (xG.2.1 _ _ HM5.out);have BS6:=hid (BS5.out.other3 (show gs≠w.heap.size+1 by omega) (.bool z.b) (.slice z.p z.k z.c) (.slice z.q z.j z.d));have BB6:=hid (BB5.out.other3 (show gb≠w.heap.size+1 by omega) (.bool z.b) (.slice z.p z.k z.c) (.slice z.q z.j z.d));have Dq:=Nat.min_le_left gb gs;have HC6:=hid (((HC5.out.set (g:=w.heap.size+1) (.inr (.inr (by omega))) (by omega) 0 (.bool z.b)).set (g:=w.heap.size+1) (.inr (.inr (by omega))) (by omega) 1 (.slice z.p z.k z.c)).set (g:=w.heap.size+1) (.inr (.inr (by omega))) (by omega) 2 (.slice z.q z.j z.d));clear xG;go_wp2_with fail;refine bodyPost_ret (v := .tuple #[.agg #[.bool z.b,.slice z.p z.k z.c,.slice z.q z.j z.d],.int .i64 0]) ?_ rfl ?_
  ·simp[results,Tryz.results65,go_sem,r0,r1,r2]
  ·exact aF.out _ _ _ HZ6.out BS6.out Gc.out BB6.out HC6.out
 ·have aF:Hid (∀w',qeo w' gb #[.string s.1] 9→Chg gb gs w w'→qvn gb gs bef q s w (.returned (.tuple #[.agg #[.bool false,.slice none 0 0,.slice none 0 0],.int .i64 (qao bef s:Nat)])) w'):=hid fun w' h4 h5=>by
   unfold qvn;rw[if_neg h0];exact⟨rfl,h4,h5⟩
  have cJ:Hid (Calls Tryz.prog 66 #[.agg #[.string s.1,.string s.2],.string bef] ((w.alloc (.cells #[.string s.1,.string s.2] 58)).alloc (.cells #[.bool false,.slice none 0 0,.slice none 0 0] 87)) fun e w'=>e = .returned (.tuple #[.agg #[.bool false,.slice none 0 0,.slice none 0 0],.int .i64 (qao bef s:Nat)])∧Below ((w.alloc (.cells #[.string s.1,.string s.2] 58)).alloc (.cells #[.bool false,.slice none 0 0,.slice none 0 0] 87)).heap.size ((w.alloc (.cells #[.string s.1,.string s.2] 58)).alloc (.cells #[.bool false,.slice none 0 0,.slice none 0 0] 87)) w'):=hid (dU.out.mono fun e w' h=>by
   unfold qgh at h;rw[if_neg h0] at h
   exact h)
  clear h0 hg hs bb bs hm dU;generalize qao bef s=ck at *;go_enter Tryz.func65,Tryz.ntmps65;go_wp2_with fail;clear r0 r1 r2 g0 g1 g2;refine cJ.out.mono ?_;rintro e w2 ⟨rfl,hb⟩;have aD:Below w2.heap.size w2 (w2.alloc (.cells #[.bool false,.slice none 0 0,.slice none 0 0] 87)):=qad _ _;have hb':=hb.trans (aD.mono hb.size);have fZ:=hid (aM.out.later hb');have BB2:=hid (BB0.out.later hb');have BS2:=hid (BS0.out.later hb');have kW:=hid (qmy (w2.alloc (.cells #[.bool false,.slice none 0 0,.slice none 0 0] 87)));have eV:=hid (xZ.out.later hb');have BZ2:Hid (qeo (w2.alloc (.cells #[.bool false,.slice none 0 0,.slice none 0 0] 87)) w2.heap.size #[.bool false,.slice none 0 0,.slice none 0 0] 87):=hid (qrw w2 #[.bool false,.slice none 0 0,.slice none 0 0] 87);have iE:=hid (lI.out.below (by have:=aM.out.1.size;omega) hb');have mD:w.heap.size+1<w2.heap.size:=by have:=aM.out.2.2.1;have:=hb.size;omega
  clear hb aD hb' s0 s1 dS Dp cJ BB0 BS0 xZ lI;generalize nO:w2.heap.size=gz at *;have BS3:=hid (BS2.out.other (Ne.symm hne) 0 (.string s.1));have BB3:Hid (qeo ((w2.alloc (.cells #[.bool false,.slice none 0 0,.slice none 0 0] 87)).setCell ⟨gb,0,none⟩ (.string s.1)) gb #[.string s.1] 9):=hid (BB2.out.set 0 _);have BZ3:=hid (BZ2.out.other (show gz≠gb by omega) 0 (.string s.1));have Le:=hid (qbp eV.out BB2.out.own1 0 (by omega) (by intro k z e;cases e) (.string s.1));have HZ3:=hid (qbp kW.out BB2.out.own1 0 (by omega) (by intro k z e;cases e) (.string s.1));have Bv:=hid (iE.out.set (g:=gb) (.inl rfl) (Nat.min_le_left _ _) 0 (.string s.1));have pT:Hid (One ((w2.alloc (.cells #[.bool false,.slice none 0 0,.slice none 0 0] 87)).setCell ⟨gb,0,none⟩ (.string s.1)) (w.heap.size+1) ⟨false,none,0,0,none,0,0⟩):=hid (((qfd.refl gb _).set 0 _).own fZ.out.2.2 (by omega));have hJ:=hid (qhw _ _ _ _ _ Le.out HZ3.out (by have:rs 0=1:=q7u;unfold Cap at *;omega));obtain⟨⟨s0,s1⟩,_⟩:=fZ.out.cells;obtain⟨dS,Dp⟩:=BB2.out.str;obtain⟨⟨p0,p1,p2⟩,_⟩:=(qeo.one (x:=⟨false,none,0,0,none,0,0⟩) BZ2.out).cells;obtain⟨⟨q0,q1,q2⟩,_⟩:=BS3.out.one.cells;obtain⟨⟨t0,t1,t2⟩,_⟩:=(qeo.one (x:=⟨false,none,0,0,none,0,0⟩) BZ3.out).cells;go_wp2_with fail;clear s0 s1 dS Dp p0 p1 p2 q0 q1 q2 t0 t1 t2;refine hJ.out.mono ?_;rintro e w4 ⟨⟨v4,rfl,hv⟩,hb⟩;obtain⟨m',rfl⟩:=hv.nv;have BS4:=BS3.out.later hb;have BB4:=BB3.out.later hb;have BZ4:=BZ3.out.later hb;have Cz:=pT.out.later (hb.mono pT.out.1);have BB5:=hid (BB4.other3 hne (.bool m'.b) (.slice m'.p m'.k m'.c) (.slice m'.q m'.j m'.d));have BZ5:=hid (BZ4.other3 (show gz≠gs by omega) (.bool m'.b) (.slice m'.p m'.k m'.c) (.slice m'.q m'.j m'.d))
  have Gb:Hid (One (((w4.setCell ⟨gs,0,none⟩ (.bool m'.b)).setCell ⟨gs,1,none⟩ (.slice m'.p m'.k m'.c)).setCell ⟨gs,2,none⟩ (.slice m'.q m'.j m'.d)) (w.heap.size+1) ⟨false,none,0,0,none,0,0⟩):=hid (BS4.one.put.2.2.2 _ _ _ (by omega) Cz);have Je:=Bv.out.below (by have:=Bv.out.1.size;have:=Nat.min_le_left gb gs;simp;omega) hb;have HC5:=hid (((Je.set (g:=gs) (.inr (.inl rfl)) (Nat.min_le_right _ _) 0 (.bool m'.b)).set (g:=gs) (.inr (.inl rfl)) (Nat.min_le_right _ _) 1 (.slice m'.p m'.k m'.c)).set (g:=gs) (.inr (.inl rfl)) (Nat.min_le_right _ _) 2 (.slice m'.q m'.j m'.d));obtain⟨⟨q0,q1,q2⟩,f0,f1,f2⟩:=BS4.one.cells;obtain⟨⟨t0,t1,t2⟩,_⟩:=(qeo.one (x:=⟨false,none,0,0,none,0,0⟩) BZ5.out).cells;obtain⟨⟨r0,r1,r2⟩,g0,g1,g2⟩:=One.cells Gb.out;clear hv hb BS4 BB4 BZ4 Cz Je hJ;have BB6:=hid (BB5.out.other3 (show gb≠w.heap.size+1 by omega) (.bool false) (.slice none 0 0) (.slice none 0 0));have Dq:=Nat.min_le_left gb gs;have HC6:=hid (((HC5.out.set (g:=w.heap.size+1) (.inr (.inr (by omega))) (by omega) 0 (.bool false)).set (g:=w.heap.size+1) (.inr (.inr (by omega))) (by omega) 1 (.slice none 0 0)).set (g:=w.heap.size+1) (.inr (.inr (by omega))) (by omega) 2 (.slice none 0 0));go_wp2_with fail;refine bodyPost_ret (v := .tuple #[.agg #[.bool false,.slice none 0 0,.slice none 0 0],.int .i64 ck]) ?_ rfl ?_
  ·simp[results,Tryz.results65,go_sem,r0,r1,r2]
  ·exact aF.out _ BB6.out HC6.out
def qjc(b:BA)(l:List (BA × BA)):BA:=l.foldl (fun _ s=>s.1) b
def qg0(l:List (BA × BA)):Rat:=l.foldl (fun a s=>a+qbc s.2.data.toList) 0
def qa4:BA→List (BA × BA)→List Nat
 | _,[]=>[]
 | b,s::l=>qao b s::qa4 s.1 l
theorem qqq(b:BA)(l:List (BA × BA))(s:BA × BA):qjc b (l++[s])=s.1:=by unfold qjc;rw[List.foldl_append];rfl
theorem qo7(l:List (BA × BA))(s:BA × BA):qg0 (l++[s])=qg0 l+qbc s.2.data.toList:=by unfold qg0;rw[List.foldl_append];rfl
theorem qfw(l m:List (BA × BA)):∀b,qa4 b (l++m)=qa4 b l++qa4 (qjc b l) m:=by
 induction l with
 | nil=>intro b;rfl
 | cons s l ih=>intro b;show qao b s::qa4 s.1 (l++m)=_;rw[ih s.1];rfl
theorem qg1{b:BA}{s:BA × BA}(h:qao b s=0):qah s.2.data.toList=0:=by
 unfold qao at h;split at h
 ·cases h
 ·split at h
  ·cases h
  ·split at h
   ·rename_i h1;exact absurd h h1
   ·omega
theorem qgs{l m:List Nat}(h:qaj (l++m)=0):qaj l=0∧qaj m=0:=by
 induction l with
 | nil=>exact⟨rfl,h⟩
 | cons e l ih=>
  have h1:(if e=0 then qaj (l++m) else e)=0:=h;by_cases he:e=0
  ·rw[if_pos he] at h1
   refine⟨?_,(ih h1).2⟩;show(if e=0 then qaj l else e)=0;rw[if_pos he];exact(ih h1).1
  ·rw[if_neg he] at h1;exact absurd h1 he
theorem qda{α:Type}{P:List α→Prop}(h0:P [])(h1:∀l x,P l→P (l++[x]))(l:List α):P l:=by
 have:∀l:List α,P l.reverse:=by
  intro l
  induction l with
  | nil=>exact h0
  | cons x l ih=>rw[List.reverse_cons];exact h1 _ _ ih
 have h:=this l.reverse
 rwa [List.reverse_reverse] at h
theorem q1y(b:BA)(l:List (BA × BA))(h:qaj (qa4 b l)=0):bd (qg0 l) (601*l.length+1):=by
 induction l using qda with
 | h0=>exact qi5 _ (by simp)
 | h1 l s ih=>
  rw[qfw] at h;obtain⟨h1,h2⟩:=qgs h
  have h3:qao (qjc b l) s=0:=by
   have:(if qao (qjc b l) s=0 then qaj [] else qao (qjc b l) s)=0:=h2;by_cases hz:qao (qjc b l) s=0
   ·exact hz
   ·rw[if_neg hz] at this;exact absurd this hz
  rw[qo7];refine(qnb (ih h1) (qim (qg1 h3))).mono ?_;rw[List.length_append];simp;omega
theorem GW.chg{g1 g2:Nat}{W W':World}{c1 c2:Array Value}{t1 t2:TypeId}(h:GW W)(hc:Chg g1 g2 W W')(b1:qeo W g1 c1 t1)(b2:qeo W g2 c2 t2)(n1:∀c ∈ c1.toList,∀k z,c ≠ .int k z)(n2:∀c ∈ c2.toList,∀k z,c ≠ .int k z):GW W':=by
 obtain⟨h0,m,hm⟩:=h;refine⟨Nat.lt_of_lt_of_le h0 hc.1.size,m, ?_⟩;have e:=hc.2 _ (qae W _ hm) (qlo b1 n1 hm) (qlo b2 n2 hm);rw[World.cell?_of_block (a:=⟨_,0,none⟩) e];exact hm
theorem qjv.chg{g1 g2 g cap:Nat}{W W':World}{qs:List Rat}{c1 c2:Array Value}{t1 t2:TypeId}(h:qjv W g cap qs)(hc:Chg g1 g2 W W')(h1:g≠g1)(h2:g≠g2)(b1:qeo W g1 c1 t1)(b2:qeo W g2 c2 t2)(n1:∀c ∈ c1.toList,∀k z,c ≠ .int k z)(n2:∀c ∈ c2.toList,∀k z,c ≠ .int k z):qjv W' g cap qs:=by
 have aY:=h.lt;obtain⟨e1,cur,hg,e2,e3,e4⟩:=h;refine⟨e1,cur,(hc.2 g aY h1 h2).trans hg,e2,e3,fun j q hq => ?_⟩;obtain⟨b,p1,k1,c1,p2,k2,c2,a1,a2,a3,hv⟩:=e4 j q hq;exact⟨b,p1,k1,c1,p2,k2,c2,a1,a2,a3,hv.chg hc b1 b2 n1 n2⟩
theorem Chg.cell{g1 g2 b o:Nat}{W W':World}{v:Value}(hc:Chg g1 g2 W W')(h:W.cell? ⟨b,o,none⟩=some v)(h1:b≠g1)(h2:b≠g2):W'.cell? ⟨b,o,none⟩=some v:=by
 rw[World.cell?_of_block (a:=⟨b,o,none⟩) (hc.2 b (qae W _ h) h1 h2)];exact h
def qo8(gb gs:Nat)(b0:BA)(l:List (BA × BA))(w:World)(e:Ending)(w':World):Prop:=
 (if qaj (qa4 b0 l)=0 then(∃g,w.heap.size≤g∧e = .returned (.tuple #[.slice (some ⟨g,0,none⟩) l.length l.length,.int .i64 0])∧qjv w' g l.length (l.map fun s=>qbc s.2.data.toList))∧∃m:NV,qeo w' gs #[.bool m.b,.slice m.p m.k m.c,.slice m.q m.j m.d] 87∧qau w' (.agg #[.bool m.b,.slice m.p m.k m.c,.slice m.q m.j m.d]) (qg0 l)
  else e = .returned (.tuple #[.slice none 0 0,.int .i64 (qaj (qa4 b0 l))]))∧Chg gb gs w w'
theorem qzh{gb gs:Nat}{b0:BA}{l:List (BA × BA)}{w w':World}{k:Nat}(h:qaj (qa4 b0 l)=k)(hk:k≠0)(hc:Chg gb gs w w'):qo8 gb gs b0 l w (.returned (.tuple #[.slice none 0 0,.int .i64 (k:Int)])) w':=by
 unfold qo8;rw[h,if_neg hk];exact⟨rfl,hc⟩
theorem qvo{gb gs:Nat}{b0:BA}{l:List (BA × BA)}{w w':World}{m:NV}(h:qaj (qa4 b0 l)=0)(hn:qjv w' w.heap.size l.length (l.map fun s=>qbc s.2.data.toList))(hm:qeo w' gs #[.bool m.b,.slice m.p m.k m.c,.slice m.q m.j m.d] 87∧qau w' (.agg #[.bool m.b,.slice m.p m.k m.c,.slice m.q m.j m.d]) (qg0 l))(hc:Chg gb gs w w'):
  qo8 gb gs b0 l w (.returned (.tuple #[.slice (some ⟨w.heap.size,0,none⟩) l.length l.length,.int .i64 0])) w':=by
 unfold qo8;rw[if_pos h];exact⟨⟨⟨w.heap.size,qac _,rfl,hn⟩,m,hm⟩,hc⟩
theorem q1z{W:World}{g g':Nat}{cs cur:Array Value}{t:TypeId}(hr:∀kk,kk≠g'→(W.setRow g' cur).heap[kk]? = W.heap[kk]?)(h:qeo W g cs t)(hne:g≠g'):qeo (W.setRow g' cur) g cs t:=(hr g hne).trans h
theorem q7v{g1 g2 g:Nat}{w W:World}{cur:Array Value}(h:Chg g1 g2 w W)(hb:Below w.heap.size W (W.setRow g cur))(hr:∀kk,kk≠g→(W.setRow g cur).heap[kk]? = W.heap[kk]?)(hg:w.heap.size≤g)(hm:min g1 g2≤w.heap.size:=by omega):Chg g1 g2 w (W.setRow g cur):=
 ⟨h.1.trans (hb.mono hm),fun i h0 h1 h2=>(hr i (by omega)).trans (h.2 i h0 h1 h2)⟩
theorem zao{W:World}{g cap:Nat}{qs:List Rat}{cur:Array Value}(h:qjv W g cap qs)(hg:W.heap[g]? = some (.cells cur 87 (0,0))):∀c ∈ cur.toList,∀k z,c ≠ .int k z:=by
 obtain⟨_,cur',hg',_,h3,_⟩:=h;rw[hg] at hg';cases hg'
 exact h3
theorem qzi(gb gs:Nat)(b0:BA)(m0:NV)(l:List (BA × BA))(b o c:Nat)(w:World)(hg:GW w)(aB:qbm w b o l)(hl:l.length≤64)(hs:∀s ∈ l,s.2.size≤1073741824)
  (bb:qeo w gb #[.string b0] 9) (bs:qeo w gs #[.bool m0.b,.slice m0.p m0.k m0.c,.slice m0.q m0.j m0.d] 87) (hne:gb≠gs) (hm:qau w (.agg #[.bool m0.b,.slice m0.p m0.k m0.c,.slice m0.q m0.j m0.d]) 0) (aZ:b≠gb) (aR:b≠gs):
  Calls Tryz.prog 64 #[.slice (some ⟨b,o,none⟩) l.length c,.func (.func 65) #[] #[.pointer (some ⟨gb,0,none⟩),.pointer (some ⟨gs,0,none⟩)]] w (qo8 gb gs b0 l w):=by
 have HG:=hid hg;have bL:=hid aB;have HS:=hid hs;have lO:=qo2 l.length (by omega);obtain⟨i0,hi,cU,eE,eK⟩:=info_parts (show(Tryz.prog.info? 87).map (fun i=>(i.zero,i.size,i.bytes))=some (some (.agg #[.bool false,.slice none 0 0,.slice none 0 0]),3,56) by kernel_rfl);have HI:=hid hi;have kU:Below w.heap.size w (w.alloc (.cells (madeCells #[.bool false,.slice none 0 0,.slice none 0 0] (l.length*3)) 87)):=qad _ _;have uZ:=bb.lt;have Do:=bs.lt;have hU:=hid (qmt w l.length);have BBW:=hid bb;have BSW:=hid bs;have BB0:=hid (bb.later kU);have BS0:=hid (bs.later kU);have xZ:=hid (hm.later kU);have lI:=hid (Chg.below (Chg.refl gb gs w) (by omega) kU);clear aB hs hi cU eK bb bs hm kU hg;go_enter Tryz.func64,Tryz.ntmps64;go_wp2_with fail;clear lO;generalize w.alloc (.cells (madeCells #[.bool false,.slice none 0 0,.slice none 0 0] (l.length*3)) 87)=w0 at *
 go_loopw [6,16] (fun r i wr=>∃k:Nat,k≤l.length∧i = .int .i64 k∧r = .slice (some ⟨w.heap.size,0,none⟩) k l.length∧Hid (qjv wr w.heap.size l.length ((l.take k).map fun s=>qbc s.2.data.toList))∧Hid (qaj (qa4 b0 (l.take k))=0)∧Hid (Chg gb gs w wr)∧Hid (qeo wr gb #[.string (qjc b0 (l.take k))] 9)∧∃m:NV,Hid (qeo wr gs #[.bool m.b,.slice m.p m.k m.c,.slice m.q m.j m.d] 87∧qau wr (.agg #[.bool m.b,.slice m.p m.k m.c,.slice m.q m.j m.d]) (qg0 (l.take k)))) (fun _ i _=>l.length-(intOf i).toNat)
 case atStart=>exact⟨0,Nat.zero_le _,rfl,rfl,hU,hid rfl,lI,BB0,m0,hid ⟨BS0.out,xZ.out⟩⟩
 case round=>
  obtain⟨k,hk,rfl,rfl,HN,HE,HC,BB,m,HM⟩:=hrel;clear hU lI BB0 BS0 xZ;by_cases cT:k<l.length
  ·obtain⟨s,bV⟩:∃s,l[k]? = some s:=⟨l[k],qap cT⟩
   obtain⟨e0,e1⟩:=bL.out k s bV;have eY:wr.cell? ⟨b,o+k*2,none⟩=some (.string s.1):=HC.out.cell e0 aZ aR;have bO:wr.cell? ⟨b,o+k*2+1,none⟩=some (.string s.2):=HC.out.cell e1 aZ aR;have aD:Below wr.heap.size wr (wr.alloc (.cells #[.string s.1,.string s.2] 58)):=qad _ _;have eT:=HS.out s (qbh bV);have dK:=HC.out.1.size;have fW:Hid (l.take (k+1)=l.take k++[s]):=hid (qbl bV);have Ad:=hid ((HG.out.chg HC.out BBW.out BSW.out (qtm _) (qxj _)).later aD);have BB1:=hid (BB.out.later aD);have BS1:=hid (HM.out.1.later aD);have fY:=hid (HM.out.2.later aD);have dH:=hid (HN.out.later aD);have jV:=hid (HC.out.below (by omega) aD);have aQ:=(q1y b0 _ HE.out).rs;have sQ:(l.take k).length≤k:=List.length_take_le _ _;have kE:=hid (qtn gb gs (qjc b0 (l.take k)) m (qg0 (l.take k)) s _ Ad.out eT BB1.out BS1.out hne fY.out (by unfold Cap;omega));obtain⟨x0,x1⟩:=qaq (qd3 wr 58 (.string s.1) (.string s.2));have Qk:Hid (w.heap.size≠gb∧w.heap.size≠gs):=hid ⟨by omega,by omega⟩;have iW:=hid (qfw (l.take k) [s] b0);have Ld:=hid (qqq b0 (l.take k) s);have HQN:=hid (qo7 (l.take k) s);have HALL:Hid (∃d,l=l.take (k+1)++d):=hid ⟨l.drop (k+1),(List.take_append_drop _ _).symm⟩;clear e0 e1 aD eT aQ sQ bV BB HM HN HC;generalize qjc b0 (l.take k)=bef at *;generalize qg0 (l.take k)=sq at *;by_cases hc:qao bef s=0
   ·have gN:Hid (qaj (qa4 b0 (l.take (k+1)))=0):=hid (by
     rw[fW.out,iW.out,qf3 _ _ HE.out];show(if qao bef s=0 then qaj [] else qao bef s)=0
     rw[if_pos hc];rfl)
    have Ae:=hid (kE.out.mono (R':=fun e w'=>(∃z m:NV,e = .returned (.tuple #[.agg #[.bool z.b,.slice z.p z.k z.c,.slice z.q z.j z.d],.int .i64 0])∧qau w' (.agg #[.bool z.b,.slice z.p z.k z.c,.slice z.q z.j z.d]) (qbc s.2.data.toList)∧qeo w' gs #[.bool m.b,.slice m.p m.k m.c,.slice m.q m.j m.d] 87∧qau w' (.agg #[.bool m.b,.slice m.p m.k m.c,.slice m.q m.j m.d]) (sq+qbc s.2.data.toList))∧qeo w' gb #[.string s.1] 9∧Chg gb gs (wr.alloc (.cells #[.string s.1,.string s.2] 58)) w') (fun e w' h=>by
     unfold qvn at h;rw[if_pos hc] at h
     exact h))
    have iU:((l.take k).map fun s=>qbc s.2.data.toList)++[qbc s.2.data.toList]=(l.take (k+1)).map fun s=>qbc s.2.data.toList:=by
     rw[fW.out,List.map_append];rfl
    have xN:=hid iU;have iG:((l.take k).map fun s=>qbc s.2.data.toList).length=k:=by rw[List.length_map,List.length_take];omega
    clear kE HE hc iU;generalize qbc s.2.data.toList=q at *;generalize ((l.take k).map fun s=>qbc s.2.data.toList)=qs at *;go_wp2_with fail;refine Ae.out.mono ?_;rintro e w1 ⟨⟨z,m',rfl,hz,kM,hm'⟩,hbb,nI⟩;have gI:=dH.out.chg nI Qk.out.1 Qk.out.2 BB1.out BS1.out (qtm _) (qxj _);have iE:=jV.out.trans nI;have aD:Below w1.heap.size w1 (w1.alloc (.cells #[.bool z.b,.slice z.p z.k z.c,.slice z.q z.j z.d] 87)):=qad _ _;have bP:Below (w1.alloc (.cells #[.bool z.b,.slice z.p z.k z.c,.slice z.q z.j z.d] 87)).heap.size (w1.alloc (.cells #[.bool z.b,.slice z.p z.k z.c,.slice z.q z.j z.d] 87)) ((w1.alloc (.cells #[.bool z.b,.slice z.p z.k z.c,.slice z.q z.j z.d] 87)).alloc (.cells #[.bool z.b,.slice z.p z.k z.c,.slice z.q z.j z.d] 87)):=qad _ _;have rU:=aD.trans (bP.mono (by simp));obtain⟨y0,y1,y2⟩:=(qgg w1 z).cells.1;obtain⟨cur,eH,bU,cG,bK⟩:=(gI.later rU).push (by rw[iG];exact cT) (hz.later rU);have gO:=heap_alloc_new (w1.alloc (.cells #[.bool z.b,.slice z.p z.k z.c,.slice z.q z.j z.d] 87)) (.cells #[.bool z.b,.slice z.p z.k z.c,.slice z.q z.j z.d] 87);rw[qab] at gO;have hrowg:=gI.lt;have Ql:min gb gs≤w1.heap.size:=by have:=iE.1.size;omega
    have Bv:=iE.below Ql rU;rw[iG] at bU cG bK;simp only[List.append_assoc,List.cons_append,List.nil_append] at cG bK;have nJ:∀kk,kk≠w.heap.size→(((w1.alloc (.cells #[.bool z.b,.slice z.p z.k z.c,.slice z.q z.j z.d] 87)).alloc (.cells #[.bool z.b,.slice z.p z.k z.c,.slice z.q z.j z.d] 87)).setRow w.heap.size (List.take (k*3) cur.toList ++ .bool z.b :: .slice z.p z.k z.c :: .slice z.q z.j z.d::List.drop (k*3+3) cur.toList).toArray).heap[kk]? = ((w1.alloc (.cells #[.bool z.b,.slice z.p z.k z.c,.slice z.q z.j z.d] 87)).alloc (.cells #[.bool z.b,.slice z.p z.k z.c,.slice z.q z.j z.d] 87)).heap[kk]? := fun kk Ng=>setRow_other _ _ _ _ Ng;have BB4:=hid (q1z nJ (hbb.later rU) (by omega));have BS4:=hid (q1z nJ (kM.later rU) (by omega));have HM4:=hid ((hm'.later rU).setRow eH (zao (gI.later rU) eH) (List.take (k*3) cur.toList ++ .bool z.b :: .slice z.p z.k z.c :: .slice z.q z.j z.d::List.drop (k*3+3) cur.toList).toArray);have Je:=hid (q7v Bv (bK w.heap.size (qac _)) nJ (by omega));have bY:=hid cG;have kT:=hid eH;have kA:=hid gO;have dJ:=hid bU;clear aD bP rU eH bU cG bK gO iG hz kM hm' hbb nI gI iE Bv nJ x0 x1 eY bO Ae;go_wp2_with (at_builtin;refine qbw _ rfl _ _ 63 rfl 87 i0 3 Tryz.underlying63 HI.out eE w.heap.size k l.length cur rfl kT.out ⟨w1.heap.size+1,0,none⟩ 1 1 [.bool z.b,.slice z.p z.k z.c,.slice z.q z.j z.d] rfl rfl (World.news_of_block kA.out) ?mK (by omega) dJ.out ?_)
    case mK=>
     intro u hu;simp only[List.mem_cons,List.not_mem_nil,or_false] at hu;rcases hu with rfl|rfl|rfl<;>rfl
    clear y0 y1 y2;go_wp2_with fail;go_roundw
    case rel=>exact⟨k+1,cT,by go_num,rfl,hid (by rw[←xN.out];exact bY.out),gN,Je,hid (by rw[fW.out,Ld.out];exact BB4.out),m',hid ⟨BS4.out,by rw[fW.out,HQN.out];exact HM4.out⟩⟩
    case measure=>simp[intOf];omega
   ·have Ae:=hid (kE.out.mono (R':=fun e w'=>e = .returned (.tuple #[.agg #[.bool false,.slice none 0 0,.slice none 0 0],.int .i64 (qao bef s:Nat)])∧Chg gb gs (wr.alloc (.cells #[.string s.1,.string s.2] 58)) w') (fun e w' h=>by
     unfold qvn at h;rw[if_neg hc] at h
     exact⟨h.1,h.2.2⟩))
    have HF:Hid (qaj (qa4 b0 l)=qao bef s):=hid (by
     obtain⟨d,hd⟩:=HALL.out;rw[hd,fW.out,qfw,iW.out,List.append_assoc,qf3 _ _ HE.out];show(if qao bef s=0 then _ else qao bef s)=_
     rw[if_neg hc])
    clear kE HE;generalize qao bef s=ck at *;have lV:((ck:Int)==0)=false:=qam (by omega);have eX:=hid hc;clear hc;go_wp2_with fail;refine Ae.out.mono ?_;rintro e w1 ⟨rfl,nI⟩;have iE:=jV.out.trans nI;have Bv:=hid (iE.below (by have:=iE.1.size;omega) ((qaa w1.heap.size w1).alloc (qac _) (.cells #[.bool false,.slice none 0 0,.slice none 0 0] 87)));clear nI iE x0 x1 eY bO Ae;go_wp2_with fail;go_ret2;exact qzh HF.out eX.out Bv.out
  ·obtain rfl:k=l.length:=by omega
   have hE:=HE.out;have hN:=HN.out;have hM:=HM.out;rw[List.take_length] at hE hN hM;have HE':=hid hE;have HN':=hid hN;have HM':=hid hM;clear hE hN hM HE HN HM;go_wp2_with fail;go_ret2;exact qvo HE'.out HN'.out HM'.out HC.out
def qbe(l:List (BA × BA)):Nat:=
 if l.length=0 then 2 else if 64<l.length then 5 else if qaj (qa4 ⟨#[]⟩ l)≠0 then qaj (qa4 ⟨#[]⟩ l) else if qg0 l=1 then 0 else 12
def qcu(s:BA × BA):Rat:=qbc s.2.data.toList
def qcv(l:List (BA × BA))(w:World)(e:Ending)(w':World):Prop:=
 (if qbe l=0 then ∃g,w.heap.size≤g∧e = .returned (.tuple #[.slice (some ⟨g,0,none⟩) l.length l.length,.int .i64 0])∧qjv w' g l.length (l.map qcu)
  else e = .returned (.tuple #[.slice none 0 0,.int .i64 (qbe l:Nat)]))∧Below w.heap.size w w'
theorem qgt{l:List (BA × BA)}{w w':World}(k:Nat){z:Int}(h:qbe l=k)(hk:k≠0)(hz:z=k)(hb:Below w.heap.size w w'):qcv l w (.returned (.tuple #[.slice none 0 0,.int .i64 z])) w':=by
 unfold qcv;rw[h,if_neg hk,hz];exact⟨rfl,hb⟩
theorem q7w{a b:Rat}:qfe a b=0↔a=b:=by
 rcases qyy a b with⟨h1,h2⟩|⟨h1,h2⟩|⟨h1,h2⟩
 ·constructor
  ·intro h;omega
  ·rintro rfl;exact absurd h2 Rat.lt_irrefl
 ·exact⟨fun _=>h2,fun _=>h1⟩
 ·constructor
  ·intro h;omega
  ·rintro rfl;exact absurd h2 Rat.lt_irrefl
theorem qkb(v:Value)(l:List (BA × BA))(w:World)(hg:GW w)(hv:qc9 w v l)(hs:∀s ∈ l,s.2.size≤1073741824):
  Calls Tryz.prog 25 #[v] w (qcv l w):=by
 obtain⟨p,c,rfl,bO,bG,aA⟩:=hv;unfold maxLen at bG;by_cases h0:l.length=0
 ·have HF:Hid (qcv l w (.returned (.tuple #[.slice none 0 0,.int .i64 2])) w):=hid (qgt 2 (by unfold qbe;rw[if_pos h0]) (by omega) rfl (qaa _ _))
  have hb:((l.length:Int)==0)=true:=by rw[h0];rfl
  clear aA hs hg;go_enter Tryz.func25,Tryz.ntmps25;go_wp2_with fail;go_ret2;exact HF.out
 have hb:((l.length:Int)==0)=false:=qam (by omega);by_cases h1:64<l.length
 ·have HF:Hid (qcv l w (.returned (.tuple #[.slice none 0 0,.int .i64 5])) w):=hid (qgt 5 (by unfold qbe;rw[if_neg h0,if_pos h1]) (by omega) rfl (qaa _ _))
  clear aA hs hg;go_enter Tryz.func25,Tryz.ntmps25;go_wp2_with fail;go_ret2;exact HF.out
 obtain⟨b,o,rfl,aB⟩:=aA.resolve_left h0;have oK:Below w.heap.size w (w.alloc (.cells #[.string ⟨#[]⟩] 9)):=qad _ _;have aD:Below w.heap.size w ((w.alloc (.cells #[.string ⟨#[]⟩] 9)).alloc (.cells #[.bool false,.slice none 0 0,.slice none 0 0] 87)):=oK.alloc (by simp) _;have hblt:b<w.heap.size:=qae w _ (aB 0 (l[0]) (qap (by omega))).1;have b1:=qrw w #[.string ⟨#[]⟩] 9;have b2:=qrw (w.alloc (.cells #[.string ⟨#[]⟩] 9)) #[.bool false,.slice none 0 0,.slice none 0 0] 87;rw[qab] at b2;have HE:=hid (qzi w.heap.size (w.heap.size+1) ⟨#[]⟩ ⟨false,none,0,0,none,0,0⟩ l b o c ((w.alloc (.cells #[.string ⟨#[]⟩] 9)).alloc (.cells #[.bool false,.slice none 0 0,.slice none 0 0] 87)) (hg.later aD) (aB.later aD) (by omega) hs (b1.later (qad _ _)) b2 (by omega) (qmy _) (by omega) (by omega));have cX:=hid aD;have Dq:min w.heap.size (w.heap.size+1)=w.heap.size:=Nat.min_eq_left (by omega);have xX:Hid (∀w',Chg w.heap.size (w.heap.size+1) ((w.alloc (.cells #[.string ⟨#[]⟩] 9)).alloc (.cells #[.bool false,.slice none 0 0,.slice none 0 0] 87)) w'→Below w.heap.size w w'):=hid fun w' h=>cX.out.trans (by have:=h.1;rwa [Dq] at this);clear aB hs hg aA aD oK b1 b2 hblt Dq;by_cases he:qaj (qa4 ⟨#[]⟩ l)=0
 ·have gN:=hid (HE.out.mono (R':=fun e w'=>((∃g,w.heap.size≤g∧e = .returned (.tuple #[.slice (some ⟨g,0,none⟩) l.length l.length,.int .i64 0])∧qjv w' g l.length (l.map qcu))∧∃m:NV,qeo w' (w.heap.size+1) #[.bool m.b,.slice m.p m.k m.c,.slice m.q m.j m.d] 87∧qau w' (.agg #[.bool m.b,.slice m.p m.k m.c,.slice m.q m.j m.d]) (qg0 l))∧Below w.heap.size w w') (fun e w' h=>by
   unfold qo8 at h;rw[if_pos he] at h;obtain⟨⟨⟨g,h1,h2,h3⟩,hm⟩,hc⟩:=h
   exact⟨⟨⟨g,by simp at h1;omega,h2,h3⟩,hm⟩,xX.out _ hc⟩))
  have bq:=(q1y ⟨#[]⟩ l he).rs;have b1:rs (1:Rat)≤2:=(qe2 1 (by omega) (by omega)).rs;have HCQ:Hid (∀W vs vw,qau W vs (qg0 l)→qau W vw ((1:Int):Rat)→Calls Tryz.prog 51 #[vs,vw] W fun e w'=>e = .returned (.int .i64 (qfe (qg0 l) 1))∧Below W.heap.size W w'):=hid fun W vs vw h1 h2=>qdq vs vw _ _ W h1 h2 (by unfold Cap;omega)
  have mE:Hid (∀w' g,qg0 l=1→w.heap.size≤g→qjv w' g l.length (l.map qcu)→Below w.heap.size w w'→qcv l w (.returned (.tuple #[.slice (some ⟨g,0,none⟩) l.length l.length,.int .i64 0])) w'):=hid fun w' g hq hg hn hb=>by
   have hz:qbe l=0:=by unfold qbe;rw[if_neg h0,if_neg h1,if_neg (by omega),if_pos hq]
   unfold qcv;rw[if_pos hz];exact⟨⟨g,hg,rfl,hn⟩,hb⟩
  have mW:Hid (∀w',qg0 l≠1→Below w.heap.size w w'→qcv l w (.returned (.tuple #[.slice none 0 0,.int .i64 12])) w'):=hid fun w' hq hb=>qgt 12 (by unfold qbe;rw[if_neg h0,if_neg h1,if_neg (by omega),if_neg hq]) (by omega) rfl hb;have xM:=hid (fun W=>qe0 1 W (by omega) (by omega));have hcz:=@q7w (qg0 l) 1;have HCZ:=hid hcz;clear HE he bq b1 hcz;by_cases hq:qfe (qg0 l) 1=0
  ·have HQ:=hid (HCZ.out.1 hq)
   have dS:(qfe (qg0 l) 1==0)=true:=beq_iff_eq.2 hq;clear hq HCZ mW;generalize qfe (qg0 l) 1=cr at *;generalize qg0 l=sq at *;generalize l.map qcu=qs at *;go_enter Tryz.func25,Tryz.ntmps25;go_wp2_with fail;refine gN.out.mono ?_;rintro e w2 ⟨⟨⟨g,hgg,rfl,hn⟩,m,hm,hv⟩,mG⟩;obtain⟨⟨m0,m1,m2⟩,_⟩:=hm.one.cells;have c0:=hm.one.cells.1;have eV:=hid hm;have gI:=hid hn;have cO:=hid hv;have aK:=hid mG;clear hm hn hv mG gN;go_wp2_with fail
   go_region_held3 (fun W=>W.cell? ⟨w.heap.size+1,0,none⟩=some (.bool m.b)∧W.cell? ⟨w.heap.size+1,1,none⟩=some (.slice m.p m.k m.c)∧W.cell? ⟨w.heap.size+1,2,none⟩=some (.slice m.q m.j m.d)) (first|with_reducible exact c1|with_reducible exact c2|exact c0)
    (first
     | (go_at_call 53;refine(xM.out _).mono ?_;rintro e wA ⟨⟨v1,rfl,hn⟩,hb⟩;have mF:=hid hn;have dI:Hid (Below w2.heap.size w2 wA):=hid ((qaa _ _).drew.trans hb);have c1:=((eV.out.later dI.out).one.cells).1;clear hn hb)
     | (go_at_call 51;refine(HCQ.out _ _ _ (cO.out.later dI.out) mF.out).mono ?_;rintro e wB ⟨rfl,hb⟩;have aW:=hid (dI.out.trans (hb.mono dI.out.size));have c2:=((eV.out.later aW.out).one.cells).1;clear hb))
   all_goals
    have jA:=hid (aK.out.trans (aW.out.mono aK.out.size));have HNF:=hid (gI.out.later aW.out);go_wp2_with fail;go_ret2;exact mE.out _ _ HQ.out hgg HNF.out jA.out
  ·have HQ:Hid (qg0 l≠1):=hid (fun h=>hq (HCZ.out.2 h))
   have dS:(qfe (qg0 l) 1==0)=false:=qam hq;clear hq HCZ mE;generalize qfe (qg0 l) 1=cr at *;generalize qg0 l=sq at *;generalize l.map qcu=qs at *;go_enter Tryz.func25,Tryz.ntmps25;go_wp2_with fail;refine gN.out.mono ?_;rintro e w2 ⟨⟨⟨g,hgg,rfl,hn⟩,m,hm,hv⟩,mG⟩;obtain⟨⟨m0,m1,m2⟩,_⟩:=hm.one.cells;have c0:=hm.one.cells.1;have eV:=hid hm;have cO:=hid hv;have aK:=hid mG;clear hm hn hv mG gN;go_wp2_with fail
   go_region_held3 (fun W=>W.cell? ⟨w.heap.size+1,0,none⟩=some (.bool m.b)∧W.cell? ⟨w.heap.size+1,1,none⟩=some (.slice m.p m.k m.c)∧W.cell? ⟨w.heap.size+1,2,none⟩=some (.slice m.q m.j m.d)) (first|with_reducible exact c1|with_reducible exact c2|exact c0)
    (first
     | (go_at_call 53;refine(xM.out _).mono ?_;rintro e wA ⟨⟨v1,rfl,hn⟩,hb⟩;have mF:=hid hn;have dI:Hid (Below w2.heap.size w2 wA):=hid ((qaa _ _).drew.trans hb);have c1:=((eV.out.later dI.out).one.cells).1;clear hn hb)
     | (go_at_call 51;refine(HCQ.out _ _ _ (cO.out.later dI.out) mF.out).mono ?_;rintro e wB ⟨rfl,hb⟩;have aW:=hid (dI.out.trans (hb.mono dI.out.size));have c2:=((eV.out.later aW.out).one.cells).1;clear hb))
   all_goals
    have jA:=hid (aK.out.trans (aW.out.mono aK.out.size));go_wp2_with fail;go_ret2;exact mW.out _ HQ.out jA.out
 ·have gN:=hid (HE.out.mono (R':=fun e w'=>e = .returned (.tuple #[.slice none 0 0,.int .i64 (qaj (qa4 ⟨#[]⟩ l):Nat)])∧Below w.heap.size w w') (fun e w' h=>by
   unfold qo8 at h;rw[if_neg he] at h
   exact⟨h.1,xX.out _ h.2⟩))
  have HG:Hid (∀w',Below w.heap.size w w'→qcv l w (.returned (.tuple #[.slice none 0 0,.int .i64 (qaj (qa4 ⟨#[]⟩ l):Nat)])) w'):=hid fun w' hb=>qgt _ (by unfold qbe;rw[if_neg h0,if_neg h1,if_pos he]) he rfl hb;have dS:((qaj (qa4 ⟨#[]⟩ l):Int)==0)=false:=qam (by omega);clear HE he;generalize qaj (qa4 ⟨#[]⟩ l)=ck at *;go_enter Tryz.func25,Tryz.ntmps25;go_wp2_with fail;refine gN.out.mono ?_;rintro e w2 ⟨rfl,mG⟩;have aK:=hid mG;clear mG gN;go_wp2_with fail;go_ret2;exact HG.out _ aK.out
end Go.Proofs.YtlkdlffhmakbgaaGreatDoor
