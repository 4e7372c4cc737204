/- readShare. -/
import Derived.Test.YthjagoogkkgelaaGreatDoorMMinMax
import Derived.WalkLawsBesides
import Derived.OneCell
import Derived.Test.YthjagoogkkgelaaGreatDoorMRules
import Derived.MapKept
import Derived.Maps.Own
import Derived.Sort.KeysCollected
import Derived.Test.YthjagoogkkgelaaGreatDoorMNv
set_option linter.all false
namespace Go.Proofs.YthjagoogkkgelaaGreatDoor
open Go.RowKit
set_option maxRecDepth 100000
set_option maxHeartbeats 8000000
def q6g(a b:ByteArray):Bool:=Op.bytesLess a.toList b.toList||a.toList==b.toList
def qaz(before:ByteArray)(s:ByteArray × ByteArray):Nat:=
 if qhw s.1.data.toList=false then 8 else if q6g s.1 before=true then 11 else if qaa s.2.data.toList≠0 then qaa s.2.data.toList else if(qav s.2.data.toList).num≤0 then 12 else 0
def qgv(before:ByteArray)(s:ByteArray × ByteArray)(w:World)(e:Ending)(w':World):Prop:=
 (if qaz before s=0 then ∃z:NV,e = .returned (.tuple #[.agg #[.bool z.b,.slice z.p z.k z.c,.slice z.q z.j z.d],.int .i64 0])∧qaj w' (.agg #[.bool z.b,.slice z.p z.k z.c,.slice z.q z.j z.d]) (qav s.2.data.toList)
  else e = .returned (.tuple #[.agg #[.bool false,.slice none 0 0,.slice none 0 0],.int .i64 (qaz before s:Nat)]))∧Below w.heap.size w w'
theorem qih{before:ByteArray}{s:ByteArray × ByteArray}{w w':World}(k:Nat){z:Int}(h:qaz before s=k)(hk:k≠0)(hz:z=k)(hb:Below w.heap.size w w'):qgv before s w (.returned (.tuple #[.agg #[.bool false,.slice none 0 0,.slice none 0 0],.int .i64 z])) w':=by
 unfold qgv;rw[h,if_neg hk,hz];exact⟨rfl,hb⟩
def qs3(w:World)(s:ByteArray × ByteArray)(W:World):Prop:=
 Below w.heap.size w W∧Own W w.heap.size 2 (qml (.string s.1) (.string s.2))∧One W (w.heap.size+1) ⟨false,none,0,0,none,0,0⟩
theorem qs3.later{w W W':World}{s:ByteArray × ByteArray}(h:qs3 w s W)(hb:Below W.heap.size W W'):qs3 w s W':=
 ⟨h.1.trans (hb.mono h.1.size),h.2.1.later (hb.mono h.2.1.1),h.2.2.later (hb.mono h.2.2.1)⟩
theorem qyb(w:World)(s:ByteArray × ByteArray)(t:TypeId):qs3 w s ((w.alloc (.cells #[.string s.1,.string s.2] t)).alloc (.cells #[.bool false,.slice none 0 0,.slice none 0 0] 80)):=by
 have h1:Below w.heap.size w (w.alloc (.cells #[.string s.1,.string s.2] t)):=(Below.refl _ _).alloc (Nat.le_refl _) _;have p1:=qbl w t (.string s.1) (.string s.2);have p2:=qq5 (w.alloc (.cells #[.string s.1,.string s.2] t)) false (.slice none 0 0) (.slice none 0 0);rw[World.size_alloc] at p2;exact⟨h1.alloc (by rw[World.size_alloc];omega) _,p1.later ((Below.refl _ _).alloc (by rw[World.size_alloc];omega) _),p2⟩
theorem qs3.cells{w W:World}{s:ByteArray × ByteArray}(h:qs3 w s W):(W.cell? ⟨w.heap.size,0,none⟩=some (.string s.1)∧W.cell? ⟨w.heap.size,1,none⟩=some (.string s.2))∧
  (W.cell? ⟨w.heap.size+1,0,none⟩=some (.bool false)∧W.cell? ⟨w.heap.size+1,1,none⟩=some (.slice none 0 0)∧W.cell? ⟨w.heap.size+1,2,none⟩=some (.slice none 0 0))∧
  W.frozen? ⟨w.heap.size+1,0,none⟩=false∧W.frozen? ⟨w.heap.size+1,1,none⟩=false∧W.frozen? ⟨w.heap.size+1,2,none⟩=false:=
 ⟨qag h.2.1,h.2.2.cells.1,h.2.2.cells.2⟩
theorem q72{q:Rat}:sgn q≤0↔q.num≤0:=by
 unfold sgn;split
 ·constructor<;>intro<;>omega
 ·split<;>constructor<;>intro<;>omega
theorem qsd{w W:World}{s:ByteArray × ByteArray}(h:qs3 w s W):Below w.heap.size w (((W.setCell ⟨w.heap.size+1,0,none⟩ (.bool false)).setCell ⟨w.heap.size+1,1,none⟩ (.slice none 0 0)).setCell ⟨w.heap.size+1,2,none⟩ (.slice none 0 0)):=
 ((h.1.setCell (p:=⟨w.heap.size+1,0,none⟩) (by show w.heap.size≤w.heap.size+1;omega) _).setCell (p:=⟨w.heap.size+1,1,none⟩) (by show w.heap.size≤w.heap.size+1;omega) _).setCell (p:=⟨w.heap.size+1,2,none⟩) (by show w.heap.size≤w.heap.size+1;omega) _
theorem qse(before:ByteArray)(s:ByteArray × ByteArray)(w:World)(hg:GW w)(hs:s.2.size≤1073741824):
  Calls Tryz.prog 163 #[.agg #[.string s.1,.string s.2],.string before] w (qgv before s w):=by
 have HW0:=hid (qyb w s 69);obtain⟨⟨s0,s1⟩,⟨r0,r1,r2⟩,g0,g1,g2⟩:=HW0.out.cells;have HNA:Hid (Calls Tryz.prog 31 #[.string s.1] ((w.alloc (.cells #[.string s.1,.string s.2] 69)).alloc (.cells #[.bool false,.slice none 0 0,.slice none 0 0] 80)) fun e w'=>e = .returned (.bool (qhw s.1.data.toList))∧qs3 w s w'):=hid ((qj4 s.1 _).mono fun e w' ⟨h1,h2⟩=>⟨h1,HW0.out.later h2⟩);by_cases hn:qhw s.1.data.toList=false
 ·have HFIN:Hid (∀w',Below w.heap.size w w'→qgv before s w (.returned (.tuple #[.agg #[.bool false,.slice none 0 0,.slice none 0 0],.int .i64 8])) w'):=hid fun w' hb=>qih 8 (by unfold qaz;rw[if_pos hn]) (by omega) rfl hb
  rw[hn] at HNA;clear hg hs hn;go_enter Tryz.func163,Tryz.ntmps163;go_wp2_with fail;clear r0 r1 r2 g0 g1 g2 s0 s1;refine HNA.out.mono ?_;rintro e w1 ⟨rfl,ht⟩;obtain⟨⟨s0,s1⟩,⟨r0,r1,r2⟩,g0,g1,g2⟩:=qs3.cells ht;have HB:=hid (qsd ht);clear ht;go_wp2_with fail;refine bodyPost_ret (v := .tuple #[.agg #[.bool false,.slice none 0 0,.slice none 0 0],.int .i64 8]) ?_ rfl ?_
  ·simp[results,Tryz.results163,go_sem,r0,r1,r2]
  ·exact HFIN.out _ HB.out
 ·have hn':qhw s.1.data.toList=true:=by simpa using hn
  rw[hn'] at HNA;by_cases hle:q6g s.1 before=true
  ·have HFIN:Hid (∀w',Below w.heap.size w w'→qgv before s w (.returned (.tuple #[.agg #[.bool false,.slice none 0 0,.slice none 0 0],.int .i64 11])) w'):=hid fun w' hb=>qih 11 (by unfold qaz;rw[if_neg hn,if_pos hle]) (by omega) rfl hb
   have hAB:Op.bytesLess s.1.toList before.toList=true∨(Op.bytesLess s.1.toList before.toList=false∧(s.1.toList==before.toList)=true):=by
    unfold q6g at hle;cases h:Op.bytesLess s.1.toList before.toList
    ·right;rw[h] at hle;exact⟨rfl,by simpa using hle⟩
    ·exact .inl rfl
   clear hg hs hn hn' hle;rcases hAB with hA|⟨hA,hB⟩
   all_goals
    go_enter Tryz.func163,Tryz.ntmps163;go_wp2_with fail;clear r0 r1 r2 g0 g1 g2 s0 s1;refine HNA.out.mono ?_;rintro e w1 ⟨rfl,ht⟩;obtain⟨⟨s0,s1⟩,⟨r0,r1,r2⟩,g0,g1,g2⟩:=qs3.cells ht;have HB:=hid (qsd ht);clear ht;go_wp2_with fail;refine bodyPost_ret (v := .tuple #[.agg #[.bool false,.slice none 0 0,.slice none 0 0],.int .i64 11]) ?_ rfl ?_
    ·simp[results,Tryz.results163,go_sem,r0,r1,r2]
    ·exact HFIN.out _ HB.out
  ·obtain⟨hA,hB⟩:Op.bytesLess s.1.toList before.toList=false∧(s.1.toList==before.toList)=false:=by
    unfold q6g at hle
    simpa [Bool.or_eq_true] using hle
   by_cases hc:qaa s.2.data.toList=0
   ·have HRD:Hid (∀W,qs3 w s W→Calls Tryz.prog 57 #[.string s.2] W fun e w'=>(∃z:NV,e = .returned (.tuple #[.agg #[.bool z.b,.slice z.p z.k z.c,.slice z.q z.j z.d],.int .i64 0])∧qaj w' (.agg #[.bool z.b,.slice z.p z.k z.c,.slice z.q z.j z.d]) (qav s.2.data.toList))∧qs3 w s w'):=hid fun W hW=>(qm4 s.2 W (hg.later hW.1) hs hc).mono fun e w' ⟨⟨v,he,hv⟩,hb⟩=>by
     obtain⟨z,rfl⟩:=hv.nv;exact⟨⟨z,he,hv⟩,hW.later hb⟩
    by_cases hp:(qav s.2.data.toList).num≤0
    ·have HFIN:Hid (∀w',Below w.heap.size w w'→qgv before s w (.returned (.tuple #[.agg #[.bool false,.slice none 0 0,.slice none 0 0],.int .i64 12])) w'):=hid fun w' hb=>qih 12 (by unfold qaz;rw[if_neg hn,if_neg hle,if_neg (by omega),if_pos hp]) (by omega) rfl hb
     have hsg:sgn (qav s.2.data.toList)≤0:=q72.2 hp;clear hg hs hn hn' hle hc hp;have HSG:=hid (fun v W=>qdq v (qav s.2.data.toList) W);generalize sgn (qav s.2.data.toList)=sg at *;go_enter Tryz.func163,Tryz.ntmps163;go_wp2_with fail;clear r0 r1 r2 g0 g1 g2 s0 s1;refine HNA.out.mono ?_;rintro e w1 ⟨rfl,ht⟩;have HT1:=hid ht;obtain⟨⟨s0,s1⟩,⟨r0,r1,r2⟩,g0,g1,g2⟩:=qs3.cells ht;clear ht HNA;go_wp2_with fail;clear r0 r1 r2 g0 g1 g2 s0 s1;refine(HRD.out _ HT1.out).mono ?_;rintro e w2 ⟨⟨z,rfl,hv⟩,ht⟩;have hal:Below w2.heap.size w2 (w2.alloc (.cells #[.bool z.b,.slice z.p z.k z.c,.slice z.q z.j z.d] 80)):=(Below.refl _ _).alloc (Nat.le_refl _) _;have HT2:=hid (ht.later hal);obtain⟨q0,q1,q2⟩:=(qgu w2 z).cells.1;have HS2:=hid (HSG.out _ _ (hv.later hal));clear ht hv hal HRD HSG;go_wp2_with fail;refine HS2.out.mono ?_;rintro e w3 ⟨rfl,hb⟩;have HT3:=hid (HT2.out.later hb);obtain⟨⟨s0,s1⟩,⟨r0,r1,r2⟩,g0,g1,g2⟩:=HT3.out.cells;have HB:=hid (qsd HT3.out);clear hb q0 q1 q2 HS2;go_wp2_with fail;refine bodyPost_ret (v := .tuple #[.agg #[.bool false,.slice none 0 0,.slice none 0 0],.int .i64 12]) ?_ rfl ?_
     ·simp[results,Tryz.results163,go_sem,r0,r1,r2]
     ·exact HFIN.out _ HB.out
    ·have HFIN:Hid (∀w' (z:NV),qaj w' (.agg #[.bool z.b,.slice z.p z.k z.c,.slice z.q z.j z.d]) (qav s.2.data.toList)→Below w.heap.size w w'→qgv before s w (.returned (.tuple #[.agg #[.bool z.b,.slice z.p z.k z.c,.slice z.q z.j z.d],.int .i64 0])) w'):=hid fun w' z hv hb=>by
      have h0:qaz before s=0:=by unfold qaz;rw[if_neg hn,if_neg hle,if_neg (by omega),if_neg hp]
      unfold qgv;rw[if_pos h0];exact⟨⟨z,rfl,hv⟩,hb⟩
     have hsg:¬sgn (qav s.2.data.toList)≤0:=fun h=>hp (q72.1 h);clear hg hs hn hn' hle hc hp;have HSG:=hid (fun v W=>qdq v (qav s.2.data.toList) W);generalize sgn (qav s.2.data.toList)=sg at *;go_enter Tryz.func163,Tryz.ntmps163;go_wp2_with fail;clear r0 r1 r2 g0 g1 g2 s0 s1;refine HNA.out.mono ?_;rintro e w1 ⟨rfl,ht⟩;have HT1:=hid ht;obtain⟨⟨s0,s1⟩,⟨r0,r1,r2⟩,g0,g1,g2⟩:=qs3.cells ht;clear ht HNA;go_wp2_with fail;clear r0 r1 r2 g0 g1 g2 s0 s1;refine(HRD.out _ HT1.out).mono ?_;rintro e w2 ⟨⟨z,rfl,hv⟩,ht⟩;have hal:Below w2.heap.size w2 (w2.alloc (.cells #[.bool z.b,.slice z.p z.k z.c,.slice z.q z.j z.d] 80)):=(Below.refl _ _).alloc (Nat.le_refl _) _;have HT2:=hid (ht.later hal);have HO2:=hid (qgu w2 z);obtain⟨q0,q1,q2⟩:=HO2.out.cells.1;have HS2:=hid (HSG.out _ _ (hv.later hal));have HV2:=hid (hv.later hal);clear ht hv hal HRD HSG;go_wp2_with fail;clear q0 q1 q2;refine HS2.out.mono ?_;rintro e w3 ⟨rfl,hb⟩;have HT3:=hid (HT2.out.later hb);have HV3:=hid (HV2.out.later hb);obtain⟨⟨s0,s1⟩,⟨r0,r1,r2⟩,g0,g1,g2⟩:=HT3.out.cells;obtain⟨q0,q1,q2⟩:=(One.cells (HO2.out.later (hb.mono HO2.out.1))).1;have hput:=HT3.out.2.2.put (x:=z);have HNV:=hid (hput.2.1 _ _ HV3.out);have HB:=hid (hput.2.2.1 _ _ (by omega) HT3.out.1);clear hb HS2 hput;go_wp2_with fail;refine bodyPost_ret (v := .tuple #[.agg #[.bool z.b,.slice z.p z.k z.c,.slice z.q z.j z.d],.int .i64 0]) ?_ rfl ?_
     ·simp[results,Tryz.results163,go_sem,r0,r1,r2]
     ·exact HFIN.out _ _ HNV.out HB.out
   ·have HRD:Hid (∀W,qs3 w s W→Calls Tryz.prog 57 #[.string s.2] W fun e w'=>e = .returned (.tuple #[.agg #[.bool false,.slice none 0 0,.slice none 0 0],.int .i64 (qaa s.2.data.toList:Nat)])∧qs3 w s w'):=hid fun W hW=>(qpi s.2 W (hg.later hW.1) hs hc).mono fun e w' ⟨h1,hb⟩=>⟨h1,hW.later hb⟩
    have HFIN:Hid (∀w',Below w.heap.size w w'→qgv before s w (.returned (.tuple #[.agg #[.bool false,.slice none 0 0,.slice none 0 0],.int .i64 (qaa s.2.data.toList:Nat)])) w'):=hid fun w' hb=>qih _ (by unfold qaz;rw[if_neg hn,if_neg hle,if_pos hc]) hc rfl hb;have hb0:((qaa s.2.data.toList:Int)==0)=false:=beq_eq_false_iff_ne.2 (by omega);clear hg hs hn hn' hle hc;generalize qaa s.2.data.toList=ck at *;go_enter Tryz.func163,Tryz.ntmps163;go_wp2_with fail;clear r0 r1 r2 g0 g1 g2 s0 s1;refine HNA.out.mono ?_;rintro e w1 ⟨rfl,ht⟩;have HT1:=hid ht;obtain⟨⟨s0,s1⟩,⟨r0,r1,r2⟩,g0,g1,g2⟩:=qs3.cells ht;clear ht HNA;go_wp2_with fail;clear r0 r1 r2 g0 g1 g2 s0 s1;refine(HRD.out _ HT1.out).mono ?_;rintro e w2 ⟨rfl,ht⟩;have hal:Below w2.heap.size w2 (w2.alloc (.cells #[.bool false,.slice none 0 0,.slice none 0 0] 80)):=(Below.refl _ _).alloc (Nat.le_refl _) _;have HT2:=hid (ht.later hal);obtain⟨⟨s0,s1⟩,⟨r0,r1,r2⟩,g0,g1,g2⟩:=qs3.cells HT2.out;have HB:=hid (qsd HT2.out);clear ht hal HRD;go_wp2_with fail;refine bodyPost_ret (v := .tuple #[.agg #[.bool false,.slice none 0 0,.slice none 0 0],.int .i64 ck]) ?_ rfl ?_
    ·simp[results,Tryz.results163,go_sem,r0,r1,r2]
    ·exact HFIN.out _ HB.out
def qem(W:World)(g:Nat)(cs:Array Value)(t:TypeId):Prop:=W.heap[g]? = some (.cells cs t (0,0))
theorem qem.lt{W:World}{g:Nat}{cs:Array Value}{t:TypeId}(h:qem W g cs t):g<W.heap.size:=lt_of_block h
theorem qem.later{W W':World}{g:Nat}{cs:Array Value}{t:TypeId}(h:qem W g cs t)(hb:Below W.heap.size W W'):qem W' g cs t:=(hb.block g h.lt).trans h
theorem qem.other{W:World}{g g':Nat}{cs:Array Value}{t:TypeId}(h:qem W g cs t)(hne:g≠g')(o:Nat)(v:Value):qem (W.setCell ⟨g',o,none⟩ v) g cs t:=(Below.heap_setCell _ _ _ _ hne).trans h
theorem qem.set{W:World}{g:Nat}{cs:Array Value}{t:TypeId}(h:qem W g cs t)(o:Nat)(v:Value):qem (W.setCell ⟨g,o,none⟩ v) g (cs.setIfInBounds o v) t:=by
 have hlt:=h.lt
 have h':W.heap[g] = .cells cs t (0,0):=by
  have:=h;unfold qem at this
  simpa [Array.getElem?_eq_getElem hlt] using this
 show(W.heap.modify g _)[g]? = _;rw[Array.getElem?_eq_getElem (by simpa using hlt),Array.getElem_modify_self,h'];rfl
theorem qem.own{W:World}{g n:Nat}{cs:Array Value}{t:TypeId}{f:Nat→Value}(h:qem W g cs t)(hf:∀i,i<n→cs[i]? = some (f i)):Own W g n f:=by
 refine⟨h.lt,fun i hi=>⟨?_, ?_⟩⟩
 ·rw[cell_of_row W g i cs t (0,0) h];exact hf i hi
 ·have:=h
  unfold qem at this;simp[World.frozen?,this]
theorem qsf(W:World)(cs:Array Value)(t:TypeId):qem (W.alloc (.cells cs t)) W.heap.size cs t:=heap_alloc_new W _
theorem qem.own1{W:World}{g:Nat}{v:Value}{t:TypeId}(h:qem W g #[v] t):Own W g 1 (fun _=>v):=h.own fun i hi=>by
 match i,hi with
 | 0,_=>rfl
theorem qem.one{W:World}{g:Nat}{x:NV}{t:TypeId}(h:qem W g #[.bool x.b,.slice x.p x.k x.c,.slice x.q x.j x.d] t):One W g x:=h.own fun i hi=>by
 match i,hi with
 | 0,_=>rfl
 | 1,_=>rfl
 | 2,_=>rfl
theorem qem.str{W:World}{g:Nat}{s:ByteArray}{t:TypeId}(h:qem W g #[.string s] t):W.cell? ⟨g,0,none⟩=some (.string s)∧W.frozen? ⟨g,0,none⟩=false:=⟨cell_of_one h,free_of_one h⟩
theorem qem.put3{W:World}{g:Nat}{x z:NV}{t:TypeId}(h:qem W g #[.bool x.b,.slice x.p x.k x.c,.slice x.q x.j x.d] t):qem (((W.setCell ⟨g,0,none⟩ (.bool z.b)).setCell ⟨g,1,none⟩ (.slice z.p z.k z.c)).setCell ⟨g,2,none⟩ (.slice z.q z.j z.d)) g #[.bool z.b,.slice z.p z.k z.c,.slice z.q z.j z.d] t:=
 ((h.set 0 (.bool z.b)).set 1 (.slice z.p z.k z.c)).set 2 (.slice z.q z.j z.d)
theorem qem.other3{W:World}{g g':Nat}{cs:Array Value}{t:TypeId}(h:qem W g cs t)(hne:g≠g')(a b c:Value):qem (((W.setCell ⟨g',0,none⟩ a).setCell ⟨g',1,none⟩ b).setCell ⟨g',2,none⟩ c) g cs t:=
 ((h.other hne _ _).other hne _ _).other hne _ _
def Chg(g1 g2:Nat)(W W':World):Prop:=Below (min g1 g2) W W'∧∀k,k<W.heap.size→k≠g1→k≠g2→W'.heap[k]? = W.heap[k]?
theorem Chg.refl(g1 g2:Nat)(W:World):Chg g1 g2 W W:=⟨Below.refl _ _,fun _ _ _ _=>rfl⟩
theorem Chg.trans{g1 g2:Nat}{a b c:World}(h:Chg g1 g2 a b)(k:Chg g1 g2 b c):Chg g1 g2 a c:=⟨h.1.trans k.1,fun i h0 h1 h2=>(k.2 i (Nat.lt_of_lt_of_le h0 h.1.size) h1 h2).trans (h.2 i h0 h1 h2)⟩
theorem Chg.below{g1 g2:Nat}{a b c:World}(h:Chg g1 g2 a b)(hg:min g1 g2≤b.heap.size)(k:Below b.heap.size b c):Chg g1 g2 a c:=⟨h.1.trans (k.mono hg),fun i h0 h1 h2=>(k.block i (Nat.lt_of_lt_of_le h0 h.1.size)).trans (h.2 i h0 h1 h2)⟩
theorem Chg.set{g1 g2 g:Nat}{a b:World}(h:Chg g1 g2 a b)(hg:g=g1∨g=g2∨a.heap.size≤g)(hm:min g1 g2≤g)(o:Nat)(v:Value):Chg g1 g2 a (b.setCell ⟨g,o,none⟩ v):=
 ⟨h.1.setCell hm v,fun i h0 h1 h2=>(Below.heap_setCell _ _ _ _ (by intro e;subst e;rcases hg with e|e|e<;>omega)).trans (h.2 i h0 h1 h2)⟩
theorem ql0{W:World}{g b o:Nat}{cs:Array Value}{t:TypeId}{k:IntKind}{z:Int}(h:qem W g cs t)(hc:∀c ∈ cs.toList,∀k z,c ≠ .int k z)(hcell:W.cell? ⟨b,o,none⟩=some (.int k z)):b≠g:=by
 rintro rfl;rw[cell_of_row W b o cs t (0,0) h] at hcell;rw[←Array.getElem?_toList] at hcell;exact hc _ (List.mem_of_getElem? hcell) _ _ rfl
theorem qaq.chg{g1 g2:Nat}{W W':World}{v:Value}{n:Nat}{c1 c2:Array Value}{t1 t2:TypeId}(h:qaq W v n)(hc:Chg g1 g2 W W')(b1:qem W g1 c1 t1)(b2:qem W g2 c2 t2)(n1:∀c ∈ c1.toList,∀k z,c ≠ .int k z)(n2:∀c ∈ c2.toList,∀k z,c ≠ .int k z):qaq W' v n:=by
 obtain⟨h1,q,c,h2,h3,h4,h5⟩:=h;refine⟨h1,q,c,h2,h3,h4, ?_⟩;rcases h5 with h5|⟨b,o,h6,h7⟩
 ·exact .inl h5
 ·refine .inr ⟨b,o,h6,fun i hi => ?_⟩
  have hcell:=h7 i hi;have hb:=World.block_lt_of_cell? W _ hcell;have e:=hc.2 b hb (ql0 b1 n1 hcell) (ql0 b2 n2 hcell);rw[World.cell?_of_block (a:=⟨b,o+i,none⟩) e];exact hcell
theorem qaj.chg{g1 g2:Nat}{W W':World}{v:Value}{q:Rat}{c1 c2:Array Value}{t1 t2:TypeId}(h:qaj W v q)(hc:Chg g1 g2 W W')(b1:qem W g1 c1 t1)(b2:qem W g2 c2 t2)(n1:∀c ∈ c1.toList,∀k z,c ≠ .int k z)(n2:∀c ∈ c2.toList,∀k z,c ≠ .int k z):qaj W' v q:=by
 obtain⟨t,b,e,h1,h2⟩:=h;exact⟨t,b,e,h1.chg hc b1 b2 n1 n2,h2.chg hc b1 b2 n1 n2⟩
theorem qt4(s:ByteArray):∀c ∈ (#[Value.string s]:Array Value).toList,∀k z,c ≠ .int k z:=by
 intro c hc;simp only[List.mem_cons,List.not_mem_nil,or_false] at hc;subst hc;intro _ _ h;cases h
theorem qyc(x:NV):∀c ∈ (#[.bool x.b,.slice x.p x.k x.c,.slice x.q x.j x.d]:Array Value).toList,∀k z,c ≠ .int k z:=by
 intro c hc;simp only[List.mem_cons,List.not_mem_nil,or_false] at hc;rcases hc with rfl|rfl|rfl<;>(intro _ _ h;cases h)
def qpn(w:World)(r:Nat)(D:List (ByteArray × Value)):Prop:=
 ∃es clock,w.heap[r]? = some (.map es clock)∧es.toList.map (fun e=>(e.key,e.val))=D.map (fun p=>(Value.string p.1,p.2))∧MapKept.Stamped es clock
theorem qpn.smap{w:World}{r:Nat}{D:List (ByteArray × Value)}(h:qpn w r D):qr6 w r D:=by
 obtain⟨es,clock,h1,h2,_⟩:=h;exact⟨es,clock,h1,h2⟩
theorem qpn.lt{w:World}{r:Nat}{D:List (ByteArray × Value)}(h:qpn w r D):r<w.heap.size:=by
 obtain⟨es,clock,h1,_⟩:=h;exact lt_of_block h1
theorem qpn.later{w w':World}{r:Nat}{D:List (ByteArray × Value)}(h:qpn w r D)(hb:Below w.heap.size w w'):qpn w' r D:=by
 have hlt:=h.lt;obtain⟨es,clock,h1,h2,h3⟩:=h;exact⟨es,clock,by rw[hb.block r hlt];exact h1,h2,h3⟩
theorem q2q(w:World):qpn (w.alloc (.map #[] 0)) w.heap.size []:=⟨#[],0,heap_alloc_new w _,rfl,MapKept.stamped_empty 0⟩
def za3(D:List (ByteArray × Value))(k:ByteArray)(v:Value):List (ByteArray × Value):=
 if D.any (fun p=>k==p.1) then D.map (fun p=>if k==p.1 then(p.1,v) else p) else D++[(k,v)]
theorem qen(a b:ByteArray):(a==b)=true↔a=b:=MapKept.bytes_beq a b
theorem qgw{es:List MapEntry}{D:List (ByteArray × Value)}(h:es.map (fun e=>(e.key,e.val))=D.map (fun p=>(Value.string p.1,p.2)))(i:Nat):
  (∀e,es[i]? = some e→∃p,D[i]? = some p∧e.key = .string p.1∧e.val=p.2)∧(∀p,D[i]? = some p→∃e,es[i]? = some e∧e.key = .string p.1∧e.val=p.2):=by
 have h1:(es.map (fun e=>(e.key,e.val)))[i]? = (D.map (fun p=>(Value.string p.1,p.2)))[i]? := by rw[h]
 rw[List.getElem?_map,List.getElem?_map] at h1;constructor
 ·intro e he
  rw[he] at h1;cases hd:D[i]? with
  | none=>rw[hd] at h1;cases h1
  | some p=>
   rw[hd] at h1;simp only[Option.map_some,Option.some.injEq,Prod.mk.injEq] at h1;exact⟨p,rfl,h1.1,h1.2⟩
 ·intro p hp
  rw[hp] at h1;cases he:es[i]? with
  | none=>rw[he] at h1;cases h1
  | some e=>
   rw[he] at h1;simp only[Option.map_some,Option.some.injEq,Prod.mk.injEq] at h1;exact⟨e,rfl,h1.1,h1.2⟩
section
variable {P:Program}
theorem q6h(w:World)(t kt et:TypeId)(ht:P.underlying t=some (.map kt et))(hk:P.underlying kt=some .string)(r:Nat)(D:List (ByteArray × Value))(hm:qpn w r D)(k:ByteArray)(v:Value):
  ∃w',(Instr.mapUpdate t (.map (some r)) (.string k) v).run P w = .ok () w'∧qpn w' r (za3 D k v)∧Below r w w'∧w'.heap.size=w.heap.size∧∀j,j≠r→w'.heap[j]? = w.heap[j]? := by
 obtain⟨es,clock,h1,h2,h3⟩:=hm;have hik:MapKept.IsKey .string (.string k):=by simp[MapKept.IsKey]
 have hks:∀x ∈ es.toList,MapKept.IsKey .string x.key:=by
  intro x hx;obtain⟨i,hi⟩:=List.getElem?_of_mem hx;obtain⟨p,_,e,_⟩:=(qgw h2 i).1 x hi;rw[e];simp[MapKept.IsKey]
 rcases MapKept.findNow_spec hik es.toList 0 hks with⟨g1,g2⟩|⟨j,e,g1,g2,g3⟩
 ·have hno:D.any (fun p=>k==p.1)=false:=by
   rw[List.any_eq_false];intro p hp;obtain⟨i,hi⟩:=List.getElem?_of_mem hp;obtain⟨x,hx,e1,_⟩:=(qgw h2 i).2 p hi;intro hb;exact g2 x (List.mem_of_getElem? hx) (by rw[e1,(qen _ _).1 hb])
  refine⟨_,by simp[Instr.mapUpdate,run_underlying ht,MapKept.run_getObj_map h1,MapKept.run_checkKey hk hik,MapKept.run_findKey hk g1,MapKept.run_setObj_map _ h1,Result.andThen];rfl, ?_, ?_, ?_, ?_⟩
  ·refine⟨_,_,(MapKept.heap_set h1).1, ?_,MapKept.stamped_push h3 g2⟩
   unfold za3;rw[hno];simp[h2]
  ·exact⟨rfl,rfl,rfl,by simp,fun j hj=>(MapKept.heap_set h1).2 j (by omega)⟩
  ·simp
  ·exact fun j hj=>(MapKept.heap_set h1).2 j hj
 ·have hj:es[j]? = some e:=by simpa using g2
  obtain⟨p,hp,e1,e2⟩:=(qgw h2 j).1 e g2;have hpk:p.1=k:=by rw[g3] at e1;simpa using e1.symm
  have hyes:D.any (fun p=>k==p.1)=true:=by
   rw[List.any_eq_true];exact⟨p,List.mem_of_getElem? hp,(qen _ _).2 hpk.symm⟩
  have hkey:∀e',es[j]? = some e'→({ e' with key := .string k,val:=v }:MapEntry).key=e'.key:=fun e' he'=>by rw[hj] at he';cases he';exact g3.symm
  refine⟨_,by simp[Instr.mapUpdate,run_underlying ht,MapKept.run_getObj_map h1,MapKept.run_checkKey hk hik,MapKept.run_findKey hk g1,hj,g3,MapKept.run_keyThatStays hik,MapKept.run_setObj_map _ h1,Result.andThen];rfl, ?_, ?_, ?_, ?_⟩
  ·refine⟨_,_,(MapKept.heap_set h1).1, ?_,MapKept.stamped_modify h3 _ _ (fun _ _=>rfl) (fun e' _ he'=>hkey e' he')⟩
   unfold za3;rw[if_pos hyes];refine List.ext_getElem? fun i => ?_;rw[List.getElem?_map,List.getElem?_map,List.getElem?_map,Array.toList_modify,List.getElem?_modify];by_cases hij:j=i
   ·subst hij
    rw[g2,hp];simp[hpk,(qen k k).2 rfl]
   ·simp only[hij,if_false,Option.map_eq_map,Option.map_id']
    cases hd:D[i]? with
    | none=>
     have:es.toList[i]? = none:=by
      cases he:es.toList[i]? with
      | none=>rfl
      | some e'=>obtain⟨p',hp',_⟩:=(qgw h2 i).1 e' he;rw[hd] at hp';cases hp'
     rw[this];rfl
    | some p'=>
     obtain⟨e',he',f1,f2⟩:=(qgw h2 i).2 p' hd;rw[he']
     have hne:(k==p'.1)=false:=by
      rw[Bool.eq_false_iff];intro hb;have hk1:=(qen _ _).1 hb;have hnd:=h3.2.2;have hi1:i<(es.toList.map (·.key)).length:=by rw[List.length_map];exact(List.getElem?_eq_some_iff.1 he').1
      have hj1:j<(es.toList.map (·.key)).length:=by rw[List.length_map];exact(List.getElem?_eq_some_iff.1 g2).1
      have hg:(es.toList.map (·.key))[i]=(es.toList.map (·.key))[j]:=by
       rw[List.getElem_map,List.getElem_map];have a1:=(List.getElem?_eq_some_iff.1 he').2;have a2:=(List.getElem?_eq_some_iff.1 g2).2;rw[a1,a2,f1,g3,←hk1]
      exact hij ((List.getElem_inj hnd).1 hg).symm
     simp[f1,f2,hne]
  ·exact⟨rfl,rfl,rfl,by simp,fun j' hj'=>(MapKept.heap_set h1).2 j' (by omega)⟩
  ·simp
  ·exact fun j' hj'=>(MapKept.heap_set h1).2 j' hj'
end
theorem qpn.owns{H:Type}{P:Program}{kt:TypeId}{w:World}{r:Nat}{D:List (ByteArray × Value)}(h:qpn w r D)(hk:P.underlying kt=some .string)(hl:∀p ∈ D,p.1.size≤maxLen)(hn:D.length≤1048576):
  ∃D0:DataW H,w.ownsMap P kt (fun _=>some (.nil,[])) r D.length D0∧(Go.strKeys D0).Perm (D.map fun p=>p.1.data.toList)∧Maps.size D0=D.length:=by
 obtain⟨es,clock,h1,h2,h3⟩:=h
 have hlen:es.toList.length=D.length:=by
  have:=congrArg List.length h2
  rwa [List.length_map,List.length_map] at this
 have hrd:∀x ∈ es.toList,∃p ∈ D,x.key = .string p.1∧WideElems.rd (H:=H) P kt (fun _=>some (.nil,[])) x=some (.string p.1.data.toList,.nil):=by
  intro x hx;obtain⟨i,hi⟩:=List.getElem?_of_mem hx;obtain⟨p,hp,e,_⟩:=(qgw h2 i).1 x hi;refine⟨p,List.mem_of_getElem? hp,e, ?_⟩;unfold WideElems.rd;rw[e,WideMaps.keyOf_string_mk hk (hl p (List.mem_of_getElem? hp))];rfl
 refine⟨_,⟨es,clock,h1,⟨by rw[←Array.length_toList,hlen];unfold maxLen;omega,h3,fun x hx => ?_⟩,by rw[←Array.length_toList,hlen];exact Nat.le_refl _,rfl⟩, ?_, ?_⟩
 ·obtain⟨p,_,_,e⟩:=hrd x hx
  exact⟨_,e⟩
 ·show((es.toList.map (WideElems.rg P kt _)).foldr DataW.insert []).map (fun p=>Go.strOf p.1) |>.Perm _
  refine((WideShapes.sorted_perm _).map _).trans ?_;rw[List.map_map];refine List.Perm.of_eq (List.ext_getElem? fun i => ?_);rw[List.getElem?_map,List.getElem?_map];cases hd:es.toList[i]? with
  | none=>
   have:D[i]? = none:=by
    rw[List.getElem?_eq_none_iff] at hd ⊢;omega
   rw[this];rfl
  | some x=>
   obtain⟨p,hp,e,_⟩:=(qgw h2 i).1 x hd;rw[hp]
   have hr:WideElems.rd (H:=H) P kt (fun _=>some (.nil,[])) x=some (.string p.1.data.toList,.nil):=by
    unfold WideElems.rd;rw[e,WideMaps.keyOf_string_mk hk (hl p (List.mem_of_getElem? hp))];rfl
   simp[WideElems.rg,hr,Go.strOf]
 ·show((es.toList.map (WideElems.rg P kt _)).foldr DataW.insert []).length=_
  rw[(WideShapes.sorted_perm _).length_eq,List.length_map,hlen]
def qwg(gb gs:Nat)(bef:ByteArray)(q:Rat)(s:ByteArray × ByteArray)(w:World)(e:Ending)(w':World):Prop:=
 (if qaz bef s=0 then ∃z m:NV,e = .returned (.tuple #[.agg #[.bool z.b,.slice z.p z.k z.c,.slice z.q z.j z.d],.int .i64 0])∧qaj w' (.agg #[.bool z.b,.slice z.p z.k z.c,.slice z.q z.j z.d]) (qav s.2.data.toList)∧qem w' gs #[.bool m.b,.slice m.p m.k m.c,.slice m.q m.j m.d] 80∧qaj w' (.agg #[.bool m.b,.slice m.p m.k m.c,.slice m.q m.j m.d]) (q+qav s.2.data.toList)
  else e = .returned (.tuple #[.agg #[.bool false,.slice none 0 0,.slice none 0 0],.int .i64 (qaz bef s:Nat)]))∧qem w' gb #[.string s.1] 9∧Chg gb gs w w'
theorem qm9(w:World):qaj w (.agg #[.bool false,.slice none 0 0,.slice none 0 0]) 0:=qj0 w 0 false (.slice none 0 0) (.slice none 0 0) rfl (qaq.nil w) (qaq.nil w)
theorem q9b:rs 0=1:=by
 have:=qj2 0;rw[show wl (0:Int).natAbs=0 from qcp] at this;exact this
theorem qt5(gb gs:Nat)(bef:ByteArray)(m:NV)(q:Rat)(s:ByteArray × ByteArray)(w:World)(hg:GW w)(hs:s.2.size≤1073741824)(bb:qem w gb #[.string bef] 9)(bs:qem w gs #[.bool m.b,.slice m.p m.k m.c,.slice m.q m.j m.d] 80)(hne:gb≠gs)(hm:qaj w (.agg #[.bool m.b,.slice m.p m.k m.c,.slice m.q m.j m.d]) q)(hcap:rs q+1300≤Cap):
  Calls Tryz.prog 162 #[.agg #[.string s.1,.string s.2],.pointer (some ⟨gb,0,none⟩),.pointer (some ⟨gs,0,none⟩)] w (qwg gb gs bef q s w):=by
 have HW0:=hid (qyb w s 69);have HRS:=hid ((qse bef s _ (hg.later HW0.out.1) hs));obtain⟨⟨s0,s1⟩,⟨r0,r1,r2⟩,g0,g1,g2⟩:=HW0.out.cells;have BB0:=hid (bb.later HW0.out.1);have BS0:=hid (bs.later HW0.out.1);have HM0:=hid (hm.later HW0.out.1);obtain⟨hb0,fb0⟩:=BB0.out.str;have hlb:=bb.lt;have hls:=bs.lt;have HC0:=hid (Chg.below (Chg.refl gb gs w) (by omega) HW0.out.1);by_cases h0:qaz bef s=0
 ·have HFIN:Hid (∀w' (z m:NV),qaj w' (.agg #[.bool z.b,.slice z.p z.k z.c,.slice z.q z.j z.d]) (qav s.2.data.toList)→qem w' gs #[.bool m.b,.slice m.p m.k m.c,.slice m.q m.j m.d] 80→qaj w' (.agg #[.bool m.b,.slice m.p m.k m.c,.slice m.q m.j m.d]) (q+qav s.2.data.toList)→qem w' gb #[.string s.1] 9→Chg gb gs w w'→qwg gb gs bef q s w (.returned (.tuple #[.agg #[.bool z.b,.slice z.p z.k z.c,.slice z.q z.j z.d],.int .i64 0])) w'):=hid fun w' z m h1 h2 h3 h4 h5=>by
   unfold qwg;rw[if_pos h0];exact⟨⟨z,m,rfl,h1,h2,h3⟩,h4,h5⟩
  have hc0:qaa s.2.data.toList=0:=by
   unfold qaz at h0;split at h0
   ·cases h0
   ·split at h0
    ·cases h0
    ·split at h0
     ·rename_i h;exact absurd h0 h
     ·omega
  have bq:=(qiu hc0).rs
  have HRD:Hid (Calls Tryz.prog 163 #[.agg #[.string s.1,.string s.2],.string bef] ((w.alloc (.cells #[.string s.1,.string s.2] 69)).alloc (.cells #[.bool false,.slice none 0 0,.slice none 0 0] 80)) fun e w'=>(∃z:NV,e = .returned (.tuple #[.agg #[.bool z.b,.slice z.p z.k z.c,.slice z.q z.j z.d],.int .i64 0])∧qaj w' (.agg #[.bool z.b,.slice z.p z.k z.c,.slice z.q z.j z.d]) (qav s.2.data.toList))∧Below ((w.alloc (.cells #[.string s.1,.string s.2] 69)).alloc (.cells #[.bool false,.slice none 0 0,.slice none 0 0] 80)).heap.size ((w.alloc (.cells #[.string s.1,.string s.2] 69)).alloc (.cells #[.bool false,.slice none 0 0,.slice none 0 0] 80)) w'):=hid (HRS.out.mono fun e w' h=>by
   unfold qgv at h;rw[if_pos h0] at h;obtain⟨⟨z,h1,h2⟩,h3⟩:=h
   exact⟨⟨z,h1,h2⟩,h3⟩)
  clear h0 hc0 hg hs bb bs hm HRS;generalize qav s.2.data.toList=pq at *;have hbs0:w.heap.size<((w.alloc (.cells #[.string s.1,.string s.2] 69)).alloc (.cells #[.bool false,.slice none 0 0,.slice none 0 0] 80)).heap.size:=by have:=HW0.out.2.1.1;exact this
  go_enter Tryz.func162,Tryz.ntmps162;go_wp2_with fail;clear r0 r1 r2 g0 g1 g2;refine HRD.out.mono ?_;rintro e w2 ⟨⟨z,rfl,hz⟩,hb⟩;have hal:Below w2.heap.size w2 (w2.alloc (.cells #[.bool z.b,.slice z.p z.k z.c,.slice z.q z.j z.d] 80)):=(Below.refl _ _).alloc (Nat.le_refl _) _;have hb':=hb.trans (hal.mono hb.size);have HT2:=hid (HW0.out.later hb');have BB2:=hid (BB0.out.later hb');have BS2:=hid (BS0.out.later hb');have HZ2:=hid (hz.later hal);have HM2:=hid (HM0.out.later hb');have BZ2:=hid (qsf w2 #[.bool z.b,.slice z.p z.k z.c,.slice z.q z.j z.d] 80);have HC2:=hid (HC0.out.below (by have:=HW0.out.1.size;omega) hb');have hw2:w.heap.size+1<w2.heap.size:=by have:=HW0.out.2.2.1;have:=hb.size;omega
  clear hz hb hal hb' s0 s1 hb0 fb0 HRD BB0 BS0 HM0 HC0;generalize hgz:w2.heap.size=gz at *;have BS3:=hid (BS2.out.other (Ne.symm hne) 0 (.string s.1));have BB3:Hid (qem ((w2.alloc (.cells #[.bool z.b,.slice z.p z.k z.c,.slice z.q z.j z.d] 80)).setCell ⟨gb,0,none⟩ (.string s.1)) gb #[.string s.1] 9):=hid (BB2.out.set 0 _);have BZ3:=hid (BZ2.out.other (show gz≠gb by omega) 0 (.string s.1));have HM3:=hid (qa8 HM2.out BB2.out.own1 0 (by omega) (by intro k z e;cases e) (.string s.1));have HZ3:=hid (qa8 HZ2.out BB2.out.own1 0 (by omega) (by intro k z e;cases e) (.string s.1));have HC3:=hid (HC2.out.set (g:=gb) (.inl rfl) (Nat.min_le_left _ _) 0 (.string s.1));have HT3:Hid (One ((w2.alloc (.cells #[.bool z.b,.slice z.p z.k z.c,.slice z.q z.j z.d] 80)).setCell ⟨gb,0,none⟩ (.string s.1)) (w.heap.size+1) ⟨false,none,0,0,none,0,0⟩):=hid (((qfh.refl gb _).set 0 _).own HT2.out.2.2 (by omega));have HPL:=hid (qia _ _ _ _ _ HM3.out HZ3.out (by unfold Cap at *;omega));obtain⟨⟨s0,s1⟩,_⟩:=HT2.out.cells;obtain⟨hb0,fb0⟩:=BB2.out.str;obtain⟨⟨p0,p1,p2⟩,_⟩:=BZ2.out.one.cells;obtain⟨⟨q0,q1,q2⟩,_⟩:=BS3.out.one.cells;obtain⟨⟨t0,t1,t2⟩,_⟩:=BZ3.out.one.cells;go_wp2_with fail;clear s0 s1 hb0 fb0 p0 p1 p2 q0 q1 q2 t0 t1 t2;refine HPL.out.mono ?_;rintro e w4 ⟨⟨v4,rfl,hv⟩,hb⟩;obtain⟨m',rfl⟩:=hv.nv;have BS4:=BS3.out.later hb;have BB4:=BB3.out.later hb;have BZ4:=BZ3.out.later hb;have HT4:=HT3.out.later (hb.mono HT3.out.1);have HZ4:=HZ3.out.later hb;have hput:=BS4.one.put (x:=m');have HM5:=hid (hput.2.1 _ _ hv);have HZ5:=hid (hput.2.1 _ _ HZ4);have BS5:=hid (BS4.put3 (z:=m'));have BB5:=hid (BB4.other3 hne (.bool m'.b) (.slice m'.p m'.k m'.c) (.slice m'.q m'.j m'.d));have BZ5:=hid (BZ4.other3 (show gz≠gs by omega) (.bool m'.b) (.slice m'.p m'.k m'.c) (.slice m'.q m'.j m'.d))
  have HT5:Hid (One (((w4.setCell ⟨gs,0,none⟩ (.bool m'.b)).setCell ⟨gs,1,none⟩ (.slice m'.p m'.k m'.c)).setCell ⟨gs,2,none⟩ (.slice m'.q m'.j m'.d)) (w.heap.size+1) ⟨false,none,0,0,none,0,0⟩):=hid (hput.2.2.2 _ _ _ (by omega) HT4);have HC4:=HC3.out.below (by have:=HC3.out.1.size;have:=Nat.min_le_left gb gs;simp;omega) hb;have HC5:=hid (((HC4.set (g:=gs) (.inr (.inl rfl)) (Nat.min_le_right _ _) 0 (.bool m'.b)).set (g:=gs) (.inr (.inl rfl)) (Nat.min_le_right _ _) 1 (.slice m'.p m'.k m'.c)).set (g:=gs) (.inr (.inl rfl)) (Nat.min_le_right _ _) 2 (.slice m'.q m'.j m'.d));obtain⟨⟨q0,q1,q2⟩,f0,f1,f2⟩:=BS4.one.cells;obtain⟨⟨t0,t1,t2⟩,_⟩:=BZ5.out.one.cells;obtain⟨⟨r0,r1,r2⟩,g0,g1,g2⟩:=One.cells HT5.out;clear hput hv hb BS4 BB4 BZ4 HT4 HZ4 HC4 HPL;have hres:=HT5.out.put (x:=z);have HZ6:=hid (hres.2.1 _ _ HZ5.out);have HM6:=hid (hres.2.1 _ _ HM5.out);have BS6:=hid (BS5.out.other3 (show gs≠w.heap.size+1 by omega) (.bool z.b) (.slice z.p z.k z.c) (.slice z.q z.j z.d));have BB6:=hid (BB5.out.other3 (show gb≠w.heap.size+1 by omega) (.bool z.b) (.slice z.p z.k z.c) (.slice z.q z.j z.d));have hmin:=Nat.min_le_left gb gs;have HC6:=hid (((HC5.out.set (g:=w.heap.size+1) (.inr (.inr (by omega))) (by omega) 0 (.bool z.b)).set (g:=w.heap.size+1) (.inr (.inr (by omega))) (by omega) 1 (.slice z.p z.k z.c)).set (g:=w.heap.size+1) (.inr (.inr (by omega))) (by omega) 2 (.slice z.q z.j z.d));clear hres;go_wp2_with fail;refine bodyPost_ret (v := .tuple #[.agg #[.bool z.b,.slice z.p z.k z.c,.slice z.q z.j z.d],.int .i64 0]) ?_ rfl ?_
  ·simp[results,Tryz.results162,go_sem,r0,r1,r2]
  ·exact HFIN.out _ _ _ HZ6.out BS6.out HM6.out BB6.out HC6.out
 ·have HFIN:Hid (∀w',qem w' gb #[.string s.1] 9→Chg gb gs w w'→qwg gb gs bef q s w (.returned (.tuple #[.agg #[.bool false,.slice none 0 0,.slice none 0 0],.int .i64 (qaz bef s:Nat)])) w'):=hid fun w' h4 h5=>by
   unfold qwg;rw[if_neg h0];exact⟨rfl,h4,h5⟩
  have HRD:Hid (Calls Tryz.prog 163 #[.agg #[.string s.1,.string s.2],.string bef] ((w.alloc (.cells #[.string s.1,.string s.2] 69)).alloc (.cells #[.bool false,.slice none 0 0,.slice none 0 0] 80)) fun e w'=>e = .returned (.tuple #[.agg #[.bool false,.slice none 0 0,.slice none 0 0],.int .i64 (qaz bef s:Nat)])∧Below ((w.alloc (.cells #[.string s.1,.string s.2] 69)).alloc (.cells #[.bool false,.slice none 0 0,.slice none 0 0] 80)).heap.size ((w.alloc (.cells #[.string s.1,.string s.2] 69)).alloc (.cells #[.bool false,.slice none 0 0,.slice none 0 0] 80)) w'):=hid (HRS.out.mono fun e w' h=>by
   unfold qgv at h;rw[if_neg h0] at h
   exact h)
  clear h0 hg hs bb bs hm HRS;generalize qaz bef s=ck at *;go_enter Tryz.func162,Tryz.ntmps162;go_wp2_with fail;clear r0 r1 r2 g0 g1 g2;refine HRD.out.mono ?_;rintro e w2 ⟨rfl,hb⟩;have hal:Below w2.heap.size w2 (w2.alloc (.cells #[.bool false,.slice none 0 0,.slice none 0 0] 80)):=(Below.refl _ _).alloc (Nat.le_refl _) _;have hb':=hb.trans (hal.mono hb.size);have HT2:=hid (HW0.out.later hb');have BB2:=hid (BB0.out.later hb');have BS2:=hid (BS0.out.later hb');have HZ2:=hid (qm9 (w2.alloc (.cells #[.bool false,.slice none 0 0,.slice none 0 0] 80)));have HM2:=hid (HM0.out.later hb');have BZ2:Hid (qem (w2.alloc (.cells #[.bool false,.slice none 0 0,.slice none 0 0] 80)) w2.heap.size #[.bool false,.slice none 0 0,.slice none 0 0] 80):=hid (qsf w2 #[.bool false,.slice none 0 0,.slice none 0 0] 80);have HC2:=hid (HC0.out.below (by have:=HW0.out.1.size;omega) hb');have hw2:w.heap.size+1<w2.heap.size:=by have:=HW0.out.2.2.1;have:=hb.size;omega
  clear hb hal hb' s0 s1 hb0 fb0 HRD BB0 BS0 HM0 HC0;generalize hgz:w2.heap.size=gz at *;have BS3:=hid (BS2.out.other (Ne.symm hne) 0 (.string s.1));have BB3:Hid (qem ((w2.alloc (.cells #[.bool false,.slice none 0 0,.slice none 0 0] 80)).setCell ⟨gb,0,none⟩ (.string s.1)) gb #[.string s.1] 9):=hid (BB2.out.set 0 _);have BZ3:=hid (BZ2.out.other (show gz≠gb by omega) 0 (.string s.1));have HM3:=hid (qa8 HM2.out BB2.out.own1 0 (by omega) (by intro k z e;cases e) (.string s.1));have HZ3:=hid (qa8 HZ2.out BB2.out.own1 0 (by omega) (by intro k z e;cases e) (.string s.1));have HC3:=hid (HC2.out.set (g:=gb) (.inl rfl) (Nat.min_le_left _ _) 0 (.string s.1));have HT3:Hid (One ((w2.alloc (.cells #[.bool false,.slice none 0 0,.slice none 0 0] 80)).setCell ⟨gb,0,none⟩ (.string s.1)) (w.heap.size+1) ⟨false,none,0,0,none,0,0⟩):=hid (((qfh.refl gb _).set 0 _).own HT2.out.2.2 (by omega));have HPL:=hid (qia _ _ _ _ _ HM3.out HZ3.out (by have:rs 0=1:=q9b;unfold Cap at *;omega));obtain⟨⟨s0,s1⟩,_⟩:=HT2.out.cells;obtain⟨hb0,fb0⟩:=BB2.out.str;obtain⟨⟨p0,p1,p2⟩,_⟩:=(qem.one (x:=⟨false,none,0,0,none,0,0⟩) BZ2.out).cells;obtain⟨⟨q0,q1,q2⟩,_⟩:=BS3.out.one.cells;obtain⟨⟨t0,t1,t2⟩,_⟩:=(qem.one (x:=⟨false,none,0,0,none,0,0⟩) BZ3.out).cells;go_wp2_with fail;clear s0 s1 hb0 fb0 p0 p1 p2 q0 q1 q2 t0 t1 t2;refine HPL.out.mono ?_;rintro e w4 ⟨⟨v4,rfl,hv⟩,hb⟩;obtain⟨m',rfl⟩:=hv.nv;have BS4:=BS3.out.later hb;have BB4:=BB3.out.later hb;have BZ4:=BZ3.out.later hb;have HT4:=HT3.out.later (hb.mono HT3.out.1);have BB5:=hid (BB4.other3 hne (.bool m'.b) (.slice m'.p m'.k m'.c) (.slice m'.q m'.j m'.d));have BZ5:=hid (BZ4.other3 (show gz≠gs by omega) (.bool m'.b) (.slice m'.p m'.k m'.c) (.slice m'.q m'.j m'.d))
  have HT5:Hid (One (((w4.setCell ⟨gs,0,none⟩ (.bool m'.b)).setCell ⟨gs,1,none⟩ (.slice m'.p m'.k m'.c)).setCell ⟨gs,2,none⟩ (.slice m'.q m'.j m'.d)) (w.heap.size+1) ⟨false,none,0,0,none,0,0⟩):=hid (BS4.one.put.2.2.2 _ _ _ (by omega) HT4);have HC4:=HC3.out.below (by have:=HC3.out.1.size;have:=Nat.min_le_left gb gs;simp;omega) hb;have HC5:=hid (((HC4.set (g:=gs) (.inr (.inl rfl)) (Nat.min_le_right _ _) 0 (.bool m'.b)).set (g:=gs) (.inr (.inl rfl)) (Nat.min_le_right _ _) 1 (.slice m'.p m'.k m'.c)).set (g:=gs) (.inr (.inl rfl)) (Nat.min_le_right _ _) 2 (.slice m'.q m'.j m'.d));obtain⟨⟨q0,q1,q2⟩,f0,f1,f2⟩:=BS4.one.cells;obtain⟨⟨t0,t1,t2⟩,_⟩:=(qem.one (x:=⟨false,none,0,0,none,0,0⟩) BZ5.out).cells;obtain⟨⟨r0,r1,r2⟩,g0,g1,g2⟩:=One.cells HT5.out;clear hv hb BS4 BB4 BZ4 HT4 HC4 HPL;have BB6:=hid (BB5.out.other3 (show gb≠w.heap.size+1 by omega) (.bool false) (.slice none 0 0) (.slice none 0 0));have hmin:=Nat.min_le_left gb gs;have HC6:=hid (((HC5.out.set (g:=w.heap.size+1) (.inr (.inr (by omega))) (by omega) 0 (.bool false)).set (g:=w.heap.size+1) (.inr (.inr (by omega))) (by omega) 1 (.slice none 0 0)).set (g:=w.heap.size+1) (.inr (.inr (by omega))) (by omega) 2 (.slice none 0 0));go_wp2_with fail;refine bodyPost_ret (v := .tuple #[.agg #[.bool false,.slice none 0 0,.slice none 0 0],.int .i64 ck]) ?_ rfl ?_
  ·simp[results,Tryz.results162,go_sem,r0,r1,r2]
  ·exact HFIN.out _ BB6.out HC6.out
def qqr(b:ByteArray)(l:List (ByteArray × ByteArray)):ByteArray:=l.foldl (fun _ s=>s.1) b
def qoh(l:List (ByteArray × ByteArray)):Rat:=l.foldl (fun a s=>a+qav s.2.data.toList) 0
def qbb:ByteArray→List (ByteArray × ByteArray)→List Nat
 | _,[]=>[]
 | b,s::l=>qaz b s::qbb s.1 l
theorem qz0(b:ByteArray)(l:List (ByteArray × ByteArray))(s:ByteArray × ByteArray):qqr b (l++[s])=s.1:=by unfold qqr;rw[List.foldl_append];rfl
theorem qt6(l:List (ByteArray × ByteArray))(s:ByteArray × ByteArray):qoh (l++[s])=qoh l+qav s.2.data.toList:=by unfold qoh;rw[List.foldl_append];rfl
theorem qf0(l m:List (ByteArray × ByteArray)):∀b,qbb b (l++m)=qbb b l++qbb (qqr b l) m:=by
 induction l with
 | nil=>intro b;rfl
 | cons s l ih=>intro b;show qaz b s::qbb s.1 (l++m)=_;rw[ih s.1];rfl
theorem qkk{b:ByteArray}{s:ByteArray × ByteArray}(h:qaz b s=0):qaa s.2.data.toList=0:=by
 unfold qaz at h;split at h
 ·cases h
 ·split at h
  ·cases h
  ·split at h
   ·rename_i h1;exact absurd h h1
   ·omega
theorem ql1{l m:List Nat}(h:qac (l++m)=0):qac l=0∧qac m=0:=by
 induction l with
 | nil=>exact⟨rfl,h⟩
 | cons e l ih=>
  have h1:(if e=0 then qac (l++m) else e)=0:=h;by_cases he:e=0
  ·rw[if_pos he] at h1
   refine⟨?_,(ih h1).2⟩;show(if e=0 then qac l else e)=0;rw[if_pos he];exact(ih h1).1
  ·rw[if_neg he] at h1;exact absurd h1 he
theorem qg7{α:Type}{P:List α→Prop}(h0:P [])(h1:∀l x,P l→P (l++[x]))(l:List α):P l:=by
 have:∀l:List α,P l.reverse:=by
  intro l
  induction l with
  | nil=>exact h0
  | cons x l ih=>rw[List.reverse_cons];exact h1 _ _ ih
 have h:=this l.reverse
 rwa [List.reverse_reverse] at h
theorem q2r(b:ByteArray)(l:List (ByteArray × ByteArray))(h:qac (qbb b l)=0):bd (qoh l) (601*l.length+1):=by
 induction l using qg7 with
 | h0=>exact qjb _ (by simp)
 | h1 l s ih=>
  rw[qf0] at h;obtain⟨h1,h2⟩:=ql1 h
  have h3:qaz (qqr b l) s=0:=by
   have:(if qaz (qqr b l) s=0 then qac [] else qaz (qqr b l) s)=0:=h2;by_cases hz:qaz (qqr b l) s=0
   ·exact hz
   ·rw[if_neg hz] at this;exact absurd this hz
  rw[qt6];refine(qnr (ih h1) (qiu (qkk h3))).mono ?_;rw[List.length_append];simp;omega
theorem GW.chg{g1 g2:Nat}{W W':World}{c1 c2:Array Value}{t1 t2:TypeId}(h:GW W)(hc:Chg g1 g2 W W')(b1:qem W g1 c1 t1)(b2:qem W g2 c2 t2)(n1:∀c ∈ c1.toList,∀k z,c ≠ .int k z)(n2:∀c ∈ c2.toList,∀k z,c ≠ .int k z):GW W':=by
 obtain⟨h0,m,hm⟩:=h;refine⟨Nat.lt_of_lt_of_le h0 hc.1.size,m, ?_⟩;have e:=hc.2 _ (World.block_lt_of_cell? W _ hm) (ql0 b1 n1 hm) (ql0 b2 n2 hm);rw[World.cell?_of_block (a:=⟨_,0,none⟩) e];exact hm
theorem qj7.chg{g1 g2 g cap:Nat}{W W':World}{qs:List Rat}{c1 c2:Array Value}{t1 t2:TypeId}(h:qj7 W g cap qs)(hc:Chg g1 g2 W W')(h1:g≠g1)(h2:g≠g2)(b1:qem W g1 c1 t1)(b2:qem W g2 c2 t2)(n1:∀c ∈ c1.toList,∀k z,c ≠ .int k z)(n2:∀c ∈ c2.toList,∀k z,c ≠ .int k z):qj7 W' g cap qs:=by
 have hlt:=h.lt;obtain⟨e1,cur,hg,e2,e3,e4⟩:=h;refine⟨e1,cur,(hc.2 g hlt h1 h2).trans hg,e2,e3,fun j q hq => ?_⟩;obtain⟨b,p1,k1,c1,p2,k2,c2,a1,a2,a3,hv⟩:=e4 j q hq;exact⟨b,p1,k1,c1,p2,k2,c2,a1,a2,a3,hv.chg hc b1 b2 n1 n2⟩
theorem Chg.cell{g1 g2 b o:Nat}{W W':World}{v:Value}(hc:Chg g1 g2 W W')(h:W.cell? ⟨b,o,none⟩=some v)(h1:b≠g1)(h2:b≠g2):W'.cell? ⟨b,o,none⟩=some v:=by
 rw[World.cell?_of_block (a:=⟨b,o,none⟩) (hc.2 b (World.block_lt_of_cell? W _ h) h1 h2)];exact h
def qpo(gb gs:Nat)(b0:ByteArray)(l:List (ByteArray × ByteArray))(w:World)(e:Ending)(w':World):Prop:=
 (if qac (qbb b0 l)=0 then(∃g,w.heap.size≤g∧e = .returned (.tuple #[.slice (some ⟨g,0,none⟩) l.length l.length,.int .i64 0])∧qj7 w' g l.length (l.map fun s=>qav s.2.data.toList))∧∃m:NV,qem w' gs #[.bool m.b,.slice m.p m.k m.c,.slice m.q m.j m.d] 80∧qaj w' (.agg #[.bool m.b,.slice m.p m.k m.c,.slice m.q m.j m.d]) (qoh l)
  else e = .returned (.tuple #[.slice none 0 0,.int .i64 (qac (qbb b0 l))]))∧Chg gb gs w w'
theorem qz1{gb gs:Nat}{b0:ByteArray}{l:List (ByteArray × ByteArray)}{w w':World}{k:Nat}(h:qac (qbb b0 l)=k)(hk:k≠0)(hc:Chg gb gs w w'):qpo gb gs b0 l w (.returned (.tuple #[.slice none 0 0,.int .i64 (k:Int)])) w':=by
 unfold qpo;rw[h,if_neg hk];exact⟨rfl,hc⟩
theorem qwh{gb gs:Nat}{b0:ByteArray}{l:List (ByteArray × ByteArray)}{w w':World}{m:NV}(h:qac (qbb b0 l)=0)(hn:qj7 w' w.heap.size l.length (l.map fun s=>qav s.2.data.toList))(hm:qem w' gs #[.bool m.b,.slice m.p m.k m.c,.slice m.q m.j m.d] 80∧qaj w' (.agg #[.bool m.b,.slice m.p m.k m.c,.slice m.q m.j m.d]) (qoh l))(hc:Chg gb gs w w'):
  qpo gb gs b0 l w (.returned (.tuple #[.slice (some ⟨w.heap.size,0,none⟩) l.length l.length,.int .i64 0])) w':=by
 unfold qpo;rw[if_pos h];exact⟨⟨⟨w.heap.size,Nat.le_refl _,rfl,hn⟩,m,hm⟩,hc⟩
theorem q2s{W:World}{g g':Nat}{cs cur:Array Value}{t:TypeId}(hr:∀kk,kk≠g'→(W.setRow g' cur).heap[kk]? = W.heap[kk]?)(h:qem W g cs t)(hne:g≠g'):qem (W.setRow g' cur) g cs t:=(hr g hne).trans h
theorem q9c{g1 g2 g:Nat}{w W:World}{cur:Array Value}(h:Chg g1 g2 w W)(hb:Below w.heap.size W (W.setRow g cur))(hr:∀kk,kk≠g→(W.setRow g cur).heap[kk]? = W.heap[kk]?)(hg:w.heap.size≤g)(hm:min g1 g2≤w.heap.size:=by omega):Chg g1 g2 w (W.setRow g cur):=
 ⟨h.1.trans (hb.mono hm),fun i h0 h1 h2=>(hr i (by omega)).trans (h.2 i h0 h1 h2)⟩
theorem zb9{W:World}{g cap:Nat}{qs:List Rat}{cur:Array Value}(h:qj7 W g cap qs)(hg:W.heap[g]? = some (.cells cur 80 (0,0))):∀c ∈ cur.toList,∀k z,c ≠ .int k z:=by
 obtain⟨_,cur',hg',_,h3,_⟩:=h;rw[hg] at hg';cases hg'
 exact h3
theorem qz2(gb gs:Nat)(b0:ByteArray)(m0:NV)(l:List (ByteArray × ByteArray))(b o c:Nat)(w:World)(hg:GW w)(hrow:qfd w b o l)(hl:l.length≤64)(hs:∀s ∈ l,s.2.size≤1073741824)
  (bb:qem w gb #[.string b0] 9) (bs:qem w gs #[.bool m0.b,.slice m0.p m0.k m0.c,.slice m0.q m0.j m0.d] 80) (hne:gb≠gs) (hm:qaj w (.agg #[.bool m0.b,.slice m0.p m0.k m0.c,.slice m0.q m0.j m0.d]) 0) (hb1:b≠gb) (hb2:b≠gs):
  Calls Tryz.prog 161 #[.slice (some ⟨b,o,none⟩) l.length c,.func (.func 162) #[] #[.pointer (some ⟨gb,0,none⟩),.pointer (some ⟨gs,0,none⟩)]] w (qpo gb gs b0 l w):=by
 have HG:=hid hg;have HROW:=hid hrow;have HS:=hid hs;have hmk:=qpj l.length (by omega);obtain⟨i0,hi,hz0,hz1,hz2⟩:=info_parts (show(Tryz.prog.info? 80).map (fun i=>(i.zero,i.size,i.bytes))=some (some (.agg #[.bool false,.slice none 0 0,.slice none 0 0]),3,56) by kernel_rfl);have HI:=hid hi;have hal0:Below w.heap.size w (w.alloc (.cells (madeCells #[.bool false,.slice none 0 0,.slice none 0 0] (l.length*3)) 80)):=(Below.refl _ _).alloc (Nat.le_refl _) _;have hgb:=bb.lt;have hgs:=bs.lt;have HN0:=hid (qm5 w l.length);have BBW:=hid bb;have BSW:=hid bs;have BB0:=hid (bb.later hal0);have BS0:=hid (bs.later hal0);have HM0:=hid (hm.later hal0);have HC0:=hid (Chg.below (Chg.refl gb gs w) (by omega) hal0);clear hrow hs hi hz0 hz2 bb bs hm hal0 hg;go_enter Tryz.func161,Tryz.ntmps161;go_wp2_with fail;clear hmk;generalize w.alloc (.cells (madeCells #[.bool false,.slice none 0 0,.slice none 0 0] (l.length*3)) 80)=w0 at *
 go_loopw [6,16] (fun r i wr=>∃k:Nat,k≤l.length∧i = .int .i64 k∧r = .slice (some ⟨w.heap.size,0,none⟩) k l.length∧Hid (qj7 wr w.heap.size l.length ((l.take k).map fun s=>qav s.2.data.toList))∧Hid (qac (qbb b0 (l.take k))=0)∧Hid (Chg gb gs w wr)∧Hid (qem wr gb #[.string (qqr b0 (l.take k))] 9)∧∃m:NV,Hid (qem wr gs #[.bool m.b,.slice m.p m.k m.c,.slice m.q m.j m.d] 80∧qaj wr (.agg #[.bool m.b,.slice m.p m.k m.c,.slice m.q m.j m.d]) (qoh (l.take k)))) (fun _ i _=>l.length-(intOf i).toNat)
 case atStart=>exact⟨0,Nat.zero_le _,rfl,rfl,HN0,hid rfl,HC0,BB0,m0,hid ⟨BS0.out,HM0.out⟩⟩
 case round=>
  obtain⟨k,hk,rfl,rfl,HN,HE,HC,BB,m,HM⟩:=hrel;clear HN0 HC0 BB0 BS0 HM0;by_cases hkl:k<l.length
  ·obtain⟨s,hsk⟩:∃s,l[k]? = some s:=⟨l[k],List.getElem?_eq_getElem hkl⟩
   obtain⟨e0,e1⟩:=HROW.out k s hsk;have hc0:wr.cell? ⟨b,o+k*2,none⟩=some (.string s.1):=HC.out.cell e0 hb1 hb2;have hc1:wr.cell? ⟨b,o+k*2+1,none⟩=some (.string s.2):=HC.out.cell e1 hb1 hb2;have hal:Below wr.heap.size wr (wr.alloc (.cells #[.string s.1,.string s.2] 69)):=(Below.refl _ _).alloc (Nat.le_refl _) _;have hss:=HS.out s (List.mem_of_getElem? hsk);have hsz:=HC.out.1.size;have HTK:Hid (l.take (k+1)=l.take k++[s]):=hid (qb9 hsk);have HGR:=hid ((HG.out.chg HC.out BBW.out BSW.out (qt4 _) (qyc _)).later hal);have BB1:=hid (BB.out.later hal);have BS1:=hid (HM.out.1.later hal);have HM1:=hid (HM.out.2.later hal);have HN1:=hid (HN.out.later hal);have HC1:=hid (HC.out.below (by omega) hal);have hcap:=(q2r b0 _ HE.out).rs;have htl:(l.take k).length≤k:=List.length_take_le _ _;have HCL:=hid (qt5 gb gs (qqr b0 (l.take k)) m (qoh (l.take k)) s _ HGR.out hss BB1.out BS1.out hne HM1.out (by unfold Cap;omega));obtain⟨x0,x1⟩:=qag (qbl wr 69 (.string s.1) (.string s.2));have HGNE:Hid (w.heap.size≠gb∧w.heap.size≠gs):=hid ⟨by omega,by omega⟩;have HSN:=hid (qf0 (l.take k) [s] b0);have HBN:=hid (qz0 b0 (l.take k) s);have HQN:=hid (qt6 (l.take k) s);have HALL:Hid (∃d,l=l.take (k+1)++d):=hid ⟨l.drop (k+1),(List.take_append_drop _ _).symm⟩;clear e0 e1 hal hss hcap htl hsk BB HM HN HC;generalize qqr b0 (l.take k)=bef at *;generalize qoh (l.take k)=sq at *;by_cases hc:qaz bef s=0
   ·have HE2:Hid (qac (qbb b0 (l.take (k+1)))=0):=hid (by
     rw[HTK.out,HSN.out,qgb _ _ HE.out];show(if qaz bef s=0 then qac [] else qaz bef s)=0
     rw[if_pos hc];rfl)
    have HCL2:=hid (HCL.out.mono (R':=fun e w'=>(∃z m:NV,e = .returned (.tuple #[.agg #[.bool z.b,.slice z.p z.k z.c,.slice z.q z.j z.d],.int .i64 0])∧qaj w' (.agg #[.bool z.b,.slice z.p z.k z.c,.slice z.q z.j z.d]) (qav s.2.data.toList)∧qem w' gs #[.bool m.b,.slice m.p m.k m.c,.slice m.q m.j m.d] 80∧qaj w' (.agg #[.bool m.b,.slice m.p m.k m.c,.slice m.q m.j m.d]) (sq+qav s.2.data.toList))∧qem w' gb #[.string s.1] 9∧Chg gb gs (wr.alloc (.cells #[.string s.1,.string s.2] 69)) w') (fun e w' h=>by
     unfold qwg at h;rw[if_pos hc] at h
     exact h))
    have hqs:((l.take k).map fun s=>qav s.2.data.toList)++[qav s.2.data.toList]=(l.take (k+1)).map fun s=>qav s.2.data.toList:=by
     rw[HTK.out,List.map_append];rfl
    have HQS:=hid hqs;have hql:((l.take k).map fun s=>qav s.2.data.toList).length=k:=by rw[List.length_map,List.length_take];omega
    clear HCL HE hc hqs;generalize qav s.2.data.toList=q at *;generalize ((l.take k).map fun s=>qav s.2.data.toList)=qs at *;go_wp2_with fail;refine HCL2.out.mono ?_;rintro e w1 ⟨⟨z,m',rfl,hz,hbs,hm'⟩,hbb,hch⟩;have HN2:=HN1.out.chg hch HGNE.out.1 HGNE.out.2 BB1.out BS1.out (qt4 _) (qyc _);have HC2:=HC1.out.trans hch;have hal:Below w1.heap.size w1 (w1.alloc (.cells #[.bool z.b,.slice z.p z.k z.c,.slice z.q z.j z.d] 80)):=(Below.refl _ _).alloc (Nat.le_refl _) _;have hal2:Below (w1.alloc (.cells #[.bool z.b,.slice z.p z.k z.c,.slice z.q z.j z.d] 80)).heap.size (w1.alloc (.cells #[.bool z.b,.slice z.p z.k z.c,.slice z.q z.j z.d] 80)) ((w1.alloc (.cells #[.bool z.b,.slice z.p z.k z.c,.slice z.q z.j z.d] 80)).alloc (.cells #[.bool z.b,.slice z.p z.k z.c,.slice z.q z.j z.d] 80)):=(Below.refl _ _).alloc (Nat.le_refl _) _;have halb:=hal.trans (hal2.mono (by simp));obtain⟨y0,y1,y2⟩:=(qgu w1 z).cells.1;obtain⟨cur,hcur,hfit,hnew,hbel⟩:=(HN2.later halb).push (by rw[hql];exact hkl) (hz.later halb);have hnb:=heap_alloc_new (w1.alloc (.cells #[.bool z.b,.slice z.p z.k z.c,.slice z.q z.j z.d] 80)) (.cells #[.bool z.b,.slice z.p z.k z.c,.slice z.q z.j z.d] 80);rw[World.size_alloc] at hnb;have hrowg:=HN2.lt;have hminw:min gb gs≤w1.heap.size:=by have:=HC2.1.size;omega
    have HC3:=HC2.below hminw halb;rw[hql] at hfit hnew hbel;simp only[List.append_assoc,List.cons_append,List.nil_append] at hnew hbel;have hrows:∀kk,kk≠w.heap.size→(((w1.alloc (.cells #[.bool z.b,.slice z.p z.k z.c,.slice z.q z.j z.d] 80)).alloc (.cells #[.bool z.b,.slice z.p z.k z.c,.slice z.q z.j z.d] 80)).setRow w.heap.size (List.take (k*3) cur.toList ++ .bool z.b :: .slice z.p z.k z.c :: .slice z.q z.j z.d::List.drop (k*3+3) cur.toList).toArray).heap[kk]? = ((w1.alloc (.cells #[.bool z.b,.slice z.p z.k z.c,.slice z.q z.j z.d] 80)).alloc (.cells #[.bool z.b,.slice z.p z.k z.c,.slice z.q z.j z.d] 80)).heap[kk]? := fun kk hkk=>setRow_other _ _ _ _ hkk;have BB4:=hid (q2s hrows (hbb.later halb) (by omega));have BS4:=hid (q2s hrows (hbs.later halb) (by omega));have HM4:=hid ((hm'.later halb).setRow hcur (zb9 (HN2.later halb) hcur) (List.take (k*3) cur.toList ++ .bool z.b :: .slice z.p z.k z.c :: .slice z.q z.j z.d::List.drop (k*3+3) cur.toList).toArray);have HC4:=hid (q9c HC3 (hbel w.heap.size (Nat.le_refl _)) hrows (by omega));have HNEW:=hid hnew;have HCUR:=hid hcur;have HNB:=hid hnb;have HFIT:=hid hfit;clear hal hal2 halb hcur hfit hnew hbel hnb hql hz hbs hm' hbb hch HN2 HC2 HC3 hrows x0 x1 hc0 hc1 HCL2;go_wp2_with (at_builtin;refine qbi _ rfl _ _ 118 rfl 80 i0 3 Tryz.underlying118 HI.out hz1 w.heap.size k l.length cur rfl HCUR.out ⟨w1.heap.size+1,0,none⟩ 1 1 [.bool z.b,.slice z.p z.k z.c,.slice z.q z.j z.d] rfl rfl (World.news_of_block HNB.out) ?qc1 (by omega) HFIT.out ?_)
    case qc1=>
     intro u hu;simp only[List.mem_cons,List.not_mem_nil,or_false] at hu;rcases hu with rfl|rfl|rfl<;>rfl
    clear y0 y1 y2;go_wp2_with fail;go_roundw
    case rel=>exact⟨k+1,hkl,by go_num,rfl,hid (by rw[←HQS.out];exact HNEW.out),HE2,HC4,hid (by rw[HTK.out,HBN.out];exact BB4.out),m',hid ⟨BS4.out,by rw[HTK.out,HQN.out];exact HM4.out⟩⟩
    case measure=>simp[intOf];omega
   ·have HCL2:=hid (HCL.out.mono (R':=fun e w'=>e = .returned (.tuple #[.agg #[.bool false,.slice none 0 0,.slice none 0 0],.int .i64 (qaz bef s:Nat)])∧Chg gb gs (wr.alloc (.cells #[.string s.1,.string s.2] 69)) w') (fun e w' h=>by
     unfold qwg at h;rw[if_neg hc] at h
     exact⟨h.1,h.2.2⟩))
    have HF:Hid (qac (qbb b0 l)=qaz bef s):=hid (by
     obtain⟨d,hd⟩:=HALL.out;rw[hd,HTK.out,qf0,HSN.out,List.append_assoc,qgb _ _ HE.out];show(if qaz bef s=0 then _ else qaz bef s)=_
     rw[if_neg hc])
    clear HCL HE;generalize qaz bef s=ck at *;have hck:((ck:Int)==0)=false:=beq_eq_false_iff_ne.2 (by omega);have HCK:=hid hc;clear hc;go_wp2_with fail;refine HCL2.out.mono ?_;rintro e w1 ⟨rfl,hch⟩;have HC2:=HC1.out.trans hch;have HC3:=hid (HC2.below (by have:=HC2.1.size;omega) ((Below.refl w1.heap.size w1).alloc (Nat.le_refl _) (.cells #[.bool false,.slice none 0 0,.slice none 0 0] 80)));clear hch HC2 x0 x1 hc0 hc1 HCL2;go_wp2_with fail;go_ret2;exact qz1 HF.out HCK.out HC3.out
  ·obtain rfl:k=l.length:=by omega
   have hE:=HE.out;have hN:=HN.out;have hM:=HM.out;rw[List.take_length] at hE hN hM;have HE':=hid hE;have HN':=hid hN;have HM':=hid hM;clear hE hN hM HE HN HM;go_wp2_with fail;go_ret2;exact qwh HE'.out HN'.out HM'.out HC.out
def qc9(l:List (ByteArray × ByteArray)):Nat:=
 if l.length=0 then 2 else if 64<l.length then 5 else if qac (qbb ⟨#[]⟩ l)≠0 then qac (qbb ⟨#[]⟩ l) else if qoh l=1 then 0 else 12
def qkh(s:ByteArray × ByteArray):Rat:=qav s.2.data.toList
def qde(l:List (ByteArray × ByteArray))(w:World)(e:Ending)(w':World):Prop:=
 (if qc9 l=0 then ∃g,w.heap.size≤g∧e = .returned (.tuple #[.slice (some ⟨g,0,none⟩) l.length l.length,.int .i64 0])∧qj7 w' g l.length (l.map qkh)
  else e = .returned (.tuple #[.slice none 0 0,.int .i64 (qc9 l:Nat)]))∧Below w.heap.size w w'
theorem qg8{l:List (ByteArray × ByteArray)}{w w':World}(k:Nat){z:Int}(h:qc9 l=k)(hk:k≠0)(hz:z=k)(hb:Below w.heap.size w w'):qde l w (.returned (.tuple #[.slice none 0 0,.int .i64 z])) w':=by
 unfold qde;rw[h,if_neg hk,hz];exact⟨rfl,hb⟩
theorem q9d{a b:Rat}:qcu a b=0↔a=b:=by
 rcases qq7 a b with⟨h1,h2⟩|⟨h1,h2⟩|⟨h1,h2⟩
 ·constructor
  ·intro h;omega
  ·rintro rfl;exact absurd h2 Rat.lt_irrefl
 ·exact⟨fun _=>h2,fun _=>h1⟩
 ·constructor
  ·intro h;omega
  ·rintro rfl;exact absurd h2 Rat.lt_irrefl
theorem qqs(v:Value)(l:List (ByteArray × ByteArray))(w:World)(hg:GW w)(hv:qbr w v l)(hs:∀s ∈ l,s.2.size≤1073741824):
  Calls Tryz.prog 106 #[v] w (qde l w):=by
 obtain⟨p,c,rfl,hc1,hc2,hcells⟩:=hv;unfold maxLen at hc2;by_cases h0:l.length=0
 ·have HF:Hid (qde l w (.returned (.tuple #[.slice none 0 0,.int .i64 2])) w):=hid (qg8 2 (by unfold qc9;rw[if_pos h0]) (by omega) rfl (Below.refl _ _))
  have hb:((l.length:Int)==0)=true:=by rw[h0];rfl
  clear hcells hs hg;go_enter Tryz.func106,Tryz.ntmps106;go_wp2_with fail;go_ret2;exact HF.out
 have hb:((l.length:Int)==0)=false:=beq_eq_false_iff_ne.2 (by omega);by_cases h1:64<l.length
 ·have HF:Hid (qde l w (.returned (.tuple #[.slice none 0 0,.int .i64 5])) w):=hid (qg8 5 (by unfold qc9;rw[if_neg h0,if_pos h1]) (by omega) rfl (Below.refl _ _))
  clear hcells hs hg;go_enter Tryz.func106,Tryz.ntmps106;go_wp2_with fail;go_ret2;exact HF.out
 obtain⟨b,o,rfl,hrow⟩:=hcells.resolve_left h0;have hal1:Below w.heap.size w (w.alloc (.cells #[.string ⟨#[]⟩] 9)):=(Below.refl _ _).alloc (Nat.le_refl _) _;have hal:Below w.heap.size w ((w.alloc (.cells #[.string ⟨#[]⟩] 9)).alloc (.cells #[.bool false,.slice none 0 0,.slice none 0 0] 80)):=hal1.alloc (by simp) _;have hblt:b<w.heap.size:=World.block_lt_of_cell? w _ (hrow 0 (l[0]) (List.getElem?_eq_getElem (by omega))).1;have b1:=qsf w #[.string ⟨#[]⟩] 9;have b2:=qsf (w.alloc (.cells #[.string ⟨#[]⟩] 9)) #[.bool false,.slice none 0 0,.slice none 0 0] 80;rw[World.size_alloc] at b2;have HE:=hid (qz2 w.heap.size (w.heap.size+1) ⟨#[]⟩ ⟨false,none,0,0,none,0,0⟩ l b o c ((w.alloc (.cells #[.string ⟨#[]⟩] 9)).alloc (.cells #[.bool false,.slice none 0 0,.slice none 0 0] 80)) (hg.later hal) (hrow.later hal) (by omega) hs (b1.later ((Below.refl _ _).alloc (Nat.le_refl _) _)) b2 (by omega) (qm9 _) (by omega) (by omega));have HAL:=hid hal;have hmin:min w.heap.size (w.heap.size+1)=w.heap.size:=Nat.min_eq_left (by omega);have HCB:Hid (∀w',Chg w.heap.size (w.heap.size+1) ((w.alloc (.cells #[.string ⟨#[]⟩] 9)).alloc (.cells #[.bool false,.slice none 0 0,.slice none 0 0] 80)) w'→Below w.heap.size w w'):=hid fun w' h=>HAL.out.trans (by have:=h.1;rwa [hmin] at this);clear hrow hs hg hcells hal hal1 b1 b2 hblt hmin;by_cases he:qac (qbb ⟨#[]⟩ l)=0
 ·have HE2:=hid (HE.out.mono (R':=fun e w'=>((∃g,w.heap.size≤g∧e = .returned (.tuple #[.slice (some ⟨g,0,none⟩) l.length l.length,.int .i64 0])∧qj7 w' g l.length (l.map qkh))∧∃m:NV,qem w' (w.heap.size+1) #[.bool m.b,.slice m.p m.k m.c,.slice m.q m.j m.d] 80∧qaj w' (.agg #[.bool m.b,.slice m.p m.k m.c,.slice m.q m.j m.d]) (qoh l))∧Below w.heap.size w w') (fun e w' h=>by
   unfold qpo at h;rw[if_pos he] at h;obtain⟨⟨⟨g,h1,h2,h3⟩,hm⟩,hc⟩:=h
   exact⟨⟨⟨g,by simp at h1;omega,h2,h3⟩,hm⟩,HCB.out _ hc⟩))
  have bq:=(q2r ⟨#[]⟩ l he).rs;have b1:rs (1:Rat)≤2:=(qe2 1 (by omega) (by omega)).rs;have HCQ:Hid (∀W vs vw,qaj W vs (qoh l)→qaj W vw ((1:Int):Rat)→Calls Tryz.prog 36 #[vs,vw] W fun e w'=>e = .returned (.int .i64 (qcu (qoh l) 1))∧Below W.heap.size W w'):=hid fun W vs vw h1 h2=>qb7 vs vw _ _ W h1 h2 (by unfold Cap;omega)
  have HG1:Hid (∀w' g,qoh l=1→w.heap.size≤g→qj7 w' g l.length (l.map qkh)→Below w.heap.size w w'→qde l w (.returned (.tuple #[.slice (some ⟨g,0,none⟩) l.length l.length,.int .i64 0])) w'):=hid fun w' g hq hg hn hb=>by
   have hz:qc9 l=0:=by unfold qc9;rw[if_neg h0,if_neg h1,if_neg (by omega),if_pos hq]
   unfold qde;rw[if_pos hz];exact⟨⟨g,hg,rfl,hn⟩,hb⟩
  have HG2:Hid (∀w',qoh l≠1→Below w.heap.size w w'→qde l w (.returned (.tuple #[.slice none 0 0,.int .i64 12])) w'):=hid fun w' hq hb=>qg8 12 (by unfold qc9;rw[if_neg h0,if_neg h1,if_neg (by omega),if_neg hq]) (by omega) rfl hb;have HWH:=hid (fun W=>qe0 1 W (by omega) (by omega));have hcz:=@q9d (qoh l) 1;have HCZ:=hid hcz;clear HE he bq b1 hcz;by_cases hq:qcu (qoh l) 1=0
  ·have HQ:=hid (HCZ.out.1 hq)
   have hb0:(qcu (qoh l) 1==0)=true:=beq_iff_eq.2 hq;clear hq HCZ HG2;generalize qcu (qoh l) 1=cr at *;generalize qoh l=sq at *;generalize l.map qkh=qs at *;go_enter Tryz.func106,Tryz.ntmps106;go_wp2_with fail;refine HE2.out.mono ?_;rintro e w2 ⟨⟨⟨g,hgg,rfl,hn⟩,m,hm,hv⟩,hbl⟩;obtain⟨⟨m0,m1,m2⟩,_⟩:=hm.one.cells;have c0:=hm.one.cells.1;have HM2:=hid hm;have HN2:=hid hn;have HV2:=hid hv;have HB2:=hid hbl;clear hm hn hv hbl HE2;go_wp2_with fail
   go_region_held3 (fun W=>W.cell? ⟨w.heap.size+1,0,none⟩=some (.bool m.b)∧W.cell? ⟨w.heap.size+1,1,none⟩=some (.slice m.p m.k m.c)∧W.cell? ⟨w.heap.size+1,2,none⟩=some (.slice m.q m.j m.d)) (first|with_reducible exact c1|with_reducible exact c2|exact c0)
    (first
     | (go_at_call 38;refine(HWH.out _).mono ?_;rintro e wA ⟨⟨v1,rfl,hn⟩,hb⟩;have HVA:=hid hn;have HBA:Hid (Below w2.heap.size w2 wA):=hid ((Below.refl _ _).drew.trans hb);have c1:=((HM2.out.later HBA.out).one.cells).1;clear hn hb)
     | (go_at_call 36;refine(HCQ.out _ _ _ (HV2.out.later HBA.out) HVA.out).mono ?_;rintro e wB ⟨rfl,hb⟩;have HBB:=hid (HBA.out.trans (hb.mono HBA.out.size));have c2:=((HM2.out.later HBB.out).one.cells).1;clear hb))
   all_goals
    have HBF:=hid (HB2.out.trans (HBB.out.mono HB2.out.size));have HNF:=hid (HN2.out.later HBB.out);go_wp2_with fail;go_ret2;exact HG1.out _ _ HQ.out hgg HNF.out HBF.out
  ·have HQ:Hid (qoh l≠1):=hid (fun h=>hq (HCZ.out.2 h))
   have hb0:(qcu (qoh l) 1==0)=false:=beq_eq_false_iff_ne.2 hq;clear hq HCZ HG1;generalize qcu (qoh l) 1=cr at *;generalize qoh l=sq at *;generalize l.map qkh=qs at *;go_enter Tryz.func106,Tryz.ntmps106;go_wp2_with fail;refine HE2.out.mono ?_;rintro e w2 ⟨⟨⟨g,hgg,rfl,hn⟩,m,hm,hv⟩,hbl⟩;obtain⟨⟨m0,m1,m2⟩,_⟩:=hm.one.cells;have c0:=hm.one.cells.1;have HM2:=hid hm;have HV2:=hid hv;have HB2:=hid hbl;clear hm hn hv hbl HE2;go_wp2_with fail
   go_region_held3 (fun W=>W.cell? ⟨w.heap.size+1,0,none⟩=some (.bool m.b)∧W.cell? ⟨w.heap.size+1,1,none⟩=some (.slice m.p m.k m.c)∧W.cell? ⟨w.heap.size+1,2,none⟩=some (.slice m.q m.j m.d)) (first|with_reducible exact c1|with_reducible exact c2|exact c0)
    (first
     | (go_at_call 38;refine(HWH.out _).mono ?_;rintro e wA ⟨⟨v1,rfl,hn⟩,hb⟩;have HVA:=hid hn;have HBA:Hid (Below w2.heap.size w2 wA):=hid ((Below.refl _ _).drew.trans hb);have c1:=((HM2.out.later HBA.out).one.cells).1;clear hn hb)
     | (go_at_call 36;refine(HCQ.out _ _ _ (HV2.out.later HBA.out) HVA.out).mono ?_;rintro e wB ⟨rfl,hb⟩;have HBB:=hid (HBA.out.trans (hb.mono HBA.out.size));have c2:=((HM2.out.later HBB.out).one.cells).1;clear hb))
   all_goals
    have HBF:=hid (HB2.out.trans (HBB.out.mono HB2.out.size));go_wp2_with fail;go_ret2;exact HG2.out _ HQ.out HBF.out
 ·have HE2:=hid (HE.out.mono (R':=fun e w'=>e = .returned (.tuple #[.slice none 0 0,.int .i64 (qac (qbb ⟨#[]⟩ l):Nat)])∧Below w.heap.size w w') (fun e w' h=>by
   unfold qpo at h;rw[if_neg he] at h
   exact⟨h.1,HCB.out _ h.2⟩))
  have HG:Hid (∀w',Below w.heap.size w w'→qde l w (.returned (.tuple #[.slice none 0 0,.int .i64 (qac (qbb ⟨#[]⟩ l):Nat)])) w'):=hid fun w' hb=>qg8 _ (by unfold qc9;rw[if_neg h0,if_neg h1,if_pos he]) he rfl hb;have hb0:((qac (qbb ⟨#[]⟩ l):Int)==0)=false:=beq_eq_false_iff_ne.2 (by omega);clear HE he;generalize qac (qbb ⟨#[]⟩ l)=ck at *;go_enter Tryz.func106,Tryz.ntmps106;go_wp2_with fail;refine HE2.out.mono ?_;rintro e w2 ⟨rfl,hbl⟩;have HB2:=hid hbl;clear hbl HE2;go_wp2_with fail;go_ret2;exact HG.out _ HB2.out
end Go.Proofs.YthjagoogkkgelaaGreatDoor
