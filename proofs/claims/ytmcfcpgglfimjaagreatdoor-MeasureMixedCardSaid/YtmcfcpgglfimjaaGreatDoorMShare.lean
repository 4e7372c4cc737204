/- readShare. -/
import Derived.Test.YtmcfcpgglfimjaaGreatDoorMMinMax
import Derived.WalkLawsBesides
import Derived.OneCell
import Derived.Test.YtmcfcpgglfimjaaGreatDoorMRules
import Derived.MapKept
import Derived.Maps.Own
import Derived.Sort.KeysCollected
import Derived.Test.YtmcfcpgglfimjaaGreatDoorMNv
set_option linter.all false
namespace Go.Proofs.YtmcfcpgglfimjaaGreatDoor
open Go.RowKit
set_option maxRecDepth 100000
set_option maxHeartbeats 8000000
def qmw(a b:BA):Bool:=Op.bytesLess a.toList b.toList||a.toList==b.toList
def qak(before:BA)(s:BA × BA):Nat:=
 if qbx s.1.data.toList=false then 8 else if qmw s.1 before=true then 11 else if qah s.2.data.toList≠0 then qah s.2.data.toList else if(qa9 s.2.data.toList).num≤0 then 12 else 0
def qgk(before:BA)(s:BA × BA)(w:World)(e:Ending)(w':World):Prop:=
 (if qak before s=0 then ∃z:NV,e = .returned (.tuple #[.agg #[.bool z.b,.slice z.p z.k z.c,.slice z.q z.j z.d],.int .i64 0])∧qaw w' (.agg #[.bool z.b,.slice z.p z.k z.c,.slice z.q z.j z.d]) (qa9 s.2.data.toList)
  else e = .returned (.tuple #[.agg #[.bool false,.slice none 0 0,.slice none 0 0],.int .i64 (qak before s:Nat)]))∧Below w.heap.size w w'
theorem qid{before:BA}{s:BA × BA}{w w':World}(k:Nat){z:Int}(h:qak before s=k)(hk:k≠0)(hz:z=k)(hb:Below w.heap.size w w'):qgk before s w (.returned (.tuple #[.agg #[.bool false,.slice none 0 0,.slice none 0 0],.int .i64 z])) w':=by
 unfold qgk;rw[h,if_neg hk,hz];exact⟨rfl,hb⟩
def qsk(w:World)(s:BA × BA)(W:World):Prop:=
 Below w.heap.size w W∧Own W w.heap.size 2 (qvs (.string s.1) (.string s.2))∧One W (w.heap.size+1) ⟨false,none,0,0,none,0,0⟩
theorem qsk.later{w W W':World}{s:BA × BA}(h:qsk w s W)(hb:Below W.heap.size W W'):qsk w s W':=
 ⟨h.1.trans (hb.mono h.1.size),h.2.1.later (hb.mono h.2.1.1),h.2.2.later (hb.mono h.2.2.1)⟩
theorem qxp(w:World)(s:BA × BA)(t:TypeId):qsk w s ((w.alloc (.cells #[.string s.1,.string s.2] t)).alloc (.cells #[.bool false,.slice none 0 0,.slice none 0 0] 85)):=by
 have h1:Below w.heap.size w (w.alloc (.cells #[.string s.1,.string s.2] t)):=qad _ _;have p1:=qd2 w t (.string s.1) (.string s.2);have p2:=qqm (w.alloc (.cells #[.string s.1,.string s.2] t)) false (.slice none 0 0) (.slice none 0 0);rw[qab] at p2;exact⟨h1.alloc (by rw[qab];omega) _,p1.later ((qaa _ _).alloc (by rw[qab];omega) _),p2⟩
theorem qsk.cells{w W:World}{s:BA × BA}(h:qsk w s W):(W.cell? ⟨w.heap.size,0,none⟩=some (.string s.1)∧W.cell? ⟨w.heap.size,1,none⟩=some (.string s.2))∧
  (W.cell? ⟨w.heap.size+1,0,none⟩=some (.bool false)∧W.cell? ⟨w.heap.size+1,1,none⟩=some (.slice none 0 0)∧W.cell? ⟨w.heap.size+1,2,none⟩=some (.slice none 0 0))∧
  W.frozen? ⟨w.heap.size+1,0,none⟩=false∧W.frozen? ⟨w.heap.size+1,1,none⟩=false∧W.frozen? ⟨w.heap.size+1,2,none⟩=false:=
 ⟨qap h.2.1,h.2.2.cells.1,h.2.2.cells.2⟩
theorem qxq{q:Rat}:sgn q≤0↔q.num≤0:=by
 unfold sgn;split
 ·constructor<;>intro<;>omega
 ·split<;>constructor<;>intro<;>omega
theorem qr1{w W:World}{s:BA × BA}(h:qsk w s W):Below w.heap.size w (((W.setCell ⟨w.heap.size+1,0,none⟩ (.bool false)).setCell ⟨w.heap.size+1,1,none⟩ (.slice none 0 0)).setCell ⟨w.heap.size+1,2,none⟩ (.slice none 0 0)):=
 ((h.1.setCell (p:=⟨w.heap.size+1,0,none⟩) (by show w.heap.size≤w.heap.size+1;omega) _).setCell (p:=⟨w.heap.size+1,1,none⟩) (by show w.heap.size≤w.heap.size+1;omega) _).setCell (p:=⟨w.heap.size+1,2,none⟩) (by show w.heap.size≤w.heap.size+1;omega) _
theorem qr2(before:BA)(s:BA × BA)(w:World)(hg:GW w)(hs:s.2.size≤1073741824):
  Calls Tryz.prog 112 #[.agg #[.string s.1,.string s.2],.string before] w (qgk before s w):=by
 have aO:=hid (qxp w s 32);obtain⟨⟨s0,s1⟩,⟨r0,r1,r2⟩,g0,g1,g2⟩:=aO.out.cells;have dN:Hid (Calls Tryz.prog 22 #[.string s.1] ((w.alloc (.cells #[.string s.1,.string s.2] 32)).alloc (.cells #[.bool false,.slice none 0 0,.slice none 0 0] 85)) fun e w'=>e = .returned (.bool (qbx s.1.data.toList))∧qsk w s w'):=hid ((qjw s.1 _).mono fun e w' ⟨h1,h2⟩=>⟨h1,aO.out.later h2⟩);by_cases hn:qbx s.1.data.toList=false
 ·have aF:Hid (∀w',Below w.heap.size w w'→qgk before s w (.returned (.tuple #[.agg #[.bool false,.slice none 0 0,.slice none 0 0],.int .i64 8])) w'):=hid fun w' hb=>qid 8 (by unfold qak;rw[if_pos hn]) (by omega) rfl hb
  rw[hn] at dN;clear hg hs hn;go_enter Tryz.func112,Tryz.ntmps112;go_wp2_with fail;clear r0 r1 r2 g0 g1 g2 s0 s1;refine dN.out.mono ?_;rintro e w1 ⟨rfl,ht⟩;obtain⟨⟨s0,s1⟩,⟨r0,r1,r2⟩,g0,g1,g2⟩:=qsk.cells ht;have HB:=hid (qr1 ht);clear ht;go_wp2_with fail;refine bodyPost_ret (v := .tuple #[.agg #[.bool false,.slice none 0 0,.slice none 0 0],.int .i64 8]) ?_ rfl ?_
  ·simp[results,Tryz.results112,go_sem,r0,r1,r2]
  ·exact aF.out _ HB.out
 ·have hn':qbx s.1.data.toList=true:=by simpa using hn
  rw[hn'] at dN;by_cases dS:qmw s.1 before=true
  ·have aF:Hid (∀w',Below w.heap.size w w'→qgk before s w (.returned (.tuple #[.agg #[.bool false,.slice none 0 0,.slice none 0 0],.int .i64 11])) w'):=hid fun w' hb=>qid 11 (by unfold qak;rw[if_neg hn,if_pos dS]) (by omega) rfl hb
   have hAB:Op.bytesLess s.1.toList before.toList=true∨(Op.bytesLess s.1.toList before.toList=false∧(s.1.toList==before.toList)=true):=by
    unfold qmw at dS;cases h:Op.bytesLess s.1.toList before.toList
    ·right;rw[h] at dS;exact⟨rfl,by simpa using dS⟩
    ·exact .inl rfl
   clear hg hs hn hn' dS;rcases hAB with hA|⟨hA,hB⟩
   all_goals
    go_enter Tryz.func112,Tryz.ntmps112;go_wp2_with fail;clear r0 r1 r2 g0 g1 g2 s0 s1;refine dN.out.mono ?_;rintro e w1 ⟨rfl,ht⟩;obtain⟨⟨s0,s1⟩,⟨r0,r1,r2⟩,g0,g1,g2⟩:=qsk.cells ht;have HB:=hid (qr1 ht);clear ht;go_wp2_with fail;refine bodyPost_ret (v := .tuple #[.agg #[.bool false,.slice none 0 0,.slice none 0 0],.int .i64 11]) ?_ rfl ?_
    ·simp[results,Tryz.results112,go_sem,r0,r1,r2]
    ·exact aF.out _ HB.out
  ·obtain⟨hA,hB⟩:Op.bytesLess s.1.toList before.toList=false∧(s.1.toList==before.toList)=false:=by
    unfold qmw at dS
    simpa [Bool.or_eq_true] using dS
   by_cases hc:qah s.2.data.toList=0
   ·have cH:Hid (∀W,qsk w s W→Calls Tryz.prog 43 #[.string s.2] W fun e w'=>(∃z:NV,e = .returned (.tuple #[.agg #[.bool z.b,.slice z.p z.k z.c,.slice z.q z.j z.d],.int .i64 0])∧qaw w' (.agg #[.bool z.b,.slice z.p z.k z.c,.slice z.q z.j z.d]) (qa9 s.2.data.toList))∧qsk w s w'):=hid fun W hW=>(qmq s.2 W (hg.later hW.1) hs hc).mono fun e w' ⟨⟨v,he,hv⟩,hb⟩=>by
     obtain⟨z,rfl⟩:=hv.nv;exact⟨⟨z,he,hv⟩,hW.later hb⟩
    by_cases hp:(qa9 s.2.data.toList).num≤0
    ·have aF:Hid (∀w',Below w.heap.size w w'→qgk before s w (.returned (.tuple #[.agg #[.bool false,.slice none 0 0,.slice none 0 0],.int .i64 12])) w'):=hid fun w' hb=>qid 12 (by unfold qak;rw[if_neg hn,if_neg dS,if_neg (by omega),if_pos hp]) (by omega) rfl hb
     have iK:sgn (qa9 s.2.data.toList)≤0:=qxq.2 hp;clear hg hs hn hn' dS hc hp;have eK:=hid (fun v W=>qdv v (qa9 s.2.data.toList) W);generalize sgn (qa9 s.2.data.toList)=sg at *;go_enter Tryz.func112,Tryz.ntmps112;go_wp2_with fail;clear r0 r1 r2 g0 g1 g2 s0 s1;refine dN.out.mono ?_;rintro e w1 ⟨rfl,ht⟩;have cW:=hid ht;obtain⟨⟨s0,s1⟩,⟨r0,r1,r2⟩,g0,g1,g2⟩:=qsk.cells ht;clear ht dN;go_wp2_with fail;clear r0 r1 r2 g0 g1 g2 s0 s1;refine(cH.out _ cW.out).mono ?_;rintro e w2 ⟨⟨z,rfl,hv⟩,ht⟩;have aD:Below w2.heap.size w2 (w2.alloc (.cells #[.bool z.b,.slice z.p z.k z.c,.slice z.q z.j z.d] 85)):=qad _ _;have gF:=hid (ht.later aD);obtain⟨q0,q1,q2⟩:=(qgj w2 z).cells.1;have cO:=hid (eK.out _ _ (hv.later aD));clear ht hv aD cH eK;go_wp2_with fail;refine cO.out.mono ?_;rintro e w3 ⟨rfl,hb⟩;have oR:=hid (gF.out.later hb);obtain⟨⟨s0,s1⟩,⟨r0,r1,r2⟩,g0,g1,g2⟩:=oR.out.cells;have HB:=hid (qr1 oR.out);clear hb q0 q1 q2 cO;go_wp2_with fail;refine bodyPost_ret (v := .tuple #[.agg #[.bool false,.slice none 0 0,.slice none 0 0],.int .i64 12]) ?_ rfl ?_
     ·simp[results,Tryz.results112,go_sem,r0,r1,r2]
     ·exact aF.out _ HB.out
    ·have aF:Hid (∀w' (z:NV),qaw w' (.agg #[.bool z.b,.slice z.p z.k z.c,.slice z.q z.j z.d]) (qa9 s.2.data.toList)→Below w.heap.size w w'→qgk before s w (.returned (.tuple #[.agg #[.bool z.b,.slice z.p z.k z.c,.slice z.q z.j z.d],.int .i64 0])) w'):=hid fun w' z hv hb=>by
      have h0:qak before s=0:=by unfold qak;rw[if_neg hn,if_neg dS,if_neg (by omega),if_neg hp]
      unfold qgk;rw[if_pos h0];exact⟨⟨z,rfl,hv⟩,hb⟩
     have iK:¬sgn (qa9 s.2.data.toList)≤0:=fun h=>hp (qxq.1 h);clear hg hs hn hn' dS hc hp;have eK:=hid (fun v W=>qdv v (qa9 s.2.data.toList) W);generalize sgn (qa9 s.2.data.toList)=sg at *;go_enter Tryz.func112,Tryz.ntmps112;go_wp2_with fail;clear r0 r1 r2 g0 g1 g2 s0 s1;refine dN.out.mono ?_;rintro e w1 ⟨rfl,ht⟩;have cW:=hid ht;obtain⟨⟨s0,s1⟩,⟨r0,r1,r2⟩,g0,g1,g2⟩:=qsk.cells ht;clear ht dN;go_wp2_with fail;clear r0 r1 r2 g0 g1 g2 s0 s1;refine(cH.out _ cW.out).mono ?_;rintro e w2 ⟨⟨z,rfl,hv⟩,ht⟩;have aD:Below w2.heap.size w2 (w2.alloc (.cells #[.bool z.b,.slice z.p z.k z.c,.slice z.q z.j z.d] 85)):=qad _ _;have gF:=hid (ht.later aD);have jH:=hid (qgj w2 z);obtain⟨q0,q1,q2⟩:=jH.out.cells.1;have cO:=hid (eK.out _ _ (hv.later aD));have cK:=hid (hv.later aD);clear ht hv aD cH eK;go_wp2_with fail;clear q0 q1 q2;refine cO.out.mono ?_;rintro e w3 ⟨rfl,hb⟩;have oR:=hid (gF.out.later hb);have iU:=hid (cK.out.later hb);obtain⟨⟨s0,s1⟩,⟨r0,r1,r2⟩,g0,g1,g2⟩:=oR.out.cells;obtain⟨q0,q1,q2⟩:=(One.cells (jH.out.later (hb.mono jH.out.1))).1;have dR:=oR.out.2.2.put (x:=z);have HNV:=hid (dR.2.1 _ _ iU.out);have HB:=hid (dR.2.2.1 _ _ (by omega) oR.out.1);clear hb cO dR;go_wp2_with fail;refine bodyPost_ret (v := .tuple #[.agg #[.bool z.b,.slice z.p z.k z.c,.slice z.q z.j z.d],.int .i64 0]) ?_ rfl ?_
     ·simp[results,Tryz.results112,go_sem,r0,r1,r2]
     ·exact aF.out _ _ HNV.out HB.out
   ·have cH:Hid (∀W,qsk w s W→Calls Tryz.prog 43 #[.string s.2] W fun e w'=>e = .returned (.tuple #[.agg #[.bool false,.slice none 0 0,.slice none 0 0],.int .i64 (qah s.2.data.toList:Nat)])∧qsk w s w'):=hid fun W hW=>(qo4 s.2 W (hg.later hW.1) hs hc).mono fun e w' ⟨h1,hb⟩=>⟨h1,hW.later hb⟩
    have aF:Hid (∀w',Below w.heap.size w w'→qgk before s w (.returned (.tuple #[.agg #[.bool false,.slice none 0 0,.slice none 0 0],.int .i64 (qah s.2.data.toList:Nat)])) w'):=hid fun w' hb=>qid _ (by unfold qak;rw[if_neg hn,if_neg dS,if_pos hc]) hc rfl hb;have eE:((qah s.2.data.toList:Int)==0)=false:=qan (by omega);clear hg hs hn hn' dS hc;generalize qah s.2.data.toList=ck at *;go_enter Tryz.func112,Tryz.ntmps112;go_wp2_with fail;clear r0 r1 r2 g0 g1 g2 s0 s1;refine dN.out.mono ?_;rintro e w1 ⟨rfl,ht⟩;have cW:=hid ht;obtain⟨⟨s0,s1⟩,⟨r0,r1,r2⟩,g0,g1,g2⟩:=qsk.cells ht;clear ht dN;go_wp2_with fail;clear r0 r1 r2 g0 g1 g2 s0 s1;refine(cH.out _ cW.out).mono ?_;rintro e w2 ⟨rfl,ht⟩;have aD:Below w2.heap.size w2 (w2.alloc (.cells #[.bool false,.slice none 0 0,.slice none 0 0] 85)):=qad _ _;have gF:=hid (ht.later aD);obtain⟨⟨s0,s1⟩,⟨r0,r1,r2⟩,g0,g1,g2⟩:=qsk.cells gF.out;have HB:=hid (qr1 gF.out);clear ht aD cH;go_wp2_with fail;refine bodyPost_ret (v := .tuple #[.agg #[.bool false,.slice none 0 0,.slice none 0 0],.int .i64 ck]) ?_ rfl ?_
    ·simp[results,Tryz.results112,go_sem,r0,r1,r2]
    ·exact aF.out _ HB.out
def qek(W:World)(g:Nat)(cs:Array Value)(t:TypeId):Prop:=W.heap[g]? = some (.cells cs t (0,0))
theorem qek.lt{W:World}{g:Nat}{cs:Array Value}{t:TypeId}(h:qek W g cs t):g<W.heap.size:=lt_of_block h
theorem qek.later{W W':World}{g:Nat}{cs:Array Value}{t:TypeId}(h:qek W g cs t)(hb:Below W.heap.size W W'):qek W' g cs t:=(hb.block g h.lt).trans h
theorem qek.other{W:World}{g g':Nat}{cs:Array Value}{t:TypeId}(h:qek W g cs t)(hne:g≠g')(o:Nat)(v:Value):qek (W.setCell ⟨g',o,none⟩ v) g cs t:=(Below.heap_setCell _ _ _ _ hne).trans h
theorem qek.set{W:World}{g:Nat}{cs:Array Value}{t:TypeId}(h:qek W g cs t)(o:Nat)(v:Value):qek (W.setCell ⟨g,o,none⟩ v) g (cs.setIfInBounds o v) t:=by
 have bC:=h.lt
 have h':W.heap[g] = .cells cs t (0,0):=by
  have:=h;unfold qek at this
  simpa [Array.getElem?_eq_getElem bC] using this
 show(W.heap.modify g _)[g]? = _;rw[Array.getElem?_eq_getElem (by simpa using bC),Array.getElem_modify_self,h'];rfl
theorem qek.own{W:World}{g n:Nat}{cs:Array Value}{t:TypeId}{f:Nat→Value}(h:qek W g cs t)(hf:∀i,i<n→cs[i]? = some (f i)):Own W g n f:=by
 refine⟨h.lt,fun i hi=>⟨?_, ?_⟩⟩
 ·rw[cell_of_row W g i cs t (0,0) h];exact hf i hi
 ·have:=h
  unfold qek at this;simp[World.frozen?,this]
theorem qr3(W:World)(cs:Array Value)(t:TypeId):qek (W.alloc (.cells cs t)) W.heap.size cs t:=heap_alloc_new W _
theorem qek.own1{W:World}{g:Nat}{v:Value}{t:TypeId}(h:qek W g #[v] t):Own W g 1 (fun _=>v):=h.own fun i hi=>by
 match i,hi with
 | 0,_=>rfl
theorem qek.one{W:World}{g:Nat}{x:NV}{t:TypeId}(h:qek W g #[.bool x.b,.slice x.p x.k x.c,.slice x.q x.j x.d] t):One W g x:=h.own fun i hi=>by
 match i,hi with
 | 0,_=>rfl
 | 1,_=>rfl
 | 2,_=>rfl
theorem qek.str{W:World}{g:Nat}{s:BA}{t:TypeId}(h:qek W g #[.string s] t):W.cell? ⟨g,0,none⟩=some (.string s)∧W.frozen? ⟨g,0,none⟩=false:=⟨cell_of_one h,free_of_one h⟩
theorem qek.put3{W:World}{g:Nat}{x z:NV}{t:TypeId}(h:qek W g #[.bool x.b,.slice x.p x.k x.c,.slice x.q x.j x.d] t):qek (((W.setCell ⟨g,0,none⟩ (.bool z.b)).setCell ⟨g,1,none⟩ (.slice z.p z.k z.c)).setCell ⟨g,2,none⟩ (.slice z.q z.j z.d)) g #[.bool z.b,.slice z.p z.k z.c,.slice z.q z.j z.d] t:=
 ((h.set 0 (.bool z.b)).set 1 (.slice z.p z.k z.c)).set 2 (.slice z.q z.j z.d)
theorem qek.other3{W:World}{g g':Nat}{cs:Array Value}{t:TypeId}(h:qek W g cs t)(hne:g≠g')(a b c:Value):qek (((W.setCell ⟨g',0,none⟩ a).setCell ⟨g',1,none⟩ b).setCell ⟨g',2,none⟩ c) g cs t:=
 ((h.other hne _ _).other hne _ _).other hne _ _
def Chg(g1 g2:Nat)(W W':World):Prop:=Below (min g1 g2) W W'∧∀k,k<W.heap.size→k≠g1→k≠g2→W'.heap[k]? = W.heap[k]?
theorem Chg.refl(g1 g2:Nat)(W:World):Chg g1 g2 W W:=⟨qaa _ _,fun _ _ _ _=>rfl⟩
theorem Chg.trans{g1 g2:Nat}{a b c:World}(h:Chg g1 g2 a b)(k:Chg g1 g2 b c):Chg g1 g2 a c:=⟨h.1.trans k.1,fun i h0 h1 h2=>(k.2 i (Nat.lt_of_lt_of_le h0 h.1.size) h1 h2).trans (h.2 i h0 h1 h2)⟩
theorem Chg.below{g1 g2:Nat}{a b c:World}(h:Chg g1 g2 a b)(hg:min g1 g2≤b.heap.size)(k:Below b.heap.size b c):Chg g1 g2 a c:=⟨h.1.trans (k.mono hg),fun i h0 h1 h2=>(k.block i (Nat.lt_of_lt_of_le h0 h.1.size)).trans (h.2 i h0 h1 h2)⟩
theorem Chg.set{g1 g2 g:Nat}{a b:World}(h:Chg g1 g2 a b)(hg:g=g1∨g=g2∨a.heap.size≤g)(hm:min g1 g2≤g)(o:Nat)(v:Value):Chg g1 g2 a (b.setCell ⟨g,o,none⟩ v):=
 ⟨h.1.setCell hm v,fun i h0 h1 h2=>(Below.heap_setCell _ _ _ _ (by intro e;subst e;rcases hg with e|e|e<;>omega)).trans (h.2 i h0 h1 h2)⟩
theorem qlq{W:World}{g b o:Nat}{cs:Array Value}{t:TypeId}{k:IntKind}{z:Int}(h:qek W g cs t)(hc:∀c ∈ cs.toList,∀k z,c ≠ .int k z)(aC:W.cell? ⟨b,o,none⟩=some (.int k z)):b≠g:=by
 rintro rfl;rw[cell_of_row W b o cs t (0,0) h] at aC;rw[←Array.getElem?_toList] at aC;exact hc _ (qbj aC) _ _ rfl
theorem qa2.chg{g1 g2:Nat}{W W':World}{v:Value}{n:Nat}{c1 c2:Array Value}{t1 t2:TypeId}(h:qa2 W v n)(hc:Chg g1 g2 W W')(b1:qek W g1 c1 t1)(b2:qek W g2 c2 t2)(n1:∀c ∈ c1.toList,∀k z,c ≠ .int k z)(n2:∀c ∈ c2.toList,∀k z,c ≠ .int k z):qa2 W' v n:=by
 obtain⟨h1,q,c,h2,h3,h4,h5⟩:=h;refine⟨h1,q,c,h2,h3,h4, ?_⟩;rcases h5 with h5|⟨b,o,h6,h7⟩
 ·exact .inl h5
 ·refine .inr ⟨b,o,h6,fun i hi => ?_⟩
  have aC:=h7 i hi;have hb:=qaf W _ aC;have e:=hc.2 b hb (qlq b1 n1 aC) (qlq b2 n2 aC);rw[World.cell?_of_block (a:=⟨b,o+i,none⟩) e];exact aC
theorem qaw.chg{g1 g2:Nat}{W W':World}{v:Value}{q:Rat}{c1 c2:Array Value}{t1 t2:TypeId}(h:qaw W v q)(hc:Chg g1 g2 W W')(b1:qek W g1 c1 t1)(b2:qek W g2 c2 t2)(n1:∀c ∈ c1.toList,∀k z,c ≠ .int k z)(n2:∀c ∈ c2.toList,∀k z,c ≠ .int k z):qaw W' v q:=by
 obtain⟨t,b,e,h1,h2⟩:=h;exact⟨t,b,e,h1.chg hc b1 b2 n1 n2,h2.chg hc b1 b2 n1 n2⟩
theorem qtz(s:BA):∀c ∈ (#[Value.string s]:Array Value).toList,∀k z,c ≠ .int k z:=by
 intro c hc;simp only[List.mem_cons,List.not_mem_nil,or_false] at hc;subst hc;intro _ _ h;cases h
theorem qxr(x:NV):∀c ∈ (#[.bool x.b,.slice x.p x.k x.c,.slice x.q x.j x.d]:Array Value).toList,∀k z,c ≠ .int k z:=by
 intro c hc;simp only[List.mem_cons,List.not_mem_nil,or_false] at hc;rcases hc with rfl|rfl|rfl<;>(intro _ _ h;cases h)
def qo9(w:World)(r:Nat)(D:List (BA × Value)):Prop:=
 ∃es clock,w.heap[r]? = some (.map es clock)∧es.toList.map (fun e=>(e.key,e.val))=D.map (fun p=>(Value.string p.1,p.2))∧MapKept.Stamped es clock
theorem qo9.smap{w:World}{r:Nat}{D:List (BA × Value)}(h:qo9 w r D):qru w r D:=by
 obtain⟨es,clock,h1,h2,_⟩:=h;exact⟨es,clock,h1,h2⟩
theorem qo9.lt{w:World}{r:Nat}{D:List (BA × Value)}(h:qo9 w r D):r<w.heap.size:=by
 obtain⟨es,clock,h1,_⟩:=h;exact lt_of_block h1
theorem qo9.later{w w':World}{r:Nat}{D:List (BA × Value)}(h:qo9 w r D)(hb:Below w.heap.size w w'):qo9 w' r D:=by
 have bC:=h.lt;obtain⟨es,clock,h1,h2,h3⟩:=h;exact⟨es,clock,by rw[hb.block r bC];exact h1,h2,h3⟩
theorem q2v(w:World):qo9 (w.alloc (.map #[] 0)) w.heap.size []:=⟨#[],0,heap_alloc_new w _,rfl,MapKept.stamped_empty 0⟩
def q97(D:List (BA × Value))(k:BA)(v:Value):List (BA × Value):=
 if D.any (fun p=>k==p.1) then D.map (fun p=>if k==p.1 then(p.1,v) else p) else D++[(k,v)]
theorem qbw(a b:BA):(a==b)=true↔a=b:=MapKept.bytes_beq a b
theorem qgl{es:List MapEntry}{D:List (BA × Value)}(h:es.map (fun e=>(e.key,e.val))=D.map (fun p=>(Value.string p.1,p.2)))(i:Nat):
  (∀e,es[i]? = some e→∃p,D[i]? = some p∧e.key = .string p.1∧e.val=p.2)∧(∀p,D[i]? = some p→∃e,es[i]? = some e∧e.key = .string p.1∧e.val=p.2):=by
 have h1:(es.map (fun e=>(e.key,e.val)))[i]? = (D.map (fun p=>(Value.string p.1,p.2)))[i]? := by rw[h]
 rw[List.getElem?_map,List.getElem?_map] at h1;constructor
 ·intro e he
  rw[he] at h1;cases hd:D[i]? with
  | none=>rw[hd] at h1;cases h1
  | some p=>
   rw[hd] at h1;simp only[Option.map_some,Option.some.injEq,Prod.mk.injEq] at h1;exact⟨p,rfl,h1.1,h1.2⟩
 ·intro p hp
  rw[hp] at h1;cases he:es[i]? with
  | none=>rw[he] at h1;cases h1
  | some e=>
   rw[he] at h1;simp only[Option.map_some,Option.some.injEq,Prod.mk.injEq] at h1;exact⟨e,rfl,h1.1,h1.2⟩
section
variable {P:Program}
theorem q53(w:World)(t kt et:TypeId)(ht:P.underlying t=some (.map kt et))(hk:P.underlying kt=some .string)(r:Nat)(D:List (BA × Value))(hm:qo9 w r D)(k:BA)(v:Value):
  ∃w',(Instr.mapUpdate t (.map (some r)) (.string k) v).run P w = .ok () w'∧qo9 w' r (q97 D k v)∧Below r w w'∧w'.heap.size=w.heap.size∧∀j,j≠r→w'.heap[j]? = w.heap[j]? := by
 obtain⟨es,clock,h1,h2,h3⟩:=hm;have hik:MapKept.IsKey .string (.string k):=by simp[MapKept.IsKey]
 have oT:∀x ∈ es.toList,MapKept.IsKey .string x.key:=by
  intro x hx;obtain⟨i,hi⟩:=List.getElem?_of_mem hx;obtain⟨p,_,e,_⟩:=(qgl h2 i).1 x hi;rw[e];simp[MapKept.IsKey]
 rcases MapKept.findNow_spec hik es.toList 0 oT with⟨g1,g2⟩|⟨j,e,g1,g2,g3⟩
 ·have hno:D.any (fun p=>k==p.1)=false:=by
   rw[List.any_eq_false];intro p hp;obtain⟨i,hi⟩:=List.getElem?_of_mem hp;obtain⟨x,hx,e1,_⟩:=(qgl h2 i).2 p hi;intro hb;exact g2 x (qbj hx) (by rw[e1,(qbw _ _).1 hb])
  refine⟨_,by simp[Instr.mapUpdate,run_underlying ht,MapKept.run_getObj_map h1,MapKept.run_checkKey hk hik,MapKept.run_findKey hk g1,MapKept.run_setObj_map _ h1,Result.andThen];rfl, ?_, ?_, ?_, ?_⟩
  ·refine⟨_,_,(MapKept.heap_set h1).1, ?_,MapKept.stamped_push h3 g2⟩
   unfold q97;rw[hno];simp[h2]
  ·exact⟨rfl,rfl,rfl,by simp,fun j hj=>(MapKept.heap_set h1).2 j (by omega)⟩
  ·simp
  ·exact fun j hj=>(MapKept.heap_set h1).2 j hj
 ·have hj:es[j]? = some e:=by simpa using g2
  obtain⟨p,hp,e1,e2⟩:=(qgl h2 j).1 e g2;have hpk:p.1=k:=by rw[g3] at e1;simpa using e1.symm
  have hyes:D.any (fun p=>k==p.1)=true:=by
   rw[List.any_eq_true];exact⟨p,qbj hp,(qbw _ _).2 hpk.symm⟩
  have hkey:∀e',es[j]? = some e'→({ e' with key := .string k,val:=v }:MapEntry).key=e'.key:=fun e' he'=>by rw[hj] at he';cases he';exact g3.symm
  refine⟨_,by simp[Instr.mapUpdate,run_underlying ht,MapKept.run_getObj_map h1,MapKept.run_checkKey hk hik,MapKept.run_findKey hk g1,hj,g3,MapKept.run_keyThatStays hik,MapKept.run_setObj_map _ h1,Result.andThen];rfl, ?_, ?_, ?_, ?_⟩
  ·refine⟨_,_,(MapKept.heap_set h1).1, ?_,MapKept.stamped_modify h3 _ _ (fun _ _=>rfl) (fun e' _ he'=>hkey e' he')⟩
   unfold q97;rw[if_pos hyes];refine List.ext_getElem? fun i => ?_;rw[List.getElem?_map,List.getElem?_map,List.getElem?_map,Array.toList_modify,List.getElem?_modify];by_cases hij:j=i
   ·subst hij
    rw[g2,hp];simp[hpk,(qbw k k).2 rfl]
   ·simp only[hij,if_false,Option.map_eq_map,Option.map_id']
    cases hd:D[i]? with
    | none=>
     have:es.toList[i]? = none:=by
      cases he:es.toList[i]? with
      | none=>rfl
      | some e'=>obtain⟨p',hp',_⟩:=(qgl h2 i).1 e' he;rw[hd] at hp';cases hp'
     rw[this];rfl
    | some p'=>
     obtain⟨e',he',f1,f2⟩:=(qgl h2 i).2 p' hd;rw[he']
     have hne:(k==p'.1)=false:=by
      rw[Bool.eq_false_iff];intro hb;have lA:=(qbw _ _).1 hb;have De:=h3.2.2;have zK:i<(es.toList.map (·.key)).length:=by rw[List.length_map];exact(List.getElem?_eq_some_iff.1 he').1
      have xN:j<(es.toList.map (·.key)).length:=by rw[List.length_map];exact(List.getElem?_eq_some_iff.1 g2).1
      have hg:(es.toList.map (·.key))[i]=(es.toList.map (·.key))[j]:=by
       rw[List.getElem_map,List.getElem_map];have a1:=(List.getElem?_eq_some_iff.1 he').2;have a2:=(List.getElem?_eq_some_iff.1 g2).2;rw[a1,a2,f1,g3,←lA]
      exact hij ((List.getElem_inj De).1 hg).symm
     simp[f1,f2,hne]
  ·exact⟨rfl,rfl,rfl,by simp,fun j' hj'=>(MapKept.heap_set h1).2 j' (by omega)⟩
  ·simp
  ·exact fun j' hj'=>(MapKept.heap_set h1).2 j' hj'
end
theorem qo9.owns{H:Type}{P:Program}{kt:TypeId}{w:World}{r:Nat}{D:List (BA × Value)}(h:qo9 w r D)(hk:P.underlying kt=some .string)(hl:∀p ∈ D,p.1.size≤maxLen)(hn:D.length≤1048576):
  ∃D0:DataW H,w.ownsMap P kt (fun _=>some (.nil,[])) r D.length D0∧(Go.strKeys D0).Perm (D.map fun p=>p.1.data.toList)∧Maps.size D0=D.length:=by
 obtain⟨es,clock,h1,h2,h3⟩:=h
 have aE:es.toList.length=D.length:=by
  have:=congrArg List.length h2
  rwa [List.length_map,List.length_map] at this
 have wR:∀x ∈ es.toList,∃p ∈ D,x.key = .string p.1∧WideElems.rd (H:=H) P kt (fun _=>some (.nil,[])) x=some (.string p.1.data.toList,.nil):=by
  intro x hx;obtain⟨i,hi⟩:=List.getElem?_of_mem hx;obtain⟨p,hp,e,_⟩:=(qgl h2 i).1 x hi;refine⟨p,qbj hp,e, ?_⟩;unfold WideElems.rd;rw[e,WideMaps.keyOf_string_mk hk (hl p (qbj hp))];rfl
 refine⟨_,⟨es,clock,h1,⟨by rw[←Array.length_toList,aE];unfold maxLen;omega,h3,fun x hx => ?_⟩,by rw[←Array.length_toList,aE];exact qac _,rfl⟩, ?_, ?_⟩
 ·obtain⟨p,_,_,e⟩:=wR x hx
  exact⟨_,e⟩
 ·show((es.toList.map (WideElems.rg P kt _)).foldr DataW.insert []).map (fun p=>Go.strOf p.1) |>.Perm _
  refine((WideShapes.sorted_perm _).map _).trans ?_;rw[List.map_map];refine List.Perm.of_eq (List.ext_getElem? fun i => ?_);rw[List.getElem?_map,List.getElem?_map];cases hd:es.toList[i]? with
  | none=>
   have:D[i]? = none:=by
    rw[List.getElem?_eq_none_iff] at hd ⊢;omega
   rw[this];rfl
  | some x=>
   obtain⟨p,hp,e,_⟩:=(qgl h2 i).1 x hd;rw[hp]
   have hr:WideElems.rd (H:=H) P kt (fun _=>some (.nil,[])) x=some (.string p.1.data.toList,.nil):=by
    unfold WideElems.rd;rw[e,WideMaps.keyOf_string_mk hk (hl p (qbj hp))];rfl
   simp[WideElems.rg,hr,Go.strOf]
 ·show((es.toList.map (WideElems.rg P kt _)).foldr DataW.insert []).length=_
  rw[(WideShapes.sorted_perm _).length_eq,List.length_map,aE]
def qv7(gb gs:Nat)(bef:BA)(q:Rat)(s:BA × BA)(w:World)(e:Ending)(w':World):Prop:=
 (if qak bef s=0 then ∃z m:NV,e = .returned (.tuple #[.agg #[.bool z.b,.slice z.p z.k z.c,.slice z.q z.j z.d],.int .i64 0])∧qaw w' (.agg #[.bool z.b,.slice z.p z.k z.c,.slice z.q z.j z.d]) (qa9 s.2.data.toList)∧qek w' gs #[.bool m.b,.slice m.p m.k m.c,.slice m.q m.j m.d] 85∧qaw w' (.agg #[.bool m.b,.slice m.p m.k m.c,.slice m.q m.j m.d]) (q+qa9 s.2.data.toList)
  else e = .returned (.tuple #[.agg #[.bool false,.slice none 0 0,.slice none 0 0],.int .i64 (qak bef s:Nat)]))∧qek w' gb #[.string s.1] 9∧Chg gb gs w w'
theorem qmx(w:World):qaw w (.agg #[.bool false,.slice none 0 0,.slice none 0 0]) 0:=qjt w 0 false (.slice none 0 0) (.slice none 0 0) rfl (qa2.nil w) (qa2.nil w)
theorem q8k:rs 0=1:=by
 have:=qjv 0;rw[show wl (0:Int).natAbs=0 from qcx] at this;exact this
theorem qt0(gb gs:Nat)(bef:BA)(m:NV)(q:Rat)(s:BA × BA)(w:World)(hg:GW w)(hs:s.2.size≤1073741824)(bb:qek w gb #[.string bef] 9)(bs:qek w gs #[.bool m.b,.slice m.p m.k m.c,.slice m.q m.j m.d] 85)(hne:gb≠gs)(hm:qaw w (.agg #[.bool m.b,.slice m.p m.k m.c,.slice m.q m.j m.d]) q)(aQ:rs q+1300≤Cap):
  Calls Tryz.prog 111 #[.agg #[.string s.1,.string s.2],.pointer (some ⟨gb,0,none⟩),.pointer (some ⟨gs,0,none⟩)] w (qv7 gb gs bef q s w):=by
 have aO:=hid (qxp w s 32);have dQ:=hid ((qr2 bef s _ (hg.later aO.out.1) hs));obtain⟨⟨s0,s1⟩,⟨r0,r1,r2⟩,g0,g1,g2⟩:=aO.out.cells;have BB0:=hid (bb.later aO.out.1);have BS0:=hid (bs.later aO.out.1);have wQ:=hid (hm.later aO.out.1);obtain⟨eE,Ck⟩:=BB0.out.str;have cS:=bb.lt;have hls:=bs.lt;have kS:=hid (Chg.below (Chg.refl gb gs w) (by omega) aO.out.1);by_cases h0:qak bef s=0
 ·have aF:Hid (∀w' (z m:NV),qaw w' (.agg #[.bool z.b,.slice z.p z.k z.c,.slice z.q z.j z.d]) (qa9 s.2.data.toList)→qek w' gs #[.bool m.b,.slice m.p m.k m.c,.slice m.q m.j m.d] 85→qaw w' (.agg #[.bool m.b,.slice m.p m.k m.c,.slice m.q m.j m.d]) (q+qa9 s.2.data.toList)→qek w' gb #[.string s.1] 9→Chg gb gs w w'→qv7 gb gs bef q s w (.returned (.tuple #[.agg #[.bool z.b,.slice z.p z.k z.c,.slice z.q z.j z.d],.int .i64 0])) w'):=hid fun w' z m h1 h2 h3 h4 h5=>by
   unfold qv7;rw[if_pos h0];exact⟨⟨z,m,rfl,h1,h2,h3⟩,h4,h5⟩
  have fA:qah s.2.data.toList=0:=by
   unfold qak at h0;split at h0
   ·cases h0
   ·split at h0
    ·cases h0
    ·split at h0
     ·rename_i h;exact absurd h0 h
     ·omega
  have bq:=(qin fA).rs
  have cH:Hid (Calls Tryz.prog 112 #[.agg #[.string s.1,.string s.2],.string bef] ((w.alloc (.cells #[.string s.1,.string s.2] 32)).alloc (.cells #[.bool false,.slice none 0 0,.slice none 0 0] 85)) fun e w'=>(∃z:NV,e = .returned (.tuple #[.agg #[.bool z.b,.slice z.p z.k z.c,.slice z.q z.j z.d],.int .i64 0])∧qaw w' (.agg #[.bool z.b,.slice z.p z.k z.c,.slice z.q z.j z.d]) (qa9 s.2.data.toList))∧Below ((w.alloc (.cells #[.string s.1,.string s.2] 32)).alloc (.cells #[.bool false,.slice none 0 0,.slice none 0 0] 85)).heap.size ((w.alloc (.cells #[.string s.1,.string s.2] 32)).alloc (.cells #[.bool false,.slice none 0 0,.slice none 0 0] 85)) w'):=hid (dQ.out.mono fun e w' h=>by
   unfold qgk at h;rw[if_pos h0] at h;obtain⟨⟨z,h1,h2⟩,h3⟩:=h
   exact⟨⟨z,h1,h2⟩,h3⟩)
  clear h0 fA hg hs bb bs hm dQ;generalize qa9 s.2.data.toList=pq at *;have hbs0:w.heap.size<((w.alloc (.cells #[.string s.1,.string s.2] 32)).alloc (.cells #[.bool false,.slice none 0 0,.slice none 0 0] 85)).heap.size:=by have:=aO.out.2.1.1;exact this
  go_enter Tryz.func111,Tryz.ntmps111;go_wp2_with fail;clear r0 r1 r2 g0 g1 g2;refine cH.out.mono ?_;rintro e w2 ⟨⟨z,rfl,hz⟩,hb⟩;have aD:Below w2.heap.size w2 (w2.alloc (.cells #[.bool z.b,.slice z.p z.k z.c,.slice z.q z.j z.d] 85)):=qad _ _;have hb':=hb.trans (aD.mono hb.size);have gF:=hid (aO.out.later hb');have BB2:=hid (BB0.out.later hb');have BS2:=hid (BS0.out.later hb');have kG:=hid (hz.later aD);have fF:=hid (wQ.out.later hb');have BZ2:=hid (qr3 w2 #[.bool z.b,.slice z.p z.k z.c,.slice z.q z.j z.d] 85);have gS:=hid (kS.out.below (by have:=aO.out.1.size;omega) hb');have kZ:w.heap.size+1<w2.heap.size:=by have:=aO.out.2.2.1;have:=hb.size;omega
  clear hz hb aD hb' s0 s1 eE Ck cH BB0 BS0 wQ kS;generalize nD:w2.heap.size=gz at *;have BS3:=hid (BS2.out.other (Ne.symm hne) 0 (.string s.1));have BB3:Hid (qek ((w2.alloc (.cells #[.bool z.b,.slice z.p z.k z.c,.slice z.q z.j z.d] 85)).setCell ⟨gb,0,none⟩ (.string s.1)) gb #[.string s.1] 9):=hid (BB2.out.set 0 _);have BZ3:=hid (BZ2.out.other (show gz≠gb by omega) 0 (.string s.1));have Kg:=hid (qbl fF.out BB2.out.own1 0 (by omega) (by intro k z e;cases e) (.string s.1));have HZ3:=hid (qbl kG.out BB2.out.own1 0 (by omega) (by intro k z e;cases e) (.string s.1));have Ar:=hid (gS.out.set (g:=gb) (.inl rfl) (Nat.min_le_left _ _) 0 (.string s.1));have oR:Hid (One ((w2.alloc (.cells #[.bool z.b,.slice z.p z.k z.c,.slice z.q z.j z.d] 85)).setCell ⟨gb,0,none⟩ (.string s.1)) (w.heap.size+1) ⟨false,none,0,0,none,0,0⟩):=hid (((qfb.refl gb _).set 0 _).own gF.out.2.2 (by omega));have iA:=hid (qhy _ _ _ _ _ Kg.out HZ3.out (by unfold Cap at *;omega));obtain⟨⟨s0,s1⟩,_⟩:=gF.out.cells;obtain⟨eE,Ck⟩:=BB2.out.str;obtain⟨⟨p0,p1,p2⟩,_⟩:=BZ2.out.one.cells;obtain⟨⟨q0,q1,q2⟩,_⟩:=BS3.out.one.cells;obtain⟨⟨t0,t1,t2⟩,_⟩:=BZ3.out.one.cells;go_wp2_with fail;clear s0 s1 eE Ck p0 p1 p2 q0 q1 q2 t0 t1 t2;refine iA.out.mono ?_;rintro e w4 ⟨⟨v4,rfl,hv⟩,hb⟩;obtain⟨m',rfl⟩:=hv.nv;have BS4:=BS3.out.later hb;have BB4:=BB3.out.later hb;have BZ4:=BZ3.out.later hb;have Bs:=oR.out.later (hb.mono oR.out.1);have HZ4:=HZ3.out.later hb;have dR:=BS4.one.put (x:=m');have HM5:=hid (dR.2.1 _ _ hv);have HZ5:=hid (dR.2.1 _ _ HZ4);have BS5:=hid (BS4.put3 (z:=m'));have BB5:=hid (BB4.other3 hne (.bool m'.b) (.slice m'.p m'.k m'.c) (.slice m'.q m'.j m'.d));have BZ5:=hid (BZ4.other3 (show gz≠gs by omega) (.bool m'.b) (.slice m'.p m'.k m'.c) (.slice m'.q m'.j m'.d))
  have Ff:Hid (One (((w4.setCell ⟨gs,0,none⟩ (.bool m'.b)).setCell ⟨gs,1,none⟩ (.slice m'.p m'.k m'.c)).setCell ⟨gs,2,none⟩ (.slice m'.q m'.j m'.d)) (w.heap.size+1) ⟨false,none,0,0,none,0,0⟩):=hid (dR.2.2.2 _ _ _ (by omega) Bs);have Ja:=Ar.out.below (by have:=Ar.out.1.size;have:=Nat.min_le_left gb gs;simp;omega) hb;have HC5:=hid (((Ja.set (g:=gs) (.inr (.inl rfl)) (Nat.min_le_right _ _) 0 (.bool m'.b)).set (g:=gs) (.inr (.inl rfl)) (Nat.min_le_right _ _) 1 (.slice m'.p m'.k m'.c)).set (g:=gs) (.inr (.inl rfl)) (Nat.min_le_right _ _) 2 (.slice m'.q m'.j m'.d));obtain⟨⟨q0,q1,q2⟩,f0,f1,f2⟩:=BS4.one.cells;obtain⟨⟨t0,t1,t2⟩,_⟩:=BZ5.out.one.cells;obtain⟨⟨r0,r1,r2⟩,g0,g1,g2⟩:=One.cells Ff.out;clear dR hv hb BS4 BB4 BZ4 Bs HZ4 Ja iA;have uK:=Ff.out.put (x:=z);have HZ6:=hid (uK.2.1 _ _ HZ5.out);have Fg:=hid (uK.2.1 _ _ HM5.out);have BS6:=hid (BS5.out.other3 (show gs≠w.heap.size+1 by omega) (.bool z.b) (.slice z.p z.k z.c) (.slice z.q z.j z.d));have BB6:=hid (BB5.out.other3 (show gb≠w.heap.size+1 by omega) (.bool z.b) (.slice z.p z.k z.c) (.slice z.q z.j z.d));have Cl:=Nat.min_le_left gb gs;have HC6:=hid (((HC5.out.set (g:=w.heap.size+1) (.inr (.inr (by omega))) (by omega) 0 (.bool z.b)).set (g:=w.heap.size+1) (.inr (.inr (by omega))) (by omega) 1 (.slice z.p z.k z.c)).set (g:=w.heap.size+1) (.inr (.inr (by omega))) (by omega) 2 (.slice z.q z.j z.d));clear uK;go_wp2_with fail;refine bodyPost_ret (v := .tuple #[.agg #[.bool z.b,.slice z.p z.k z.c,.slice z.q z.j z.d],.int .i64 0]) ?_ rfl ?_
  ·simp[results,Tryz.results111,go_sem,r0,r1,r2]
  ·exact aF.out _ _ _ HZ6.out BS6.out Fg.out BB6.out HC6.out
 ·have aF:Hid (∀w',qek w' gb #[.string s.1] 9→Chg gb gs w w'→qv7 gb gs bef q s w (.returned (.tuple #[.agg #[.bool false,.slice none 0 0,.slice none 0 0],.int .i64 (qak bef s:Nat)])) w'):=hid fun w' h4 h5=>by
   unfold qv7;rw[if_neg h0];exact⟨rfl,h4,h5⟩
  have cH:Hid (Calls Tryz.prog 112 #[.agg #[.string s.1,.string s.2],.string bef] ((w.alloc (.cells #[.string s.1,.string s.2] 32)).alloc (.cells #[.bool false,.slice none 0 0,.slice none 0 0] 85)) fun e w'=>e = .returned (.tuple #[.agg #[.bool false,.slice none 0 0,.slice none 0 0],.int .i64 (qak bef s:Nat)])∧Below ((w.alloc (.cells #[.string s.1,.string s.2] 32)).alloc (.cells #[.bool false,.slice none 0 0,.slice none 0 0] 85)).heap.size ((w.alloc (.cells #[.string s.1,.string s.2] 32)).alloc (.cells #[.bool false,.slice none 0 0,.slice none 0 0] 85)) w'):=hid (dQ.out.mono fun e w' h=>by
   unfold qgk at h;rw[if_neg h0] at h
   exact h)
  clear h0 hg hs bb bs hm dQ;generalize qak bef s=ck at *;go_enter Tryz.func111,Tryz.ntmps111;go_wp2_with fail;clear r0 r1 r2 g0 g1 g2;refine cH.out.mono ?_;rintro e w2 ⟨rfl,hb⟩;have aD:Below w2.heap.size w2 (w2.alloc (.cells #[.bool false,.slice none 0 0,.slice none 0 0] 85)):=qad _ _;have hb':=hb.trans (aD.mono hb.size);have gF:=hid (aO.out.later hb');have BB2:=hid (BB0.out.later hb');have BS2:=hid (BS0.out.later hb');have kG:=hid (qmx (w2.alloc (.cells #[.bool false,.slice none 0 0,.slice none 0 0] 85)));have fF:=hid (wQ.out.later hb');have BZ2:Hid (qek (w2.alloc (.cells #[.bool false,.slice none 0 0,.slice none 0 0] 85)) w2.heap.size #[.bool false,.slice none 0 0,.slice none 0 0] 85):=hid (qr3 w2 #[.bool false,.slice none 0 0,.slice none 0 0] 85);have gS:=hid (kS.out.below (by have:=aO.out.1.size;omega) hb');have kZ:w.heap.size+1<w2.heap.size:=by have:=aO.out.2.2.1;have:=hb.size;omega
  clear hb aD hb' s0 s1 eE Ck cH BB0 BS0 wQ kS;generalize nD:w2.heap.size=gz at *;have BS3:=hid (BS2.out.other (Ne.symm hne) 0 (.string s.1));have BB3:Hid (qek ((w2.alloc (.cells #[.bool false,.slice none 0 0,.slice none 0 0] 85)).setCell ⟨gb,0,none⟩ (.string s.1)) gb #[.string s.1] 9):=hid (BB2.out.set 0 _);have BZ3:=hid (BZ2.out.other (show gz≠gb by omega) 0 (.string s.1));have Kg:=hid (qbl fF.out BB2.out.own1 0 (by omega) (by intro k z e;cases e) (.string s.1));have HZ3:=hid (qbl kG.out BB2.out.own1 0 (by omega) (by intro k z e;cases e) (.string s.1));have Ar:=hid (gS.out.set (g:=gb) (.inl rfl) (Nat.min_le_left _ _) 0 (.string s.1));have oR:Hid (One ((w2.alloc (.cells #[.bool false,.slice none 0 0,.slice none 0 0] 85)).setCell ⟨gb,0,none⟩ (.string s.1)) (w.heap.size+1) ⟨false,none,0,0,none,0,0⟩):=hid (((qfb.refl gb _).set 0 _).own gF.out.2.2 (by omega));have iA:=hid (qhy _ _ _ _ _ Kg.out HZ3.out (by have:rs 0=1:=q8k;unfold Cap at *;omega));obtain⟨⟨s0,s1⟩,_⟩:=gF.out.cells;obtain⟨eE,Ck⟩:=BB2.out.str;obtain⟨⟨p0,p1,p2⟩,_⟩:=(qek.one (x:=⟨false,none,0,0,none,0,0⟩) BZ2.out).cells;obtain⟨⟨q0,q1,q2⟩,_⟩:=BS3.out.one.cells;obtain⟨⟨t0,t1,t2⟩,_⟩:=(qek.one (x:=⟨false,none,0,0,none,0,0⟩) BZ3.out).cells;go_wp2_with fail;clear s0 s1 eE Ck p0 p1 p2 q0 q1 q2 t0 t1 t2;refine iA.out.mono ?_;rintro e w4 ⟨⟨v4,rfl,hv⟩,hb⟩;obtain⟨m',rfl⟩:=hv.nv;have BS4:=BS3.out.later hb;have BB4:=BB3.out.later hb;have BZ4:=BZ3.out.later hb;have Bs:=oR.out.later (hb.mono oR.out.1);have BB5:=hid (BB4.other3 hne (.bool m'.b) (.slice m'.p m'.k m'.c) (.slice m'.q m'.j m'.d));have BZ5:=hid (BZ4.other3 (show gz≠gs by omega) (.bool m'.b) (.slice m'.p m'.k m'.c) (.slice m'.q m'.j m'.d))
  have Ff:Hid (One (((w4.setCell ⟨gs,0,none⟩ (.bool m'.b)).setCell ⟨gs,1,none⟩ (.slice m'.p m'.k m'.c)).setCell ⟨gs,2,none⟩ (.slice m'.q m'.j m'.d)) (w.heap.size+1) ⟨false,none,0,0,none,0,0⟩):=hid (BS4.one.put.2.2.2 _ _ _ (by omega) Bs);have Ja:=Ar.out.below (by have:=Ar.out.1.size;have:=Nat.min_le_left gb gs;simp;omega) hb;have HC5:=hid (((Ja.set (g:=gs) (.inr (.inl rfl)) (Nat.min_le_right _ _) 0 (.bool m'.b)).set (g:=gs) (.inr (.inl rfl)) (Nat.min_le_right _ _) 1 (.slice m'.p m'.k m'.c)).set (g:=gs) (.inr (.inl rfl)) (Nat.min_le_right _ _) 2 (.slice m'.q m'.j m'.d));obtain⟨⟨q0,q1,q2⟩,f0,f1,f2⟩:=BS4.one.cells;obtain⟨⟨t0,t1,t2⟩,_⟩:=(qek.one (x:=⟨false,none,0,0,none,0,0⟩) BZ5.out).cells;obtain⟨⟨r0,r1,r2⟩,g0,g1,g2⟩:=One.cells Ff.out;clear hv hb BS4 BB4 BZ4 Bs Ja iA;have BB6:=hid (BB5.out.other3 (show gb≠w.heap.size+1 by omega) (.bool false) (.slice none 0 0) (.slice none 0 0));have Cl:=Nat.min_le_left gb gs;have HC6:=hid (((HC5.out.set (g:=w.heap.size+1) (.inr (.inr (by omega))) (by omega) 0 (.bool false)).set (g:=w.heap.size+1) (.inr (.inr (by omega))) (by omega) 1 (.slice none 0 0)).set (g:=w.heap.size+1) (.inr (.inr (by omega))) (by omega) 2 (.slice none 0 0));go_wp2_with fail;refine bodyPost_ret (v := .tuple #[.agg #[.bool false,.slice none 0 0,.slice none 0 0],.int .i64 ck]) ?_ rfl ?_
  ·simp[results,Tryz.results111,go_sem,r0,r1,r2]
  ·exact aF.out _ BB6.out HC6.out
def qjj(b:BA)(l:List (BA × BA)):BA:=l.foldl (fun _ s=>s.1) b
def qgn(l:List (BA × BA)):Rat:=l.foldl (fun a s=>a+qa9 s.2.data.toList) 0
def qay:BA→List (BA × BA)→List Nat
 | _,[]=>[]
 | b,s::l=>qak b s::qay s.1 l
theorem qqx(b:BA)(l:List (BA × BA))(s:BA × BA):qjj b (l++[s])=s.1:=by unfold qjj;rw[List.foldl_append];rfl
theorem qlr(l:List (BA × BA))(s:BA × BA):qgn (l++[s])=qgn l+qa9 s.2.data.toList:=by unfold qgn;rw[List.foldl_append];rfl
theorem qfu(l m:List (BA × BA)):∀b,qay b (l++m)=qay b l++qay (qjj b l) m:=by
 induction l with
 | nil=>intro b;rfl
 | cons s l ih=>intro b;show qak b s::qay s.1 (l++m)=_;rw[ih s.1];rfl
theorem qg7{b:BA}{s:BA × BA}(h:qak b s=0):qah s.2.data.toList=0:=by
 unfold qak at h;split at h
 ·cases h
 ·split at h
  ·cases h
  ·split at h
   ·rename_i h1;exact absurd h h1
   ·omega
theorem qgz{l m:List Nat}(h:qai (l++m)=0):qai l=0∧qai m=0:=by
 induction l with
 | nil=>exact⟨rfl,h⟩
 | cons e l ih=>
  have h1:(if e=0 then qai (l++m) else e)=0:=h;by_cases he:e=0
  ·rw[if_pos he] at h1
   refine⟨?_,(ih h1).2⟩;show(if e=0 then qai l else e)=0;rw[if_pos he];exact(ih h1).1
  ·rw[if_neg he] at h1;exact absurd h1 he
theorem qb3{α:Type}{P:List α→Prop}(h0:P [])(h1:∀l x,P l→P (l++[x]))(l:List α):P l:=by
 have:∀l:List α,P l.reverse:=by
  intro l
  induction l with
  | nil=>exact h0
  | cons x l ih=>rw[List.reverse_cons];exact h1 _ _ ih
 have h:=this l.reverse
 rwa [List.reverse_reverse] at h
theorem q2w(b:BA)(l:List (BA × BA))(h:qai (qay b l)=0):bd (qgn l) (601*l.length+1):=by
 induction l using qb3 with
 | h0=>exact qjb _ (by simp)
 | h1 l s ih=>
  rw[qfu] at h;obtain⟨h1,h2⟩:=qgz h
  have h3:qak (qjj b l) s=0:=by
   have:(if qak (qjj b l) s=0 then qai [] else qak (qjj b l) s)=0:=h2;by_cases hz:qak (qjj b l) s=0
   ·exact hz
   ·rw[if_neg hz] at this;exact absurd this hz
  rw[qlr];refine(qne (ih h1) (qin (qg7 h3))).mono ?_;rw[List.length_append];simp;omega
theorem GW.chg{g1 g2:Nat}{W W':World}{c1 c2:Array Value}{t1 t2:TypeId}(h:GW W)(hc:Chg g1 g2 W W')(b1:qek W g1 c1 t1)(b2:qek W g2 c2 t2)(n1:∀c ∈ c1.toList,∀k z,c ≠ .int k z)(n2:∀c ∈ c2.toList,∀k z,c ≠ .int k z):GW W':=by
 obtain⟨h0,m,hm⟩:=h;refine⟨Nat.lt_of_lt_of_le h0 hc.1.size,m, ?_⟩;have e:=hc.2 _ (qaf W _ hm) (qlq b1 n1 hm) (qlq b2 n2 hm);rw[World.cell?_of_block (a:=⟨_,0,none⟩) e];exact hm
theorem qj0.chg{g1 g2 g cap:Nat}{W W':World}{qs:List Rat}{c1 c2:Array Value}{t1 t2:TypeId}(h:qj0 W g cap qs)(hc:Chg g1 g2 W W')(h1:g≠g1)(h2:g≠g2)(b1:qek W g1 c1 t1)(b2:qek W g2 c2 t2)(n1:∀c ∈ c1.toList,∀k z,c ≠ .int k z)(n2:∀c ∈ c2.toList,∀k z,c ≠ .int k z):qj0 W' g cap qs:=by
 have bC:=h.lt;obtain⟨e1,cur,hg,e2,e3,e4⟩:=h;refine⟨e1,cur,(hc.2 g bC h1 h2).trans hg,e2,e3,fun j q hq => ?_⟩;obtain⟨b,p1,k1,c1,p2,k2,c2,a1,a2,a3,hv⟩:=e4 j q hq;exact⟨b,p1,k1,c1,p2,k2,c2,a1,a2,a3,hv.chg hc b1 b2 n1 n2⟩
theorem Chg.cell{g1 g2 b o:Nat}{W W':World}{v:Value}(hc:Chg g1 g2 W W')(h:W.cell? ⟨b,o,none⟩=some v)(h1:b≠g1)(h2:b≠g2):W'.cell? ⟨b,o,none⟩=some v:=by
 rw[World.cell?_of_block (a:=⟨b,o,none⟩) (hc.2 b (qaf W _ h) h1 h2)];exact h
def qpa(gb gs:Nat)(b0:BA)(l:List (BA × BA))(w:World)(e:Ending)(w':World):Prop:=
 (if qai (qay b0 l)=0 then(∃g,w.heap.size≤g∧e = .returned (.tuple #[.slice (some ⟨g,0,none⟩) l.length l.length,.int .i64 0])∧qj0 w' g l.length (l.map fun s=>qa9 s.2.data.toList))∧∃m:NV,qek w' gs #[.bool m.b,.slice m.p m.k m.c,.slice m.q m.j m.d] 85∧qaw w' (.agg #[.bool m.b,.slice m.p m.k m.c,.slice m.q m.j m.d]) (qgn l)
  else e = .returned (.tuple #[.slice none 0 0,.int .i64 (qai (qay b0 l))]))∧Chg gb gs w w'
theorem qzs{gb gs:Nat}{b0:BA}{l:List (BA × BA)}{w w':World}{k:Nat}(h:qai (qay b0 l)=k)(hk:k≠0)(hc:Chg gb gs w w'):qpa gb gs b0 l w (.returned (.tuple #[.slice none 0 0,.int .i64 (k:Int)])) w':=by
 unfold qpa;rw[h,if_neg hk];exact⟨rfl,hc⟩
theorem qv8{gb gs:Nat}{b0:BA}{l:List (BA × BA)}{w w':World}{m:NV}(h:qai (qay b0 l)=0)(hn:qj0 w' w.heap.size l.length (l.map fun s=>qa9 s.2.data.toList))(hm:qek w' gs #[.bool m.b,.slice m.p m.k m.c,.slice m.q m.j m.d] 85∧qaw w' (.agg #[.bool m.b,.slice m.p m.k m.c,.slice m.q m.j m.d]) (qgn l))(hc:Chg gb gs w w'):
  qpa gb gs b0 l w (.returned (.tuple #[.slice (some ⟨w.heap.size,0,none⟩) l.length l.length,.int .i64 0])) w':=by
 unfold qpa;rw[if_pos h];exact⟨⟨⟨w.heap.size,qac _,rfl,hn⟩,m,hm⟩,hc⟩
theorem q2x{W:World}{g g':Nat}{cs cur:Array Value}{t:TypeId}(hr:∀kk,kk≠g'→(W.setRow g' cur).heap[kk]? = W.heap[kk]?)(h:qek W g cs t)(hne:g≠g'):qek (W.setRow g' cur) g cs t:=(hr g hne).trans h
theorem q8l{g1 g2 g:Nat}{w W:World}{cur:Array Value}(h:Chg g1 g2 w W)(hb:Below w.heap.size W (W.setRow g cur))(hr:∀kk,kk≠g→(W.setRow g cur).heap[kk]? = W.heap[kk]?)(hg:w.heap.size≤g)(hm:min g1 g2≤w.heap.size:=by omega):Chg g1 g2 w (W.setRow g cur):=
 ⟨h.1.trans (hb.mono hm),fun i h0 h1 h2=>(hr i (by omega)).trans (h.2 i h0 h1 h2)⟩
theorem za1{W:World}{g cap:Nat}{qs:List Rat}{cur:Array Value}(h:qj0 W g cap qs)(hg:W.heap[g]? = some (.cells cur 85 (0,0))):∀c ∈ cur.toList,∀k z,c ≠ .int k z:=by
 obtain⟨_,cur',hg',_,h3,_⟩:=h;rw[hg] at hg';cases hg'
 exact h3
theorem qzt(gb gs:Nat)(b0:BA)(m0:NV)(l:List (BA × BA))(b o c:Nat)(w:World)(hg:GW w)(aB:qb0 w b o l)(hl:l.length≤64)(hs:∀s ∈ l,s.2.size≤1073741824)
  (bb:qek w gb #[.string b0] 9) (bs:qek w gs #[.bool m0.b,.slice m0.p m0.k m0.c,.slice m0.q m0.j m0.d] 85) (hne:gb≠gs) (hm:qaw w (.agg #[.bool m0.b,.slice m0.p m0.k m0.c,.slice m0.q m0.j m0.d]) 0) (aY:b≠gb) (aR:b≠gs):
  Calls Tryz.prog 110 #[.slice (some ⟨b,o,none⟩) l.length c,.func (.func 111) #[] #[.pointer (some ⟨gb,0,none⟩),.pointer (some ⟨gs,0,none⟩)]] w (qpa gb gs b0 l w):=by
 have HG:=hid hg;have bP:=hid aB;have HS:=hid hs;have kX:=qo5 l.length (by omega);obtain⟨i0,hi,cP,dV,eF⟩:=info_parts (show(Tryz.prog.info? 85).map (fun i=>(i.zero,i.size,i.bytes))=some (some (.agg #[.bool false,.slice none 0 0,.slice none 0 0]),3,56) by kernel_rfl);have HI:=hid hi;have oF:Below w.heap.size w (w.alloc (.cells (madeCells #[.bool false,.slice none 0 0,.slice none 0 0] (l.length*3)) 85)):=qad _ _;have uG:=bb.lt;have Cj:=bs.lt;have gJ:=hid (qmr w l.length);have BBW:=hid bb;have BSW:=hid bs;have BB0:=hid (bb.later oF);have BS0:=hid (bs.later oF);have wQ:=hid (hm.later oF);have kS:=hid (Chg.below (Chg.refl gb gs w) (by omega) oF);clear aB hs hi cP eF bb bs hm oF hg;go_enter Tryz.func110,Tryz.ntmps110;go_wp2_with fail;clear kX;generalize w.alloc (.cells (madeCells #[.bool false,.slice none 0 0,.slice none 0 0] (l.length*3)) 85)=w0 at *
 go_loopw [6,16] (fun r i wr=>∃k:Nat,k≤l.length∧i = .int .i64 k∧r = .slice (some ⟨w.heap.size,0,none⟩) k l.length∧Hid (qj0 wr w.heap.size l.length ((l.take k).map fun s=>qa9 s.2.data.toList))∧Hid (qai (qay b0 (l.take k))=0)∧Hid (Chg gb gs w wr)∧Hid (qek wr gb #[.string (qjj b0 (l.take k))] 9)∧∃m:NV,Hid (qek wr gs #[.bool m.b,.slice m.p m.k m.c,.slice m.q m.j m.d] 85∧qaw wr (.agg #[.bool m.b,.slice m.p m.k m.c,.slice m.q m.j m.d]) (qgn (l.take k)))) (fun _ i _=>l.length-(intOf i).toNat)
 case atStart=>exact⟨0,Nat.zero_le _,rfl,rfl,gJ,hid rfl,kS,BB0,m0,hid ⟨BS0.out,wQ.out⟩⟩
 case round=>
  obtain⟨k,hk,rfl,rfl,HN,HE,HC,BB,m,HM⟩:=hrel;clear gJ kS BB0 BS0 wQ;by_cases cQ:k<l.length
  ·obtain⟨s,cI⟩:∃s,l[k]? = some s:=⟨l[k],qat cQ⟩
   obtain⟨e0,e1⟩:=bP.out k s cI;have fA:wr.cell? ⟨b,o+k*2,none⟩=some (.string s.1):=HC.out.cell e0 aY aR;have bO:wr.cell? ⟨b,o+k*2+1,none⟩=some (.string s.2):=HC.out.cell e1 aY aR;have aD:Below wr.heap.size wr (wr.alloc (.cells #[.string s.1,.string s.2] 32)):=qad _ _;have fM:=HS.out s (qbj cI);have dG:=HC.out.1.size;have gV:Hid (l.take (k+1)=l.take k++[s]):=hid (qbp cI);have zL:=hid ((HG.out.chg HC.out BBW.out BSW.out (qtz _) (qxr _)).later aD);have BB1:=hid (BB.out.later aD);have BS1:=hid (HM.out.1.later aD);have gK:=hid (HM.out.2.later aD);have dI:=hid (HN.out.later aD);have jJ:=hid (HC.out.below (by omega) aD);have aQ:=(q2w b0 _ HE.out).rs;have rQ:(l.take k).length≤k:=List.length_take_le _ _;have jR:=hid (qt0 gb gs (qjj b0 (l.take k)) m (qgn (l.take k)) s _ zL.out fM BB1.out BS1.out hne gK.out (by unfold Cap;omega));obtain⟨x0,x1⟩:=qap (qd2 wr 32 (.string s.1) (.string s.2));have Qu:Hid (w.heap.size≠gb∧w.heap.size≠gs):=hid ⟨by omega,by omega⟩;have jD:=hid (qfu (l.take k) [s] b0);have HBN:=hid (qqx b0 (l.take k) s);have HQN:=hid (qlr (l.take k) s);have HALL:Hid (∃d,l=l.take (k+1)++d):=hid ⟨l.drop (k+1),(List.take_append_drop _ _).symm⟩;clear e0 e1 aD fM aQ rQ cI BB HM HN HC;generalize qjj b0 (l.take k)=bef at *;generalize qgn (l.take k)=sq at *;by_cases hc:qak bef s=0
   ·have gB:Hid (qai (qay b0 (l.take (k+1)))=0):=hid (by
     rw[gV.out,jD.out,qf6 _ _ HE.out];show(if qak bef s=0 then qai [] else qak bef s)=0
     rw[if_pos hc];rfl)
    have zM:=hid (jR.out.mono (R':=fun e w'=>(∃z m:NV,e = .returned (.tuple #[.agg #[.bool z.b,.slice z.p z.k z.c,.slice z.q z.j z.d],.int .i64 0])∧qaw w' (.agg #[.bool z.b,.slice z.p z.k z.c,.slice z.q z.j z.d]) (qa9 s.2.data.toList)∧qek w' gs #[.bool m.b,.slice m.p m.k m.c,.slice m.q m.j m.d] 85∧qaw w' (.agg #[.bool m.b,.slice m.p m.k m.c,.slice m.q m.j m.d]) (sq+qa9 s.2.data.toList))∧qek w' gb #[.string s.1] 9∧Chg gb gs (wr.alloc (.cells #[.string s.1,.string s.2] 32)) w') (fun e w' h=>by
     unfold qv7 at h;rw[if_pos hc] at h
     exact h))
    have jU:((l.take k).map fun s=>qa9 s.2.data.toList)++[qa9 s.2.data.toList]=(l.take (k+1)).map fun s=>qa9 s.2.data.toList:=by
     rw[gV.out,List.map_append];rfl
    have vJ:=hid jU;have gT:((l.take k).map fun s=>qa9 s.2.data.toList).length=k:=by rw[List.length_map,List.length_take];omega
    clear jR HE hc jU;generalize qa9 s.2.data.toList=q at *;generalize ((l.take k).map fun s=>qa9 s.2.data.toList)=qs at *;go_wp2_with fail;refine zM.out.mono ?_;rintro e w1 ⟨⟨z,m',rfl,hz,kB,hm'⟩,hbb,mQ⟩;have fX:=dI.out.chg mQ Qu.out.1 Qu.out.2 BB1.out BS1.out (qtz _) (qxr _);have gS:=jJ.out.trans mQ;have aD:Below w1.heap.size w1 (w1.alloc (.cells #[.bool z.b,.slice z.p z.k z.c,.slice z.q z.j z.d] 85)):=qad _ _;have bL:Below (w1.alloc (.cells #[.bool z.b,.slice z.p z.k z.c,.slice z.q z.j z.d] 85)).heap.size (w1.alloc (.cells #[.bool z.b,.slice z.p z.k z.c,.slice z.q z.j z.d] 85)) ((w1.alloc (.cells #[.bool z.b,.slice z.p z.k z.c,.slice z.q z.j z.d] 85)).alloc (.cells #[.bool z.b,.slice z.p z.k z.c,.slice z.q z.j z.d] 85)):=qad _ _;have rH:=aD.trans (bL.mono (by simp));obtain⟨y0,y1,y2⟩:=(qgj w1 z).cells.1;obtain⟨cur,dX,bM,bZ,bI⟩:=(fX.later rH).push (by rw[gT];exact cQ) (hz.later rH);have iD:=heap_alloc_new (w1.alloc (.cells #[.bool z.b,.slice z.p z.k z.c,.slice z.q z.j z.d] 85)) (.cells #[.bool z.b,.slice z.p z.k z.c,.slice z.q z.j z.d] 85);rw[qab] at iD;have hrowg:=fX.lt;have Qv:min gb gs≤w1.heap.size:=by have:=gS.1.size;omega
    have Ar:=gS.below Qv rH;rw[gT] at bM bZ bI;simp only[List.append_assoc,List.cons_append,List.nil_append] at bZ bI;have mU:∀kk,kk≠w.heap.size→(((w1.alloc (.cells #[.bool z.b,.slice z.p z.k z.c,.slice z.q z.j z.d] 85)).alloc (.cells #[.bool z.b,.slice z.p z.k z.c,.slice z.q z.j z.d] 85)).setRow w.heap.size (List.take (k*3) cur.toList ++ .bool z.b :: .slice z.p z.k z.c :: .slice z.q z.j z.d::List.drop (k*3+3) cur.toList).toArray).heap[kk]? = ((w1.alloc (.cells #[.bool z.b,.slice z.p z.k z.c,.slice z.q z.j z.d] 85)).alloc (.cells #[.bool z.b,.slice z.p z.k z.c,.slice z.q z.j z.d] 85)).heap[kk]? := fun kk Ml=>setRow_other _ _ _ _ Ml;have BB4:=hid (q2x mU (hbb.later rH) (by omega));have BS4:=hid (q2x mU (kB.later rH) (by omega));have HM4:=hid ((hm'.later rH).setRow dX (za1 (fX.later rH) dX) (List.take (k*3) cur.toList ++ .bool z.b :: .slice z.p z.k z.c :: .slice z.q z.j z.d::List.drop (k*3+3) cur.toList).toArray);have Ja:=hid (q8l Ar (bI w.heap.size (qac _)) mU (by omega));have bV:=hid bZ;have kE:=hid dX;have jL:=hid iD;have dF:=hid bM;clear aD bL rH dX bM bZ bI iD gT hz kB hm' hbb mQ fX gS Ar mU x0 x1 fA bO zM;go_wp2_with (at_builtin;refine qbu _ rfl _ _ 67 rfl 85 i0 3 Tryz.underlying67 HI.out dV w.heap.size k l.length cur rfl kE.out ⟨w1.heap.size+1,0,none⟩ 1 1 [.bool z.b,.slice z.p z.k z.c,.slice z.q z.j z.d] rfl rfl (World.news_of_block jL.out) ?lQ (by omega) dF.out ?_)
    case lQ=>
     intro u hu;simp only[List.mem_cons,List.not_mem_nil,or_false] at hu;rcases hu with rfl|rfl|rfl<;>rfl
    clear y0 y1 y2;go_wp2_with fail;go_roundw
    case rel=>exact⟨k+1,cQ,by go_num,rfl,hid (by rw[←vJ.out];exact bV.out),gB,Ja,hid (by rw[gV.out,HBN.out];exact BB4.out),m',hid ⟨BS4.out,by rw[gV.out,HQN.out];exact HM4.out⟩⟩
    case measure=>simp[intOf];omega
   ·have zM:=hid (jR.out.mono (R':=fun e w'=>e = .returned (.tuple #[.agg #[.bool false,.slice none 0 0,.slice none 0 0],.int .i64 (qak bef s:Nat)])∧Chg gb gs (wr.alloc (.cells #[.string s.1,.string s.2] 32)) w') (fun e w' h=>by
     unfold qv7 at h;rw[if_neg hc] at h
     exact⟨h.1,h.2.2⟩))
    have HF:Hid (qai (qay b0 l)=qak bef s):=hid (by
     obtain⟨d,hd⟩:=HALL.out;rw[hd,gV.out,qfu,jD.out,List.append_assoc,qf6 _ _ HE.out];show(if qak bef s=0 then _ else qak bef s)=_
     rw[if_neg hc])
    clear jR HE;generalize qak bef s=ck at *;have nE:((ck:Int)==0)=false:=qan (by omega);have eY:=hid hc;clear hc;go_wp2_with fail;refine zM.out.mono ?_;rintro e w1 ⟨rfl,mQ⟩;have gS:=jJ.out.trans mQ;have Ar:=hid (gS.below (by have:=gS.1.size;omega) ((qaa w1.heap.size w1).alloc (qac _) (.cells #[.bool false,.slice none 0 0,.slice none 0 0] 85)));clear mQ gS x0 x1 fA bO zM;go_wp2_with fail;go_ret2;exact qzs HF.out eY.out Ar.out
  ·obtain rfl:k=l.length:=by omega
   have hE:=HE.out;have hN:=HN.out;have hM:=HM.out;rw[List.take_length] at hE hN hM;have HE':=hid hE;have HN':=hid hN;have HM':=hid hM;clear hE hN hM HE HN HM;go_wp2_with fail;go_ret2;exact qv8 HE'.out HN'.out HM'.out HC.out
def qbd(l:List (BA × BA)):Nat:=
 if l.length=0 then 2 else if 64<l.length then 5 else if qai (qay ⟨#[]⟩ l)≠0 then qai (qay ⟨#[]⟩ l) else if qgn l=1 then 0 else 12
def qbk(s:BA × BA):Rat:=qa9 s.2.data.toList
def qdi(l:List (BA × BA))(w:World)(e:Ending)(w':World):Prop:=
 (if qbd l=0 then ∃g,w.heap.size≤g∧e = .returned (.tuple #[.slice (some ⟨g,0,none⟩) l.length l.length,.int .i64 0])∧qj0 w' g l.length (l.map qbk)
  else e = .returned (.tuple #[.slice none 0 0,.int .i64 (qbd l:Nat)]))∧Below w.heap.size w w'
theorem qg0{l:List (BA × BA)}{w w':World}(k:Nat){z:Int}(h:qbd l=k)(hk:k≠0)(hz:z=k)(hb:Below w.heap.size w w'):qdi l w (.returned (.tuple #[.slice none 0 0,.int .i64 z])) w':=by
 unfold qdi;rw[h,if_neg hk,hz];exact⟨rfl,hb⟩
theorem q8m{a b:Rat}:qfd a b=0↔a=b:=by
 rcases qzh a b with⟨h1,h2⟩|⟨h1,h2⟩|⟨h1,h2⟩
 ·constructor
  ·intro h;omega
  ·rintro rfl;exact absurd h2 Rat.lt_irrefl
 ·exact⟨fun _=>h2,fun _=>h1⟩
 ·constructor
  ·intro h;omega
  ·rintro rfl;exact absurd h2 Rat.lt_irrefl
theorem qp9(v:Value)(l:List (BA × BA))(w:World)(hg:GW w)(hv:qdc w v l)(hs:∀s ∈ l,s.2.size≤1073741824):
  Calls Tryz.prog 67 #[v] w (qdi l w):=by
 obtain⟨p,c,rfl,bO,bJ,aA⟩:=hv;unfold maxLen at bJ;by_cases h0:l.length=0
 ·have HF:Hid (qdi l w (.returned (.tuple #[.slice none 0 0,.int .i64 2])) w):=hid (qg0 2 (by unfold qbd;rw[if_pos h0]) (by omega) rfl (qaa _ _))
  have hb:((l.length:Int)==0)=true:=by rw[h0];rfl
  clear aA hs hg;go_enter Tryz.func67,Tryz.ntmps67;go_wp2_with fail;go_ret2;exact HF.out
 have hb:((l.length:Int)==0)=false:=qan (by omega);by_cases h1:64<l.length
 ·have HF:Hid (qdi l w (.returned (.tuple #[.slice none 0 0,.int .i64 5])) w):=hid (qg0 5 (by unfold qbd;rw[if_neg h0,if_pos h1]) (by omega) rfl (qaa _ _))
  clear aA hs hg;go_enter Tryz.func67,Tryz.ntmps67;go_wp2_with fail;go_ret2;exact HF.out
 obtain⟨b,o,rfl,aB⟩:=aA.resolve_left h0;have nS:Below w.heap.size w (w.alloc (.cells #[.string ⟨#[]⟩] 9)):=qad _ _;have aD:Below w.heap.size w ((w.alloc (.cells #[.string ⟨#[]⟩] 9)).alloc (.cells #[.bool false,.slice none 0 0,.slice none 0 0] 85)):=nS.alloc (by simp) _;have hblt:b<w.heap.size:=qaf w _ (aB 0 (l[0]) (qat (by omega))).1;have b1:=qr3 w #[.string ⟨#[]⟩] 9;have b2:=qr3 (w.alloc (.cells #[.string ⟨#[]⟩] 9)) #[.bool false,.slice none 0 0,.slice none 0 0] 85;rw[qab] at b2;have HE:=hid (qzt w.heap.size (w.heap.size+1) ⟨#[]⟩ ⟨false,none,0,0,none,0,0⟩ l b o c ((w.alloc (.cells #[.string ⟨#[]⟩] 9)).alloc (.cells #[.bool false,.slice none 0 0,.slice none 0 0] 85)) (hg.later aD) (aB.later aD) (by omega) hs (b1.later (qad _ _)) b2 (by omega) (qmx _) (by omega) (by omega));have dK:=hid aD;have Cl:min w.heap.size (w.heap.size+1)=w.heap.size:=Nat.min_eq_left (by omega);have wK:Hid (∀w',Chg w.heap.size (w.heap.size+1) ((w.alloc (.cells #[.string ⟨#[]⟩] 9)).alloc (.cells #[.bool false,.slice none 0 0,.slice none 0 0] 85)) w'→Below w.heap.size w w'):=hid fun w' h=>dK.out.trans (by have:=h.1;rwa [Cl] at this);clear aB hs hg aA aD nS b1 b2 hblt Cl;by_cases he:qai (qay ⟨#[]⟩ l)=0
 ·have gB:=hid (HE.out.mono (R':=fun e w'=>((∃g,w.heap.size≤g∧e = .returned (.tuple #[.slice (some ⟨g,0,none⟩) l.length l.length,.int .i64 0])∧qj0 w' g l.length (l.map qbk))∧∃m:NV,qek w' (w.heap.size+1) #[.bool m.b,.slice m.p m.k m.c,.slice m.q m.j m.d] 85∧qaw w' (.agg #[.bool m.b,.slice m.p m.k m.c,.slice m.q m.j m.d]) (qgn l))∧Below w.heap.size w w') (fun e w' h=>by
   unfold qpa at h;rw[if_pos he] at h;obtain⟨⟨⟨g,h1,h2,h3⟩,hm⟩,hc⟩:=h
   exact⟨⟨⟨g,by simp at h1;omega,h2,h3⟩,hm⟩,wK.out _ hc⟩))
  have bq:=(q2w ⟨#[]⟩ l he).rs;have b1:rs (1:Rat)≤2:=(qew 1 (by omega) (by omega)).rs;have HCQ:Hid (∀W vs vw,qaw W vs (qgn l)→qaw W vw ((1:Int):Rat)→Calls Tryz.prog 49 #[vs,vw] W fun e w'=>e = .returned (.int .i64 (qfd (qgn l) 1))∧Below W.heap.size W w'):=hid fun W vs vw h1 h2=>qdp vs vw _ _ W h1 h2 (by unfold Cap;omega)
  have lG:Hid (∀w' g,qgn l=1→w.heap.size≤g→qj0 w' g l.length (l.map qbk)→Below w.heap.size w w'→qdi l w (.returned (.tuple #[.slice (some ⟨g,0,none⟩) l.length l.length,.int .i64 0])) w'):=hid fun w' g hq hg hn hb=>by
   have hz:qbd l=0:=by unfold qbd;rw[if_neg h0,if_neg h1,if_neg (by omega),if_pos hq]
   unfold qdi;rw[if_pos hz];exact⟨⟨g,hg,rfl,hn⟩,hb⟩
  have mG:Hid (∀w',qgn l≠1→Below w.heap.size w w'→qdi l w (.returned (.tuple #[.slice none 0 0,.int .i64 12])) w'):=hid fun w' hq hb=>qg0 12 (by unfold qbd;rw[if_neg h0,if_neg h1,if_neg (by omega),if_neg hq]) (by omega) rfl hb;have vI:=hid (fun W=>qet 1 W (by omega) (by omega));have hcz:=@q8m (qgn l) 1;have HCZ:=hid hcz;clear HE he bq b1 hcz;by_cases hq:qfd (qgn l) 1=0
  ·have HQ:=hid (HCZ.out.1 hq)
   have eE:(qfd (qgn l) 1==0)=true:=beq_iff_eq.2 hq;clear hq HCZ mG;generalize qfd (qgn l) 1=cr at *;generalize qgn l=sq at *;generalize l.map qbk=qs at *;go_enter Tryz.func67,Tryz.ntmps67;go_wp2_with fail;refine gB.out.mono ?_;rintro e w2 ⟨⟨⟨g,hgg,rfl,hn⟩,m,hm,hv⟩,lK⟩;obtain⟨⟨m0,m1,m2⟩,_⟩:=hm.one.cells;have c0:=hm.one.cells.1;have fF:=hid hm;have fX:=hid hn;have cK:=hid hv;have aK:=hid lK;clear hm hn hv lK gB;go_wp2_with fail
   go_region_held3 (fun W=>W.cell? ⟨w.heap.size+1,0,none⟩=some (.bool m.b)∧W.cell? ⟨w.heap.size+1,1,none⟩=some (.slice m.p m.k m.c)∧W.cell? ⟨w.heap.size+1,2,none⟩=some (.slice m.q m.j m.d)) (first|with_reducible exact c1|with_reducible exact c2|exact c0)
    (first
     | (go_at_call 51;refine(vI.out _).mono ?_;rintro e wA ⟨⟨v1,rfl,hn⟩,hb⟩;have lJ:=hid hn;have dE:Hid (Below w2.heap.size w2 wA):=hid ((qaa _ _).drew.trans hb);have c1:=((fF.out.later dE.out).one.cells).1;clear hn hb)
     | (go_at_call 49;refine(HCQ.out _ _ _ (cK.out.later dE.out) lJ.out).mono ?_;rintro e wB ⟨rfl,hb⟩;have aV:=hid (dE.out.trans (hb.mono dE.out.size));have c2:=((fF.out.later aV.out).one.cells).1;clear hb))
   all_goals
    have kD:=hid (aK.out.trans (aV.out.mono aK.out.size));have HNF:=hid (fX.out.later aV.out);go_wp2_with fail;go_ret2;exact lG.out _ _ HQ.out hgg HNF.out kD.out
  ·have HQ:Hid (qgn l≠1):=hid (fun h=>hq (HCZ.out.2 h))
   have eE:(qfd (qgn l) 1==0)=false:=qan hq;clear hq HCZ lG;generalize qfd (qgn l) 1=cr at *;generalize qgn l=sq at *;generalize l.map qbk=qs at *;go_enter Tryz.func67,Tryz.ntmps67;go_wp2_with fail;refine gB.out.mono ?_;rintro e w2 ⟨⟨⟨g,hgg,rfl,hn⟩,m,hm,hv⟩,lK⟩;obtain⟨⟨m0,m1,m2⟩,_⟩:=hm.one.cells;have c0:=hm.one.cells.1;have fF:=hid hm;have cK:=hid hv;have aK:=hid lK;clear hm hn hv lK gB;go_wp2_with fail
   go_region_held3 (fun W=>W.cell? ⟨w.heap.size+1,0,none⟩=some (.bool m.b)∧W.cell? ⟨w.heap.size+1,1,none⟩=some (.slice m.p m.k m.c)∧W.cell? ⟨w.heap.size+1,2,none⟩=some (.slice m.q m.j m.d)) (first|with_reducible exact c1|with_reducible exact c2|exact c0)
    (first
     | (go_at_call 51;refine(vI.out _).mono ?_;rintro e wA ⟨⟨v1,rfl,hn⟩,hb⟩;have lJ:=hid hn;have dE:Hid (Below w2.heap.size w2 wA):=hid ((qaa _ _).drew.trans hb);have c1:=((fF.out.later dE.out).one.cells).1;clear hn hb)
     | (go_at_call 49;refine(HCQ.out _ _ _ (cK.out.later dE.out) lJ.out).mono ?_;rintro e wB ⟨rfl,hb⟩;have aV:=hid (dE.out.trans (hb.mono dE.out.size));have c2:=((fF.out.later aV.out).one.cells).1;clear hb))
   all_goals
    have kD:=hid (aK.out.trans (aV.out.mono aK.out.size));go_wp2_with fail;go_ret2;exact mG.out _ HQ.out kD.out
 ·have gB:=hid (HE.out.mono (R':=fun e w'=>e = .returned (.tuple #[.slice none 0 0,.int .i64 (qai (qay ⟨#[]⟩ l):Nat)])∧Below w.heap.size w w') (fun e w' h=>by
   unfold qpa at h;rw[if_neg he] at h
   exact⟨h.1,wK.out _ h.2⟩))
  have HG:Hid (∀w',Below w.heap.size w w'→qdi l w (.returned (.tuple #[.slice none 0 0,.int .i64 (qai (qay ⟨#[]⟩ l):Nat)])) w'):=hid fun w' hb=>qg0 _ (by unfold qbd;rw[if_neg h0,if_neg h1,if_pos he]) he rfl hb;have eE:((qai (qay ⟨#[]⟩ l):Int)==0)=false:=qan (by omega);clear HE he;generalize qai (qay ⟨#[]⟩ l)=ck at *;go_enter Tryz.func67,Tryz.ntmps67;go_wp2_with fail;refine gB.out.mono ?_;rintro e w2 ⟨rfl,lK⟩;have aK:=hid lK;clear lK gB;go_wp2_with fail;go_ret2;exact HG.out _ aK.out
end Go.Proofs.YtmcfcpgglfimjaaGreatDoor
