/- interval.plus. -/
import Derived.Test.YthjagoogkkgelaaGreatDoorMNv
import Derived.Test.YthjagoogkkgelaaGreatDoorMClash
import Derived.Test.YthjagoogkkgelaaGreatDoorMBase
import Derived.Test.YthjagoogkkgelaaGreatDoorMMinMax
set_option linter.all false
namespace Go.Proofs.YthjagoogkkgelaaGreatDoor
open Go.RowKit
set_option maxRecDepth 100000
set_option maxHeartbeats 8000000
theorem qz5(va vb:Value)(a b c d:Rat)(w:World)(ha:qg1 w va a b)(hb:qg1 w vb c d)(hcap:rs a+rs b+rs c+rs d+2≤Cap):
  Calls Tryz.prog 39 #[va,vb] w fun e w'=>(∃v',e = .returned v'∧qg1 w' v' (a+c) (b+d))∧Below w.heap.size w w':=by
 obtain⟨x,y,rfl,hx,hy⟩:=ha.nv;obtain⟨x',y',rfl,hx',hy'⟩:=hb.nv;have HW0:=hid (qx8 w x y x' y' 82 82 82)
 have HP1:Hid (∀W,qs2 w x y x' y' W→Calls Tryz.prog 79 #[.agg #[.bool x.b,.slice x.p x.k x.c,.slice x.q x.j x.d],.agg #[.bool x'.b,.slice x'.p x'.k x'.c,.slice x'.q x'.j x'.d]] W fun e w'=>(∃z:NV,e = .returned (.agg #[.bool z.b,.slice z.p z.k z.c,.slice z.q z.j z.d])∧qaj w' (.agg #[.bool z.b,.slice z.p z.k z.c,.slice z.q z.j z.d]) (a+c))∧qs2 w x y x' y' w'∧Below W.heap.size W w'):=
  hid fun W hW=>qm7 (_R:=fun _=>True) hW (qia _ _ _ _ W (hx.later hW.1) (hx'.later hW.1) (by unfold Cap at *;omega))
 have HP2:Hid (∀W,qs2 w x y x' y' W→Calls Tryz.prog 79 #[.agg #[.bool y.b,.slice y.p y.k y.c,.slice y.q y.j y.d],.agg #[.bool y'.b,.slice y'.p y'.k y'.c,.slice y'.q y'.j y'.d]] W fun e w'=>(∃z:NV,e = .returned (.agg #[.bool z.b,.slice z.p z.k z.c,.slice z.q z.j z.d])∧qaj w' (.agg #[.bool z.b,.slice z.p z.k z.c,.slice z.q z.j z.d]) (b+d))∧qs2 w x y x' y' w'∧Below W.heap.size W w'):=
  hid fun W hW=>qm7 (_R:=fun _=>True) hW (qia _ _ _ _ W (hy.later hW.1) (hy'.later hW.1) (by unfold Cap at *;omega))
 clear hx hy hx' hy' ha hb hcap;generalize a+c=q1 at *;generalize b+d=q2 at *;go_enter Tryz.func39,Tryz.ntmps39;go_wp2_with fail;generalize ((w.alloc (.cells #[.bool x.b,.slice x.p x.k x.c,.slice x.q x.j x.d,.bool y.b,.slice y.p y.k y.c,.slice y.q y.j y.d] 82)).alloc (.cells #[.bool x'.b,.slice x'.p x'.k x'.c,.slice x'.q x'.j x'.d,.bool y'.b,.slice y'.p y'.k y'.c,.slice y'.q y'.j y'.d] 82)).alloc (.cells #[.bool false,.slice none 0 0,.slice none 0 0,.bool false,.slice none 0 0,.slice none 0 0] 82)=w0 at *;have HT0:=hid (HW0.out.later ((Below.refl _ _).drew));have c0:=HT0.out.2.1.cells;have d0:=HT0.out.2.2.1.cells
 go_region_held3 (fun W=>W.cell? ⟨w.heap.size,0,none⟩=some (.bool x.b)∧W.cell? ⟨w.heap.size,1,none⟩=some (.slice x.p x.k x.c)∧W.cell? ⟨w.heap.size,2,none⟩=some (.slice x.q x.j x.d)∧W.cell? ⟨w.heap.size,3,none⟩=some (.bool y.b)∧W.cell? ⟨w.heap.size,4,none⟩=some (.slice y.p y.k y.c)∧W.cell? ⟨w.heap.size,5,none⟩=some (.slice y.q y.j y.d)∧W.cell? ⟨w.heap.size+1,0,none⟩=some (.bool x'.b)∧W.cell? ⟨w.heap.size+1,1,none⟩=some (.slice x'.p x'.k x'.c)∧W.cell? ⟨w.heap.size+1,2,none⟩=some (.slice x'.q x'.j x'.d)∧W.cell? ⟨w.heap.size+1,3,none⟩=some (.bool y'.b)∧W.cell? ⟨w.heap.size+1,4,none⟩=some (.slice y'.p y'.k y'.c)∧W.cell? ⟨w.heap.size+1,5,none⟩=some (.slice y'.q y'.j y'.d)) (first|with_reducible exact⟨c0.1,c0.2.1,c0.2.2.1,c0.2.2.2.1,c0.2.2.2.2.1,c0.2.2.2.2.2,d0⟩|with_reducible exact⟨c1.1,c1.2.1,c1.2.2.1,c1.2.2.2.1,c1.2.2.2.2.1,c1.2.2.2.2.2,d1⟩|with_reducible exact⟨c2.1,c2.2.1,c2.2.2.1,c2.2.2.2.1,c2.2.2.2.2.1,c2.2.2.2.2.2,d2⟩|with_reducible exact⟨c3.1,c3.2.1,c3.2.2.1,c3.2.2.2.1,c3.2.2.2.2.1,c3.2.2.2.2.2,d3⟩)
  (first
   | (go_at_call 79;first
     | ((with_reducible refine(HP1.out _ HT0.out).mono ?_);rintro e wL ⟨⟨z1,rfl,hn⟩,ht,hb⟩;have HVL:=hid hn;have HTL:=hid ht;have c1:=ht.2.1.cells;have d1:=ht.2.2.1.cells;clear hn ht hb)
     | ((with_reducible refine(HP2.out _ HTL.out).mono ?_);rintro e wM ⟨⟨z2,rfl,hn⟩,ht,hb⟩;have HVM:=hid hn;have HTM:=hid ht;have HVL2:=hid (HVL.out.later hb);have c2:=ht.2.1.cells;have d2:=ht.2.2.1.cells;obtain⟨⟨r0,g0⟩,⟨r1,g1⟩,⟨r2,g2⟩,⟨r3,g3⟩,⟨r4,g4⟩,⟨r5,g5⟩⟩:=qbm ht.2.2.2;have c3:=qe3 c2 (show w.heap.size+1+1≠w.heap.size by omega) (.bool z1.b) (.slice z1.p z1.k z1.c) (.slice z1.q z1.j z1.d) (.bool z2.b) (.slice z2.p z2.k z2.c) (.slice z2.q z2.j z2.d);have d3:=qe3 d2 (show w.heap.size+1+1≠w.heap.size+1 by omega) (.bool z1.b) (.slice z1.p z1.k z1.c) (.slice z1.q z1.j z1.d) (.bool z2.b) (.slice z2.p z2.k z2.c) (.slice z2.q z2.j z2.d);clear hn ht hb)))
 have hst:=qhz HTM.out.2.2.2 (.bool z1.b) (.slice z1.p z1.k z1.c) (.slice z1.q z1.j z1.d) (.bool z2.b) (.slice z2.p z2.k z2.c) (.slice z2.q z2.j z2.d);have HN:=hid (qgd (hst.1 _ _ HVL2.out) (hst.1 _ _ HVM.out));have HB:=hid (hst.2 w.heap.size w (by omega) HTM.out.1);clear hst c0 d0 c1 d1 c2 d2 c3 d3;go_wp2_with fail;refine bodyPost_ret (v := .agg #[.bool z1.b,.slice z1.p z1.k z1.c,.slice z1.q z1.j z1.d,.bool z2.b,.slice z2.p z2.k z2.c,.slice z2.q z2.j z2.d]) ?_ rfl ?_
 ·simp[results,Tryz.results39,go_sem,r0,r1,r2,r3,r4,r5]
 ·exact⟨⟨_,rfl,HN.out⟩,HB.out⟩
def qpr(qs:List (Rat × Rat))(ws:List Int):Nat→Rat × Rat
 | 0=>(0,0)
 | k+1=>((qpr qs ws k).1+(qs.getD k (0,0)).1*((ws.getD k 0:Int):Rat),(qpr qs ws k).2+(qs.getD k (0,0)).2*((ws.getD k 0:Int):Rat))
def qhh(qs:List (Rat × Rat))(ws:List Int):Rat × Rat:=((qpr qs ws qs.length).1/((ws.sum:Int):Rat),(qpr qs ws qs.length).2/((ws.sum:Int):Rat))
def qk4(l:List (ByteArray × ByteArray))(ws:List Int):Nat:=if qak l≠0 then qak l else if ws.length≠l.length then 2 else qg3 ws
def qt9(l:List (ByteArray × ByteArray))(ws:List Int)(w:World)(e:Ending)(w':World):Prop:=
 if qk4 l ws≠0 then e = .returned (.tuple #[.agg #[.string ⟨#[]⟩,.string ⟨#[]⟩],.int .i64 (qk4 l ws:Nat)])∧Below w.heap.size w w'
 else qd0 (qhh (l.map spQ) ws).1 (qhh (l.map spQ) ws).2 w e w'
theorem ql2(z:Int)(h0:0≤z)(h1:z≤999999999):bd (z:Rat) 1:=qe2 z (by omega) (by omega)
theorem q9f(qs:List (Rat × Rat))(ws:List Int)(hq:∀(i:Nat) (q:Rat × Rat),qs[i]? = some q→bd q.1 600∧bd q.2 600∧q.1≤q.2)(hw:∀x ∈ ws,wIn x=true)(k:Nat):bd (qpr qs ws k).1 (602*k+1)∧bd (qpr qs ws k).2 (602*k+1):=by
 have hq':∀i,bd (qs.getD i (0,0)).1 600∧bd (qs.getD i (0,0)).2 600:=fun i=>by
  rw[List.getD_eq_getElem?_getD];cases h:qs[i]? with
  | none=>exact⟨qjb _ (by omega),qjb _ (by omega)⟩
  | some q=>exact⟨(hq i q h).1,(hq i q h).2.1⟩
 have hw':∀i,bd ((ws.getD i 0:Int):Rat) 1:=fun i=>by
  rw[List.getD_eq_getElem?_getD];cases h:ws[i]? with
  | none=>exact ql2 0 (by omega) (by omega)
  | some x=>have:=qgn.1 (hw x (List.mem_of_getElem? h));exact ql2 x this.1 this.2
 induction k with
 | zero=>exact⟨qjb _ (by omega),qjb _ (by omega)⟩
 | succ k ih=>
  have h1:=qnr ih.1 (qe8 (hq' k).1 (hw' k));have h2:=qnr ih.2 (qe8 (hq' k).2 (hw' k));exact⟨h1.mono (by omega),h2.mono (by omega)⟩
theorem qna{W:World}{g g':Nat}{c0 c1 c2:Option Value}(h:W.cell? ⟨g,0,none⟩=c0∧W.cell? ⟨g,1,none⟩=c1∧W.cell? ⟨g,2,none⟩=c2)(hne:g'≠g)(x0 x1 x2 x3 x4 x5:Value):
  ((((((W.setCell ⟨g',0,none⟩ x0).setCell ⟨g',1,none⟩ x1).setCell ⟨g',2,none⟩ x2).setCell ⟨g',3,none⟩ x3).setCell ⟨g',4,none⟩ x4).setCell ⟨g',5,none⟩ x5).cell? ⟨g,0,none⟩=c0∧((((((W.setCell ⟨g',0,none⟩ x0).setCell ⟨g',1,none⟩ x1).setCell ⟨g',2,none⟩ x2).setCell ⟨g',3,none⟩ x3).setCell ⟨g',4,none⟩ x4).setCell ⟨g',5,none⟩ x5).cell? ⟨g,1,none⟩=c1∧((((((W.setCell ⟨g',0,none⟩ x0).setCell ⟨g',1,none⟩ x1).setCell ⟨g',2,none⟩ x2).setCell ⟨g',3,none⟩ x3).setCell ⟨g',4,none⟩ x4).setCell ⟨g',5,none⟩ x5).cell? ⟨g,2,none⟩=c2:=by
 have k:∀(V:World) (i o:Nat) (v:Value),(V.setCell ⟨g',i,none⟩ v).cell? ⟨g,o,none⟩=V.cell? ⟨g,o,none⟩:=fun V i o v=>World.cell?_setCell_other _ _ _ _ (by intro e;injection e with e;exact hne e);simp only[k];exact h
theorem q2v{W:World}{g1 g2 g':Nat}{c0 c1 c2 c3 c4 c5 d0 d1 d2:Option Value}(h:W.cell? ⟨g1,0,none⟩=c0∧W.cell? ⟨g1,1,none⟩=c1∧W.cell? ⟨g1,2,none⟩=c2∧W.cell? ⟨g1,3,none⟩=c3∧W.cell? ⟨g1,4,none⟩=c4∧W.cell? ⟨g1,5,none⟩=c5∧W.cell? ⟨g2,0,none⟩=d0∧W.cell? ⟨g2,1,none⟩=d1∧W.cell? ⟨g2,2,none⟩=d2)(h1:g'≠g1)(h2:g'≠g2)(x y:Value):
  ((W.setCell ⟨g',0,none⟩ x).setCell ⟨g',1,none⟩ y).cell? ⟨g1,0,none⟩=c0∧((W.setCell ⟨g',0,none⟩ x).setCell ⟨g',1,none⟩ y).cell? ⟨g1,1,none⟩=c1∧((W.setCell ⟨g',0,none⟩ x).setCell ⟨g',1,none⟩ y).cell? ⟨g1,2,none⟩=c2∧((W.setCell ⟨g',0,none⟩ x).setCell ⟨g',1,none⟩ y).cell? ⟨g1,3,none⟩=c3∧((W.setCell ⟨g',0,none⟩ x).setCell ⟨g',1,none⟩ y).cell? ⟨g1,4,none⟩=c4∧((W.setCell ⟨g',0,none⟩ x).setCell ⟨g',1,none⟩ y).cell? ⟨g1,5,none⟩=c5∧((W.setCell ⟨g',0,none⟩ x).setCell ⟨g',1,none⟩ y).cell? ⟨g2,0,none⟩=d0∧((W.setCell ⟨g',0,none⟩ x).setCell ⟨g',1,none⟩ y).cell? ⟨g2,1,none⟩=d1∧((W.setCell ⟨g',0,none⟩ x).setCell ⟨g',1,none⟩ y).cell? ⟨g2,2,none⟩=d2:=by
 have k1:∀(V:World) (i o:Nat) (v:Value),(V.setCell ⟨g',i,none⟩ v).cell? ⟨g1,o,none⟩=V.cell? ⟨g1,o,none⟩:=fun V i o v=>World.cell?_setCell_other _ _ _ _ (by intro e;injection e with e;exact h1 e);have k2:∀(V:World) (i o:Nat) (v:Value),(V.setCell ⟨g',i,none⟩ v).cell? ⟨g2,o,none⟩=V.cell? ⟨g2,o,none⟩:=fun V i o v=>World.cell?_setCell_other _ _ _ _ (by intro e;injection e with e;exact h2 e);simp only[k1,k2];exact h
theorem qe7.put{W:World}{g:Nat}{x y x' y':NV}(h:qe7 W g x y):
  qe7 ((((((W.setCell ⟨g,0,none⟩ (.bool x'.b)).setCell ⟨g,1,none⟩ (.slice x'.p x'.k x'.c)).setCell ⟨g,2,none⟩ (.slice x'.q x'.j x'.d)).setCell ⟨g,3,none⟩ (.bool y'.b)).setCell ⟨g,4,none⟩ (.slice y'.p y'.k y'.c)).setCell ⟨g,5,none⟩ (.slice y'.q y'.j y'.d)) g x' y'∧
  (∀v q,qaj W v q→qaj ((((((W.setCell ⟨g,0,none⟩ (.bool x'.b)).setCell ⟨g,1,none⟩ (.slice x'.p x'.k x'.c)).setCell ⟨g,2,none⟩ (.slice x'.q x'.j x'.d)).setCell ⟨g,3,none⟩ (.bool y'.b)).setCell ⟨g,4,none⟩ (.slice y'.p y'.k y'.c)).setCell ⟨g,5,none⟩ (.slice y'.q y'.j y'.d)) v q)∧
  (∀B w0,B≤g→Below B w0 W→Below B w0 ((((((W.setCell ⟨g,0,none⟩ (.bool x'.b)).setCell ⟨g,1,none⟩ (.slice x'.p x'.k x'.c)).setCell ⟨g,2,none⟩ (.slice x'.q x'.j x'.d)).setCell ⟨g,3,none⟩ (.bool y'.b)).setCell ⟨g,4,none⟩ (.slice y'.p y'.k y'.c)).setCell ⟨g,5,none⟩ (.slice y'.q y'.j y'.d))):=by
 have o1:=Own.set h 0 (by omega) (.bool x'.b);have o2:=o1.set 1 (by omega) (.slice x'.p x'.k x'.c);have o3:=o2.set 2 (by omega) (.slice x'.q x'.j x'.d);have o4:=o3.set 3 (by omega) (.bool y'.b);have o5:=o4.set 4 (by omega) (.slice y'.p y'.k y'.c);have o6:=o5.set 5 (by omega) (.slice y'.q y'.j y'.d);refine⟨o6.congr fun i hi => ?_,fun v q hv => ?_,fun B w0 hB hb => ?_⟩
 ·match i,hi with
  | 0,_=>rfl
  | 1,_=>rfl
  | 2,_=>rfl
  | 3,_=>rfl
  | 4,_=>rfl
  | 5,_=>rfl
 ·have h1:=qa8 hv h 0 (by omega) (by intro k z e;cases e) (.bool x'.b)
  have h2:=qa8 h1 o1 1 (by omega) (by intro k z e;cases e) (.slice x'.p x'.k x'.c);have h3:=qa8 h2 o2 2 (by omega) (by intro k z e;cases e) (.slice x'.q x'.j x'.d);have h4:=qa8 h3 o3 3 (by omega) (by intro k z e;cases e) (.bool y'.b);have h5:=qa8 h4 o4 4 (by omega) (by intro k z e;cases e) (.slice y'.p y'.k y'.c);exact qa8 h5 o5 5 (by omega) (by intro k z e;cases e) (.slice y'.q y'.j y'.d)
 ·exact(((((hb.setCell (p:=⟨g,0,none⟩) hB _).setCell (p:=⟨g,1,none⟩) hB _).setCell (p:=⟨g,2,none⟩) hB _).setCell (p:=⟨g,3,none⟩) hB _).setCell (p:=⟨g,4,none⟩) hB _).setCell (p:=⟨g,5,none⟩) hB _
theorem q2w(w:World):qaj w (.agg #[.bool false,.slice none 0 0,.slice none 0 0]) 0:=qj0 w 0 false (.slice none 0 0) (.slice none 0 0) rfl (qaq.nil w) (qaq.nil w)
theorem qcr{W:World}{f:FuncId}{args:Array Value}{q:Rat}(h:Calls Tryz.prog f args W fun e w'=>(∃v',e = .returned v'∧qaj w' v' q)∧Below W.heap.size W w'):
  Calls Tryz.prog f args W fun e w'=>(∃z:NV,e = .returned (.agg #[.bool z.b,.slice z.p z.k z.c,.slice z.q z.j z.d])∧qaj w' (.agg #[.bool z.b,.slice z.p z.k z.c,.slice z.q z.j z.d]) q)∧Below W.heap.size W w':=
 h.mono fun e w' ⟨⟨v',he,hn⟩,hb⟩=>by
  obtain⟨z,rfl⟩:=hn.nv;exact⟨⟨z,he,hn⟩,hb⟩
theorem q9g{W:World}{f:FuncId}{args:Array Value}{lo hi:Rat}(h:Calls Tryz.prog f args W fun e w'=>(∃v',e = .returned v'∧qg1 w' v' lo hi)∧Below W.heap.size W w'):
  Calls Tryz.prog f args W fun e w'=>(∃z z':NV,e = .returned (.agg #[.bool z.b,.slice z.p z.k z.c,.slice z.q z.j z.d,.bool z'.b,.slice z'.p z'.k z'.c,.slice z'.q z'.j z'.d])∧qaj w' (.agg #[.bool z.b,.slice z.p z.k z.c,.slice z.q z.j z.d]) lo∧qaj w' (.agg #[.bool z'.b,.slice z'.p z'.k z'.c,.slice z'.q z'.j z'.d]) hi)∧Below W.heap.size W w':=
 h.mono fun e w' ⟨⟨v',he,hn⟩,hb⟩=>by
  obtain⟨z,z',rfl,h1,h2⟩:=hn.nv;exact⟨⟨z,z',he,h1,h2⟩,hb⟩
theorem q2x(vl vw:Value)(l:List (ByteArray × ByteArray))(ws:List Int)(w:World)(hg:GW w)(hv:qbr w vl l)(hw:qjv w vw ws)(hs:∀s ∈ l,s.1.size≤1073741824∧s.2.size≤1073741824)(h0:qk4 l ws=0):
  Calls Tryz.prog 11 #[vl,vw] w (qt9 l ws w):=by
 have hs0:qak l=0:=by
  unfold qk4 at h0;split at h0
  ·rename_i h;exact absurd h0 h
  ·omega
 obtain⟨hln,hwe⟩:ws.length=l.length∧qg3 ws=0:=by
  unfold qk4 at h0;rw[if_neg (by omega)] at h0;split at h0
  ·cases h0
  ·exact⟨by omega,h0⟩
 obtain⟨hwin,hsum⟩:=qli hwe;obtain⟨hl1,hl2,_⟩:=qcx hs0;have hal0:Below w.heap.size w (w.alloc (.cells #[.string ⟨#[]⟩,.string ⟨#[]⟩] 28)):=(Below.refl _ _).alloc (Nat.le_refl _) _;have HRES:Hid (Own (w.alloc (.cells #[.string ⟨#[]⟩,.string ⟨#[]⟩] 28)) w.heap.size 2 (qml (.string ⟨#[]⟩) (.string ⟨#[]⟩))):=hid (qbl w 28 _ _)
 have HRS:=hid ((qbw vl l _ (hg.later hal0) (hv.later hal0) hs).mono (R':=fun e w'=>(∃g,e = .returned (.tuple #[.slice (some ⟨g,0,none⟩) l.length l.length,.int .i64 0])∧qdb ivK w' g l.length (l.map spQ))∧Below (w.alloc (.cells #[.string ⟨#[]⟩,.string ⟨#[]⟩] 28)).heap.size (w.alloc (.cells #[.string ⟨#[]⟩,.string ⟨#[]⟩] 28)) w') (fun e w' h=>by
  unfold qcw at h;rw[if_pos hs0] at h;obtain⟨⟨g,_,he,hr⟩,hb⟩:=h
  exact⟨⟨g,he,hr⟩,hb⟩))
 have HSW:Hid (∀W,Below w.heap.size w W→Calls Tryz.prog 37 #[vw] W fun e w'=>e = .returned (.tuple #[.int .i64 ws.sum,.int .i64 0])∧W=w'):=hid fun W hW=>(qeb vw ws W (hw.later hW) (by omega)).mono fun e w' ⟨h1,h2⟩=>by
  unfold qoy at h1;rw[hwe] at h1;exact⟨h1,h2⟩
 have HBD:=hid (qrc hs0);have HAB:=hid (q9f (l.map spQ) ws (qrc hs0) hwin);have HLEN:Hid ((l.map spQ).length=l.length):=hid (List.length_map _)
 have HFIN:Hid (∀e w',qd0 ((qpr (l.map spQ) ws l.length).1/((ws.sum:Int):Rat)) ((qpr (l.map spQ) ws l.length).2/((ws.sum:Int):Rat)) w e w'→qt9 l ws w e w'):=hid fun e w' h=>by
  unfold qt9;rw[if_neg (by omega)];unfold qhh;rw[HLEN.out];exact h
 have hsb:=qcy ws hwin;have HWIN:=hid hwin;obtain⟨p,c,rfl,hc1,hc2,hcells⟩:=hv;obtain⟨pw,cw,rfl,hd1,hd2,hwcells⟩:=hw;obtain⟨bw,ow,rfl,hwrow⟩:=hwcells.resolve_left (by omega);have HWROW:=hid hwrow;have HAL0:=hid hal0;unfold maxLen at hc2 hd2;clear hcells hwcells hwrow hg hs h0 hs0 hwe hwin hal0;generalize hS:ws.sum=S at *;have HS:=hid hS;clear hS;have HAQ:Hid (∀k,qpr (l.map spQ) ws (k+1)=((qpr (l.map spQ) ws k).1+((l.map spQ).getD k (0,0)).1*((ws.getD k 0:Int):Rat),(qpr (l.map spQ) ws k).2+((l.map spQ).getD k (0,0)).2*((ws.getD k 0:Int):Rat))):=hid fun k=>rfl;have HA0:Hid (qpr (l.map spQ) ws 0=(0,0)):=hid rfl;generalize qpr (l.map spQ) ws=acc at *;generalize l.map spQ=qs at *;generalize hn:l.length=n at *;clear hn;have hneq:((ws.length:Int)==(n:Int))=true:=by rw[hln];simp
 have HLNW:=hid hln;rw[hln] at hsb hd1 HSW ⊢;clear hln hneq;go_enter Tryz.func11,Tryz.ntmps11;go_wp2_with fail;refine HRS.out.mono ?_;rintro e w1 ⟨⟨g,rfl,hr⟩,hb⟩;have HR:=hid hr;have HB0:=hid hb;have HB:=hid (HAL0.out.trans (hb.mono HAL0.out.size));have HRES1:=hid (HRES.out.later (hb.mono HRES.out.1));clear hr hb HRS;go_wp2_with fail;refine(HSW.out _ HB.out).mono ?_;rintro e w1' ⟨rfl,rfl⟩;clear HSW;have hS0:(S==0)=false:=beq_eq_false_iff_ne.2 hsum;have HPM:=hid (qg9 w1 ⟨false,none,0,0,none,0,0⟩ ⟨false,none,0,0,none,0,0⟩ 82);have HAL1:Hid (Below w1.heap.size w1 (w1.alloc (.cells #[.bool false,.slice none 0 0,.slice none 0 0,.bool false,.slice none 0 0,.slice none 0 0] 82))):=hid ((Below.refl _ _).alloc (Nat.le_refl _) _);have HN0:=hid (q2w (w1.alloc (.cells #[.bool false,.slice none 0 0,.slice none 0 0,.bool false,.slice none 0 0,.slice none 0 0] 82)));obtain⟨gm,hgm⟩:∃gm,gm=w1.heap.size:=⟨_,rfl⟩;go_wp2_with fail;clear hgm
 go_loopw [41] (fun i wr=>∃k:Nat,k≤n∧i = .int .i64 k∧∃xm ym:NV,Hid (Below w1.heap.size w1 wr)∧Hid (qe7 wr w1.heap.size xm ym)∧Hid (qaj wr (.agg #[.bool xm.b,.slice xm.p xm.k xm.c,.slice xm.q xm.j xm.d]) (acc k).1∧qaj wr (.agg #[.bool ym.b,.slice ym.p ym.k ym.c,.slice ym.q ym.j ym.d]) (acc k).2)) (fun i _=>n-(intOf i).toNat)
 case atStart=>exact⟨0,Nat.zero_le _,rfl,⟨false,none,0,0,none,0,0⟩,⟨false,none,0,0,none,0,0⟩,HAL1,HPM,hid ⟨by rw[HA0.out];exact HN0.out,by rw[HA0.out];exact HN0.out⟩⟩
 case round=>
  obtain⟨k,hk,rfl,xm,ym,HBW,HPK,HNK⟩:=hrel;clear HPM HAL1 HN0;by_cases hkn:k<n
  ·obtain⟨q,hq⟩:∃q,qs[k]? = some q:=⟨qs[k]'(by rw[HLEN.out];exact hkn),List.getElem?_eq_getElem _⟩
   have hrw:=HR.out.later qe4 HBW.out;obtain⟨x,y,⟨a0,a1,a2,a3,a4,a5⟩,hx,hy⟩:=qii hrw k q hq;have hal:Below wr.heap.size wr (wr.alloc (.cells #[.bool x.b,.slice x.p x.k x.c,.slice x.q x.j x.d,.bool y.b,.slice y.p y.k y.c,.slice y.q y.j y.d] 82)):=(Below.refl _ _).alloc (Nat.le_refl _) _;have hbw2:=HB.out.trans ((HBW.out.trans (hal.mono HBW.out.size)).mono HB.out.size)
   have hwc:(wr.alloc (.cells #[.bool x.b,.slice x.p x.k x.c,.slice x.q x.j x.d,.bool y.b,.slice y.p y.k y.c,.slice y.q y.j y.d] 82)).cell? ⟨bw,ow+k,none⟩=some (iv ws k):=by
    have h1:=HWROW.out k (by rw[HLNW.out];exact hkn);rw[hbw2.cell (p:=⟨bw,ow+k,none⟩) (World.block_lt_of_cell? w _ h1)];exact h1
   unfold iv at hwc
   have hwx:=qgn.1 (HWIN.out (ws.getD k 0) (by
    have hkl:k<ws.length:=by rw[HLNW.out];exact hkn
    rw[List.getD_eq_getElem?_getD,List.getElem?_eq_getElem hkl,Option.getD_some]
    exact List.getElem_mem _))
   have HAK:=hid (HAQ.out k);have HQK:Hid (qs.getD k (0,0)=q):=hid (by rw[List.getD_eq_getElem?_getD,hq];rfl);have bq:=HBD.out k q hq;have ba:=HAB.out k;generalize ws.getD k 0=wi at *;have bw1:=ql2 wi hwx.1 hwx.2;have HWH:=hid (qcr (qe0 wi (wr.alloc (.cells #[.bool x.b,.slice x.p x.k x.c,.slice x.q x.j x.d,.bool y.b,.slice y.p y.k y.c,.slice y.q y.j y.d] 82)) (by omega) (by omega)));have HPS:=hid (qg9 wr x y 82);have HXY:Hid (qaj (wr.alloc (.cells #[.bool x.b,.slice x.p x.k x.c,.slice x.q x.j x.d,.bool y.b,.slice y.p y.k y.c,.slice y.q y.j y.d] 82)) (.agg #[.bool x.b,.slice x.p x.k x.c,.slice x.q x.j x.d]) q.1∧qaj (wr.alloc (.cells #[.bool x.b,.slice x.p x.k x.c,.slice x.q x.j x.d,.bool y.b,.slice y.p y.k y.c,.slice y.q y.j y.d] 82)) (.agg #[.bool y.b,.slice y.p y.k y.c,.slice y.q y.j y.d]) q.2):=hid ⟨hx.later hal,hy.later hal⟩;have HPM2:=hid (HPK.out.later (hal.mono HPK.out.1));have HNK2:Hid (qaj (wr.alloc (.cells #[.bool x.b,.slice x.p x.k x.c,.slice x.q x.j x.d,.bool y.b,.slice y.p y.k y.c,.slice y.q y.j y.d] 82)) (.agg #[.bool xm.b,.slice xm.p xm.k xm.c,.slice xm.q xm.j xm.d]) (acc k).1∧qaj (wr.alloc (.cells #[.bool x.b,.slice x.p x.k x.c,.slice x.q x.j x.d,.bool y.b,.slice y.p y.k y.c,.slice y.q y.j y.d] 82)) (.agg #[.bool ym.b,.slice ym.p ym.k ym.c,.slice ym.q ym.j ym.d]) (acc k).2):=hid ⟨HNK.out.1.later hal,HNK.out.2.later hal⟩;have HBW2:=hid (HBW.out.trans (hal.mono HBW.out.size));have HGS:Hid (w1.heap.size<wr.heap.size):=hid HPK.out.1;clear hq hrw hx hy hal hbw2;generalize hgs:wr.heap.size=gs at *;go_wp2_with fail;refine HWH.out.mono ?_;rintro e w2 ⟨⟨v,rfl,hv⟩,hb2⟩;have hal3:Below w2.heap.size w2 (w2.alloc (.cells #[.bool v.b,.slice v.p v.k v.c,.slice v.q v.j v.d] 80)):=(Below.refl _ _).alloc (Nat.le_refl _) _;have hb3:=hb2.trans (hal3.mono hb2.size)
   have HBW3:=hid (HBW2.out.trans (hb3.mono HBW2.out.size));have HPM3:=hid (HPM2.out.later (hb3.mono HPM2.out.1));have HPS3:=hid (HPS.out.later (hb3.mono HPS.out.1));have HPW3:=hid (qgu w2 v);have HXY3:Hid (qaj (w2.alloc (.cells #[.bool v.b,.slice v.p v.k v.c,.slice v.q v.j v.d] 80)) (.agg #[.bool x.b,.slice x.p x.k x.c,.slice x.q x.j x.d]) q.1∧qaj (w2.alloc (.cells #[.bool v.b,.slice v.p v.k v.c,.slice v.q v.j v.d] 80)) (.agg #[.bool y.b,.slice y.p y.k y.c,.slice y.q y.j y.d]) q.2):=hid ⟨HXY.out.1.later hb3,HXY.out.2.later hb3⟩;have HNK3:Hid (qaj (w2.alloc (.cells #[.bool v.b,.slice v.p v.k v.c,.slice v.q v.j v.d] 80)) (.agg #[.bool xm.b,.slice xm.p xm.k xm.c,.slice xm.q xm.j xm.d]) (acc k).1∧qaj (w2.alloc (.cells #[.bool v.b,.slice v.p v.k v.c,.slice v.q v.j v.d] 80)) (.agg #[.bool ym.b,.slice ym.p ym.k ym.c,.slice ym.q ym.j ym.d]) (acc k).2):=hid ⟨HNK2.out.1.later hb3,HNK2.out.2.later hb3⟩;have HV3:=hid (hv.later hal3);have HNS:Hid (w1.heap.size≠gs):=hid (by have:=HGS.out;omega);have HNW:Hid (w1.heap.size≠w2.heap.size):=hid (by have:=HGS.out;have h1:=HPS.out.1;have:=hb2.size;omega);clear hv hb2 hal3 hb3 a0 a1 a2 a3 a4 a5 hwc HWH;generalize hgw:w2.heap.size=gw at *;go_wp2_with fail
   try rw[hgw]
   generalize (w2.alloc (.cells #[.bool v.b,.slice v.p v.k v.c,.slice v.q v.j v.d] 80))=w3 at *;have HBX:Hid (Below w3.heap.size w3 w3.drew):=hid ((Below.refl _ _).drew);have HT1:Hid (∀W,Below w3.heap.size w3 W→Calls Tryz.prog 40 #[.agg #[.bool x.b,.slice x.p x.k x.c,.slice x.q x.j x.d],.agg #[.bool v.b,.slice v.p v.k v.c,.slice v.q v.j v.d]] W fun e w'=>(∃z:NV,e = .returned (.agg #[.bool z.b,.slice z.p z.k z.c,.slice z.q z.j z.d])∧qaj w' (.agg #[.bool z.b,.slice z.p z.k z.c,.slice z.q z.j z.d]) (q.1*((wi:Int):Rat)))∧Below W.heap.size W w'):=hid fun W hW=>qcr (qd3 _ _ _ _ W (HXY3.out.1.later hW) (HV3.out.later hW) (by have:=bq.1.rs;have:=bw1.rs;unfold Cap;omega));have HT2:Hid (∀W,Below w3.heap.size w3 W→Calls Tryz.prog 40 #[.agg #[.bool y.b,.slice y.p y.k y.c,.slice y.q y.j y.d],.agg #[.bool v.b,.slice v.p v.k v.c,.slice v.q v.j v.d]] W fun e w'=>(∃z:NV,e = .returned (.agg #[.bool z.b,.slice z.p z.k z.c,.slice z.q z.j z.d])∧qaj w' (.agg #[.bool z.b,.slice z.p z.k z.c,.slice z.q z.j z.d]) (q.2*((wi:Int):Rat)))∧Below W.heap.size W w'):=hid fun W hW=>qcr (qd3 _ _ _ _ W (HXY3.out.2.later hW) (HV3.out.later hW) (by have:=bq.2.1.rs;have:=bw1.rs;unfold Cap;omega))
   have HPL:Hid (∀W (t1 t2:NV),Below w3.heap.size w3 W→qaj W (.agg #[.bool t1.b,.slice t1.p t1.k t1.c,.slice t1.q t1.j t1.d]) (q.1*((wi:Int):Rat))→qaj W (.agg #[.bool t2.b,.slice t2.p t2.k t2.c,.slice t2.q t2.j t2.d]) (q.2*((wi:Int):Rat))→Calls Tryz.prog 39 #[.agg #[.bool xm.b,.slice xm.p xm.k xm.c,.slice xm.q xm.j xm.d,.bool ym.b,.slice ym.p ym.k ym.c,.slice ym.q ym.j ym.d],.agg #[.bool t1.b,.slice t1.p t1.k t1.c,.slice t1.q t1.j t1.d,.bool t2.b,.slice t2.p t2.k t2.c,.slice t2.q t2.j t2.d]] W fun e w'=>(∃z z':NV,e = .returned (.agg #[.bool z.b,.slice z.p z.k z.c,.slice z.q z.j z.d,.bool z'.b,.slice z'.p z'.k z'.c,.slice z'.q z'.j z'.d])∧qaj w' (.agg #[.bool z.b,.slice z.p z.k z.c,.slice z.q z.j z.d]) ((acc k).1+q.1*((wi:Int):Rat))∧qaj w' (.agg #[.bool z'.b,.slice z'.p z'.k z'.c,.slice z'.q z'.j z'.d]) ((acc k).2+q.2*((wi:Int):Rat)))∧Below W.heap.size W w'):=hid fun W t1 t2 hW h1 h2=>q9g (qz5 _ _ _ _ _ _ W (qgd (HNK3.out.1.later hW) (HNK3.out.2.later hW)) (qgd h1 h2) (by
    have:=ba.1.rs;have:=ba.2.rs;have:=(qe8 bq.1 bw1).rs;have:=(qe8 bq.2.1 bw1).rs;unfold Cap;omega))
   have c0:=qe7.cells HPS3.out;have d0:=(One.cells HPW3.out).1;have e0:w3.cell? ⟨gs,0,none⟩=some (.bool x.b)∧w3.cell? ⟨gs,1,none⟩=some (.slice x.p x.k x.c)∧w3.cell? ⟨gs,2,none⟩=some (.slice x.q x.j x.d)∧w3.cell? ⟨gs,3,none⟩=some (.bool y.b)∧w3.cell? ⟨gs,4,none⟩=some (.slice y.p y.k y.c)∧w3.cell? ⟨gs,5,none⟩=some (.slice y.q y.j y.d)∧w3.cell? ⟨gw,0,none⟩=some (.bool v.b)∧w3.cell? ⟨gw,1,none⟩=some (.slice v.p v.k v.c)∧w3.cell? ⟨gw,2,none⟩=some (.slice v.q v.j v.d):=⟨c0.1,c0.2.1,c0.2.2.1,c0.2.2.2.1,c0.2.2.2.2.1,c0.2.2.2.2.2,d0⟩;obtain⟨⟨m0,f0⟩,⟨m1,f1⟩,⟨m2,f2⟩,⟨m3,f3⟩,⟨m4,f4⟩,⟨m5,f5⟩⟩:=qbm HPM3.out;clear c0 d0 bq ba bw1 hwx;refine wp_region_held_drew (S:=(fun W=>W.cell? ⟨gs,0,none⟩=some (.bool x.b)∧W.cell? ⟨gs,1,none⟩=some (.slice x.p x.k x.c)∧W.cell? ⟨gs,2,none⟩=some (.slice x.q x.j x.d)∧W.cell? ⟨gs,3,none⟩=some (.bool y.b)∧W.cell? ⟨gs,4,none⟩=some (.slice y.p y.k y.c)∧W.cell? ⟨gs,5,none⟩=some (.slice y.q y.j y.d)∧W.cell? ⟨gw,0,none⟩=some (.bool v.b)∧W.cell? ⟨gw,1,none⟩=some (.slice v.p v.k v.c)∧W.cell? ⟨gw,2,none⟩=some (.slice v.q v.j v.d))) (by kernel_rfl) e0 (fun hHeld0 => ?_)
   refine' wpAnyH_take (i:=1) (v:=_) rfl (by kernel_rfl) (by kernel_rfl) (by kernel_rfl) (fun _ _ _ h=>h) (Or.inl ⟨by rfl, ?hy1⟩) hHeld0 ?rest1
   case hy1=>(intro w hSw;(try dsimp only at hSw);go_simp;(try with_reducible rfl))
   try simp only[Act.put,List.setIfInBounds_toArray]
   refine' wpAnyH_take (i:=2) (v:=_) rfl (by kernel_rfl) (by kernel_rfl) (by kernel_rfl) (fun _ _ _ h=>h) (Or.inl ⟨by rfl, ?hy2⟩) hHeld0 ?rest2
   case hy2=>(intro w hSw;(try dsimp only at hSw);go_simp;(try with_reducible rfl))
   try simp only[Act.put]
   refine' wpAnyH_take (i:=3) (v:=_) rfl (by kernel_rfl) (by kernel_rfl) (by kernel_rfl) (fun _ _ _ h=>h) (Or.inl ⟨by rfl, ?hy3⟩) hHeld0 ?rest3
   case hy3=>(intro w hSw;(try dsimp only at hSw);go_simp;(try with_reducible rfl))
   try simp only[Act.put]
   refine' wpAnyH_take (i:=5) (v:=_) rfl (by kernel_rfl) (by kernel_rfl) (by kernel_rfl) (fun _ _ _ h=>h) (Or.inl ⟨by rfl, ?hy4⟩) hHeld0 ?rest4
   case hy4=>(intro w hSw;(try dsimp only at hSw);go_simp;(try with_reducible rfl))
   try simp only[Act.put]
   refine' wpAnyH_take (i:=6) (v:=_) rfl (by kernel_rfl) (by kernel_rfl) (by kernel_rfl) (fun _ _ _ h=>h) (Or.inl ⟨by rfl, ?hy5⟩) hHeld0 ?rest5
   case hy5=>(intro w hSw;(try dsimp only at hSw);go_simp;(try with_reducible rfl))
   try simp only[Act.put]
   refine' wpAnyH_take (i:=7) (v:=_) rfl (by kernel_rfl) (by kernel_rfl) (by kernel_rfl) (fun _ _ _ h=>h) (Or.inl ⟨by rfl, ?hy6⟩) hHeld0 ?rest6
   case hy6=>(intro w hSw;(try dsimp only at hSw);go_simp;(try with_reducible rfl))
   try simp only[Act.put]
   refine wpAnyH_ready (rs:=[0,4]) (by kernel_rfl) (by simp) ?_;refine AllReadyH.cons rfl (fun K hK => ?step7) ?next7
   case step7=>
    go_simp;refine hK.out _ _ ?hS1 (fun hHeld1 => ?more1)
    case hS1=>exact hHeld0
    clear hK;refine wpAnyH_ready (rs:=[4]) (by kernel_rfl) (by simp) ?_;refine AllReadyH.cons rfl (fun K hK => ?step8) ?next8
    case step8=>
     go_simp
     go_at_call 40;(with_reducible refine(HT1.out _ HBX.out).mono ?_);rintro e wA ⟨⟨t1,rfl,hn⟩,hb⟩;have HV1:=hid hn;have HBA:=hid (HBX.out.trans (hb.mono HBX.out.size));have pA:=HPM3.out.later (HBA.out.mono HPM3.out.1);have cA:=(qe7.cells (HPS3.out.later (HBA.out.mono HPS3.out.1)));have dA:=(One.cells (HPW3.out.later (HBA.out.mono HPW3.out.1))).1;obtain⟨⟨ma0,fa0⟩,⟨ma1,fa1⟩,⟨ma2,fa2⟩,⟨ma3,fa3⟩,⟨ma4,fa4⟩,⟨ma5,fa5⟩⟩:=qbm pA;clear hn hb pA
     go_wp2_with fail;refine hK.out _ _ ?hS2 (fun hHeld2 => ?more2)
     case hS2=>exact⟨cA.1,cA.2.1,cA.2.2.1,cA.2.2.2.1,cA.2.2.2.2.1,cA.2.2.2.2.2,dA⟩
     clear hK;refine wpAnyH_ready (rs:=[8]) (by kernel_rfl) (by simp) ?_;refine AllReadyH.cons rfl (fun K hK => ?step9) ?q68
     case step9=>
      go_simp
      go_at_call 40;(with_reducible refine(HT2.out _ HBA.out).mono ?_);rintro e wB ⟨⟨t2,rfl,hn⟩,hb⟩;have HV2:=hid hn;have HV1B:=hid (HV1.out.later hb);have HBB:=hid (HBA.out.trans (hb.mono HBA.out.size));have pB:=HPM3.out.later (HBB.out.mono HPM3.out.1);have cB:=(qe7.cells (HPS3.out.later (HBB.out.mono HPS3.out.1)));have dB:=(One.cells (HPW3.out.later (HBB.out.mono HPW3.out.1))).1;obtain⟨⟨mb0,fb0⟩,⟨mb1,fb1⟩,⟨mb2,fb2⟩,⟨mb3,fb3⟩,⟨mb4,fb4⟩,⟨mb5,fb5⟩⟩:=qbm pB;clear hn hb pB
      go_wp2_with fail;refine hK.out _ _ ?hS3 (fun hHeld3 => ?more3)
      case hS3=>exact⟨cB.1,cB.2.1,cB.2.2.1,cB.2.2.2.1,cB.2.2.2.2.1,cB.2.2.2.2.2,dB⟩
      clear hK
      refine' wpAnyH_take (i:=9) (v:=_) rfl (by kernel_rfl) (by kernel_rfl) (by kernel_rfl) (fun _ _ _ h=>h) (Or.inl ⟨by rfl, ?hy10⟩) hHeld3 ?rest10
      case hy10=>(intro w hSw;(try dsimp only at hSw);go_simp;(try with_reducible rfl))
      try simp only[Act.put,List.setIfInBounds_toArray]
      refine wpAnyH_ready (rs:=[10]) (by kernel_rfl) (by simp) ?_;refine AllReadyH.cons rfl (fun K hK => ?step11) ?next11
      case step11=>
       go_simp
       go_at_call 39;(with_reducible refine(HPL.out _ _ _ HBB.out HV1B.out HV2.out).mono ?_);rintro e wC ⟨⟨z1,z2,rfl,hn1,hn2⟩,hb⟩;have HZ1:=hid hn1;have HZ2:=hid hn2;have HBC:=hid (HBB.out.trans (hb.mono HBB.out.size));have pC:=HPM3.out.later (HBC.out.mono HPM3.out.1);have HPC:=hid pC;have cC:=(qe7.cells (HPS3.out.later (HBC.out.mono HPS3.out.1)));have dC:=(One.cells (HPW3.out.later (HBC.out.mono HPW3.out.1))).1;obtain⟨⟨mc0,fc0⟩,⟨mc1,fc1⟩,⟨mc2,fc2⟩,⟨mc3,fc3⟩,⟨mc4,fc4⟩,⟨mc5,fc5⟩⟩:=qbm pC;have cD:=qe3 cC HNS.out (.bool z1.b) (.slice z1.p z1.k z1.c) (.slice z1.q z1.j z1.d) (.bool z2.b) (.slice z2.p z2.k z2.c) (.slice z2.q z2.j z2.d);have dD:=qna dC HNW.out (.bool z1.b) (.slice z1.p z1.k z1.c) (.slice z1.q z1.j z1.d) (.bool z2.b) (.slice z2.p z2.k z2.c) (.slice z2.q z2.j z2.d);clear hn1 hn2 hb pC
       go_wp2_with fail;refine hK.out _ _ ?hS4 (fun hHeld4 => ?more4)
       case hS4=>exact⟨cC.1,cC.2.1,cC.2.2.1,cC.2.2.2.1,cC.2.2.2.2.1,cC.2.2.2.2.2,dC⟩
       clear hK;refine wpAnyH_ready (rs:=[11]) (by kernel_rfl) (by simp) ?_;refine AllReadyH.cons rfl (fun K hK => ?step12) ?next12
       case step12=>
        go_simp;refine hK.out _ _ ?hS5 (fun hHeld5 => ?more5)
        case hS5=>exact⟨cD.1,cD.2.1,cD.2.2.1,cD.2.2.2.1,cD.2.2.2.2.1,cD.2.2.2.2.2,dD⟩
        clear hK;refine wpAnyH_done (by kernel_rfl) ?_ _;have hput:=qe7.put (x':=z1) (y':=z2) HPC.out;have HPK4:=hid hput.1;have HNK4:Hid _:=hid (And.intro (hput.2.1 _ _ HZ1.out) (hput.2.1 _ _ HZ2.out));have HBW4:=hid (hput.2.2 w1.heap.size w1 (Nat.le_refl _) (HBW3.out.trans (HBC.out.mono HBW3.out.size)));have HEQ:Hid (acc (k+1)=((acc k).1+q.1*((wi:Int):Rat),(acc k).2+q.2*((wi:Int):Rat))):=hid (by rw[HAK.out,HQK.out]);clear hput;go_wp2_with fail;go_roundw
        case rel=>exact⟨k+1,by omega,by go_num,z1,z2,HBW4,HPK4,hid (by rw[HEQ.out];exact HNK4.out)⟩
        case measure=>simp[intOf];omega
       exact AllReadyH.nil
      exact AllReadyH.nil
     exact AllReadyH.nil
    exact AllReadyH.nil
   refine AllReadyH.cons rfl (fun K hK => ?step13) ?next13
   case step13=>
    go_simp
    go_at_call 40;(with_reducible refine(HT1.out _ HBX.out).mono ?_);rintro e wA ⟨⟨t1,rfl,hn⟩,hb⟩;have HV1:=hid hn;have HBA:=hid (HBX.out.trans (hb.mono HBX.out.size));have pA:=HPM3.out.later (HBA.out.mono HPM3.out.1);have cA:=(qe7.cells (HPS3.out.later (HBA.out.mono HPS3.out.1)));have dA:=(One.cells (HPW3.out.later (HBA.out.mono HPW3.out.1))).1;obtain⟨⟨ma0,fa0⟩,⟨ma1,fa1⟩,⟨ma2,fa2⟩,⟨ma3,fa3⟩,⟨ma4,fa4⟩,⟨ma5,fa5⟩⟩:=qbm pA;clear hn hb pA
    go_wp2_with fail;refine hK.out _ _ ?hS6 (fun hHeld6 => ?more6)
    case hS6=>exact⟨cA.1,cA.2.1,cA.2.2.1,cA.2.2.2.1,cA.2.2.2.2.1,cA.2.2.2.2.2,dA⟩
    clear hK;refine wpAnyH_ready (rs:=[0,8]) (by kernel_rfl) (by simp) ?_;refine AllReadyH.cons rfl (fun K hK => ?step14) ?next14
    case step14=>
     go_simp;refine hK.out _ _ ?hS7 (fun hHeld7 => ?more7)
     case hS7=>exact⟨cA.1,cA.2.1,cA.2.2.1,cA.2.2.2.1,cA.2.2.2.2.1,cA.2.2.2.2.2,dA⟩
     clear hK;refine wpAnyH_ready (rs:=[8]) (by kernel_rfl) (by simp) ?_;refine AllReadyH.cons rfl (fun K hK => ?step15) ?next15
     case step15=>
      go_simp
      go_at_call 40;(with_reducible refine(HT2.out _ HBA.out).mono ?_);rintro e wB ⟨⟨t2,rfl,hn⟩,hb⟩;have HV2:=hid hn;have HV1B:=hid (HV1.out.later hb);have HBB:=hid (HBA.out.trans (hb.mono HBA.out.size));have pB:=HPM3.out.later (HBB.out.mono HPM3.out.1);have cB:=(qe7.cells (HPS3.out.later (HBB.out.mono HPS3.out.1)));have dB:=(One.cells (HPW3.out.later (HBB.out.mono HPW3.out.1))).1;obtain⟨⟨mb0,fb0⟩,⟨mb1,fb1⟩,⟨mb2,fb2⟩,⟨mb3,fb3⟩,⟨mb4,fb4⟩,⟨mb5,fb5⟩⟩:=qbm pB;clear hn hb pB
      go_wp2_with fail;refine hK.out _ _ ?hS8 (fun hHeld8 => ?more8)
      case hS8=>exact⟨cB.1,cB.2.1,cB.2.2.1,cB.2.2.2.1,cB.2.2.2.2.1,cB.2.2.2.2.2,dB⟩
      clear hK
      refine' wpAnyH_take (i:=9) (v:=_) rfl (by kernel_rfl) (by kernel_rfl) (by kernel_rfl) (fun _ _ _ h=>h) (Or.inl ⟨by rfl, ?hy16⟩) hHeld8 ?rest16
      case hy16=>(intro w hSw;(try dsimp only at hSw);go_simp;(try with_reducible rfl))
      try simp only[Act.put,List.setIfInBounds_toArray]
      refine wpAnyH_ready (rs:=[10]) (by kernel_rfl) (by simp) ?_;refine AllReadyH.cons rfl (fun K hK => ?step17) ?next17
      case step17=>
       go_simp
       go_at_call 39;(with_reducible refine(HPL.out _ _ _ HBB.out HV1B.out HV2.out).mono ?_);rintro e wC ⟨⟨z1,z2,rfl,hn1,hn2⟩,hb⟩;have HZ1:=hid hn1;have HZ2:=hid hn2;have HBC:=hid (HBB.out.trans (hb.mono HBB.out.size));have pC:=HPM3.out.later (HBC.out.mono HPM3.out.1);have HPC:=hid pC;have cC:=(qe7.cells (HPS3.out.later (HBC.out.mono HPS3.out.1)));have dC:=(One.cells (HPW3.out.later (HBC.out.mono HPW3.out.1))).1;obtain⟨⟨mc0,fc0⟩,⟨mc1,fc1⟩,⟨mc2,fc2⟩,⟨mc3,fc3⟩,⟨mc4,fc4⟩,⟨mc5,fc5⟩⟩:=qbm pC;have cD:=qe3 cC HNS.out (.bool z1.b) (.slice z1.p z1.k z1.c) (.slice z1.q z1.j z1.d) (.bool z2.b) (.slice z2.p z2.k z2.c) (.slice z2.q z2.j z2.d);have dD:=qna dC HNW.out (.bool z1.b) (.slice z1.p z1.k z1.c) (.slice z1.q z1.j z1.d) (.bool z2.b) (.slice z2.p z2.k z2.c) (.slice z2.q z2.j z2.d);clear hn1 hn2 hb pC
       go_wp2_with fail;refine hK.out _ _ ?hS9 (fun hHeld9 => ?more9)
       case hS9=>exact⟨cC.1,cC.2.1,cC.2.2.1,cC.2.2.2.1,cC.2.2.2.2.1,cC.2.2.2.2.2,dC⟩
       clear hK;refine wpAnyH_ready (rs:=[11]) (by kernel_rfl) (by simp) ?_;refine AllReadyH.cons rfl (fun K hK => ?step18) ?next18
       case step18=>
        go_simp;refine hK.out _ _ ?hS10 (fun hHeld10 => ?more10)
        case hS10=>exact⟨cD.1,cD.2.1,cD.2.2.1,cD.2.2.2.1,cD.2.2.2.2.1,cD.2.2.2.2.2,dD⟩
        clear hK;refine wpAnyH_done (by kernel_rfl) ?_ _;have hput:=qe7.put (x':=z1) (y':=z2) HPC.out;have HPK4:=hid hput.1;have HNK4:Hid _:=hid (And.intro (hput.2.1 _ _ HZ1.out) (hput.2.1 _ _ HZ2.out));have HBW4:=hid (hput.2.2 w1.heap.size w1 (Nat.le_refl _) (HBW3.out.trans (HBC.out.mono HBW3.out.size)));have HEQ:Hid (acc (k+1)=((acc k).1+q.1*((wi:Int):Rat),(acc k).2+q.2*((wi:Int):Rat))):=hid (by rw[HAK.out,HQK.out]);clear hput;go_wp2_with fail;go_roundw
        case rel=>exact⟨k+1,by omega,by go_num,z1,z2,HBW4,HPK4,hid (by rw[HEQ.out];exact HNK4.out)⟩
        case measure=>simp[intOf];omega
       exact AllReadyH.nil
      exact AllReadyH.nil
     exact AllReadyH.nil
    refine AllReadyH.cons rfl (fun K hK => ?step19) ?next19
    case step19=>
     go_simp
     go_at_call 40;(with_reducible refine(HT2.out _ HBA.out).mono ?_);rintro e wB ⟨⟨t2,rfl,hn⟩,hb⟩;have HV2:=hid hn;have HV1B:=hid (HV1.out.later hb);have HBB:=hid (HBA.out.trans (hb.mono HBA.out.size));have pB:=HPM3.out.later (HBB.out.mono HPM3.out.1);have cB:=(qe7.cells (HPS3.out.later (HBB.out.mono HPS3.out.1)));have dB:=(One.cells (HPW3.out.later (HBB.out.mono HPW3.out.1))).1;obtain⟨⟨mb0,fb0⟩,⟨mb1,fb1⟩,⟨mb2,fb2⟩,⟨mb3,fb3⟩,⟨mb4,fb4⟩,⟨mb5,fb5⟩⟩:=qbm pB;clear hn hb pB
     go_wp2_with fail;refine hK.out _ _ ?hS11 (fun hHeld11 => ?more11)
     case hS11=>exact⟨cB.1,cB.2.1,cB.2.2.1,cB.2.2.2.1,cB.2.2.2.2.1,cB.2.2.2.2.2,dB⟩
     clear hK
     refine' wpAnyH_take (i:=9) (v:=_) rfl (by kernel_rfl) (by kernel_rfl) (by kernel_rfl) (fun _ _ _ h=>h) (Or.inl ⟨by rfl, ?hy20⟩) hHeld11 ?rest20
     case hy20=>(intro w hSw;(try dsimp only at hSw);go_simp;(try with_reducible rfl))
     try simp only[Act.put,List.setIfInBounds_toArray]
     refine wpAnyH_ready (rs:=[0]) (by kernel_rfl) (by simp) ?_;refine AllReadyH.cons rfl (fun K hK => ?step21) ?next21
     case step21=>
      go_simp;refine hK.out _ _ ?hS12 (fun hHeld12 => ?more12)
      case hS12=>exact⟨cB.1,cB.2.1,cB.2.2.1,cB.2.2.2.1,cB.2.2.2.2.1,cB.2.2.2.2.2,dB⟩
      clear hK;refine wpAnyH_ready (rs:=[10]) (by kernel_rfl) (by simp) ?_;refine AllReadyH.cons rfl (fun K hK => ?step22) ?next22
      case step22=>
       go_simp
       go_at_call 39;(with_reducible refine(HPL.out _ _ _ HBB.out HV1B.out HV2.out).mono ?_);rintro e wC ⟨⟨z1,z2,rfl,hn1,hn2⟩,hb⟩;have HZ1:=hid hn1;have HZ2:=hid hn2;have HBC:=hid (HBB.out.trans (hb.mono HBB.out.size));have pC:=HPM3.out.later (HBC.out.mono HPM3.out.1);have HPC:=hid pC;have cC:=(qe7.cells (HPS3.out.later (HBC.out.mono HPS3.out.1)));have dC:=(One.cells (HPW3.out.later (HBC.out.mono HPW3.out.1))).1;obtain⟨⟨mc0,fc0⟩,⟨mc1,fc1⟩,⟨mc2,fc2⟩,⟨mc3,fc3⟩,⟨mc4,fc4⟩,⟨mc5,fc5⟩⟩:=qbm pC;have cD:=qe3 cC HNS.out (.bool z1.b) (.slice z1.p z1.k z1.c) (.slice z1.q z1.j z1.d) (.bool z2.b) (.slice z2.p z2.k z2.c) (.slice z2.q z2.j z2.d);have dD:=qna dC HNW.out (.bool z1.b) (.slice z1.p z1.k z1.c) (.slice z1.q z1.j z1.d) (.bool z2.b) (.slice z2.p z2.k z2.c) (.slice z2.q z2.j z2.d);clear hn1 hn2 hb pC
       go_wp2_with fail;refine hK.out _ _ ?hS13 (fun hHeld13 => ?more13)
       case hS13=>exact⟨cC.1,cC.2.1,cC.2.2.1,cC.2.2.2.1,cC.2.2.2.2.1,cC.2.2.2.2.2,dC⟩
       clear hK;refine wpAnyH_ready (rs:=[11]) (by kernel_rfl) (by simp) ?_;refine AllReadyH.cons rfl (fun K hK => ?step23) ?next23
       case step23=>
        go_simp;refine hK.out _ _ ?hS14 (fun hHeld14 => ?more14)
        case hS14=>exact⟨cD.1,cD.2.1,cD.2.2.1,cD.2.2.2.1,cD.2.2.2.2.1,cD.2.2.2.2.2,dD⟩
        clear hK;refine wpAnyH_done (by kernel_rfl) ?_ _;have hput:=qe7.put (x':=z1) (y':=z2) HPC.out;have HPK4:=hid hput.1;have HNK4:Hid _:=hid (And.intro (hput.2.1 _ _ HZ1.out) (hput.2.1 _ _ HZ2.out));have HBW4:=hid (hput.2.2 w1.heap.size w1 (Nat.le_refl _) (HBW3.out.trans (HBC.out.mono HBW3.out.size)));have HEQ:Hid (acc (k+1)=((acc k).1+q.1*((wi:Int):Rat),(acc k).2+q.2*((wi:Int):Rat))):=hid (by rw[HAK.out,HQK.out]);clear hput;go_wp2_with fail;go_roundw
        case rel=>exact⟨k+1,by omega,by go_num,z1,z2,HBW4,HPK4,hid (by rw[HEQ.out];exact HNK4.out)⟩
        case measure=>simp[intOf];omega
       exact AllReadyH.nil
      exact AllReadyH.nil
     exact AllReadyH.nil
    exact AllReadyH.nil
   exact AllReadyH.nil
  ·have hke:k=n:=by omega
   have HNF:Hid (qaj wr (.agg #[.bool xm.b,.slice xm.p xm.k xm.c,.slice xm.q xm.j xm.d]) (acc n).1∧qaj wr (.agg #[.bool ym.b,.slice ym.p ym.k ym.c,.slice ym.q ym.j ym.d]) (acc n).2):=hid (by rw[←hke];exact HNK.out);have ba:=HAB.out n;clear hke;have bS:=qe2 S (by omega) (by omega);have HWS:=hid (qcr (qe0 S wr (by omega) (by omega)));have HSN:Hid (((S:Int):Rat).num≠0):=hid hsum;go_wp2_with fail;refine HWS.out.mono ?_;rintro e w2 ⟨⟨v,rfl,hv⟩,hb2⟩;have hal3:Below w2.heap.size w2 (w2.alloc (.cells #[.bool v.b,.slice v.p v.k v.c,.slice v.q v.j v.d] 80)):=(Below.refl _ _).alloc (Nat.le_refl _) _;have hb3:=hb2.trans (hal3.mono hb2.size);have HBW3:=hid (HBW.out.trans (hb3.mono HBW.out.size));have HPM3:=hid (HPK.out.later (hb3.mono HPK.out.1));have HPW3:=hid (qgu w2 v);have HNK3:Hid (qaj (w2.alloc (.cells #[.bool v.b,.slice v.p v.k v.c,.slice v.q v.j v.d] 80)) (.agg #[.bool xm.b,.slice xm.p xm.k xm.c,.slice xm.q xm.j xm.d]) (acc n).1∧qaj (w2.alloc (.cells #[.bool v.b,.slice v.p v.k v.c,.slice v.q v.j v.d] 80)) (.agg #[.bool ym.b,.slice ym.p ym.k ym.c,.slice ym.q ym.j ym.d]) (acc n).2):=hid ⟨HNF.out.1.later hb3,HNF.out.2.later hb3⟩;have HV3:=hid (hv.later hal3);have HRES3:=hid (HRES1.out.later (HBW3.out.mono HRES1.out.1));have HBZ:=hid (HB.out.trans (HBW3.out.mono HB.out.size));have HNM:Hid (w.heap.size≠w1.heap.size):=hid (by have:=HRES1.out.1;omega);have HNT:Hid (w.heap.size≠w2.heap.size):=hid (by have:=HRES1.out.1;have h1:=HPK.out.1;have:=hb2.size;omega);clear hv hb2 hal3 hb3 HWS;generalize hgt:w2.heap.size=gt at *;go_wp2_with fail
   try rw[hgt]
   generalize (w2.alloc (.cells #[.bool v.b,.slice v.p v.k v.c,.slice v.q v.j v.d] 80))=w3 at *;have HBX:Hid (Below w3.heap.size w3 w3.drew):=hid ((Below.refl _ _).drew);have HO1:Hid (∀W,Below w3.heap.size w3 W→Calls Tryz.prog 41 #[.agg #[.bool xm.b,.slice xm.p xm.k xm.c,.slice xm.q xm.j xm.d],.agg #[.bool v.b,.slice v.p v.k v.c,.slice v.q v.j v.d]] W fun e w'=>(∃z:NV,e = .returned (.agg #[.bool z.b,.slice z.p z.k z.c,.slice z.q z.j z.d])∧qaj w' (.agg #[.bool z.b,.slice z.p z.k z.c,.slice z.q z.j z.d]) ((acc n).1/((S:Int):Rat)))∧Below W.heap.size W w'):=hid fun W hW=>qcr (qfo _ _ _ _ W (HNK3.out.1.later hW) (HV3.out.later hW) HSN.out (by have:=ba.1.rs;have:=bS.rs;unfold Cap;omega));have HO2:Hid (∀W,Below w3.heap.size w3 W→Calls Tryz.prog 41 #[.agg #[.bool ym.b,.slice ym.p ym.k ym.c,.slice ym.q ym.j ym.d],.agg #[.bool v.b,.slice v.p v.k v.c,.slice v.q v.j v.d]] W fun e w'=>(∃z:NV,e = .returned (.agg #[.bool z.b,.slice z.p z.k z.c,.slice z.q z.j z.d])∧qaj w' (.agg #[.bool z.b,.slice z.p z.k z.c,.slice z.q z.j z.d]) ((acc n).2/((S:Int):Rat)))∧Below W.heap.size W w'):=hid fun W hW=>qcr (qfo _ _ _ _ W (HNK3.out.2.later hW) (HV3.out.later hW) HSN.out (by have:=ba.2.rs;have:=bS.rs;unfold Cap;omega));have HWR:Hid (∀W (t1 t2:NV),qaj W (.agg #[.bool t1.b,.slice t1.p t1.k t1.c,.slice t1.q t1.j t1.d]) ((acc n).1/((S:Int):Rat))→qaj W (.agg #[.bool t2.b,.slice t2.p t2.k t2.c,.slice t2.q t2.j t2.d]) ((acc n).2/((S:Int):Rat))→Calls Tryz.prog 35 #[.agg #[.bool t1.b,.slice t1.p t1.k t1.c,.slice t1.q t1.j t1.d,.bool t2.b,.slice t2.p t2.k t2.c,.slice t2.q t2.j t2.d]] W (qd0 ((acc n).1/((S:Int):Rat)) ((acc n).2/((S:Int):Rat)) W)):=hid fun W t1 t2 h1 h2=>qgc _ _ _ W (qgd h1 h2) (by have:=(qns ba.1 bS).rs;unfold Cap;omega) (by have:=(qns ba.2 bS).rs;unfold Cap;omega)
   have c0:=qe7.cells HPM3.out;have d0:=(One.cells HPW3.out).1;have e0:w3.cell? ⟨w1.heap.size,0,none⟩=some (.bool xm.b)∧w3.cell? ⟨w1.heap.size,1,none⟩=some (.slice xm.p xm.k xm.c)∧w3.cell? ⟨w1.heap.size,2,none⟩=some (.slice xm.q xm.j xm.d)∧w3.cell? ⟨w1.heap.size,3,none⟩=some (.bool ym.b)∧w3.cell? ⟨w1.heap.size,4,none⟩=some (.slice ym.p ym.k ym.c)∧w3.cell? ⟨w1.heap.size,5,none⟩=some (.slice ym.q ym.j ym.d)∧w3.cell? ⟨gt,0,none⟩=some (.bool v.b)∧w3.cell? ⟨gt,1,none⟩=some (.slice v.p v.k v.c)∧w3.cell? ⟨gt,2,none⟩=some (.slice v.q v.j v.d):=⟨c0.1,c0.2.1,c0.2.2.1,c0.2.2.2.1,c0.2.2.2.2.1,c0.2.2.2.2.2,d0⟩;clear c0 d0 ba bS;generalize (acc n).1/((S:Int):Rat)=rlo at *;generalize (acc n).2/((S:Int):Rat)=rhi at *
   go_region_held3 (fun W=>W.cell? ⟨w1.heap.size,0,none⟩=some (.bool xm.b)∧W.cell? ⟨w1.heap.size,1,none⟩=some (.slice xm.p xm.k xm.c)∧W.cell? ⟨w1.heap.size,2,none⟩=some (.slice xm.q xm.j xm.d)∧W.cell? ⟨w1.heap.size,3,none⟩=some (.bool ym.b)∧W.cell? ⟨w1.heap.size,4,none⟩=some (.slice ym.p ym.k ym.c)∧W.cell? ⟨w1.heap.size,5,none⟩=some (.slice ym.q ym.j ym.d)∧W.cell? ⟨gt,0,none⟩=some (.bool v.b)∧W.cell? ⟨gt,1,none⟩=some (.slice v.p v.k v.c)∧W.cell? ⟨gt,2,none⟩=some (.slice v.q v.j v.d)) (first|with_reducible exact⟨cA.1,cA.2.1,cA.2.2.1,cA.2.2.2.1,cA.2.2.2.2.1,cA.2.2.2.2.2,dA⟩|with_reducible exact⟨cB.1,cB.2.1,cB.2.2.1,cB.2.2.2.1,cB.2.2.2.2.1,cB.2.2.2.2.2,dB⟩|with_reducible exact⟨cC.1,cC.2.1,cC.2.2.1,cC.2.2.2.1,cC.2.2.2.2.1,cC.2.2.2.2.2,dC⟩|with_reducible exact eC|exact e0)
    (first
     | (go_at_call 41;first
       | ((with_reducible refine(HO1.out _ HBX.out).mono ?_);rintro e wA ⟨⟨t1,rfl,hn⟩,hb⟩;have HV1:=hid hn;have HBA:=hid (HBX.out.trans (hb.mono HBX.out.size));have cA:=(qe7.cells (HPM3.out.later (HBA.out.mono HPM3.out.1)));have dA:=(One.cells (HPW3.out.later (HBA.out.mono HPW3.out.1))).1;clear hn hb)
       | ((with_reducible refine(HO2.out _ HBA.out).mono ?_);rintro e wB ⟨⟨t2,rfl,hn⟩,hb⟩;have HV2:=hid hn;have HV1B:=hid (HV1.out.later hb);have HBB:=hid (HBA.out.trans (hb.mono HBA.out.size));have cB:=(qe7.cells (HPM3.out.later (HBB.out.mono HPM3.out.1)));have dB:=(One.cells (HPW3.out.later (HBB.out.mono HPW3.out.1))).1;clear hn hb))
     | (go_at_call 35;((refine(HWR.out _ _ _ HV1B.out HV2.out).mono ?_);rintro e wC h;obtain⟨s1,s2,ec,rfl,h2⟩:=qfp h;have HF3:=hid h2;have HBC:=hid (HBB.out.trans (h2.2.mono HBB.out.size));have cC:=(qe7.cells (HPM3.out.later (HBC.out.mono HPM3.out.1)));have dC:=(One.cells (HPW3.out.later (HBC.out.mono HPW3.out.1))).1;have eC:=q2v ⟨cC.1,cC.2.1,cC.2.2.1,cC.2.2.2.1,cC.2.2.2.2.1,cC.2.2.2.2.2,dC⟩ HNM.out HNT.out (.string s1) (.string s2);have HRC:=hid (HRES3.out.later (HBC.out.mono HRES3.out.1));obtain⟨⟨r0,g0⟩,⟨r1,g1⟩⟩:=qax HRC.out;clear h h2)))
   all_goals
    have HBF:=hid (qbk (HBZ.out.trans (HBC.out.mono HBZ.out.size)) (Nat.le_refl _) (.string s1) (.string s2));go_wp2_with fail;refine bodyPost_ret (v := .tuple #[.agg #[.string s1,.string s2],.int .i64 ec]) ?_ rfl ?_
    ·simp[results,Tryz.results11,go_sem,r0,r1]
    ·exact HFIN.out _ _ ⟨HF3.out.1,HBF.out⟩
end Go.Proofs.YthjagoogkkgelaaGreatDoor
