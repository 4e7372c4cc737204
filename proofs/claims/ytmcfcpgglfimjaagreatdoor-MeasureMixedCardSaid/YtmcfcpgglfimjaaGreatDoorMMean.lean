/- interval.plus. -/
import Derived.Test.YtmcfcpgglfimjaaGreatDoorMNv
import Derived.Test.YtmcfcpgglfimjaaGreatDoorMClash
import Derived.Test.YtmcfcpgglfimjaaGreatDoorMBase
import Derived.Test.YtmcfcpgglfimjaaGreatDoorMMinMax
set_option linter.all false
namespace Go.Proofs.YtmcfcpgglfimjaaGreatDoor
open Go.RowKit
set_option maxRecDepth 100000
set_option maxHeartbeats 8000000
theorem qzv(va vb:Value)(a b c d:Rat)(w:World)(ha:qgo w va a b)(hb:qgo w vb c d)(aQ:rs a+rs b+rs c+rs d+2≤Cap):
  Calls Tryz.prog 52 #[va,vb] w fun e w'=>(∃v',e = .returned v'∧qgo w' v' (a+c) (b+d))∧Below w.heap.size w w':=by
 obtain⟨x,y,rfl,hx,hy⟩:=ha.nv;obtain⟨x',y',rfl,hx',hy'⟩:=hb.nv;have aO:=hid (qxm w x y x' y' 101 101 101)
 have wS:Hid (∀W,qsj w x y x' y' W→Calls Tryz.prog 72 #[.agg #[.bool x.b,.slice x.p x.k x.c,.slice x.q x.j x.d],.agg #[.bool x'.b,.slice x'.p x'.k x'.c,.slice x'.q x'.j x'.d]] W fun e w'=>(∃z:NV,e = .returned (.agg #[.bool z.b,.slice z.p z.k z.c,.slice z.q z.j z.d])∧qaw w' (.agg #[.bool z.b,.slice z.p z.k z.c,.slice z.q z.j z.d]) (a+c))∧qsj w x y x' y' w'∧Below W.heap.size W w'):=
  hid fun W hW=>qmu (_R:=fun _=>True) hW (qhy _ _ _ _ W (hx.later hW.1) (hx'.later hW.1) (by unfold Cap at *;omega))
 have xD:Hid (∀W,qsj w x y x' y' W→Calls Tryz.prog 72 #[.agg #[.bool y.b,.slice y.p y.k y.c,.slice y.q y.j y.d],.agg #[.bool y'.b,.slice y'.p y'.k y'.c,.slice y'.q y'.j y'.d]] W fun e w'=>(∃z:NV,e = .returned (.agg #[.bool z.b,.slice z.p z.k z.c,.slice z.q z.j z.d])∧qaw w' (.agg #[.bool z.b,.slice z.p z.k z.c,.slice z.q z.j z.d]) (b+d))∧qsj w x y x' y' w'∧Below W.heap.size W w'):=
  hid fun W hW=>qmu (_R:=fun _=>True) hW (qhy _ _ _ _ W (hy.later hW.1) (hy'.later hW.1) (by unfold Cap at *;omega))
 clear hx hy hx' hy' ha hb aQ;generalize a+c=q1 at *;generalize b+d=q2 at *;go_enter Tryz.func52,Tryz.ntmps52;go_wp2_with fail;generalize ((w.alloc (.cells #[.bool x.b,.slice x.p x.k x.c,.slice x.q x.j x.d,.bool y.b,.slice y.p y.k y.c,.slice y.q y.j y.d] 101)).alloc (.cells #[.bool x'.b,.slice x'.p x'.k x'.c,.slice x'.q x'.j x'.d,.bool y'.b,.slice y'.p y'.k y'.c,.slice y'.q y'.j y'.d] 101)).alloc (.cells #[.bool false,.slice none 0 0,.slice none 0 0,.bool false,.slice none 0 0,.slice none 0 0] 101)=w0 at *;have cF:=hid (aO.out.later ((qaa _ _).drew));have c0:=cF.out.2.1.cells;have d0:=cF.out.2.2.1.cells
 go_region_held3 (fun W=>W.cell? ⟨w.heap.size,0,none⟩=some (.bool x.b)∧W.cell? ⟨w.heap.size,1,none⟩=some (.slice x.p x.k x.c)∧W.cell? ⟨w.heap.size,2,none⟩=some (.slice x.q x.j x.d)∧W.cell? ⟨w.heap.size,3,none⟩=some (.bool y.b)∧W.cell? ⟨w.heap.size,4,none⟩=some (.slice y.p y.k y.c)∧W.cell? ⟨w.heap.size,5,none⟩=some (.slice y.q y.j y.d)∧W.cell? ⟨w.heap.size+1,0,none⟩=some (.bool x'.b)∧W.cell? ⟨w.heap.size+1,1,none⟩=some (.slice x'.p x'.k x'.c)∧W.cell? ⟨w.heap.size+1,2,none⟩=some (.slice x'.q x'.j x'.d)∧W.cell? ⟨w.heap.size+1,3,none⟩=some (.bool y'.b)∧W.cell? ⟨w.heap.size+1,4,none⟩=some (.slice y'.p y'.k y'.c)∧W.cell? ⟨w.heap.size+1,5,none⟩=some (.slice y'.q y'.j y'.d)) (first|with_reducible exact⟨c0.1,c0.2.1,c0.2.2.1,c0.2.2.2.1,c0.2.2.2.2.1,c0.2.2.2.2.2,d0⟩|with_reducible exact⟨c1.1,c1.2.1,c1.2.2.1,c1.2.2.2.1,c1.2.2.2.2.1,c1.2.2.2.2.2,d1⟩|with_reducible exact⟨c2.1,c2.2.1,c2.2.2.1,c2.2.2.2.1,c2.2.2.2.2.1,c2.2.2.2.2.2,d2⟩|with_reducible exact⟨c3.1,c3.2.1,c3.2.2.1,c3.2.2.2.1,c3.2.2.2.2.1,c3.2.2.2.2.2,d3⟩)
  (first
   | (go_at_call 72;first
     | ((with_reducible refine(wS.out _ cF.out).mono ?_);rintro e wL ⟨⟨z1,rfl,hn⟩,ht,hb⟩;have iH:=hid hn;have qE:=hid ht;have c1:=ht.2.1.cells;have d1:=ht.2.2.1.cells;clear hn ht hb)
     | ((with_reducible refine(xD.out _ qE.out).mono ?_);rintro e wM ⟨⟨z2,rfl,hn⟩,ht,hb⟩;have HVM:=hid hn;have iL:=hid ht;have HVL2:=hid (iH.out.later hb);have c2:=ht.2.1.cells;have d2:=ht.2.2.1.cells;obtain⟨⟨r0,g0⟩,⟨r1,g1⟩,⟨r2,g2⟩,⟨r3,g3⟩,⟨r4,g4⟩,⟨r5,g5⟩⟩:=qd3 ht.2.2.2;have c3:=qlo c2 (show w.heap.size+1+1≠w.heap.size by omega) (.bool z1.b) (.slice z1.p z1.k z1.c) (.slice z1.q z1.j z1.d) (.bool z2.b) (.slice z2.p z2.k z2.c) (.slice z2.q z2.j z2.d);have d3:=qlo d2 (show w.heap.size+1+1≠w.heap.size+1 by omega) (.bool z1.b) (.slice z1.p z1.k z1.c) (.slice z1.q z1.j z1.d) (.bool z2.b) (.slice z2.p z2.k z2.c) (.slice z2.q z2.j z2.d);clear hn ht hb)))
 have jG:=qhm iL.out.2.2.2 (.bool z1.b) (.slice z1.p z1.k z1.c) (.slice z1.q z1.j z1.d) (.bool z2.b) (.slice z2.p z2.k z2.c) (.slice z2.q z2.j z2.d);have HN:=hid (qib (jG.1 _ _ HVL2.out) (jG.1 _ _ HVM.out));have HB:=hid (jG.2 w.heap.size w (by omega) iL.out.1);clear jG c0 d0 c1 d1 c2 d2 c3 d3;go_wp2_with fail;refine bodyPost_ret (v := .agg #[.bool z1.b,.slice z1.p z1.k z1.c,.slice z1.q z1.j z1.d,.bool z2.b,.slice z2.p z2.k z2.c,.slice z2.q z2.j z2.d]) ?_ rfl ?_
 ·simp[results,Tryz.results52,go_sem,r0,r1,r2,r3,r4,r5]
 ·exact⟨⟨_,rfl,HN.out⟩,HB.out⟩
def qzw(qs:List (Rat × Rat))(ws:List Int):Nat→Rat × Rat
 | 0=>(0,0)
 | k+1=>((qzw qs ws k).1+(qs.getD k (0,0)).1*((ws.getD k 0:Int):Rat),(qzw qs ws k).2+(qs.getD k (0,0)).2*((ws.getD k 0:Int):Rat))
def q8o(qs:List (Rat × Rat))(ws:List Int):Rat × Rat:=((qzw qs ws qs.length).1/((ws.sum:Int):Rat),(qzw qs ws qs.length).2/((ws.sum:Int):Rat))
def qpe(l:List (BA × BA))(ws:List Int):Nat:=if qb8 l≠0 then qb8 l else if ws.length≠l.length then 2 else qsi ws
def qxt(l:List (BA × BA))(ws:List Int)(w:World)(e:Ending)(w':World):Prop:=
 if qpe l ws≠0 then e = .returned (.tuple #[.agg #[.string ⟨#[]⟩,.string ⟨#[]⟩],.int .i64 (qpe l ws:Nat)])∧Below w.heap.size w w'
 else qe8 (q8o (l.map spQ) ws).1 (q8o (l.map spQ) ws).2 w e w'
theorem qls(z:Int)(h0:0≤z)(h1:z≤999999999):bd (z:Rat) 1:=qew z (by omega) (by omega)
theorem q8p(qs:List (Rat × Rat))(ws:List Int)(hq:∀(i:Nat) (q:Rat × Rat),qs[i]? = some q→bd q.1 600∧bd q.2 600∧q.1≤q.2)(hw:∀x ∈ ws,wIn x=true)(k:Nat):bd (qzw qs ws k).1 (602*k+1)∧bd (qzw qs ws k).2 (602*k+1):=by
 have hq':∀i,bd (qs.getD i (0,0)).1 600∧bd (qs.getD i (0,0)).2 600:=fun i=>by
  rw[qba];cases h:qs[i]? with
  | none=>exact⟨qjb _ (by omega),qjb _ (by omega)⟩
  | some q=>exact⟨(hq i q h).1,(hq i q h).2.1⟩
 have hw':∀i,bd ((ws.getD i 0:Int):Rat) 1:=fun i=>by
  rw[qba];cases h:ws[i]? with
  | none=>exact qls 0 (by omega) (by omega)
  | some x=>have:=ql8.1 (hw x (qbj h));exact qls x this.1 this.2
 induction k with
 | zero=>exact⟨qjb _ (by omega),qjb _ (by omega)⟩
 | succ k ih=>
  have h1:=qne ih.1 (qe0 (hq' k).1 (hw' k));have h2:=qne ih.2 (qe0 (hq' k).2 (hw' k));exact⟨h1.mono (by omega),h2.mono (by omega)⟩
theorem qm0{W:World}{g g':Nat}{c0 c1 c2:Option Value}(h:W.cell? ⟨g,0,none⟩=c0∧W.cell? ⟨g,1,none⟩=c1∧W.cell? ⟨g,2,none⟩=c2)(hne:g'≠g)(x0 x1 x2 x3 x4 x5:Value):
  ((((((W.setCell ⟨g',0,none⟩ x0).setCell ⟨g',1,none⟩ x1).setCell ⟨g',2,none⟩ x2).setCell ⟨g',3,none⟩ x3).setCell ⟨g',4,none⟩ x4).setCell ⟨g',5,none⟩ x5).cell? ⟨g,0,none⟩=c0∧((((((W.setCell ⟨g',0,none⟩ x0).setCell ⟨g',1,none⟩ x1).setCell ⟨g',2,none⟩ x2).setCell ⟨g',3,none⟩ x3).setCell ⟨g',4,none⟩ x4).setCell ⟨g',5,none⟩ x5).cell? ⟨g,1,none⟩=c1∧((((((W.setCell ⟨g',0,none⟩ x0).setCell ⟨g',1,none⟩ x1).setCell ⟨g',2,none⟩ x2).setCell ⟨g',3,none⟩ x3).setCell ⟨g',4,none⟩ x4).setCell ⟨g',5,none⟩ x5).cell? ⟨g,2,none⟩=c2:=by
 have k:∀(V:World) (i o:Nat) (v:Value),(V.setCell ⟨g',i,none⟩ v).cell? ⟨g,o,none⟩=V.cell? ⟨g,o,none⟩:=fun V i o v=>World.cell?_setCell_other _ _ _ _ (by intro e;injection e with e;exact hne e);simp only[k];exact h
theorem q3d{W:World}{g1 g2 g':Nat}{c0 c1 c2 c3 c4 c5 d0 d1 d2:Option Value}(h:W.cell? ⟨g1,0,none⟩=c0∧W.cell? ⟨g1,1,none⟩=c1∧W.cell? ⟨g1,2,none⟩=c2∧W.cell? ⟨g1,3,none⟩=c3∧W.cell? ⟨g1,4,none⟩=c4∧W.cell? ⟨g1,5,none⟩=c5∧W.cell? ⟨g2,0,none⟩=d0∧W.cell? ⟨g2,1,none⟩=d1∧W.cell? ⟨g2,2,none⟩=d2)(h1:g'≠g1)(h2:g'≠g2)(x y:Value):
  ((W.setCell ⟨g',0,none⟩ x).setCell ⟨g',1,none⟩ y).cell? ⟨g1,0,none⟩=c0∧((W.setCell ⟨g',0,none⟩ x).setCell ⟨g',1,none⟩ y).cell? ⟨g1,1,none⟩=c1∧((W.setCell ⟨g',0,none⟩ x).setCell ⟨g',1,none⟩ y).cell? ⟨g1,2,none⟩=c2∧((W.setCell ⟨g',0,none⟩ x).setCell ⟨g',1,none⟩ y).cell? ⟨g1,3,none⟩=c3∧((W.setCell ⟨g',0,none⟩ x).setCell ⟨g',1,none⟩ y).cell? ⟨g1,4,none⟩=c4∧((W.setCell ⟨g',0,none⟩ x).setCell ⟨g',1,none⟩ y).cell? ⟨g1,5,none⟩=c5∧((W.setCell ⟨g',0,none⟩ x).setCell ⟨g',1,none⟩ y).cell? ⟨g2,0,none⟩=d0∧((W.setCell ⟨g',0,none⟩ x).setCell ⟨g',1,none⟩ y).cell? ⟨g2,1,none⟩=d1∧((W.setCell ⟨g',0,none⟩ x).setCell ⟨g',1,none⟩ y).cell? ⟨g2,2,none⟩=d2:=by
 have k1:∀(V:World) (i o:Nat) (v:Value),(V.setCell ⟨g',i,none⟩ v).cell? ⟨g1,o,none⟩=V.cell? ⟨g1,o,none⟩:=fun V i o v=>World.cell?_setCell_other _ _ _ _ (by intro e;injection e with e;exact h1 e);have k2:∀(V:World) (i o:Nat) (v:Value),(V.setCell ⟨g',i,none⟩ v).cell? ⟨g2,o,none⟩=V.cell? ⟨g2,o,none⟩:=fun V i o v=>World.cell?_setCell_other _ _ _ _ (by intro e;injection e with e;exact h2 e);simp only[k1,k2];exact h
theorem qkb.put{W:World}{g:Nat}{x y x' y':NV}(h:qkb W g x y):
  qkb ((((((W.setCell ⟨g,0,none⟩ (.bool x'.b)).setCell ⟨g,1,none⟩ (.slice x'.p x'.k x'.c)).setCell ⟨g,2,none⟩ (.slice x'.q x'.j x'.d)).setCell ⟨g,3,none⟩ (.bool y'.b)).setCell ⟨g,4,none⟩ (.slice y'.p y'.k y'.c)).setCell ⟨g,5,none⟩ (.slice y'.q y'.j y'.d)) g x' y'∧
  (∀v q,qaw W v q→qaw ((((((W.setCell ⟨g,0,none⟩ (.bool x'.b)).setCell ⟨g,1,none⟩ (.slice x'.p x'.k x'.c)).setCell ⟨g,2,none⟩ (.slice x'.q x'.j x'.d)).setCell ⟨g,3,none⟩ (.bool y'.b)).setCell ⟨g,4,none⟩ (.slice y'.p y'.k y'.c)).setCell ⟨g,5,none⟩ (.slice y'.q y'.j y'.d)) v q)∧
  (∀B w0,B≤g→Below B w0 W→Below B w0 ((((((W.setCell ⟨g,0,none⟩ (.bool x'.b)).setCell ⟨g,1,none⟩ (.slice x'.p x'.k x'.c)).setCell ⟨g,2,none⟩ (.slice x'.q x'.j x'.d)).setCell ⟨g,3,none⟩ (.bool y'.b)).setCell ⟨g,4,none⟩ (.slice y'.p y'.k y'.c)).setCell ⟨g,5,none⟩ (.slice y'.q y'.j y'.d))):=by
 have o1:=Own.set h 0 (by omega) (.bool x'.b);have o2:=o1.set 1 (by omega) (.slice x'.p x'.k x'.c);have o3:=o2.set 2 (by omega) (.slice x'.q x'.j x'.d);have o4:=o3.set 3 (by omega) (.bool y'.b);have o5:=o4.set 4 (by omega) (.slice y'.p y'.k y'.c);have o6:=o5.set 5 (by omega) (.slice y'.q y'.j y'.d);refine⟨o6.congr fun i hi => ?_,fun v q hv => ?_,fun B w0 hB hb => ?_⟩
 ·match i,hi with
  | 0,_=>rfl
  | 1,_=>rfl
  | 2,_=>rfl
  | 3,_=>rfl
  | 4,_=>rfl
  | 5,_=>rfl
 ·have h1:=qbl hv h 0 (by omega) (by intro k z e;cases e) (.bool x'.b)
  have h2:=qbl h1 o1 1 (by omega) (by intro k z e;cases e) (.slice x'.p x'.k x'.c);have h3:=qbl h2 o2 2 (by omega) (by intro k z e;cases e) (.slice x'.q x'.j x'.d);have h4:=qbl h3 o3 3 (by omega) (by intro k z e;cases e) (.bool y'.b);have h5:=qbl h4 o4 4 (by omega) (by intro k z e;cases e) (.slice y'.p y'.k y'.c);exact qbl h5 o5 5 (by omega) (by intro k z e;cases e) (.slice y'.q y'.j y'.d)
 ·exact(((((hb.setCell (p:=⟨g,0,none⟩) hB _).setCell (p:=⟨g,1,none⟩) hB _).setCell (p:=⟨g,2,none⟩) hB _).setCell (p:=⟨g,3,none⟩) hB _).setCell (p:=⟨g,4,none⟩) hB _).setCell (p:=⟨g,5,none⟩) hB _
theorem q3e(w:World):qaw w (.agg #[.bool false,.slice none 0 0,.slice none 0 0]) 0:=qjt w 0 false (.slice none 0 0) (.slice none 0 0) rfl (qa2.nil w) (qa2.nil w)
theorem qd4{W:World}{f:FuncId}{args:Array Value}{q:Rat}(h:Calls Tryz.prog f args W fun e w'=>(∃v',e = .returned v'∧qaw w' v' q)∧Below W.heap.size W w'):
  Calls Tryz.prog f args W fun e w'=>(∃z:NV,e = .returned (.agg #[.bool z.b,.slice z.p z.k z.c,.slice z.q z.j z.d])∧qaw w' (.agg #[.bool z.b,.slice z.p z.k z.c,.slice z.q z.j z.d]) q)∧Below W.heap.size W w':=
 h.mono fun e w' ⟨⟨v',he,hn⟩,hb⟩=>by
  obtain⟨z,rfl⟩:=hn.nv;exact⟨⟨z,he,hn⟩,hb⟩
theorem q8q{W:World}{f:FuncId}{args:Array Value}{lo hi:Rat}(h:Calls Tryz.prog f args W fun e w'=>(∃v',e = .returned v'∧qgo w' v' lo hi)∧Below W.heap.size W w'):
  Calls Tryz.prog f args W fun e w'=>(∃z z':NV,e = .returned (.agg #[.bool z.b,.slice z.p z.k z.c,.slice z.q z.j z.d,.bool z'.b,.slice z'.p z'.k z'.c,.slice z'.q z'.j z'.d])∧qaw w' (.agg #[.bool z.b,.slice z.p z.k z.c,.slice z.q z.j z.d]) lo∧qaw w' (.agg #[.bool z'.b,.slice z'.p z'.k z'.c,.slice z'.q z'.j z'.d]) hi)∧Below W.heap.size W w':=
 h.mono fun e w' ⟨⟨v',he,hn⟩,hb⟩=>by
  obtain⟨z,z',rfl,h1,h2⟩:=hn.nv;exact⟨⟨z,z',he,h1,h2⟩,hb⟩
theorem q8r(vl vw:Value)(l:List (BA × BA))(ws:List Int)(w:World)(hg:GW w)(hv:qdc w vl l)(hw:qwx w vw ws)(hs:∀s ∈ l,s.1.size≤1073741824∧s.2.size≤1073741824)(h0:qpe l ws=0):
  Calls Tryz.prog 17 #[vl,vw] w (qxt l ws w):=by
 have hG:qb8 l=0:=by
  unfold qpe at h0;split at h0
  ·rename_i h;exact absurd h0 h
  ·omega
 obtain⟨Ji,hwe⟩:ws.length=l.length∧qsi ws=0:=by
  unfold qpe at h0;rw[if_neg (by omega)] at h0;split at h0
  ·cases h0
  ·exact⟨by omega,h0⟩
 obtain⟨jW,bX⟩:=qsr hwe;obtain⟨oK,oL,_⟩:=qig hG;have oF:Below w.heap.size w (w.alloc (.cells #[.string ⟨#[]⟩,.string ⟨#[]⟩] 47)):=qad _ _;have aX:Hid (Own (w.alloc (.cells #[.string ⟨#[]⟩,.string ⟨#[]⟩] 47)) w.heap.size 2 (qvs (.string ⟨#[]⟩) (.string ⟨#[]⟩))):=hid (qd2 w 47 _ _)
 have dQ:=hid ((qic vl l _ (hg.later oF) (hv.later oF) hs).mono (R':=fun e w'=>(∃g,e = .returned (.tuple #[.slice (some ⟨g,0,none⟩) l.length l.length,.int .i64 0])∧qdk ivK w' g l.length (l.map spQ))∧Below (w.alloc (.cells #[.string ⟨#[]⟩,.string ⟨#[]⟩] 47)).heap.size (w.alloc (.cells #[.string ⟨#[]⟩,.string ⟨#[]⟩] 47)) w') (fun e w' h=>by
  unfold qft at h;rw[if_pos hG] at h;obtain⟨⟨g,_,he,hr⟩,hb⟩:=h
  exact⟨⟨g,he,hr⟩,hb⟩))
 have rV:Hid (∀W,Below w.heap.size w W→Calls Tryz.prog 50 #[vw] W fun e w'=>e = .returned (.tuple #[.int .i64 ws.sum,.int .i64 0])∧W=w'):=hid fun W hW=>(qfp vw ws W (hw.later hW) (by omega)).mono fun e w' ⟨h1,h2⟩=>by
  unfold qp0 at h1;rw[hwe] at h1;exact⟨h1,h2⟩
 have fB:=hid (q3b hG);have iS:=hid (q8p (l.map spQ) ws (q3b hG) jW);have aW:Hid ((l.map spQ).length=l.length):=hid (List.length_map _)
 have aF:Hid (∀e w',qe8 ((qzw (l.map spQ) ws l.length).1/((ws.sum:Int):Rat)) ((qzw (l.map spQ) ws l.length).2/((ws.sum:Int):Rat)) w e w'→qxt l ws w e w'):=hid fun e w' h=>by
  unfold qxt;rw[if_neg (by omega)];unfold q8o;rw[aW.out];exact h
 have hsb:=qi2 ws jW;have sJ:=hid jW;obtain⟨p,c,rfl,bO,bJ,aA⟩:=hv;obtain⟨pw,cw,rfl,zA,Kt,hwcells⟩:=hw;obtain⟨bw,ow,rfl,Fh⟩:=hwcells.resolve_left (by omega);have Ra:=hid Fh;have Rd:=hid oF;unfold maxLen at bJ Kt;clear aA hwcells Fh hg hs h0 hG hwe jW oF;generalize hS:ws.sum=S at *;have HS:=hid hS;clear hS;have HAQ:Hid (∀k,qzw (l.map spQ) ws (k+1)=((qzw (l.map spQ) ws k).1+((l.map spQ).getD k (0,0)).1*((ws.getD k 0:Int):Rat),(qzw (l.map spQ) ws k).2+((l.map spQ).getD k (0,0)).2*((ws.getD k 0:Int):Rat))):=hid fun k=>rfl;have HA0:Hid (qzw (l.map spQ) ws 0=(0,0)):=hid rfl;generalize qzw (l.map spQ) ws=acc at *;generalize l.map spQ=qs at *;generalize hn:l.length=n at *;clear hn;have tF:((ws.length:Int)==(n:Int))=true:=by rw[Ji];simp
 have Re:=hid Ji;rw[Ji] at hsb zA rV ⊢;clear Ji tF;go_enter Tryz.func17,Tryz.ntmps17;go_wp2_with fail;refine dQ.out.mono ?_;rintro e w1 ⟨⟨g,rfl,hr⟩,hb⟩;have HR:=hid hr;have dU:=hid hb;have HB:=hid (Rd.out.trans (hb.mono Rd.out.size));have uE:=hid (aX.out.later (hb.mono aX.out.1));clear hr hb dQ;go_wp2_with fail;refine(rV.out _ HB.out).mono ?_;rintro e w1' ⟨rfl,rfl⟩;clear rV;have hS0:(S==0)=false:=qan bX;have HPM:=hid (qn1 w1 ⟨false,none,0,0,none,0,0⟩ ⟨false,none,0,0,none,0,0⟩ 101);have Rf:Hid (Below w1.heap.size w1 (w1.alloc (.cells #[.bool false,.slice none 0 0,.slice none 0 0,.bool false,.slice none 0 0,.slice none 0 0] 101))):=hid (qad _ _);have gJ:=hid (q3e (w1.alloc (.cells #[.bool false,.slice none 0 0,.slice none 0 0,.bool false,.slice none 0 0,.slice none 0 0] 101)));obtain⟨gm,hgm⟩:∃gm,gm=w1.heap.size:=⟨_,rfl⟩;go_wp2_with fail;clear hgm
 go_loopw [41] (fun i wr=>∃k:Nat,k≤n∧i = .int .i64 k∧∃xm ym:NV,Hid (Below w1.heap.size w1 wr)∧Hid (qkb wr w1.heap.size xm ym)∧Hid (qaw wr (.agg #[.bool xm.b,.slice xm.p xm.k xm.c,.slice xm.q xm.j xm.d]) (acc k).1∧qaw wr (.agg #[.bool ym.b,.slice ym.p ym.k ym.c,.slice ym.q ym.j ym.d]) (acc k).2)) (fun i _=>n-(intOf i).toNat)
 case atStart=>exact⟨0,Nat.zero_le _,rfl,⟨false,none,0,0,none,0,0⟩,⟨false,none,0,0,none,0,0⟩,Rf,HPM,hid ⟨by rw[HA0.out];exact gJ.out,by rw[HA0.out];exact gJ.out⟩⟩
 case round=>
  obtain⟨k,hk,rfl,xm,ym,bU,Le,HNK⟩:=hrel;clear HPM Rf gJ;by_cases kT:k<n
  ·obtain⟨q,hq⟩:∃q,qs[k]? = some q:=⟨qs[k]'(by rw[aW.out];exact kT),qat _⟩
   have Co:=HR.out.later qfs bU.out;obtain⟨x,y,⟨a0,a1,a2,a3,a4,a5⟩,hx,hy⟩:=qr8 Co k q hq;have aD:Below wr.heap.size wr (wr.alloc (.cells #[.bool x.b,.slice x.p x.k x.c,.slice x.q x.j x.d,.bool y.b,.slice y.p y.k y.c,.slice y.q y.j y.d] 101)):=qad _ _;have Rg:=HB.out.trans ((bU.out.trans (aD.mono bU.out.size)).mono HB.out.size)
   have hwc:(wr.alloc (.cells #[.bool x.b,.slice x.p x.k x.c,.slice x.q x.j x.d,.bool y.b,.slice y.p y.k y.c,.slice y.q y.j y.d] 101)).cell? ⟨bw,ow+k,none⟩=some (iv ws k):=by
    have h1:=Ra.out k (by rw[Re.out];exact kT);rw[Rg.cell (p:=⟨bw,ow+k,none⟩) (qaf w _ h1)];exact h1
   unfold iv at hwc
   have hwx:=ql8.1 (sJ.out (ws.getD k 0) (by
    have cQ:k<ws.length:=by rw[Re.out];exact kT
    rw[qba,qat cQ,Option.getD_some]
    exact List.getElem_mem _))
   have HAK:=hid (HAQ.out k);have HQK:Hid (qs.getD k (0,0)=q):=hid (by rw[qba,hq];rfl);have bq:=fB.out k q hq;have ba:=iS.out k;generalize ws.getD k 0=wi at *;have Fi:=qls wi hwx.1 hwx.2;have vI:=hid (qd4 (qet wi (wr.alloc (.cells #[.bool x.b,.slice x.p x.k x.c,.slice x.q x.j x.d,.bool y.b,.slice y.p y.k y.c,.slice y.q y.j y.d] 101)) (by omega) (by omega)));have Me:=hid (qn1 wr x y 101);have yE:Hid (qaw (wr.alloc (.cells #[.bool x.b,.slice x.p x.k x.c,.slice x.q x.j x.d,.bool y.b,.slice y.p y.k y.c,.slice y.q y.j y.d] 101)) (.agg #[.bool x.b,.slice x.p x.k x.c,.slice x.q x.j x.d]) q.1∧qaw (wr.alloc (.cells #[.bool x.b,.slice x.p x.k x.c,.slice x.q x.j x.d,.bool y.b,.slice y.p y.k y.c,.slice y.q y.j y.d] 101)) (.agg #[.bool y.b,.slice y.p y.k y.c,.slice y.q y.j y.d]) q.2):=hid ⟨hx.later aD,hy.later aD⟩;have Rh:=hid (Le.out.later (aD.mono Le.out.1));have Ri:Hid (qaw (wr.alloc (.cells #[.bool x.b,.slice x.p x.k x.c,.slice x.q x.j x.d,.bool y.b,.slice y.p y.k y.c,.slice y.q y.j y.d] 101)) (.agg #[.bool xm.b,.slice xm.p xm.k xm.c,.slice xm.q xm.j xm.d]) (acc k).1∧qaw (wr.alloc (.cells #[.bool x.b,.slice x.p x.k x.c,.slice x.q x.j x.d,.bool y.b,.slice y.p y.k y.c,.slice y.q y.j y.d] 101)) (.agg #[.bool ym.b,.slice ym.p ym.k ym.c,.slice ym.q ym.j ym.d]) (acc k).2):=hid ⟨HNK.out.1.later aD,HNK.out.2.later aD⟩;have cZ:=hid (bU.out.trans (aD.mono bU.out.size));have HGS:Hid (w1.heap.size<wr.heap.size):=hid Le.out.1;clear hq Co hx hy aD Rg;generalize Cj:wr.heap.size=gs at *;go_wp2_with fail;refine vI.out.mono ?_;rintro e w2 ⟨⟨v,rfl,hv⟩,aR⟩;have tG:Below w2.heap.size w2 (w2.alloc (.cells #[.bool v.b,.slice v.p v.k v.c,.slice v.q v.j v.d] 85)):=qad _ _;have cJ:=aR.trans (tG.mono aR.size);have pT:=hid (cZ.out.trans (cJ.mono cZ.out.size))
   have dY:=hid (Rh.out.later (cJ.mono Rh.out.1));have gQ:=hid (Me.out.later (cJ.mono Me.out.1));have dZ:=hid (qgj w2 v);have Rj:Hid (qaw (w2.alloc (.cells #[.bool v.b,.slice v.p v.k v.c,.slice v.q v.j v.d] 85)) (.agg #[.bool x.b,.slice x.p x.k x.c,.slice x.q x.j x.d]) q.1∧qaw (w2.alloc (.cells #[.bool v.b,.slice v.p v.k v.c,.slice v.q v.j v.d] 85)) (.agg #[.bool y.b,.slice y.p y.k y.c,.slice y.q y.j y.d]) q.2):=hid ⟨yE.out.1.later cJ,yE.out.2.later cJ⟩;have zU:Hid (qaw (w2.alloc (.cells #[.bool v.b,.slice v.p v.k v.c,.slice v.q v.j v.d] 85)) (.agg #[.bool xm.b,.slice xm.p xm.k xm.c,.slice xm.q xm.j xm.d]) (acc k).1∧qaw (w2.alloc (.cells #[.bool v.b,.slice v.p v.k v.c,.slice v.q v.j v.d] 85)) (.agg #[.bool ym.b,.slice ym.p ym.k ym.c,.slice ym.q ym.j ym.d]) (acc k).2):=hid ⟨Ri.out.1.later cJ,Ri.out.2.later cJ⟩;have iU:=hid (hv.later tG);have HNS:Hid (w1.heap.size≠gs):=hid (by have:=HGS.out;omega);have HNW:Hid (w1.heap.size≠w2.heap.size):=hid (by have:=HGS.out;have h1:=Me.out.1;have:=aR.size;omega);clear hv aR tG cJ a0 a1 a2 a3 a4 a5 hwc vI;generalize hgw:w2.heap.size=gw at *;go_wp2_with fail
   try rw[hgw]
   generalize (w2.alloc (.cells #[.bool v.b,.slice v.p v.k v.c,.slice v.q v.j v.d] 85))=w3 at *;have fT:Hid (Below w3.heap.size w3 w3.drew):=hid ((qaa _ _).drew);have cW:Hid (∀W,Below w3.heap.size w3 W→Calls Tryz.prog 53 #[.agg #[.bool x.b,.slice x.p x.k x.c,.slice x.q x.j x.d],.agg #[.bool v.b,.slice v.p v.k v.c,.slice v.q v.j v.d]] W fun e w'=>(∃z:NV,e = .returned (.agg #[.bool z.b,.slice z.p z.k z.c,.slice z.q z.j z.d])∧qaw w' (.agg #[.bool z.b,.slice z.p z.k z.c,.slice z.q z.j z.d]) (q.1*((wi:Int):Rat)))∧Below W.heap.size W w'):=hid fun W hW=>qd4 (qd5 _ _ _ _ W (Rj.out.1.later hW) (iU.out.later hW) (by have:=bq.1.rs;have:=Fi.rs;unfold Cap;omega));have gF:Hid (∀W,Below w3.heap.size w3 W→Calls Tryz.prog 53 #[.agg #[.bool y.b,.slice y.p y.k y.c,.slice y.q y.j y.d],.agg #[.bool v.b,.slice v.p v.k v.c,.slice v.q v.j v.d]] W fun e w'=>(∃z:NV,e = .returned (.agg #[.bool z.b,.slice z.p z.k z.c,.slice z.q z.j z.d])∧qaw w' (.agg #[.bool z.b,.slice z.p z.k z.c,.slice z.q z.j z.d]) (q.2*((wi:Int):Rat)))∧Below W.heap.size W w'):=hid fun W hW=>qd4 (qd5 _ _ _ _ W (Rj.out.2.later hW) (iU.out.later hW) (by have:=bq.2.1.rs;have:=Fi.rs;unfold Cap;omega))
   have iA:Hid (∀W (t1 t2:NV),Below w3.heap.size w3 W→qaw W (.agg #[.bool t1.b,.slice t1.p t1.k t1.c,.slice t1.q t1.j t1.d]) (q.1*((wi:Int):Rat))→qaw W (.agg #[.bool t2.b,.slice t2.p t2.k t2.c,.slice t2.q t2.j t2.d]) (q.2*((wi:Int):Rat))→Calls Tryz.prog 52 #[.agg #[.bool xm.b,.slice xm.p xm.k xm.c,.slice xm.q xm.j xm.d,.bool ym.b,.slice ym.p ym.k ym.c,.slice ym.q ym.j ym.d],.agg #[.bool t1.b,.slice t1.p t1.k t1.c,.slice t1.q t1.j t1.d,.bool t2.b,.slice t2.p t2.k t2.c,.slice t2.q t2.j t2.d]] W fun e w'=>(∃z z':NV,e = .returned (.agg #[.bool z.b,.slice z.p z.k z.c,.slice z.q z.j z.d,.bool z'.b,.slice z'.p z'.k z'.c,.slice z'.q z'.j z'.d])∧qaw w' (.agg #[.bool z.b,.slice z.p z.k z.c,.slice z.q z.j z.d]) ((acc k).1+q.1*((wi:Int):Rat))∧qaw w' (.agg #[.bool z'.b,.slice z'.p z'.k z'.c,.slice z'.q z'.j z'.d]) ((acc k).2+q.2*((wi:Int):Rat)))∧Below W.heap.size W w'):=hid fun W t1 t2 hW h1 h2=>q8q (qzv _ _ _ _ _ _ W (qib (zU.out.1.later hW) (zU.out.2.later hW)) (qib h1 h2) (by
    have:=ba.1.rs;have:=ba.2.rs;have:=(qe0 bq.1 Fi).rs;have:=(qe0 bq.2.1 Fi).rs;unfold Cap;omega))
   have c0:=qkb.cells gQ.out;have d0:=(One.cells dZ.out).1;have e0:w3.cell? ⟨gs,0,none⟩=some (.bool x.b)∧w3.cell? ⟨gs,1,none⟩=some (.slice x.p x.k x.c)∧w3.cell? ⟨gs,2,none⟩=some (.slice x.q x.j x.d)∧w3.cell? ⟨gs,3,none⟩=some (.bool y.b)∧w3.cell? ⟨gs,4,none⟩=some (.slice y.p y.k y.c)∧w3.cell? ⟨gs,5,none⟩=some (.slice y.q y.j y.d)∧w3.cell? ⟨gw,0,none⟩=some (.bool v.b)∧w3.cell? ⟨gw,1,none⟩=some (.slice v.p v.k v.c)∧w3.cell? ⟨gw,2,none⟩=some (.slice v.q v.j v.d):=⟨c0.1,c0.2.1,c0.2.2.1,c0.2.2.2.1,c0.2.2.2.2.1,c0.2.2.2.2.2,d0⟩;obtain⟨⟨m0,f0⟩,⟨m1,f1⟩,⟨m2,f2⟩,⟨m3,f3⟩,⟨m4,f4⟩,⟨m5,f5⟩⟩:=qd3 dY.out;clear c0 d0 bq ba Fi hwx;refine wp_region_held_drew (S:=(fun W=>W.cell? ⟨gs,0,none⟩=some (.bool x.b)∧W.cell? ⟨gs,1,none⟩=some (.slice x.p x.k x.c)∧W.cell? ⟨gs,2,none⟩=some (.slice x.q x.j x.d)∧W.cell? ⟨gs,3,none⟩=some (.bool y.b)∧W.cell? ⟨gs,4,none⟩=some (.slice y.p y.k y.c)∧W.cell? ⟨gs,5,none⟩=some (.slice y.q y.j y.d)∧W.cell? ⟨gw,0,none⟩=some (.bool v.b)∧W.cell? ⟨gw,1,none⟩=some (.slice v.p v.k v.c)∧W.cell? ⟨gw,2,none⟩=some (.slice v.q v.j v.d))) (by kernel_rfl) e0 (fun gR => ?_)
   refine' wpAnyH_take (i:=1) (v:=_) rfl (by kernel_rfl) (by kernel_rfl) (by kernel_rfl) (fun _ _ _ h=>h) (Or.inl ⟨by rfl, ?uF⟩) gR ?rest1
   case uF=>(intro w hSw;(try dsimp only at hSw);go_simp;(try with_reducible rfl))
   try simp only[Act.put,List.setIfInBounds_toArray]
   refine' wpAnyH_take (i:=2) (v:=_) rfl (by kernel_rfl) (by kernel_rfl) (by kernel_rfl) (fun _ _ _ h=>h) (Or.inl ⟨by rfl, ?xO⟩) gR ?rest2
   case xO=>(intro w hSw;(try dsimp only at hSw);go_simp;(try with_reducible rfl))
   try simp only[Act.put]
   refine' wpAnyH_take (i:=3) (v:=_) rfl (by kernel_rfl) (by kernel_rfl) (by kernel_rfl) (fun _ _ _ h=>h) (Or.inl ⟨by rfl, ?hy3⟩) gR ?rest3
   case hy3=>(intro w hSw;(try dsimp only at hSw);go_simp;(try with_reducible rfl))
   try simp only[Act.put]
   refine' wpAnyH_take (i:=5) (v:=_) rfl (by kernel_rfl) (by kernel_rfl) (by kernel_rfl) (fun _ _ _ h=>h) (Or.inl ⟨by rfl, ?hy4⟩) gR ?rest4
   case hy4=>(intro w hSw;(try dsimp only at hSw);go_simp;(try with_reducible rfl))
   try simp only[Act.put]
   refine' wpAnyH_take (i:=6) (v:=_) rfl (by kernel_rfl) (by kernel_rfl) (by kernel_rfl) (fun _ _ _ h=>h) (Or.inl ⟨by rfl, ?hy5⟩) gR ?rest5
   case hy5=>(intro w hSw;(try dsimp only at hSw);go_simp;(try with_reducible rfl))
   try simp only[Act.put]
   refine' wpAnyH_take (i:=7) (v:=_) rfl (by kernel_rfl) (by kernel_rfl) (by kernel_rfl) (fun _ _ _ h=>h) (Or.inl ⟨by rfl, ?hy6⟩) gR ?rest6
   case hy6=>(intro w hSw;(try dsimp only at hSw);go_simp;(try with_reducible rfl))
   try simp only[Act.put]
   refine wpAnyH_ready (rs:=[0,4]) (by kernel_rfl) (by simp) ?_;refine AllReadyH.cons rfl (fun K hK => ?step7) ?next7
   case step7=>
    go_simp;refine hK.out _ _ ?hS1 (fun hHeld1 => ?more1)
    case hS1=>exact gR
    clear hK;refine wpAnyH_ready (rs:=[4]) (by kernel_rfl) (by simp) ?_;refine AllReadyH.cons rfl (fun K hK => ?step8) ?next8
    case step8=>
     go_simp
     go_at_call 53;(with_reducible refine(cW.out _ fT.out).mono ?_);rintro e wA ⟨⟨t1,rfl,hn⟩,hb⟩;have gE:=hid hn;have dE:=hid (fT.out.trans (hb.mono fT.out.size));have pA:=dY.out.later (dE.out.mono dY.out.1);have cA:=(qkb.cells (gQ.out.later (dE.out.mono gQ.out.1)));have dA:=(One.cells (dZ.out.later (dE.out.mono dZ.out.1))).1;obtain⟨⟨ma0,fa0⟩,⟨ma1,fa1⟩,⟨ma2,fa2⟩,⟨ma3,fa3⟩,⟨ma4,fa4⟩,⟨ma5,fa5⟩⟩:=qd3 pA;clear hn hb pA
     go_wp2_with fail;refine hK.out _ _ ?hS2 (fun hHeld2 => ?more2)
     case hS2=>exact⟨cA.1,cA.2.1,cA.2.2.1,cA.2.2.2.1,cA.2.2.2.2.1,cA.2.2.2.2.2,dA⟩
     clear hK;refine wpAnyH_ready (rs:=[8]) (by kernel_rfl) (by simp) ?_;refine AllReadyH.cons rfl (fun K hK => ?step9) ?q9v
     case step9=>
      go_simp
      go_at_call 53;(with_reducible refine(gF.out _ dE.out).mono ?_);rintro e wB ⟨⟨t2,rfl,hn⟩,hb⟩;have cK:=hid hn;have tH:=hid (gE.out.later hb);have aV:=hid (dE.out.trans (hb.mono dE.out.size));have pB:=dY.out.later (aV.out.mono dY.out.1);have cB:=(qkb.cells (gQ.out.later (aV.out.mono gQ.out.1)));have dB:=(One.cells (dZ.out.later (aV.out.mono dZ.out.1))).1;obtain⟨⟨mb0,Ck⟩,⟨mb1,fb1⟩,⟨mb2,fb2⟩,⟨mb3,fb3⟩,⟨mb4,fb4⟩,⟨mb5,fb5⟩⟩:=qd3 pB;clear hn hb pB
      go_wp2_with fail;refine hK.out _ _ ?hS3 (fun Jj => ?more3)
      case hS3=>exact⟨cB.1,cB.2.1,cB.2.2.1,cB.2.2.2.1,cB.2.2.2.2.1,cB.2.2.2.2.2,dB⟩
      clear hK
      refine' wpAnyH_take (i:=9) (v:=_) rfl (by kernel_rfl) (by kernel_rfl) (by kernel_rfl) (fun _ _ _ h=>h) (Or.inl ⟨by rfl, ?hy10⟩) Jj ?rest10
      case hy10=>(intro w hSw;(try dsimp only at hSw);go_simp;(try with_reducible rfl))
      try simp only[Act.put,List.setIfInBounds_toArray]
      refine wpAnyH_ready (rs:=[10]) (by kernel_rfl) (by simp) ?_;refine AllReadyH.cons rfl (fun K hK => ?step11) ?next11
      case step11=>
       go_simp
       go_at_call 52;(with_reducible refine(iA.out _ _ _ aV.out tH.out cK.out).mono ?_);rintro e wC ⟨⟨z1,z2,rfl,dT,lC⟩,hb⟩;have Bd:=hid dT;have kG:=hid lC;have hJ:=hid (aV.out.trans (hb.mono aV.out.size));have pC:=dY.out.later (hJ.out.mono dY.out.1);have Rk:=hid pC;have cC:=(qkb.cells (gQ.out.later (hJ.out.mono gQ.out.1)));have dC:=(One.cells (dZ.out.later (hJ.out.mono dZ.out.1))).1;obtain⟨⟨mc0,fc0⟩,⟨mc1,fc1⟩,⟨mc2,fc2⟩,⟨mc3,fc3⟩,⟨mc4,fc4⟩,⟨mc5,fc5⟩⟩:=qd3 pC;have cD:=qlo cC HNS.out (.bool z1.b) (.slice z1.p z1.k z1.c) (.slice z1.q z1.j z1.d) (.bool z2.b) (.slice z2.p z2.k z2.c) (.slice z2.q z2.j z2.d);have dD:=qm0 dC HNW.out (.bool z1.b) (.slice z1.p z1.k z1.c) (.slice z1.q z1.j z1.d) (.bool z2.b) (.slice z2.p z2.k z2.c) (.slice z2.q z2.j z2.d);clear dT lC hb pC
       go_wp2_with fail;refine hK.out _ _ ?hS4 (fun hHeld4 => ?more4)
       case hS4=>exact⟨cC.1,cC.2.1,cC.2.2.1,cC.2.2.2.1,cC.2.2.2.2.1,cC.2.2.2.2.2,dC⟩
       clear hK;refine wpAnyH_ready (rs:=[11]) (by kernel_rfl) (by simp) ?_;refine AllReadyH.cons rfl (fun K hK => ?step12) ?next12
       case step12=>
        go_simp;refine hK.out _ _ ?hS5 (fun hHeld5 => ?more5)
        case hS5=>exact⟨cD.1,cD.2.1,cD.2.2.1,cD.2.2.2.1,cD.2.2.2.2.1,cD.2.2.2.2.2,dD⟩
        clear hK;refine wpAnyH_done (by kernel_rfl) ?_ _;have dR:=qkb.put (x':=z1) (y':=z2) Rk.out;have zV:=hid dR.1;have zW:Hid _:=hid (And.intro (dR.2.1 _ _ Bd.out) (dR.2.1 _ _ kG.out));have zX:=hid (dR.2.2 w1.heap.size w1 (qac _) (pT.out.trans (hJ.out.mono pT.out.size)));have tX:Hid (acc (k+1)=((acc k).1+q.1*((wi:Int):Rat),(acc k).2+q.2*((wi:Int):Rat))):=hid (by rw[HAK.out,HQK.out]);clear dR;go_wp2_with fail;go_roundw
        case rel=>exact⟨k+1,by omega,by go_num,z1,z2,zX,zV,hid (by rw[tX.out];exact zW.out)⟩
        case measure=>simp[intOf];omega
       exact AllReadyH.nil
      exact AllReadyH.nil
     exact AllReadyH.nil
    exact AllReadyH.nil
   refine AllReadyH.cons rfl (fun K hK => ?step13) ?next13
   case step13=>
    go_simp
    go_at_call 53;(with_reducible refine(cW.out _ fT.out).mono ?_);rintro e wA ⟨⟨t1,rfl,hn⟩,hb⟩;have gE:=hid hn;have dE:=hid (fT.out.trans (hb.mono fT.out.size));have pA:=dY.out.later (dE.out.mono dY.out.1);have cA:=(qkb.cells (gQ.out.later (dE.out.mono gQ.out.1)));have dA:=(One.cells (dZ.out.later (dE.out.mono dZ.out.1))).1;obtain⟨⟨ma0,fa0⟩,⟨ma1,fa1⟩,⟨ma2,fa2⟩,⟨ma3,fa3⟩,⟨ma4,fa4⟩,⟨ma5,fa5⟩⟩:=qd3 pA;clear hn hb pA
    go_wp2_with fail;refine hK.out _ _ ?hS6 (fun hHeld6 => ?more6)
    case hS6=>exact⟨cA.1,cA.2.1,cA.2.2.1,cA.2.2.2.1,cA.2.2.2.2.1,cA.2.2.2.2.2,dA⟩
    clear hK;refine wpAnyH_ready (rs:=[0,8]) (by kernel_rfl) (by simp) ?_;refine AllReadyH.cons rfl (fun K hK => ?step14) ?next14
    case step14=>
     go_simp;refine hK.out _ _ ?hS7 (fun hHeld7 => ?more7)
     case hS7=>exact⟨cA.1,cA.2.1,cA.2.2.1,cA.2.2.2.1,cA.2.2.2.2.1,cA.2.2.2.2.2,dA⟩
     clear hK;refine wpAnyH_ready (rs:=[8]) (by kernel_rfl) (by simp) ?_;refine AllReadyH.cons rfl (fun K hK => ?step15) ?next15
     case step15=>
      go_simp
      go_at_call 53;(with_reducible refine(gF.out _ dE.out).mono ?_);rintro e wB ⟨⟨t2,rfl,hn⟩,hb⟩;have cK:=hid hn;have tH:=hid (gE.out.later hb);have aV:=hid (dE.out.trans (hb.mono dE.out.size));have pB:=dY.out.later (aV.out.mono dY.out.1);have cB:=(qkb.cells (gQ.out.later (aV.out.mono gQ.out.1)));have dB:=(One.cells (dZ.out.later (aV.out.mono dZ.out.1))).1;obtain⟨⟨mb0,Ck⟩,⟨mb1,fb1⟩,⟨mb2,fb2⟩,⟨mb3,fb3⟩,⟨mb4,fb4⟩,⟨mb5,fb5⟩⟩:=qd3 pB;clear hn hb pB
      go_wp2_with fail;refine hK.out _ _ ?hS8 (fun Jk => ?more8)
      case hS8=>exact⟨cB.1,cB.2.1,cB.2.2.1,cB.2.2.2.1,cB.2.2.2.2.1,cB.2.2.2.2.2,dB⟩
      clear hK
      refine' wpAnyH_take (i:=9) (v:=_) rfl (by kernel_rfl) (by kernel_rfl) (by kernel_rfl) (fun _ _ _ h=>h) (Or.inl ⟨by rfl, ?hy16⟩) Jk ?rest16
      case hy16=>(intro w hSw;(try dsimp only at hSw);go_simp;(try with_reducible rfl))
      try simp only[Act.put,List.setIfInBounds_toArray]
      refine wpAnyH_ready (rs:=[10]) (by kernel_rfl) (by simp) ?_;refine AllReadyH.cons rfl (fun K hK => ?step17) ?next17
      case step17=>
       go_simp
       go_at_call 52;(with_reducible refine(iA.out _ _ _ aV.out tH.out cK.out).mono ?_);rintro e wC ⟨⟨z1,z2,rfl,dT,lC⟩,hb⟩;have Bd:=hid dT;have kG:=hid lC;have hJ:=hid (aV.out.trans (hb.mono aV.out.size));have pC:=dY.out.later (hJ.out.mono dY.out.1);have Rk:=hid pC;have cC:=(qkb.cells (gQ.out.later (hJ.out.mono gQ.out.1)));have dC:=(One.cells (dZ.out.later (hJ.out.mono dZ.out.1))).1;obtain⟨⟨mc0,fc0⟩,⟨mc1,fc1⟩,⟨mc2,fc2⟩,⟨mc3,fc3⟩,⟨mc4,fc4⟩,⟨mc5,fc5⟩⟩:=qd3 pC;have cD:=qlo cC HNS.out (.bool z1.b) (.slice z1.p z1.k z1.c) (.slice z1.q z1.j z1.d) (.bool z2.b) (.slice z2.p z2.k z2.c) (.slice z2.q z2.j z2.d);have dD:=qm0 dC HNW.out (.bool z1.b) (.slice z1.p z1.k z1.c) (.slice z1.q z1.j z1.d) (.bool z2.b) (.slice z2.p z2.k z2.c) (.slice z2.q z2.j z2.d);clear dT lC hb pC
       go_wp2_with fail;refine hK.out _ _ ?hS9 (fun hHeld9 => ?more9)
       case hS9=>exact⟨cC.1,cC.2.1,cC.2.2.1,cC.2.2.2.1,cC.2.2.2.2.1,cC.2.2.2.2.2,dC⟩
       clear hK;refine wpAnyH_ready (rs:=[11]) (by kernel_rfl) (by simp) ?_;refine AllReadyH.cons rfl (fun K hK => ?step18) ?next18
       case step18=>
        go_simp;refine hK.out _ _ ?hS10 (fun hHeld10 => ?more10)
        case hS10=>exact⟨cD.1,cD.2.1,cD.2.2.1,cD.2.2.2.1,cD.2.2.2.2.1,cD.2.2.2.2.2,dD⟩
        clear hK;refine wpAnyH_done (by kernel_rfl) ?_ _;have dR:=qkb.put (x':=z1) (y':=z2) Rk.out;have zV:=hid dR.1;have zW:Hid _:=hid (And.intro (dR.2.1 _ _ Bd.out) (dR.2.1 _ _ kG.out));have zX:=hid (dR.2.2 w1.heap.size w1 (qac _) (pT.out.trans (hJ.out.mono pT.out.size)));have tX:Hid (acc (k+1)=((acc k).1+q.1*((wi:Int):Rat),(acc k).2+q.2*((wi:Int):Rat))):=hid (by rw[HAK.out,HQK.out]);clear dR;go_wp2_with fail;go_roundw
        case rel=>exact⟨k+1,by omega,by go_num,z1,z2,zX,zV,hid (by rw[tX.out];exact zW.out)⟩
        case measure=>simp[intOf];omega
       exact AllReadyH.nil
      exact AllReadyH.nil
     exact AllReadyH.nil
    refine AllReadyH.cons rfl (fun K hK => ?step19) ?next19
    case step19=>
     go_simp
     go_at_call 53;(with_reducible refine(gF.out _ dE.out).mono ?_);rintro e wB ⟨⟨t2,rfl,hn⟩,hb⟩;have cK:=hid hn;have tH:=hid (gE.out.later hb);have aV:=hid (dE.out.trans (hb.mono dE.out.size));have pB:=dY.out.later (aV.out.mono dY.out.1);have cB:=(qkb.cells (gQ.out.later (aV.out.mono gQ.out.1)));have dB:=(One.cells (dZ.out.later (aV.out.mono dZ.out.1))).1;obtain⟨⟨mb0,Ck⟩,⟨mb1,fb1⟩,⟨mb2,fb2⟩,⟨mb3,fb3⟩,⟨mb4,fb4⟩,⟨mb5,fb5⟩⟩:=qd3 pB;clear hn hb pB
     go_wp2_with fail;refine hK.out _ _ ?hS11 (fun Cp => ?more11)
     case hS11=>exact⟨cB.1,cB.2.1,cB.2.2.1,cB.2.2.2.1,cB.2.2.2.2.1,cB.2.2.2.2.2,dB⟩
     clear hK
     refine' wpAnyH_take (i:=9) (v:=_) rfl (by kernel_rfl) (by kernel_rfl) (by kernel_rfl) (fun _ _ _ h=>h) (Or.inl ⟨by rfl, ?hy20⟩) Cp ?rest20
     case hy20=>(intro w hSw;(try dsimp only at hSw);go_simp;(try with_reducible rfl))
     try simp only[Act.put,List.setIfInBounds_toArray]
     refine wpAnyH_ready (rs:=[0]) (by kernel_rfl) (by simp) ?_;refine AllReadyH.cons rfl (fun K hK => ?step21) ?next21
     case step21=>
      go_simp;refine hK.out _ _ ?hS12 (fun hHeld12 => ?more12)
      case hS12=>exact⟨cB.1,cB.2.1,cB.2.2.1,cB.2.2.2.1,cB.2.2.2.2.1,cB.2.2.2.2.2,dB⟩
      clear hK;refine wpAnyH_ready (rs:=[10]) (by kernel_rfl) (by simp) ?_;refine AllReadyH.cons rfl (fun K hK => ?step22) ?next22
      case step22=>
       go_simp
       go_at_call 52;(with_reducible refine(iA.out _ _ _ aV.out tH.out cK.out).mono ?_);rintro e wC ⟨⟨z1,z2,rfl,dT,lC⟩,hb⟩;have Bd:=hid dT;have kG:=hid lC;have hJ:=hid (aV.out.trans (hb.mono aV.out.size));have pC:=dY.out.later (hJ.out.mono dY.out.1);have Rk:=hid pC;have cC:=(qkb.cells (gQ.out.later (hJ.out.mono gQ.out.1)));have dC:=(One.cells (dZ.out.later (hJ.out.mono dZ.out.1))).1;obtain⟨⟨mc0,fc0⟩,⟨mc1,fc1⟩,⟨mc2,fc2⟩,⟨mc3,fc3⟩,⟨mc4,fc4⟩,⟨mc5,fc5⟩⟩:=qd3 pC;have cD:=qlo cC HNS.out (.bool z1.b) (.slice z1.p z1.k z1.c) (.slice z1.q z1.j z1.d) (.bool z2.b) (.slice z2.p z2.k z2.c) (.slice z2.q z2.j z2.d);have dD:=qm0 dC HNW.out (.bool z1.b) (.slice z1.p z1.k z1.c) (.slice z1.q z1.j z1.d) (.bool z2.b) (.slice z2.p z2.k z2.c) (.slice z2.q z2.j z2.d);clear dT lC hb pC
       go_wp2_with fail;refine hK.out _ _ ?hS13 (fun hHeld13 => ?more13)
       case hS13=>exact⟨cC.1,cC.2.1,cC.2.2.1,cC.2.2.2.1,cC.2.2.2.2.1,cC.2.2.2.2.2,dC⟩
       clear hK;refine wpAnyH_ready (rs:=[11]) (by kernel_rfl) (by simp) ?_;refine AllReadyH.cons rfl (fun K hK => ?step23) ?next23
       case step23=>
        go_simp;refine hK.out _ _ ?hS14 (fun hHeld14 => ?more14)
        case hS14=>exact⟨cD.1,cD.2.1,cD.2.2.1,cD.2.2.2.1,cD.2.2.2.2.1,cD.2.2.2.2.2,dD⟩
        clear hK;refine wpAnyH_done (by kernel_rfl) ?_ _;have dR:=qkb.put (x':=z1) (y':=z2) Rk.out;have zV:=hid dR.1;have zW:Hid _:=hid (And.intro (dR.2.1 _ _ Bd.out) (dR.2.1 _ _ kG.out));have zX:=hid (dR.2.2 w1.heap.size w1 (qac _) (pT.out.trans (hJ.out.mono pT.out.size)));have tX:Hid (acc (k+1)=((acc k).1+q.1*((wi:Int):Rat),(acc k).2+q.2*((wi:Int):Rat))):=hid (by rw[HAK.out,HQK.out]);clear dR;go_wp2_with fail;go_roundw
        case rel=>exact⟨k+1,by omega,by go_num,z1,z2,zX,zV,hid (by rw[tX.out];exact zW.out)⟩
        case measure=>simp[intOf];omega
       exact AllReadyH.nil
      exact AllReadyH.nil
     exact AllReadyH.nil
    exact AllReadyH.nil
   exact AllReadyH.nil
  ·have tZ:k=n:=by omega
   have HNF:Hid (qaw wr (.agg #[.bool xm.b,.slice xm.p xm.k xm.c,.slice xm.q xm.j xm.d]) (acc n).1∧qaw wr (.agg #[.bool ym.b,.slice ym.p ym.k ym.c,.slice ym.q ym.j ym.d]) (acc n).2):=hid (by rw[←tZ];exact HNK.out);have ba:=iS.out n;clear tZ;have bS:=qew S (by omega) (by omega);have uR:=hid (qd4 (qet S wr (by omega) (by omega)));have jD:Hid (((S:Int):Rat).num≠0):=hid bX;go_wp2_with fail;refine uR.out.mono ?_;rintro e w2 ⟨⟨v,rfl,hv⟩,aR⟩;have tG:Below w2.heap.size w2 (w2.alloc (.cells #[.bool v.b,.slice v.p v.k v.c,.slice v.q v.j v.d] 85)):=qad _ _;have cJ:=aR.trans (tG.mono aR.size);have pT:=hid (bU.out.trans (cJ.mono bU.out.size));have dY:=hid (Le.out.later (cJ.mono Le.out.1));have dZ:=hid (qgj w2 v);have zU:Hid (qaw (w2.alloc (.cells #[.bool v.b,.slice v.p v.k v.c,.slice v.q v.j v.d] 85)) (.agg #[.bool xm.b,.slice xm.p xm.k xm.c,.slice xm.q xm.j xm.d]) (acc n).1∧qaw (w2.alloc (.cells #[.bool v.b,.slice v.p v.k v.c,.slice v.q v.j v.d] 85)) (.agg #[.bool ym.b,.slice ym.p ym.k ym.c,.slice ym.q ym.j ym.d]) (acc n).2):=hid ⟨HNF.out.1.later cJ,HNF.out.2.later cJ⟩;have iU:=hid (hv.later tG);have Fj:=hid (uE.out.later (pT.out.mono uE.out.1));have qH:=hid (HB.out.trans (pT.out.mono HB.out.size));have tW:Hid (w.heap.size≠w1.heap.size):=hid (by have:=uE.out.1;omega);have HNT:Hid (w.heap.size≠w2.heap.size):=hid (by have:=uE.out.1;have h1:=Le.out.1;have:=aR.size;omega);clear hv aR tG cJ uR;generalize Hw:w2.heap.size=gt at *;go_wp2_with fail
   try rw[Hw]
   generalize (w2.alloc (.cells #[.bool v.b,.slice v.p v.k v.c,.slice v.q v.j v.d] 85))=w3 at *;have fT:Hid (Below w3.heap.size w3 w3.drew):=hid ((qaa _ _).drew);have iI:Hid (∀W,Below w3.heap.size w3 W→Calls Tryz.prog 55 #[.agg #[.bool xm.b,.slice xm.p xm.k xm.c,.slice xm.q xm.j xm.d],.agg #[.bool v.b,.slice v.p v.k v.c,.slice v.q v.j v.d]] W fun e w'=>(∃z:NV,e = .returned (.agg #[.bool z.b,.slice z.p z.k z.c,.slice z.q z.j z.d])∧qaw w' (.agg #[.bool z.b,.slice z.p z.k z.c,.slice z.q z.j z.d]) ((acc n).1/((S:Int):Rat)))∧Below W.heap.size W w'):=hid fun W hW=>qd4 (qfk _ _ _ _ W (zU.out.1.later hW) (iU.out.later hW) jD.out (by have:=ba.1.rs;have:=bS.rs;unfold Cap;omega));have jH:Hid (∀W,Below w3.heap.size w3 W→Calls Tryz.prog 55 #[.agg #[.bool ym.b,.slice ym.p ym.k ym.c,.slice ym.q ym.j ym.d],.agg #[.bool v.b,.slice v.p v.k v.c,.slice v.q v.j v.d]] W fun e w'=>(∃z:NV,e = .returned (.agg #[.bool z.b,.slice z.p z.k z.c,.slice z.q z.j z.d])∧qaw w' (.agg #[.bool z.b,.slice z.p z.k z.c,.slice z.q z.j z.d]) ((acc n).2/((S:Int):Rat)))∧Below W.heap.size W w'):=hid fun W hW=>qd4 (qfk _ _ _ _ W (zU.out.2.later hW) (iU.out.later hW) jD.out (by have:=ba.2.rs;have:=bS.rs;unfold Cap;omega));have zJ:Hid (∀W (t1 t2:NV),qaw W (.agg #[.bool t1.b,.slice t1.p t1.k t1.c,.slice t1.q t1.j t1.d]) ((acc n).1/((S:Int):Rat))→qaw W (.agg #[.bool t2.b,.slice t2.p t2.k t2.c,.slice t2.q t2.j t2.d]) ((acc n).2/((S:Int):Rat))→Calls Tryz.prog 54 #[.agg #[.bool t1.b,.slice t1.p t1.k t1.c,.slice t1.q t1.j t1.d,.bool t2.b,.slice t2.p t2.k t2.c,.slice t2.q t2.j t2.d]] W (qe8 ((acc n).1/((S:Int):Rat)) ((acc n).2/((S:Int):Rat)) W)):=hid fun W t1 t2 h1 h2=>qln _ _ _ W (qib h1 h2) (by have:=(qnf ba.1 bS).rs;unfold Cap;omega) (by have:=(qnf ba.2 bS).rs;unfold Cap;omega);have c0:=qkb.cells dY.out
   have d0:=(One.cells dZ.out).1;have e0:w3.cell? ⟨w1.heap.size,0,none⟩=some (.bool xm.b)∧w3.cell? ⟨w1.heap.size,1,none⟩=some (.slice xm.p xm.k xm.c)∧w3.cell? ⟨w1.heap.size,2,none⟩=some (.slice xm.q xm.j xm.d)∧w3.cell? ⟨w1.heap.size,3,none⟩=some (.bool ym.b)∧w3.cell? ⟨w1.heap.size,4,none⟩=some (.slice ym.p ym.k ym.c)∧w3.cell? ⟨w1.heap.size,5,none⟩=some (.slice ym.q ym.j ym.d)∧w3.cell? ⟨gt,0,none⟩=some (.bool v.b)∧w3.cell? ⟨gt,1,none⟩=some (.slice v.p v.k v.c)∧w3.cell? ⟨gt,2,none⟩=some (.slice v.q v.j v.d):=⟨c0.1,c0.2.1,c0.2.2.1,c0.2.2.2.1,c0.2.2.2.2.1,c0.2.2.2.2.2,d0⟩;clear c0 d0 ba bS;generalize (acc n).1/((S:Int):Rat)=rlo at *;generalize (acc n).2/((S:Int):Rat)=rhi at *
   go_region_held3 (fun W=>W.cell? ⟨w1.heap.size,0,none⟩=some (.bool xm.b)∧W.cell? ⟨w1.heap.size,1,none⟩=some (.slice xm.p xm.k xm.c)∧W.cell? ⟨w1.heap.size,2,none⟩=some (.slice xm.q xm.j xm.d)∧W.cell? ⟨w1.heap.size,3,none⟩=some (.bool ym.b)∧W.cell? ⟨w1.heap.size,4,none⟩=some (.slice ym.p ym.k ym.c)∧W.cell? ⟨w1.heap.size,5,none⟩=some (.slice ym.q ym.j ym.d)∧W.cell? ⟨gt,0,none⟩=some (.bool v.b)∧W.cell? ⟨gt,1,none⟩=some (.slice v.p v.k v.c)∧W.cell? ⟨gt,2,none⟩=some (.slice v.q v.j v.d)) (first|with_reducible exact⟨cA.1,cA.2.1,cA.2.2.1,cA.2.2.2.1,cA.2.2.2.2.1,cA.2.2.2.2.2,dA⟩|with_reducible exact⟨cB.1,cB.2.1,cB.2.2.1,cB.2.2.2.1,cB.2.2.2.2.1,cB.2.2.2.2.2,dB⟩|with_reducible exact⟨cC.1,cC.2.1,cC.2.2.1,cC.2.2.2.1,cC.2.2.2.2.1,cC.2.2.2.2.2,dC⟩|with_reducible exact eC|exact e0)
    (first
     | (go_at_call 55;first
       | ((with_reducible refine(iI.out _ fT.out).mono ?_);rintro e wA ⟨⟨t1,rfl,hn⟩,hb⟩;have gE:=hid hn;have dE:=hid (fT.out.trans (hb.mono fT.out.size));have cA:=(qkb.cells (dY.out.later (dE.out.mono dY.out.1)));have dA:=(One.cells (dZ.out.later (dE.out.mono dZ.out.1))).1;clear hn hb)
       | ((with_reducible refine(jH.out _ dE.out).mono ?_);rintro e wB ⟨⟨t2,rfl,hn⟩,hb⟩;have cK:=hid hn;have tH:=hid (gE.out.later hb);have aV:=hid (dE.out.trans (hb.mono dE.out.size));have cB:=(qkb.cells (dY.out.later (aV.out.mono dY.out.1)));have dB:=(One.cells (dZ.out.later (aV.out.mono dZ.out.1))).1;clear hn hb))
     | (go_at_call 54;((refine(zJ.out _ _ _ tH.out cK.out).mono ?_);rintro e wC h;obtain⟨s1,s2,ec,rfl,h2⟩:=qjh h;have uQ:=hid h2;have hJ:=hid (aV.out.trans (h2.2.mono aV.out.size));have cC:=(qkb.cells (dY.out.later (hJ.out.mono dY.out.1)));have dC:=(One.cells (dZ.out.later (hJ.out.mono dZ.out.1))).1;have eC:=q3d ⟨cC.1,cC.2.1,cC.2.2.1,cC.2.2.2.1,cC.2.2.2.2.1,cC.2.2.2.2.2,dC⟩ tW.out HNT.out (.string s1) (.string s2);have HRC:=hid (Fj.out.later (hJ.out.mono Fj.out.1));obtain⟨⟨r0,g0⟩,⟨r1,g1⟩⟩:=qia HRC.out;clear h h2)))
   all_goals
    have kD:=hid (qho (qH.out.trans (hJ.out.mono qH.out.size)) (qac _) (.string s1) (.string s2));go_wp2_with fail;refine bodyPost_ret (v := .tuple #[.agg #[.string s1,.string s2],.int .i64 ec]) ?_ rfl ?_
    ·simp[results,Tryz.results17,go_sem,r0,r1]
    ·exact aF.out _ _ ⟨uQ.out.1,kD.out⟩
end Go.Proofs.YtmcfcpgglfimjaaGreatDoor
