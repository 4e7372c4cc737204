/- interval.plus. -/
import Derived.Test.YtclimablgihlhaaGreatDoorMNv
import Derived.Test.YtclimablgihlhaaGreatDoorMClash
import Derived.Test.YtclimablgihlhaaGreatDoorMBase
import Derived.Test.YtclimablgihlhaaGreatDoorMMinMax
set_option linter.all false
namespace Go.Proofs.YtclimablgihlhaaGreatDoor
open Go.RowKit
set_option maxRecDepth 100000
set_option maxHeartbeats 8000000
theorem qy2(va vb:Value)(a b c d:Rat)(w:World)(ha:qgm w va a b)(hb:qgm w vb c d)(aP:rs a+rs b+rs c+rs d+2≤Cap):
  Calls Tryz.prog 36 #[va,vb] w fun e w'=>(∃v',e = .returned v'∧qgm w' v' (a+c) (b+d))∧Below w.heap.size w w':=by
 obtain⟨x,y,rfl,hx,hy⟩:=ha.nv;obtain⟨x',y',rfl,hx',hy'⟩:=hb.nv;have aO:=hid (qw3 w x y x' y' 76 76 76)
 have zP:Hid (∀W,qr5 w x y x' y' W→Calls Tryz.prog 76 #[.agg #[.bool x.b,.slice x.p x.k x.c,.slice x.q x.j x.d],.agg #[.bool x'.b,.slice x'.p x'.k x'.c,.slice x'.q x'.j x'.d]] W fun e w'=>(∃z:NV,e = .returned (.agg #[.bool z.b,.slice z.p z.k z.c,.slice z.q z.j z.d])∧qaj w' (.agg #[.bool z.b,.slice z.p z.k z.c,.slice z.q z.j z.d]) (a+c))∧qr5 w x y x' y' w'∧Below W.heap.size W w'):=
  hid fun W hW=>qmk (_R:=fun _=>True) hW (qht _ _ _ _ W (hx.later hW.1) (hx'.later hW.1) (by unfold Cap at *;omega))
 have uM:Hid (∀W,qr5 w x y x' y' W→Calls Tryz.prog 76 #[.agg #[.bool y.b,.slice y.p y.k y.c,.slice y.q y.j y.d],.agg #[.bool y'.b,.slice y'.p y'.k y'.c,.slice y'.q y'.j y'.d]] W fun e w'=>(∃z:NV,e = .returned (.agg #[.bool z.b,.slice z.p z.k z.c,.slice z.q z.j z.d])∧qaj w' (.agg #[.bool z.b,.slice z.p z.k z.c,.slice z.q z.j z.d]) (b+d))∧qr5 w x y x' y' w'∧Below W.heap.size W w'):=
  hid fun W hW=>qmk (_R:=fun _=>True) hW (qht _ _ _ _ W (hy.later hW.1) (hy'.later hW.1) (by unfold Cap at *;omega))
 clear hx hy hx' hy' ha hb aP;generalize a+c=q1 at *;generalize b+d=q2 at *;go_enter Tryz.func36,Tryz.ntmps36;go_wp2_with fail;generalize ((w.alloc (.cells #[.bool x.b,.slice x.p x.k x.c,.slice x.q x.j x.d,.bool y.b,.slice y.p y.k y.c,.slice y.q y.j y.d] 76)).alloc (.cells #[.bool x'.b,.slice x'.p x'.k x'.c,.slice x'.q x'.j x'.d,.bool y'.b,.slice y'.p y'.k y'.c,.slice y'.q y'.j y'.d] 76)).alloc (.cells #[.bool false,.slice none 0 0,.slice none 0 0,.bool false,.slice none 0 0,.slice none 0 0] 76)=w0 at *;have cG:=hid (aO.out.later ((zan _ _).drew));have c0:=cG.out.2.1.cells;have d0:=cG.out.2.2.1.cells
 go_region_held3 (fun W=>W.cell? ⟨w.heap.size,0,none⟩=some (.bool x.b)∧W.cell? ⟨w.heap.size,1,none⟩=some (.slice x.p x.k x.c)∧W.cell? ⟨w.heap.size,2,none⟩=some (.slice x.q x.j x.d)∧W.cell? ⟨w.heap.size,3,none⟩=some (.bool y.b)∧W.cell? ⟨w.heap.size,4,none⟩=some (.slice y.p y.k y.c)∧W.cell? ⟨w.heap.size,5,none⟩=some (.slice y.q y.j y.d)∧W.cell? ⟨w.heap.size+1,0,none⟩=some (.bool x'.b)∧W.cell? ⟨w.heap.size+1,1,none⟩=some (.slice x'.p x'.k x'.c)∧W.cell? ⟨w.heap.size+1,2,none⟩=some (.slice x'.q x'.j x'.d)∧W.cell? ⟨w.heap.size+1,3,none⟩=some (.bool y'.b)∧W.cell? ⟨w.heap.size+1,4,none⟩=some (.slice y'.p y'.k y'.c)∧W.cell? ⟨w.heap.size+1,5,none⟩=some (.slice y'.q y'.j y'.d)) (first|with_reducible exact⟨c0.1,c0.2.1,c0.2.2.1,c0.2.2.2.1,c0.2.2.2.2.1,c0.2.2.2.2.2,d0⟩|with_reducible exact⟨c1.1,c1.2.1,c1.2.2.1,c1.2.2.2.1,c1.2.2.2.2.1,c1.2.2.2.2.2,d1⟩|with_reducible exact⟨c2.1,c2.2.1,c2.2.2.1,c2.2.2.2.1,c2.2.2.2.2.1,c2.2.2.2.2.2,d2⟩|with_reducible exact⟨c3.1,c3.2.1,c3.2.2.1,c3.2.2.2.1,c3.2.2.2.2.1,c3.2.2.2.2.2,d3⟩)
  (first
   | (go_at_call 76;first
     | ((with_reducible refine(zP.out _ cG.out).mono ?_);rintro e wL ⟨⟨z1,rfl,hn⟩,ht,hb⟩;have jO:=hid hn;have rM:=hid ht;have c1:=ht.2.1.cells;have d1:=ht.2.2.1.cells;clear hn ht hb)
     | ((with_reducible refine(uM.out _ rM.out).mono ?_);rintro e wM ⟨⟨z2,rfl,hn⟩,ht,hb⟩;have Gw:=hid hn;have gT:=hid ht;have HVL2:=hid (jO.out.later hb);have c2:=ht.2.1.cells;have d2:=ht.2.2.1.cells;obtain⟨⟨r0,g0⟩,⟨r1,g1⟩,⟨r2,g2⟩,⟨r3,g3⟩,⟨r4,g4⟩,⟨r5,g5⟩⟩:=qbl ht.2.2.2;have c3:=qet c2 (show w.heap.size+1+1≠w.heap.size by omega) (.bool z1.b) (.slice z1.p z1.k z1.c) (.slice z1.q z1.j z1.d) (.bool z2.b) (.slice z2.p z2.k z2.c) (.slice z2.q z2.j z2.d);have d3:=qet d2 (show w.heap.size+1+1≠w.heap.size+1 by omega) (.bool z1.b) (.slice z1.p z1.k z1.c) (.slice z1.q z1.j z1.d) (.bool z2.b) (.slice z2.p z2.k z2.c) (.slice z2.q z2.j z2.d);clear hn ht hb)))
 have kO:=qhk gT.out.2.2.2 (.bool z1.b) (.slice z1.p z1.k z1.c) (.slice z1.q z1.j z1.d) (.bool z2.b) (.slice z2.p z2.k z2.c) (.slice z2.q z2.j z2.d);have HN:=hid (qf4 (kO.1 _ _ HVL2.out) (kO.1 _ _ Gw.out));have HB:=hid (kO.2 w.heap.size w (by omega) gT.out.1);clear kO c0 d0 c1 d1 c2 d2 c3 d3;go_wp2_with fail;refine bodyPost_ret (v := .agg #[.bool z1.b,.slice z1.p z1.k z1.c,.slice z1.q z1.j z1.d,.bool z2.b,.slice z2.p z2.k z2.c,.slice z2.q z2.j z2.d]) ?_ rfl ?_
 ·simp[results,Tryz.results36,go_sem,r0,r1,r2,r3,r4,r5]
 ·exact⟨⟨_,rfl,HN.out⟩,HB.out⟩
def qo9(qs:List (Rat × Rat))(ws:List Int):Nat→Rat × Rat
 | 0=>(0,0)
 | k+1=>((qo9 qs ws k).1+(qs.getD k (0,0)).1*((ws.getD k 0:Int):Rat),(qo9 qs ws k).2+(qs.getD k (0,0)).2*((ws.getD k 0:Int):Rat))
def qg4(qs:List (Rat × Rat))(ws:List Int):Rat × Rat:=((qo9 qs ws qs.length).1/((ws.sum:Int):Rat),(qo9 qs ws qs.length).2/((ws.sum:Int):Rat))
def qkm(l:List (BA × BA))(ws:List Int):Nat:=if qak l≠0 then qak l else if ws.length≠l.length then 2 else qii ws
def qtw(l:List (BA × BA))(ws:List Int)(w:World)(e:Ending)(w':World):Prop:=
 if qkm l ws≠0 then e = .returned (.tuple #[.agg #[.string ⟨#[]⟩,.string ⟨#[]⟩],.int .i64 (qkm l ws:Nat)])∧Below w.heap.size w w'
 else qdw (qg4 (l.map spQ) ws).1 (qg4 (l.map spQ) ws).2 w e w'
theorem qlp(z:Int)(h0:0≤z)(h1:z≤999999999):bd (z:Rat) 1:=qes z (by omega) (by omega)
theorem q73(qs:List (Rat × Rat))(ws:List Int)(hq:∀(i:Nat) (q:Rat × Rat),qs[i]? = some q→bd q.1 600∧bd q.2 600∧q.1≤q.2)(hw:∀x ∈ ws,wIn x=true)(k:Nat):bd (qo9 qs ws k).1 (602*k+1)∧bd (qo9 qs ws k).2 (602*k+1):=by
 have hq':∀i,bd (qs.getD i (0,0)).1 600∧bd (qs.getD i (0,0)).2 600:=fun i=>by
  rw[zaw];cases h:qs[i]? with
  | none=>exact⟨qiu _ (by omega),qiu _ (by omega)⟩
  | some q=>exact⟨(hq i q h).1,(hq i q h).2.1⟩
 have hw':∀i,bd ((ws.getD i 0:Int):Rat) 1:=fun i=>by
  rw[zaw];cases h:ws[i]? with
  | none=>exact qlp 0 (by omega) (by omega)
  | some x=>have:=qiq.1 (hw x (zax h));exact qlp x this.1 this.2
 induction k with
 | zero=>exact⟨qiu _ (by omega),qiu _ (by omega)⟩
 | succ k ih=>
  have h1:=qmx ih.1 (qex (hq' k).1 (hw' k));have h2:=qmx ih.2 (qex (hq' k).2 (hw' k));exact⟨h1.mono (by omega),h2.mono (by omega)⟩
theorem qmn{W:World}{g g':Nat}{c0 c1 c2:Option Value}(h:W.cell? ⟨g,0,none⟩=c0∧W.cell? ⟨g,1,none⟩=c1∧W.cell? ⟨g,2,none⟩=c2)(hne:g'≠g)(x0 x1 x2 x3 x4 x5:Value):
  ((((((W.setCell ⟨g',0,none⟩ x0).setCell ⟨g',1,none⟩ x1).setCell ⟨g',2,none⟩ x2).setCell ⟨g',3,none⟩ x3).setCell ⟨g',4,none⟩ x4).setCell ⟨g',5,none⟩ x5).cell? ⟨g,0,none⟩=c0∧((((((W.setCell ⟨g',0,none⟩ x0).setCell ⟨g',1,none⟩ x1).setCell ⟨g',2,none⟩ x2).setCell ⟨g',3,none⟩ x3).setCell ⟨g',4,none⟩ x4).setCell ⟨g',5,none⟩ x5).cell? ⟨g,1,none⟩=c1∧((((((W.setCell ⟨g',0,none⟩ x0).setCell ⟨g',1,none⟩ x1).setCell ⟨g',2,none⟩ x2).setCell ⟨g',3,none⟩ x3).setCell ⟨g',4,none⟩ x4).setCell ⟨g',5,none⟩ x5).cell? ⟨g,2,none⟩=c2:=by
 have k:∀(V:World) (i o:Nat) (v:Value),(V.setCell ⟨g',i,none⟩ v).cell? ⟨g,o,none⟩=V.cell? ⟨g,o,none⟩:=fun V i o v=>World.cell?_setCell_other _ _ _ _ (by intro e;injection e with e;exact hne e);simp only[k];exact h
theorem q2f{W:World}{g1 g2 g':Nat}{c0 c1 c2 c3 c4 c5 d0 d1 d2:Option Value}(h:W.cell? ⟨g1,0,none⟩=c0∧W.cell? ⟨g1,1,none⟩=c1∧W.cell? ⟨g1,2,none⟩=c2∧W.cell? ⟨g1,3,none⟩=c3∧W.cell? ⟨g1,4,none⟩=c4∧W.cell? ⟨g1,5,none⟩=c5∧W.cell? ⟨g2,0,none⟩=d0∧W.cell? ⟨g2,1,none⟩=d1∧W.cell? ⟨g2,2,none⟩=d2)(h1:g'≠g1)(h2:g'≠g2)(x y:Value):
  ((W.setCell ⟨g',0,none⟩ x).setCell ⟨g',1,none⟩ y).cell? ⟨g1,0,none⟩=c0∧((W.setCell ⟨g',0,none⟩ x).setCell ⟨g',1,none⟩ y).cell? ⟨g1,1,none⟩=c1∧((W.setCell ⟨g',0,none⟩ x).setCell ⟨g',1,none⟩ y).cell? ⟨g1,2,none⟩=c2∧((W.setCell ⟨g',0,none⟩ x).setCell ⟨g',1,none⟩ y).cell? ⟨g1,3,none⟩=c3∧((W.setCell ⟨g',0,none⟩ x).setCell ⟨g',1,none⟩ y).cell? ⟨g1,4,none⟩=c4∧((W.setCell ⟨g',0,none⟩ x).setCell ⟨g',1,none⟩ y).cell? ⟨g1,5,none⟩=c5∧((W.setCell ⟨g',0,none⟩ x).setCell ⟨g',1,none⟩ y).cell? ⟨g2,0,none⟩=d0∧((W.setCell ⟨g',0,none⟩ x).setCell ⟨g',1,none⟩ y).cell? ⟨g2,1,none⟩=d1∧((W.setCell ⟨g',0,none⟩ x).setCell ⟨g',1,none⟩ y).cell? ⟨g2,2,none⟩=d2:=by
 have k1:∀(V:World) (i o:Nat) (v:Value),(V.setCell ⟨g',i,none⟩ v).cell? ⟨g1,o,none⟩=V.cell? ⟨g1,o,none⟩:=fun V i o v=>World.cell?_setCell_other _ _ _ _ (by intro e;injection e with e;exact h1 e);have k2:∀(V:World) (i o:Nat) (v:Value),(V.setCell ⟨g',i,none⟩ v).cell? ⟨g2,o,none⟩=V.cell? ⟨g2,o,none⟩:=fun V i o v=>World.cell?_setCell_other _ _ _ _ (by intro e;injection e with e;exact h2 e);simp only[k1,k2];exact h
theorem qew.put{W:World}{g:Nat}{x y x' y':NV}(h:qew W g x y):
  qew ((((((W.setCell ⟨g,0,none⟩ (.bool x'.b)).setCell ⟨g,1,none⟩ (.slice x'.p x'.k x'.c)).setCell ⟨g,2,none⟩ (.slice x'.q x'.j x'.d)).setCell ⟨g,3,none⟩ (.bool y'.b)).setCell ⟨g,4,none⟩ (.slice y'.p y'.k y'.c)).setCell ⟨g,5,none⟩ (.slice y'.q y'.j y'.d)) g x' y'∧
  (∀v q,qaj W v q→qaj ((((((W.setCell ⟨g,0,none⟩ (.bool x'.b)).setCell ⟨g,1,none⟩ (.slice x'.p x'.k x'.c)).setCell ⟨g,2,none⟩ (.slice x'.q x'.j x'.d)).setCell ⟨g,3,none⟩ (.bool y'.b)).setCell ⟨g,4,none⟩ (.slice y'.p y'.k y'.c)).setCell ⟨g,5,none⟩ (.slice y'.q y'.j y'.d)) v q)∧
  (∀B w0,B≤g→Below B w0 W→Below B w0 ((((((W.setCell ⟨g,0,none⟩ (.bool x'.b)).setCell ⟨g,1,none⟩ (.slice x'.p x'.k x'.c)).setCell ⟨g,2,none⟩ (.slice x'.q x'.j x'.d)).setCell ⟨g,3,none⟩ (.bool y'.b)).setCell ⟨g,4,none⟩ (.slice y'.p y'.k y'.c)).setCell ⟨g,5,none⟩ (.slice y'.q y'.j y'.d))):=by
 have o1:=Own.set h 0 (by omega) (.bool x'.b);have o2:=o1.set 1 (by omega) (.slice x'.p x'.k x'.c);have o3:=o2.set 2 (by omega) (.slice x'.q x'.j x'.d);have o4:=o3.set 3 (by omega) (.bool y'.b);have o5:=o4.set 4 (by omega) (.slice y'.p y'.k y'.c);have o6:=o5.set 5 (by omega) (.slice y'.q y'.j y'.d);refine⟨o6.congr fun i hi => ?_,fun v q hv => ?_,fun B w0 hB hb => ?_⟩
 ·match i,hi with
  | 0,_=>rfl
  | 1,_=>rfl
  | 2,_=>rfl
  | 3,_=>rfl
  | 4,_=>rfl
  | 5,_=>rfl
 ·have h1:=qa7 hv h 0 (by omega) (by intro k z e;cases e) (.bool x'.b)
  have h2:=qa7 h1 o1 1 (by omega) (by intro k z e;cases e) (.slice x'.p x'.k x'.c);have h3:=qa7 h2 o2 2 (by omega) (by intro k z e;cases e) (.slice x'.q x'.j x'.d);have h4:=qa7 h3 o3 3 (by omega) (by intro k z e;cases e) (.bool y'.b);have h5:=qa7 h4 o4 4 (by omega) (by intro k z e;cases e) (.slice y'.p y'.k y'.c);exact qa7 h5 o5 5 (by omega) (by intro k z e;cases e) (.slice y'.q y'.j y'.d)
 ·exact(((((hb.setCell (p:=⟨g,0,none⟩) hB _).setCell (p:=⟨g,1,none⟩) hB _).setCell (p:=⟨g,2,none⟩) hB _).setCell (p:=⟨g,3,none⟩) hB _).setCell (p:=⟨g,4,none⟩) hB _).setCell (p:=⟨g,5,none⟩) hB _
theorem q2g(w:World):qaj w (.agg #[.bool false,.slice none 0 0,.slice none 0 0]) 0:=qjf w 0 false (.slice none 0 0) (.slice none 0 0) rfl (qap.nil w) (qap.nil w)
theorem qcn{W:World}{f:FuncId}{args:Array Value}{q:Rat}(h:Calls Tryz.prog f args W fun e w'=>(∃v',e = .returned v'∧qaj w' v' q)∧Below W.heap.size W w'):
  Calls Tryz.prog f args W fun e w'=>(∃z:NV,e = .returned (.agg #[.bool z.b,.slice z.p z.k z.c,.slice z.q z.j z.d])∧qaj w' (.agg #[.bool z.b,.slice z.p z.k z.c,.slice z.q z.j z.d]) q)∧Below W.heap.size W w':=
 h.mono fun e w' ⟨⟨v',he,hn⟩,hb⟩=>by
  obtain⟨z,rfl⟩:=hn.nv;exact⟨⟨z,he,hn⟩,hb⟩
theorem q74{W:World}{f:FuncId}{args:Array Value}{lo hi:Rat}(h:Calls Tryz.prog f args W fun e w'=>(∃v',e = .returned v'∧qgm w' v' lo hi)∧Below W.heap.size W w'):
  Calls Tryz.prog f args W fun e w'=>(∃z z':NV,e = .returned (.agg #[.bool z.b,.slice z.p z.k z.c,.slice z.q z.j z.d,.bool z'.b,.slice z'.p z'.k z'.c,.slice z'.q z'.j z'.d])∧qaj w' (.agg #[.bool z.b,.slice z.p z.k z.c,.slice z.q z.j z.d]) lo∧qaj w' (.agg #[.bool z'.b,.slice z'.p z'.k z'.c,.slice z'.q z'.j z'.d]) hi)∧Below W.heap.size W w':=
 h.mono fun e w' ⟨⟨v',he,hn⟩,hb⟩=>by
  obtain⟨z,z',rfl,h1,h2⟩:=hn.nv;exact⟨⟨z,z',he,h1,h2⟩,hb⟩
theorem q2h(vl vw:Value)(l:List (BA × BA))(ws:List Int)(w:World)(hg:GW w)(hv:qbq w vl l)(hw:qn4 w vw ws)(hs:∀s ∈ l,s.1.size≤1073741824∧s.2.size≤1073741824)(h0:qkm l ws=0):
  Calls Tryz.prog 9 #[vl,vw] w (qtw l ws w):=by
 have gF:qak l=0:=by
  unfold qkm at h0;split at h0
  ·rename_i h;exact absurd h0 h
  ·omega
 obtain⟨Fm,zZ⟩:ws.length=l.length∧qii ws=0:=by
  unfold qkm at h0;rw[if_neg (by omega)] at h0;split at h0
  ·cases h0
  ·exact⟨by omega,h0⟩
 obtain⟨gW,cN⟩:=qn5 zZ;obtain⟨mC,mL,_⟩:=qct gF;have bV:Below w.heap.size w (w.alloc (.cells #[.string ⟨#[]⟩,.string ⟨#[]⟩] 28)):=zam _ _;have aS:Hid (Own (w.alloc (.cells #[.string ⟨#[]⟩,.string ⟨#[]⟩] 28)) w.heap.size 2 (qko (.string ⟨#[]⟩) (.string ⟨#[]⟩))):=hid (qbg w 28 _ _)
 have cU:=hid ((qbw vl l _ (hg.later bV) (hv.later bV) hs).mono (R':=fun e w'=>(∃g,e = .returned (.tuple #[.slice (some ⟨g,0,none⟩) l.length l.length,.int .i64 0])∧qcz ivK w' g l.length (l.map spQ))∧Below (w.alloc (.cells #[.string ⟨#[]⟩,.string ⟨#[]⟩] 28)).heap.size (w.alloc (.cells #[.string ⟨#[]⟩,.string ⟨#[]⟩] 28)) w') (fun e w' h=>by
  unfold qcs at h;rw[if_pos gF] at h;obtain⟨⟨g,_,he,hr⟩,hb⟩:=h
  exact⟨⟨g,he,hr⟩,hb⟩))
 have pX:Hid (∀W,Below w.heap.size w W→Calls Tryz.prog 34 #[vw] W fun e w'=>e = .returned (.tuple #[.int .i64 ws.sum,.int .i64 0])∧W=w'):=hid fun W hW=>(qd4 vw ws W (hw.later hW) (by omega)).mono fun e w' ⟨h1,h2⟩=>by
  unfold qn6 at h1;rw[zZ] at h1;exact⟨h1,h2⟩
 have eE:=hid (qqm gF);have fF:=hid (q73 (l.map spQ) ws (qqm gF) gW);have aU:Hid ((l.map spQ).length=l.length):=hid (List.length_map _)
 have aG:Hid (∀e w',qdw ((qo9 (l.map spQ) ws l.length).1/((ws.sum:Int):Rat)) ((qo9 (l.map spQ) ws l.length).2/((ws.sum:Int):Rat)) w e w'→qtw l ws w e w'):=hid fun e w' h=>by
  unfold qtw;rw[if_neg (by omega)];unfold qg4;rw[aU.out];exact h
 have hsb:=qfd ws gW;have tZ:=hid gW;obtain⟨p,c,rfl,bP,bK,aA⟩:=hv;obtain⟨pw,cw,rfl,qV,zW,hwcells⟩:=hw;obtain⟨bw,ow,rfl,Ib⟩:=hwcells.resolve_left (by omega);have Uc:=hid Ib;have cP:=hid bV;unfold maxLen at bK zW;clear aA hwcells Ib hg hs h0 gF zZ gW bV;generalize hS:ws.sum=S at *;have HS:=hid hS;clear hS;have sY:Hid (∀k,qo9 (l.map spQ) ws (k+1)=((qo9 (l.map spQ) ws k).1+((l.map spQ).getD k (0,0)).1*((ws.getD k 0:Int):Rat),(qo9 (l.map spQ) ws k).2+((l.map spQ).getD k (0,0)).2*((ws.getD k 0:Int):Rat))):=hid fun k=>rfl;have Ic:Hid (qo9 (l.map spQ) ws 0=(0,0)):=hid rfl;generalize qo9 (l.map spQ) ws=acc at *;generalize l.map spQ=qs at *;generalize hn:l.length=n at *;clear hn;have vI:((ws.length:Int)==(n:Int))=true:=by rw[Fm];simp
 have Ud:=hid Fm;rw[Fm] at hsb qV pX ⊢;clear Fm vI;go_enter Tryz.func9,Tryz.ntmps9;go_wp2_with fail;refine cU.out.mono ?_;rintro e w1 ⟨⟨g,rfl,hr⟩,hb⟩;have HR:=hid hr;have eY:=hid hb;have HB:=hid (cP.out.trans (hb.mono cP.out.size));have cZ:=hid (aS.out.later (hb.mono aS.out.1));clear hr hb cU;go_wp2_with fail;refine(pX.out _ HB.out).mono ?_;rintro e w1' ⟨rfl,rfl⟩;clear pX;have hS0:(S==0)=false:=zat cN;have Df:=hid (qgv w1 ⟨false,none,0,0,none,0,0⟩ ⟨false,none,0,0,none,0,0⟩ 76);have sZ:Hid (Below w1.heap.size w1 (w1.alloc (.cells #[.bool false,.slice none 0 0,.slice none 0 0,.bool false,.slice none 0 0,.slice none 0 0] 76))):=hid (zam _ _);have gE:=hid (q2g (w1.alloc (.cells #[.bool false,.slice none 0 0,.slice none 0 0,.bool false,.slice none 0 0,.slice none 0 0] 76)));obtain⟨gm,hgm⟩:∃gm,gm=w1.heap.size:=⟨_,rfl⟩;go_wp2_with fail;clear hgm
 go_loopw [41] (fun i wr=>∃k:Nat,k≤n∧i = .int .i64 k∧∃xm ym:NV,Hid (Below w1.heap.size w1 wr)∧Hid (qew wr w1.heap.size xm ym)∧Hid (qaj wr (.agg #[.bool xm.b,.slice xm.p xm.k xm.c,.slice xm.q xm.j xm.d]) (acc k).1∧qaj wr (.agg #[.bool ym.b,.slice ym.p ym.k ym.c,.slice ym.q ym.j ym.d]) (acc k).2)) (fun i _=>n-(intOf i).toNat)
 case atStart=>exact⟨0,Nat.zero_le _,rfl,⟨false,none,0,0,none,0,0⟩,⟨false,none,0,0,none,0,0⟩,sZ,Df,hid ⟨by rw[Ic.out];exact gE.out,by rw[Ic.out];exact gE.out⟩⟩
 case round=>
  obtain⟨k,hk,rfl,xm,ym,bR,rS,Ck⟩:=hrel;clear Df sZ gE;by_cases jG:k<n
  ·obtain⟨q,hq⟩:∃q,qs[k]? = some q:=⟨qs[k]'(by rw[aU.out];exact jG),zau _⟩
   have rR:=HR.out.later qeu bR.out;obtain⟨x,y,⟨a0,a1,a2,a3,a4,a5⟩,hx,hy⟩:=qh9 rR k q hq;have aD:Below wr.heap.size wr (wr.alloc (.cells #[.bool x.b,.slice x.p x.k x.c,.slice x.q x.j x.d,.bool y.b,.slice y.p y.k y.c,.slice y.q y.j y.d] 76)):=zam _ _;have Ue:=HB.out.trans ((bR.out.trans (aD.mono bR.out.size)).mono HB.out.size)
   have hwc:(wr.alloc (.cells #[.bool x.b,.slice x.p x.k x.c,.slice x.q x.j x.d,.bool y.b,.slice y.p y.k y.c,.slice y.q y.j y.d] 76)).cell? ⟨bw,ow+k,none⟩=some (iv ws k):=by
    have h1:=Uc.out k (by rw[Ud.out];exact jG);rw[Ue.cell (p:=⟨bw,ow+k,none⟩) (zaq w _ h1)];exact h1
   unfold iv at hwc
   have hwx:=qiq.1 (tZ.out (ws.getD k 0) (by
    have cV:k<ws.length:=by rw[Ud.out];exact jG
    rw[zaw,zau cV,Option.getD_some]
    exact List.getElem_mem _))
   have Cl:=hid (sY.out k);have HQK:Hid (qs.getD k (0,0)=q):=hid (by rw[zaw,hq];rfl);have bq:=eE.out k q hq;have ba:=fF.out k;generalize ws.getD k 0=wi at *;have Uf:=qlp wi hwx.1 hwx.2;have yS:=hid (qcn (qeq wi (wr.alloc (.cells #[.bool x.b,.slice x.p x.k x.c,.slice x.q x.j x.d,.bool y.b,.slice y.p y.k y.c,.slice y.q y.j y.d] 76)) (by omega) (by omega)));have jA:=hid (qgv wr x y 76);have sG:Hid (qaj (wr.alloc (.cells #[.bool x.b,.slice x.p x.k x.c,.slice x.q x.j x.d,.bool y.b,.slice y.p y.k y.c,.slice y.q y.j y.d] 76)) (.agg #[.bool x.b,.slice x.p x.k x.c,.slice x.q x.j x.d]) q.1∧qaj (wr.alloc (.cells #[.bool x.b,.slice x.p x.k x.c,.slice x.q x.j x.d,.bool y.b,.slice y.p y.k y.c,.slice y.q y.j y.d] 76)) (.agg #[.bool y.b,.slice y.p y.k y.c,.slice y.q y.j y.d]) q.2):=hid ⟨hx.later aD,hy.later aD⟩;have Ug:=hid (rS.out.later (aD.mono rS.out.1));have tA:Hid (qaj (wr.alloc (.cells #[.bool x.b,.slice x.p x.k x.c,.slice x.q x.j x.d,.bool y.b,.slice y.p y.k y.c,.slice y.q y.j y.d] 76)) (.agg #[.bool xm.b,.slice xm.p xm.k xm.c,.slice xm.q xm.j xm.d]) (acc k).1∧qaj (wr.alloc (.cells #[.bool x.b,.slice x.p x.k x.c,.slice x.q x.j x.d,.bool y.b,.slice y.p y.k y.c,.slice y.q y.j y.d] 76)) (.agg #[.bool ym.b,.slice ym.p ym.k ym.c,.slice ym.q ym.j ym.d]) (acc k).2):=hid ⟨Ck.out.1.later aD,Ck.out.2.later aD⟩;have dP:=hid (bR.out.trans (aD.mono bR.out.size));have HGS:Hid (w1.heap.size<wr.heap.size):=hid rS.out.1;clear hq rR hx hy aD Ue;generalize Dq:wr.heap.size=gs at *;go_wp2_with fail;refine yS.out.mono ?_;rintro e w2 ⟨⟨v,rfl,hv⟩,aT⟩;have vJ:Below w2.heap.size w2 (w2.alloc (.cells #[.bool v.b,.slice v.p v.k v.c,.slice v.q v.j v.d] 74)):=zam _ _;have cW:=aT.trans (vJ.mono aT.size);have eV:=hid (dP.out.trans (cW.mono dP.out.size));have bO:=hid (Ug.out.later (cW.mono Ug.out.1))
   have iL:=hid (jA.out.later (cW.mono jA.out.1));have eK:=hid (qgg w2 v);have Uh:Hid (qaj (w2.alloc (.cells #[.bool v.b,.slice v.p v.k v.c,.slice v.q v.j v.d] 74)) (.agg #[.bool x.b,.slice x.p x.k x.c,.slice x.q x.j x.d]) q.1∧qaj (w2.alloc (.cells #[.bool v.b,.slice v.p v.k v.c,.slice v.q v.j v.d] 74)) (.agg #[.bool y.b,.slice y.p y.k y.c,.slice y.q y.j y.d]) q.2):=hid ⟨sG.out.1.later cW,sG.out.2.later cW⟩;have Cm:Hid (qaj (w2.alloc (.cells #[.bool v.b,.slice v.p v.k v.c,.slice v.q v.j v.d] 74)) (.agg #[.bool xm.b,.slice xm.p xm.k xm.c,.slice xm.q xm.j xm.d]) (acc k).1∧qaj (w2.alloc (.cells #[.bool v.b,.slice v.p v.k v.c,.slice v.q v.j v.d] 74)) (.agg #[.bool ym.b,.slice ym.p ym.k ym.c,.slice ym.q ym.j ym.d]) (acc k).2):=hid ⟨tA.out.1.later cW,tA.out.2.later cW⟩;have kC:=hid (hv.later vJ);have Cn:Hid (w1.heap.size≠gs):=hid (by have:=HGS.out;omega);have HNW:Hid (w1.heap.size≠w2.heap.size):=hid (by have:=HGS.out;have h1:=jA.out.1;have:=aT.size;omega);clear hv aT vJ cW a0 a1 a2 a3 a4 a5 hwc yS;generalize hgw:w2.heap.size=gw at *;go_wp2_with fail
   try rw[hgw]
   generalize (w2.alloc (.cells #[.bool v.b,.slice v.p v.k v.c,.slice v.q v.j v.d] 74))=w3 at *;have dO:Hid (Below w3.heap.size w3 w3.drew):=hid ((zan _ _).drew);have cE:Hid (∀W,Below w3.heap.size w3 W→Calls Tryz.prog 37 #[.agg #[.bool x.b,.slice x.p x.k x.c,.slice x.q x.j x.d],.agg #[.bool v.b,.slice v.p v.k v.c,.slice v.q v.j v.d]] W fun e w'=>(∃z:NV,e = .returned (.agg #[.bool z.b,.slice z.p z.k z.c,.slice z.q z.j z.d])∧qaj w' (.agg #[.bool z.b,.slice z.p z.k z.c,.slice z.q z.j z.d]) (q.1*((wi:Int):Rat)))∧Below W.heap.size W w'):=hid fun W hW=>qcn (qdx _ _ _ _ W (Uh.out.1.later hW) (kC.out.later hW) (by have:=bq.1.rs;have:=Uf.rs;unfold Cap;omega));have dW:Hid (∀W,Below w3.heap.size w3 W→Calls Tryz.prog 37 #[.agg #[.bool y.b,.slice y.p y.k y.c,.slice y.q y.j y.d],.agg #[.bool v.b,.slice v.p v.k v.c,.slice v.q v.j v.d]] W fun e w'=>(∃z:NV,e = .returned (.agg #[.bool z.b,.slice z.p z.k z.c,.slice z.q z.j z.d])∧qaj w' (.agg #[.bool z.b,.slice z.p z.k z.c,.slice z.q z.j z.d]) (q.2*((wi:Int):Rat)))∧Below W.heap.size W w'):=hid fun W hW=>qcn (qdx _ _ _ _ W (Uh.out.2.later hW) (kC.out.later hW) (by have:=bq.2.1.rs;have:=Uf.rs;unfold Cap;omega))
   have iH:Hid (∀W (t1 t2:NV),Below w3.heap.size w3 W→qaj W (.agg #[.bool t1.b,.slice t1.p t1.k t1.c,.slice t1.q t1.j t1.d]) (q.1*((wi:Int):Rat))→qaj W (.agg #[.bool t2.b,.slice t2.p t2.k t2.c,.slice t2.q t2.j t2.d]) (q.2*((wi:Int):Rat))→Calls Tryz.prog 36 #[.agg #[.bool xm.b,.slice xm.p xm.k xm.c,.slice xm.q xm.j xm.d,.bool ym.b,.slice ym.p ym.k ym.c,.slice ym.q ym.j ym.d],.agg #[.bool t1.b,.slice t1.p t1.k t1.c,.slice t1.q t1.j t1.d,.bool t2.b,.slice t2.p t2.k t2.c,.slice t2.q t2.j t2.d]] W fun e w'=>(∃z z':NV,e = .returned (.agg #[.bool z.b,.slice z.p z.k z.c,.slice z.q z.j z.d,.bool z'.b,.slice z'.p z'.k z'.c,.slice z'.q z'.j z'.d])∧qaj w' (.agg #[.bool z.b,.slice z.p z.k z.c,.slice z.q z.j z.d]) ((acc k).1+q.1*((wi:Int):Rat))∧qaj w' (.agg #[.bool z'.b,.slice z'.p z'.k z'.c,.slice z'.q z'.j z'.d]) ((acc k).2+q.2*((wi:Int):Rat)))∧Below W.heap.size W w'):=hid fun W t1 t2 hW h1 h2=>q74 (qy2 _ _ _ _ _ _ W (qf4 (Cm.out.1.later hW) (Cm.out.2.later hW)) (qf4 h1 h2) (by
    have:=ba.1.rs;have:=ba.2.rs;have:=(qex bq.1 Uf).rs;have:=(qex bq.2.1 Uf).rs;unfold Cap;omega))
   have c0:=qew.cells iL.out;have d0:=(One.cells eK.out).1;have e0:w3.cell? ⟨gs,0,none⟩=some (.bool x.b)∧w3.cell? ⟨gs,1,none⟩=some (.slice x.p x.k x.c)∧w3.cell? ⟨gs,2,none⟩=some (.slice x.q x.j x.d)∧w3.cell? ⟨gs,3,none⟩=some (.bool y.b)∧w3.cell? ⟨gs,4,none⟩=some (.slice y.p y.k y.c)∧w3.cell? ⟨gs,5,none⟩=some (.slice y.q y.j y.d)∧w3.cell? ⟨gw,0,none⟩=some (.bool v.b)∧w3.cell? ⟨gw,1,none⟩=some (.slice v.p v.k v.c)∧w3.cell? ⟨gw,2,none⟩=some (.slice v.q v.j v.d):=⟨c0.1,c0.2.1,c0.2.2.1,c0.2.2.2.1,c0.2.2.2.2.1,c0.2.2.2.2.2,d0⟩;obtain⟨⟨m0,f0⟩,⟨m1,f1⟩,⟨m2,f2⟩,⟨m3,f3⟩,⟨m4,f4⟩,⟨m5,f5⟩⟩:=qbl bO.out;clear c0 d0 bq ba Uf hwx;refine wp_region_held_drew (S:=(fun W=>W.cell? ⟨gs,0,none⟩=some (.bool x.b)∧W.cell? ⟨gs,1,none⟩=some (.slice x.p x.k x.c)∧W.cell? ⟨gs,2,none⟩=some (.slice x.q x.j x.d)∧W.cell? ⟨gs,3,none⟩=some (.bool y.b)∧W.cell? ⟨gs,4,none⟩=some (.slice y.p y.k y.c)∧W.cell? ⟨gs,5,none⟩=some (.slice y.q y.j y.d)∧W.cell? ⟨gw,0,none⟩=some (.bool v.b)∧W.cell? ⟨gw,1,none⟩=some (.slice v.p v.k v.c)∧W.cell? ⟨gw,2,none⟩=some (.slice v.q v.j v.d))) (by kernel_rfl) e0 (fun aE => ?_)
   refine' wpAnyH_take (i:=1) (v:=_) rfl (by kernel_rfl) (by kernel_rfl) (by kernel_rfl) (fun _ _ _ h=>h) (Or.inl ⟨by rfl, ?rT⟩) aE ?rest1
   case rT=>(intro w hSw;(try dsimp only at hSw);go_simp;(try with_reducible rfl))
   try simp only[Act.put,List.setIfInBounds_toArray]
   refine' wpAnyH_take (i:=2) (v:=_) rfl (by kernel_rfl) (by kernel_rfl) (by kernel_rfl) (fun _ _ _ h=>h) (Or.inl ⟨by rfl, ?tU⟩) aE ?rest2
   case tU=>(intro w hSw;(try dsimp only at hSw);go_simp;(try with_reducible rfl))
   try simp only[Act.put]
   refine' wpAnyH_take (i:=3) (v:=_) rfl (by kernel_rfl) (by kernel_rfl) (by kernel_rfl) (fun _ _ _ h=>h) (Or.inl ⟨by rfl, ?Iu⟩) aE ?rest3
   case Iu=>(intro w hSw;(try dsimp only at hSw);go_simp;(try with_reducible rfl))
   try simp only[Act.put]
   refine' wpAnyH_take (i:=5) (v:=_) rfl (by kernel_rfl) (by kernel_rfl) (by kernel_rfl) (fun _ _ _ h=>h) (Or.inl ⟨by rfl, ?Ui⟩) aE ?rest4
   case Ui=>(intro w hSw;(try dsimp only at hSw);go_simp;(try with_reducible rfl))
   try simp only[Act.put]
   refine' wpAnyH_take (i:=6) (v:=_) rfl (by kernel_rfl) (by kernel_rfl) (by kernel_rfl) (fun _ _ _ h=>h) (Or.inl ⟨by rfl, ?Uj⟩) aE ?rest5
   case Uj=>(intro w hSw;(try dsimp only at hSw);go_simp;(try with_reducible rfl))
   try simp only[Act.put]
   refine' wpAnyH_take (i:=7) (v:=_) rfl (by kernel_rfl) (by kernel_rfl) (by kernel_rfl) (fun _ _ _ h=>h) (Or.inl ⟨by rfl, ?Uk⟩) aE ?rest6
   case Uk=>(intro w hSw;(try dsimp only at hSw);go_simp;(try with_reducible rfl))
   try simp only[Act.put]
   refine wpAnyH_ready (rs:=[0,4]) (by kernel_rfl) (by simp) ?_;refine AllReadyH.cons rfl (fun K hK => ?step7) ?next7
   case step7=>
    go_simp;refine hK.out _ _ ?Od (fun qY => ?more1)
    case Od=>exact aE
    clear hK;refine wpAnyH_ready (rs:=[4]) (by kernel_rfl) (by simp) ?_;refine AllReadyH.cons rfl (fun K hK => ?step8) ?next8
    case step8=>
     go_simp
     go_at_call 37;(with_reducible refine(cE.out _ dO.out).mono ?_);rintro e wA ⟨⟨t1,rfl,hn⟩,hb⟩;have eQ:=hid hn;have bQ:=hid (dO.out.trans (hb.mono dO.out.size));have pA:=bO.out.later (bQ.out.mono bO.out.1);have cA:=(qew.cells (iL.out.later (bQ.out.mono iL.out.1)));have dA:=(One.cells (eK.out.later (bQ.out.mono eK.out.1))).1;obtain⟨⟨zB,zC⟩,⟨zD,zE⟩,⟨Md,Me⟩,⟨Mf,Mg⟩,⟨Mh,Mi⟩,⟨Mj,Mk⟩⟩:=qbl pA;clear hn hb pA
     go_wp2_with fail;refine hK.out _ _ ?Bu (fun qZ => ?more2)
     case Bu=>exact⟨cA.1,cA.2.1,cA.2.2.1,cA.2.2.2.1,cA.2.2.2.2.1,cA.2.2.2.2.2,dA⟩
     clear hK;refine wpAnyH_ready (rs:=[8]) (by kernel_rfl) (by simp) ?_;refine AllReadyH.cons rfl (fun K hK => ?step9) ?q4u
     case step9=>
      go_simp
      go_at_call 37;(with_reducible refine(dW.out _ bQ.out).mono ?_);rintro e wB ⟨⟨t2,rfl,hn⟩,hb⟩;have cO:=hid hn;have vK:=hid (eQ.out.later hb);have aX:=hid (bQ.out.trans (hb.mono bQ.out.size));have pB:=bO.out.later (aX.out.mono bO.out.1);have cB:=(qew.cells (iL.out.later (aX.out.mono iL.out.1)));have dB:=(One.cells (eK.out.later (aX.out.mono eK.out.1))).1;obtain⟨⟨mb0,Fk⟩,⟨mb1,fb1⟩,⟨mb2,fb2⟩,⟨mb3,fb3⟩,⟨mb4,fb4⟩,⟨mb5,fb5⟩⟩:=qbl pB;clear hn hb pB
      go_wp2_with fail;refine hK.out _ _ ?Ul (fun nT => ?more3)
      case Ul=>exact⟨cB.1,cB.2.1,cB.2.2.1,cB.2.2.2.1,cB.2.2.2.2.1,cB.2.2.2.2.2,dB⟩
      clear hK
      refine' wpAnyH_take (i:=9) (v:=_) rfl (by kernel_rfl) (by kernel_rfl) (by kernel_rfl) (fun _ _ _ h=>h) (Or.inl ⟨by rfl, ?hy10⟩) nT ?rest10
      case hy10=>(intro w hSw;(try dsimp only at hSw);go_simp;(try with_reducible rfl))
      try simp only[Act.put,List.setIfInBounds_toArray]
      refine wpAnyH_ready (rs:=[10]) (by kernel_rfl) (by simp) ?_;refine AllReadyH.cons rfl (fun K hK => ?step11) ?next11
      case step11=>
       go_simp
       go_at_call 36;(with_reducible refine(iH.out _ _ _ aX.out vK.out cO.out).mono ?_);rintro e wC ⟨⟨z1,z2,rfl,dR,jC⟩,hb⟩;have mF:=hid dR;have fY:=hid jC;have dY:=hid (aX.out.trans (hb.mono aX.out.size));have pC:=bO.out.later (dY.out.mono bO.out.1);have nU:=hid pC;have cC:=(qew.cells (iL.out.later (dY.out.mono iL.out.1)));have dC:=(One.cells (eK.out.later (dY.out.mono eK.out.1))).1;obtain⟨⟨xS,xT⟩,⟨xU,xV⟩,⟨Ie,Ig⟩,⟨Ih,Ii⟩,⟨Ij,Ik⟩,⟨Il,Im⟩⟩:=qbl pC;have cD:=qet cC Cn.out (.bool z1.b) (.slice z1.p z1.k z1.c) (.slice z1.q z1.j z1.d) (.bool z2.b) (.slice z2.p z2.k z2.c) (.slice z2.q z2.j z2.d);have dD:=qmn dC HNW.out (.bool z1.b) (.slice z1.p z1.k z1.c) (.slice z1.q z1.j z1.d) (.bool z2.b) (.slice z2.p z2.k z2.c) (.slice z2.q z2.j z2.d);clear dR jC hb pC
       go_wp2_with fail;refine hK.out _ _ ?Um (fun iM => ?more4)
       case Um=>exact⟨cC.1,cC.2.1,cC.2.2.1,cC.2.2.2.1,cC.2.2.2.2.1,cC.2.2.2.2.2,dC⟩
       clear hK;refine wpAnyH_ready (rs:=[11]) (by kernel_rfl) (by simp) ?_;refine AllReadyH.cons rfl (fun K hK => ?step12) ?next12
       case step12=>
        go_simp;refine hK.out _ _ ?Un (fun rA => ?more5)
        case Un=>exact⟨cD.1,cD.2.1,cD.2.2.1,cD.2.2.2.1,cD.2.2.2.2.1,cD.2.2.2.2.2,dD⟩
        clear hK;refine wpAnyH_done (by kernel_rfl) ?_ _;have bJ:=qew.put (x':=z1) (y':=z2) nU.out;have iN:=hid bJ.1;have iO:Hid _:=hid (And.intro (bJ.2.1 _ _ mF.out) (bJ.2.1 _ _ fY.out));have iQ:=hid (bJ.2.2 w1.heap.size w1 (zap _) (eV.out.trans (dY.out.mono eV.out.size)));have xM:Hid (acc (k+1)=((acc k).1+q.1*((wi:Int):Rat),(acc k).2+q.2*((wi:Int):Rat))):=hid (by rw[Cl.out,HQK.out]);clear bJ;go_wp2_with fail;go_roundw
        case rel=>exact⟨k+1,by omega,by go_num,z1,z2,iQ,iN,hid (by rw[xM.out];exact iO.out)⟩
        case measure=>simp[intOf];omega
       exact AllReadyH.nil
      exact AllReadyH.nil
     exact AllReadyH.nil
    exact AllReadyH.nil
   refine AllReadyH.cons rfl (fun K hK => ?step13) ?next13
   case step13=>
    go_simp
    go_at_call 37;(with_reducible refine(cE.out _ dO.out).mono ?_);rintro e wA ⟨⟨t1,rfl,hn⟩,hb⟩;have eQ:=hid hn;have bQ:=hid (dO.out.trans (hb.mono dO.out.size));have pA:=bO.out.later (bQ.out.mono bO.out.1);have cA:=(qew.cells (iL.out.later (bQ.out.mono iL.out.1)));have dA:=(One.cells (eK.out.later (bQ.out.mono eK.out.1))).1;obtain⟨⟨zB,zC⟩,⟨zD,zE⟩,⟨Md,Me⟩,⟨Mf,Mg⟩,⟨Mh,Mi⟩,⟨Mj,Mk⟩⟩:=qbl pA;clear hn hb pA
    go_wp2_with fail;refine hK.out _ _ ?Uo (fun rB => ?more6)
    case Uo=>exact⟨cA.1,cA.2.1,cA.2.2.1,cA.2.2.2.1,cA.2.2.2.2.1,cA.2.2.2.2.2,dA⟩
    clear hK;refine wpAnyH_ready (rs:=[0,8]) (by kernel_rfl) (by simp) ?_;refine AllReadyH.cons rfl (fun K hK => ?step14) ?next14
    case step14=>
     go_simp;refine hK.out _ _ ?Up (fun rC => ?more7)
     case Up=>exact⟨cA.1,cA.2.1,cA.2.2.1,cA.2.2.2.1,cA.2.2.2.2.1,cA.2.2.2.2.2,dA⟩
     clear hK;refine wpAnyH_ready (rs:=[8]) (by kernel_rfl) (by simp) ?_;refine AllReadyH.cons rfl (fun K hK => ?step15) ?next15
     case step15=>
      go_simp
      go_at_call 37;(with_reducible refine(dW.out _ bQ.out).mono ?_);rintro e wB ⟨⟨t2,rfl,hn⟩,hb⟩;have cO:=hid hn;have vK:=hid (eQ.out.later hb);have aX:=hid (bQ.out.trans (hb.mono bQ.out.size));have pB:=bO.out.later (aX.out.mono bO.out.1);have cB:=(qew.cells (iL.out.later (aX.out.mono iL.out.1)));have dB:=(One.cells (eK.out.later (aX.out.mono eK.out.1))).1;obtain⟨⟨mb0,Fk⟩,⟨mb1,fb1⟩,⟨mb2,fb2⟩,⟨mb3,fb3⟩,⟨mb4,fb4⟩,⟨mb5,fb5⟩⟩:=qbl pB;clear hn hb pB
      go_wp2_with fail;refine hK.out _ _ ?Uq (fun gO => ?more8)
      case Uq=>exact⟨cB.1,cB.2.1,cB.2.2.1,cB.2.2.2.1,cB.2.2.2.2.1,cB.2.2.2.2.2,dB⟩
      clear hK
      refine' wpAnyH_take (i:=9) (v:=_) rfl (by kernel_rfl) (by kernel_rfl) (by kernel_rfl) (fun _ _ _ h=>h) (Or.inl ⟨by rfl, ?Co⟩) gO ?rest16
      case Co=>(intro w hSw;(try dsimp only at hSw);go_simp;(try with_reducible rfl))
      try simp only[Act.put,List.setIfInBounds_toArray]
      refine wpAnyH_ready (rs:=[10]) (by kernel_rfl) (by simp) ?_;refine AllReadyH.cons rfl (fun K hK => ?step17) ?next17
      case step17=>
       go_simp
       go_at_call 36;(with_reducible refine(iH.out _ _ _ aX.out vK.out cO.out).mono ?_);rintro e wC ⟨⟨z1,z2,rfl,dR,jC⟩,hb⟩;have mF:=hid dR;have fY:=hid jC;have dY:=hid (aX.out.trans (hb.mono aX.out.size));have pC:=bO.out.later (dY.out.mono bO.out.1);have nU:=hid pC;have cC:=(qew.cells (iL.out.later (dY.out.mono iL.out.1)));have dC:=(One.cells (eK.out.later (dY.out.mono eK.out.1))).1;obtain⟨⟨xS,xT⟩,⟨xU,xV⟩,⟨Ie,Ig⟩,⟨Ih,Ii⟩,⟨Ij,Ik⟩,⟨Il,Im⟩⟩:=qbl pC;have cD:=qet cC Cn.out (.bool z1.b) (.slice z1.p z1.k z1.c) (.slice z1.q z1.j z1.d) (.bool z2.b) (.slice z2.p z2.k z2.c) (.slice z2.q z2.j z2.d);have dD:=qmn dC HNW.out (.bool z1.b) (.slice z1.p z1.k z1.c) (.slice z1.q z1.j z1.d) (.bool z2.b) (.slice z2.p z2.k z2.c) (.slice z2.q z2.j z2.d);clear dR jC hb pC
       go_wp2_with fail;refine hK.out _ _ ?Ur (fun rD => ?more9)
       case Ur=>exact⟨cC.1,cC.2.1,cC.2.2.1,cC.2.2.2.1,cC.2.2.2.2.1,cC.2.2.2.2.2,dC⟩
       clear hK;refine wpAnyH_ready (rs:=[11]) (by kernel_rfl) (by simp) ?_;refine AllReadyH.cons rfl (fun K hK => ?step18) ?next18
       case step18=>
        go_simp;refine hK.out _ _ ?Cp (fun mO => ?more10)
        case Cp=>exact⟨cD.1,cD.2.1,cD.2.2.1,cD.2.2.2.1,cD.2.2.2.2.1,cD.2.2.2.2.2,dD⟩
        clear hK;refine wpAnyH_done (by kernel_rfl) ?_ _;have bJ:=qew.put (x':=z1) (y':=z2) nU.out;have iN:=hid bJ.1;have iO:Hid _:=hid (And.intro (bJ.2.1 _ _ mF.out) (bJ.2.1 _ _ fY.out));have iQ:=hid (bJ.2.2 w1.heap.size w1 (zap _) (eV.out.trans (dY.out.mono eV.out.size)));have xM:Hid (acc (k+1)=((acc k).1+q.1*((wi:Int):Rat),(acc k).2+q.2*((wi:Int):Rat))):=hid (by rw[Cl.out,HQK.out]);clear bJ;go_wp2_with fail;go_roundw
        case rel=>exact⟨k+1,by omega,by go_num,z1,z2,iQ,iN,hid (by rw[xM.out];exact iO.out)⟩
        case measure=>simp[intOf];omega
       exact AllReadyH.nil
      exact AllReadyH.nil
     exact AllReadyH.nil
    refine AllReadyH.cons rfl (fun K hK => ?step19) ?next19
    case step19=>
     go_simp
     go_at_call 37;(with_reducible refine(dW.out _ bQ.out).mono ?_);rintro e wB ⟨⟨t2,rfl,hn⟩,hb⟩;have cO:=hid hn;have vK:=hid (eQ.out.later hb);have aX:=hid (bQ.out.trans (hb.mono bQ.out.size));have pB:=bO.out.later (aX.out.mono bO.out.1);have cB:=(qew.cells (iL.out.later (aX.out.mono iL.out.1)));have dB:=(One.cells (eK.out.later (aX.out.mono eK.out.1))).1;obtain⟨⟨mb0,Fk⟩,⟨mb1,fb1⟩,⟨mb2,fb2⟩,⟨mb3,fb3⟩,⟨mb4,fb4⟩,⟨mb5,fb5⟩⟩:=qbl pB;clear hn hb pB
     go_wp2_with fail;refine hK.out _ _ ?Cq (fun kN => ?more11)
     case Cq=>exact⟨cB.1,cB.2.1,cB.2.2.1,cB.2.2.2.1,cB.2.2.2.2.1,cB.2.2.2.2.2,dB⟩
     clear hK
     refine' wpAnyH_take (i:=9) (v:=_) rfl (by kernel_rfl) (by kernel_rfl) (by kernel_rfl) (fun _ _ _ h=>h) (Or.inl ⟨by rfl, ?hy20⟩) kN ?rest20
     case hy20=>(intro w hSw;(try dsimp only at hSw);go_simp;(try with_reducible rfl))
     try simp only[Act.put,List.setIfInBounds_toArray]
     refine wpAnyH_ready (rs:=[0]) (by kernel_rfl) (by simp) ?_;refine AllReadyH.cons rfl (fun K hK => ?step21) ?next21
     case step21=>
      go_simp;refine hK.out _ _ ?Cr (fun mP => ?more12)
      case Cr=>exact⟨cB.1,cB.2.1,cB.2.2.1,cB.2.2.2.1,cB.2.2.2.2.1,cB.2.2.2.2.2,dB⟩
      clear hK;refine wpAnyH_ready (rs:=[10]) (by kernel_rfl) (by simp) ?_;refine AllReadyH.cons rfl (fun K hK => ?step22) ?next22
      case step22=>
       go_simp
       go_at_call 36;(with_reducible refine(iH.out _ _ _ aX.out vK.out cO.out).mono ?_);rintro e wC ⟨⟨z1,z2,rfl,dR,jC⟩,hb⟩;have mF:=hid dR;have fY:=hid jC;have dY:=hid (aX.out.trans (hb.mono aX.out.size));have pC:=bO.out.later (dY.out.mono bO.out.1);have nU:=hid pC;have cC:=(qew.cells (iL.out.later (dY.out.mono iL.out.1)));have dC:=(One.cells (eK.out.later (dY.out.mono eK.out.1))).1;obtain⟨⟨xS,xT⟩,⟨xU,xV⟩,⟨Ie,Ig⟩,⟨Ih,Ii⟩,⟨Ij,Ik⟩,⟨Il,Im⟩⟩:=qbl pC;have cD:=qet cC Cn.out (.bool z1.b) (.slice z1.p z1.k z1.c) (.slice z1.q z1.j z1.d) (.bool z2.b) (.slice z2.p z2.k z2.c) (.slice z2.q z2.j z2.d);have dD:=qmn dC HNW.out (.bool z1.b) (.slice z1.p z1.k z1.c) (.slice z1.q z1.j z1.d) (.bool z2.b) (.slice z2.p z2.k z2.c) (.slice z2.q z2.j z2.d);clear dR jC hb pC
       go_wp2_with fail;refine hK.out _ _ ?Cs (fun fO => ?more13)
       case Cs=>exact⟨cC.1,cC.2.1,cC.2.2.1,cC.2.2.2.1,cC.2.2.2.2.1,cC.2.2.2.2.2,dC⟩
       clear hK;refine wpAnyH_ready (rs:=[11]) (by kernel_rfl) (by simp) ?_;refine AllReadyH.cons rfl (fun K hK => ?step23) ?next23
       case step23=>
        go_simp;refine hK.out _ _ ?Ct (fun mQ => ?more14)
        case Ct=>exact⟨cD.1,cD.2.1,cD.2.2.1,cD.2.2.2.1,cD.2.2.2.2.1,cD.2.2.2.2.2,dD⟩
        clear hK;refine wpAnyH_done (by kernel_rfl) ?_ _;have bJ:=qew.put (x':=z1) (y':=z2) nU.out;have iN:=hid bJ.1;have iO:Hid _:=hid (And.intro (bJ.2.1 _ _ mF.out) (bJ.2.1 _ _ fY.out));have iQ:=hid (bJ.2.2 w1.heap.size w1 (zap _) (eV.out.trans (dY.out.mono eV.out.size)));have xM:Hid (acc (k+1)=((acc k).1+q.1*((wi:Int):Rat),(acc k).2+q.2*((wi:Int):Rat))):=hid (by rw[Cl.out,HQK.out]);clear bJ;go_wp2_with fail;go_roundw
        case rel=>exact⟨k+1,by omega,by go_num,z1,z2,iQ,iN,hid (by rw[xM.out];exact iO.out)⟩
        case measure=>simp[intOf];omega
       exact AllReadyH.nil
      exact AllReadyH.nil
     exact AllReadyH.nil
    exact AllReadyH.nil
   exact AllReadyH.nil
  ·have sQ:k=n:=by omega
   have Cj:Hid (qaj wr (.agg #[.bool xm.b,.slice xm.p xm.k xm.c,.slice xm.q xm.j xm.d]) (acc n).1∧qaj wr (.agg #[.bool ym.b,.slice ym.p ym.k ym.c,.slice ym.q ym.j ym.d]) (acc n).2):=hid (by rw[←sQ];exact Ck.out);have ba:=fF.out n;clear sQ;have bS:=qes S (by omega) (by omega);have yG:=hid (qcn (qeq S wr (by omega) (by omega)));have lA:Hid (((S:Int):Rat).num≠0):=hid cN;go_wp2_with fail;refine yG.out.mono ?_;rintro e w2 ⟨⟨v,rfl,hv⟩,aT⟩;have vJ:Below w2.heap.size w2 (w2.alloc (.cells #[.bool v.b,.slice v.p v.k v.c,.slice v.q v.j v.d] 74)):=zam _ _;have cW:=aT.trans (vJ.mono aT.size);have eV:=hid (bR.out.trans (cW.mono bR.out.size));have bO:=hid (rS.out.later (cW.mono rS.out.1));have eK:=hid (qgg w2 v);have Cm:Hid (qaj (w2.alloc (.cells #[.bool v.b,.slice v.p v.k v.c,.slice v.q v.j v.d] 74)) (.agg #[.bool xm.b,.slice xm.p xm.k xm.c,.slice xm.q xm.j xm.d]) (acc n).1∧qaj (w2.alloc (.cells #[.bool v.b,.slice v.p v.k v.c,.slice v.q v.j v.d] 74)) (.agg #[.bool ym.b,.slice ym.p ym.k ym.c,.slice ym.q ym.j ym.d]) (acc n).2):=hid ⟨Cj.out.1.later cW,Cj.out.2.later cW⟩;have kC:=hid (hv.later vJ);have iR:=hid (cZ.out.later (eV.out.mono cZ.out.1));have mD:=hid (HB.out.trans (eV.out.mono HB.out.size));have xL:Hid (w.heap.size≠w1.heap.size):=hid (by have:=cZ.out.1;omega);have HNT:Hid (w.heap.size≠w2.heap.size):=hid (by have:=cZ.out.1;have h1:=rS.out.1;have:=aT.size;omega);clear hv aT vJ cW yG;generalize Kz:w2.heap.size=gt at *;go_wp2_with fail
   try rw[Kz]
   generalize (w2.alloc (.cells #[.bool v.b,.slice v.p v.k v.c,.slice v.q v.j v.d] 74))=w3 at *;have dO:Hid (Below w3.heap.size w3 w3.drew):=hid ((zan _ _).drew);have jS:Hid (∀W,Below w3.heap.size w3 W→Calls Tryz.prog 38 #[.agg #[.bool xm.b,.slice xm.p xm.k xm.c,.slice xm.q xm.j xm.d],.agg #[.bool v.b,.slice v.p v.k v.c,.slice v.q v.j v.d]] W fun e w'=>(∃z:NV,e = .returned (.agg #[.bool z.b,.slice z.p z.k z.c,.slice z.q z.j z.d])∧qaj w' (.agg #[.bool z.b,.slice z.p z.k z.c,.slice z.q z.j z.d]) ((acc n).1/((S:Int):Rat)))∧Below W.heap.size W w'):=hid fun W hW=>qcn (qff _ _ _ _ W (Cm.out.1.later hW) (kC.out.later hW) lA.out (by have:=ba.1.rs;have:=bS.rs;unfold Cap;omega));have kQ:Hid (∀W,Below w3.heap.size w3 W→Calls Tryz.prog 38 #[.agg #[.bool ym.b,.slice ym.p ym.k ym.c,.slice ym.q ym.j ym.d],.agg #[.bool v.b,.slice v.p v.k v.c,.slice v.q v.j v.d]] W fun e w'=>(∃z:NV,e = .returned (.agg #[.bool z.b,.slice z.p z.k z.c,.slice z.q z.j z.d])∧qaj w' (.agg #[.bool z.b,.slice z.p z.k z.c,.slice z.q z.j z.d]) ((acc n).2/((S:Int):Rat)))∧Below W.heap.size W w'):=hid fun W hW=>qcn (qff _ _ _ _ W (Cm.out.2.later hW) (kC.out.later hW) lA.out (by have:=ba.2.rs;have:=bS.rs;unfold Cap;omega));have sW:Hid (∀W (t1 t2:NV),qaj W (.agg #[.bool t1.b,.slice t1.p t1.k t1.c,.slice t1.q t1.j t1.d]) ((acc n).1/((S:Int):Rat))→qaj W (.agg #[.bool t2.b,.slice t2.p t2.k t2.c,.slice t2.q t2.j t2.d]) ((acc n).2/((S:Int):Rat))→Calls Tryz.prog 32 #[.agg #[.bool t1.b,.slice t1.p t1.k t1.c,.slice t1.q t1.j t1.d,.bool t2.b,.slice t2.p t2.k t2.c,.slice t2.q t2.j t2.d]] W (qdw ((acc n).1/((S:Int):Rat)) ((acc n).2/((S:Int):Rat)) W)):=hid fun W t1 t2 h1 h2=>qf3 _ _ _ W (qf4 h1 h2) (by have:=(qmy ba.1 bS).rs;unfold Cap;omega) (by have:=(qmy ba.2 bS).rs;unfold Cap;omega);have c0:=qew.cells bO.out
   have d0:=(One.cells eK.out).1;have e0:w3.cell? ⟨w1.heap.size,0,none⟩=some (.bool xm.b)∧w3.cell? ⟨w1.heap.size,1,none⟩=some (.slice xm.p xm.k xm.c)∧w3.cell? ⟨w1.heap.size,2,none⟩=some (.slice xm.q xm.j xm.d)∧w3.cell? ⟨w1.heap.size,3,none⟩=some (.bool ym.b)∧w3.cell? ⟨w1.heap.size,4,none⟩=some (.slice ym.p ym.k ym.c)∧w3.cell? ⟨w1.heap.size,5,none⟩=some (.slice ym.q ym.j ym.d)∧w3.cell? ⟨gt,0,none⟩=some (.bool v.b)∧w3.cell? ⟨gt,1,none⟩=some (.slice v.p v.k v.c)∧w3.cell? ⟨gt,2,none⟩=some (.slice v.q v.j v.d):=⟨c0.1,c0.2.1,c0.2.2.1,c0.2.2.2.1,c0.2.2.2.2.1,c0.2.2.2.2.2,d0⟩;clear c0 d0 ba bS;generalize (acc n).1/((S:Int):Rat)=rlo at *;generalize (acc n).2/((S:Int):Rat)=rhi at *
   go_region_held3 (fun W=>W.cell? ⟨w1.heap.size,0,none⟩=some (.bool xm.b)∧W.cell? ⟨w1.heap.size,1,none⟩=some (.slice xm.p xm.k xm.c)∧W.cell? ⟨w1.heap.size,2,none⟩=some (.slice xm.q xm.j xm.d)∧W.cell? ⟨w1.heap.size,3,none⟩=some (.bool ym.b)∧W.cell? ⟨w1.heap.size,4,none⟩=some (.slice ym.p ym.k ym.c)∧W.cell? ⟨w1.heap.size,5,none⟩=some (.slice ym.q ym.j ym.d)∧W.cell? ⟨gt,0,none⟩=some (.bool v.b)∧W.cell? ⟨gt,1,none⟩=some (.slice v.p v.k v.c)∧W.cell? ⟨gt,2,none⟩=some (.slice v.q v.j v.d)) (first|with_reducible exact⟨cA.1,cA.2.1,cA.2.2.1,cA.2.2.2.1,cA.2.2.2.2.1,cA.2.2.2.2.2,dA⟩|with_reducible exact⟨cB.1,cB.2.1,cB.2.2.1,cB.2.2.2.1,cB.2.2.2.2.1,cB.2.2.2.2.2,dB⟩|with_reducible exact⟨cC.1,cC.2.1,cC.2.2.1,cC.2.2.2.1,cC.2.2.2.2.1,cC.2.2.2.2.2,dC⟩|with_reducible exact eC|exact e0)
    (first
     | (go_at_call 38;first
       | ((with_reducible refine(jS.out _ dO.out).mono ?_);rintro e wA ⟨⟨t1,rfl,hn⟩,hb⟩;have eQ:=hid hn;have bQ:=hid (dO.out.trans (hb.mono dO.out.size));have cA:=(qew.cells (bO.out.later (bQ.out.mono bO.out.1)));have dA:=(One.cells (eK.out.later (bQ.out.mono eK.out.1))).1;clear hn hb)
       | ((with_reducible refine(kQ.out _ bQ.out).mono ?_);rintro e wB ⟨⟨t2,rfl,hn⟩,hb⟩;have cO:=hid hn;have vK:=hid (eQ.out.later hb);have aX:=hid (bQ.out.trans (hb.mono bQ.out.size));have cB:=(qew.cells (bO.out.later (aX.out.mono bO.out.1)));have dB:=(One.cells (eK.out.later (aX.out.mono eK.out.1))).1;clear hn hb))
     | (go_at_call 32;((refine(sW.out _ _ _ vK.out cO.out).mono ?_);rintro e wC h;obtain⟨s1,s2,ec,rfl,h2⟩:=qfk h;have uC:=hid h2;have dY:=hid (aX.out.trans (h2.2.mono aX.out.size));have cC:=(qew.cells (bO.out.later (dY.out.mono bO.out.1)));have dC:=(One.cells (eK.out.later (dY.out.mono eK.out.1))).1;have eC:=q2f ⟨cC.1,cC.2.1,cC.2.2.1,cC.2.2.2.1,cC.2.2.2.2.1,cC.2.2.2.2.2,dC⟩ xL.out HNT.out (.string s1) (.string s2);have xW:=hid (iR.out.later (dY.out.mono iR.out.1));obtain⟨⟨r0,g0⟩,⟨r1,g1⟩⟩:=qas xW.out;clear h h2)))
   all_goals
    have fT:=hid (qbk (mD.out.trans (dY.out.mono mD.out.size)) (zap _) (.string s1) (.string s2));go_wp2_with fail;refine bodyPost_ret (v := .tuple #[.agg #[.string s1,.string s2],.int .i64 ec]) ?_ rfl ?_
    ·simp[results,Tryz.results9,go_sem,r0,r1]
    ·exact aG.out _ _ ⟨uC.out.1,fT.out⟩
end Go.Proofs.YtclimablgihlhaaGreatDoor
