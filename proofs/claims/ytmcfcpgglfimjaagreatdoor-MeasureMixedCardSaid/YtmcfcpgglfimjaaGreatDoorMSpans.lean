/- readSpan: the two numbers of a span. -/
import Derived.Test.YtmcfcpgglfimjaaGreatDoorMRounded
set_option linter.all false
namespace Go.Proofs.YtmcfcpgglfimjaaGreatDoor
open Go.RowKit
set_option maxRecDepth 100000
set_option maxHeartbeats 4000000
def qkr(b:Bool)(t m:Value)(b':Bool)(t' m':Value)(i:Nat):Value:=
 if i=0 then .bool b else if i=1 then t else if i=2 then m else if i=3 then .bool b' else if i=4 then t' else m'
theorem qks(w:World)(b:Bool)(t m:Value)(b':Bool)(t' m':Value)(ty:TypeId):Own (w.alloc (.cells #[.bool b,t,m,.bool b',t',m'] ty)) w.heap.size 6 (qkr b t m b' t' m'):=by
 refine⟨by rw[qab];omega,fun i hi => ?_⟩;rw[World.cell?_alloc_at _ _ _ _ rfl,World.frozen?_alloc_at _ _ _ _ rfl]
 match i,hi with
 | 0,_=>exact⟨rfl,rfl⟩
 | 1,_=>exact⟨rfl,rfl⟩
 | 2,_=>exact⟨rfl,rfl⟩
 | 3,_=>exact⟨rfl,rfl⟩
 | 4,_=>exact⟨rfl,rfl⟩
 | 5,_=>exact⟨rfl,rfl⟩
theorem qd3{W:World}{g:Nat}{b:Bool}{t m:Value}{b':Bool}{t' m':Value}(h:Own W g 6 (qkr b t m b' t' m')):
  (W.cell? ⟨g,0,none⟩=some (.bool b)∧W.frozen? ⟨g,0,none⟩=false)∧(W.cell? ⟨g,1,none⟩=some t∧W.frozen? ⟨g,1,none⟩=false)∧(W.cell? ⟨g,2,none⟩=some m∧W.frozen? ⟨g,2,none⟩=false)∧
  (W.cell? ⟨g,3,none⟩=some (.bool b')∧W.frozen? ⟨g,3,none⟩=false)∧(W.cell? ⟨g,4,none⟩=some t'∧W.frozen? ⟨g,4,none⟩=false)∧(W.cell? ⟨g,5,none⟩=some m'∧W.frozen? ⟨g,5,none⟩=false):=
 ⟨h.2 0 (by omega),h.2 1 (by omega),h.2 2 (by omega),h.2 3 (by omega),h.2 4 (by omega),h.2 5 (by omega)⟩
theorem qhm{W:World}{g:Nat}(ho:Own W g 6 (qkr false (.slice none 0 0) (.slice none 0 0) false (.slice none 0 0) (.slice none 0 0)))(x0 x1 x2 x3 x4 x5:Value):
  (∀v q,qaw W v q→qaw ((((((W.setCell ⟨g,0,none⟩ x0).setCell ⟨g,1,none⟩ x1).setCell ⟨g,2,none⟩ x2).setCell ⟨g,3,none⟩ x3).setCell ⟨g,4,none⟩ x4).setCell ⟨g,5,none⟩ x5) v q)∧
  (∀B w0,B≤g→Below B w0 W→Below B w0 ((((((W.setCell ⟨g,0,none⟩ x0).setCell ⟨g,1,none⟩ x1).setCell ⟨g,2,none⟩ x2).setCell ⟨g,3,none⟩ x3).setCell ⟨g,4,none⟩ x4).setCell ⟨g,5,none⟩ x5)):=by
 have o1:=ho.set 0 (by omega) x0;have o2:=o1.set 1 (by omega) x1;have o3:=o2.set 2 (by omega) x2;have o4:=o3.set 3 (by omega) x3;have o5:=o4.set 4 (by omega) x4;constructor
 ·intro v q h
  have h1:=qbl h ho 0 (by omega) (by intro k z e;cases e) x0;have h2:=qbl h1 o1 1 (by omega) (by intro k z e;cases e) x1;have h3:=qbl h2 o2 2 (by omega) (by intro k z e;cases e) x2;have h4:=qbl h3 o3 3 (by omega) (by intro k z e;cases e) x3;have h5:=qbl h4 o4 4 (by omega) (by intro k z e;cases e) x4;exact qbl h5 o5 5 (by omega) (by intro k z e;cases e) x5
 ·intro B w0 hB hb
  exact((((((hb.setCell (p:=⟨g,0,none⟩) hB x0).setCell (p:=⟨g,1,none⟩) hB x1).setCell (p:=⟨g,2,none⟩) hB x2).setCell (p:=⟨g,3,none⟩) hB x3).setCell (p:=⟨g,4,none⟩) hB x4).setCell (p:=⟨g,5,none⟩) hB x5)
def qka(lo hi:BA):Nat:=
 if qai [qah lo.data.toList,qah hi.data.toList]≠0 then qai [qah lo.data.toList,qah hi.data.toList]
 else if 0<qfd (qa9 lo.data.toList) (qa9 hi.data.toList) then 11 else 0
def qo6:Value := .agg #[.bool false,.slice none 0 0,.slice none 0 0,.bool false,.slice none 0 0,.slice none 0 0]
def qgo(w:World)(v:Value)(lo hi:Rat):Prop:=
 ∃b p1 k1 c1 p2 k2 c2 b' p1' k1' c1' p2' k2' c2',v = .agg #[.bool b,.slice p1 k1 c1,.slice p2 k2 c2,.bool b',.slice p1' k1' c1',.slice p2' k2' c2']∧
  qaw w (.agg #[.bool b,.slice p1 k1 c1,.slice p2 k2 c2]) lo∧qaw w (.agg #[.bool b',.slice p1' k1' c1',.slice p2' k2' c2']) hi
theorem qgo.later{w w':World}{v:Value}{lo hi:Rat}(h:qgo w v lo hi)(hb:Below w.heap.size w w'):qgo w' v lo hi:=by
 obtain⟨b,p1,k1,c1,p2,k2,c2,b',p1',k1',c1',p2',k2',c2',e,h1,h2⟩:=h;exact⟨b,p1,k1,c1,p2,k2,c2,b',p1',k1',c1',p2',k2',c2',e,h1.later hb,h2.later hb⟩
def qlm(lo hi:BA)(w:World)(e:Ending)(w':World):Prop:=
 (if qka lo hi=0 then ∃v,e = .returned (.tuple #[v,.int .i64 0])∧qgo w' v (qa9 lo.data.toList) (qa9 hi.data.toList)
  else e = .returned (.tuple #[qo6,.int .i64 (qka lo hi)]))∧Below w.heap.size w w'
def q7a(w:World)(lo hi:BA)(W:World):Prop:=
 Below w.heap.size w W∧Own W w.heap.size 2 (qvs (.string lo) (.string hi))∧Own W (w.heap.size+1) 6 (qkr false (.slice none 0 0) (.slice none 0 0) false (.slice none 0 0) (.slice none 0 0))
theorem q7a.later{w W W':World}{lo hi:BA}(h:q7a w lo hi W)(hb:Below W.heap.size W W'):q7a w lo hi W':=
 ⟨h.1.trans (hb.mono h.1.size),h.2.1.later (hb.mono h.2.1.1),h.2.2.later (hb.mono h.2.2.1)⟩
theorem q5y(w:World)(lo hi:BA)(t1 t2:TypeId):q7a w lo hi ((w.alloc (.cells #[.string lo,.string hi] t1)).alloc (.cells #[.bool false,.slice none 0 0,.slice none 0 0,.bool false,.slice none 0 0,.slice none 0 0] t2)):=by
 have h1:Below w.heap.size w (w.alloc (.cells #[.string lo,.string hi] t1)):=qad _ _;have h2:=qd2 w t1 (.string lo) (.string hi);have h3:=qks (w.alloc (.cells #[.string lo,.string hi] t1)) false (.slice none 0 0) (.slice none 0 0) false (.slice none 0 0) (.slice none 0 0) t2;rw[qab] at h3;exact⟨h1.alloc (by rw[qab];omega) _,h2.later ((qaa _ _).alloc (by rw[qab];omega) _),h3⟩
theorem q2n(w:World)(o1 o2:Obj):((w.alloc o1).alloc o2).heap.size=w.heap.size+1+1:=by
 rw[qab,qab]
theorem q8h{w W:World}{lo hi:BA}(hW:q7a w lo hi W)(hs:W.heap.size=w.heap.size+1+1)(hg:GW w)(fH:lo.size≤1073741824)(rM:hi.size≤1073741824)(h0:qai [qah lo.data.toList,qah hi.data.toList]=0):
  Calls Tryz.prog 59 #[.slice (some ⟨w.heap.size+1+1,0,none⟩) 2 2,.func (.func 43) #[] #[]] (W.alloc (.cells #[.string lo,.string hi] 30))
   (fun e w'=>(∃g,e = .returned (.tuple #[.slice (some ⟨g,0,none⟩) 2 2,.int .i64 0])∧qj0 w' g 2 [qa9 lo.data.toList,qa9 hi.data.toList])∧q7a w lo hi w'):=by
 rw[←hs];exact(q5x (qxk lo hi W (hg.later hW.1) fH rM _) h0).mono fun e w' ⟨h1,h2⟩=>⟨h1,hW.later h2⟩
theorem q96{w W:World}{lo hi:BA}(hW:q7a w lo hi W)(hs:W.heap.size=w.heap.size+1+1)(hg:GW w)(fH:lo.size≤1073741824)(rM:hi.size≤1073741824)(h0:qai [qah lo.data.toList,qah hi.data.toList]≠0):
  Calls Tryz.prog 59 #[.slice (some ⟨w.heap.size+1+1,0,none⟩) 2 2,.func (.func 43) #[] #[]] (W.alloc (.cells #[.string lo,.string hi] 30))
   (fun e w'=>e = .returned (.tuple #[.slice none 0 0,.int .i64 (qai [qah lo.data.toList,qah hi.data.toList]:Nat)])∧q7a w lo hi w'):=by
 rw[←hs];exact(q8g (qxk lo hi W (hg.later hW.1) fH rM _) h0).mono fun e w' ⟨h1,h2⟩=>⟨h1,hW.later h2⟩
theorem qtv(lo hi:BA)(w:World)(hg:GW w)(fH:lo.size≤1073741824)(rM:hi.size≤1073741824):
  Calls Tryz.prog 95 #[.agg #[.string lo,.string hi]] w (qlm lo hi w):=by
 have aO:=hid (q5y w lo hi 47 101);have dG:=q2n w (.cells #[.string lo,.string hi] 47) (.cells #[.bool false,.slice none 0 0,.slice none 0 0,.bool false,.slice none 0 0,.slice none 0 0] 101);obtain⟨s0,s1⟩:=qap aO.out.2.1;by_cases h0:qai [qah lo.data.toList,qah hi.data.toList]=0
 ·obtain⟨hcx,hcy⟩:=qms h0
  have gG:=qin hcx;have hby:=qin hcy;have HRG:=hid (q8h aO.out dG hg fH rM h0)
  have Iz:Hid (∀W va vb,qaw W va (qa9 lo.data.toList)→qaw W vb (qa9 hi.data.toList)→Calls Tryz.prog 49 #[va,vb] W fun e w'=>e = .returned (.int .i64 (qfd (qa9 lo.data.toList) (qa9 hi.data.toList)))∧Below W.heap.size W w'):=
   hid fun W va vb uC sX=>qdp va vb _ _ W uC sX (by have:=gG.rs;have:=hby.rs;unfold Cap;omega)
  by_cases kA:0<qfd (qa9 lo.data.toList) (qa9 hi.data.toList)
  ·have aF:Hid (∀w',Below w.heap.size w w'→qlm lo hi w (.returned (.tuple #[qo6,.int .i64 11])) w'):=hid fun w' h=>by
    have e:qka lo hi=11:=by unfold qka;rw[if_neg (by omega),if_pos kA]
    unfold qlm;rw[e];exact⟨rfl,h⟩
   clear hg fH rM h0 hcx hcy gG hby dG aO;generalize qfd (qa9 lo.data.toList) (qa9 hi.data.toList)=r at *;generalize qa9 lo.data.toList=qx at *;generalize qa9 hi.data.toList=qy at *;go_enter Tryz.func95,Tryz.ntmps95;go_wp2_with fail;clear s0 s1;refine HRG.out.mono ?_;rintro e w1 ⟨⟨g,rfl,hn⟩,dL⟩;obtain⟨b,p1,k1,c1,p2,k2,c2,b',p1',k1',c1',p2',k2',c2',xM,uC,sX⟩:=qxl hn;have Ci:=hid xM;have zI:=xM w1 (qaa _ _);have bQ:Below w1.heap.size w1 w1.drew:=(qaa _ _).drew;have iI:=hid (Iz.out w1.drew _ _ (uC.later bQ) (sX.later bQ));have eJ:=hid dL;have lJ:=hid uC;have qD:=hid sX;clear hn dL xM uC sX bQ HRG Iz;obtain⟨r0,r1,r2,r3,r4,r5⟩:=id zI;go_wp2_with fail
   go_region_held3 (fun W=>W.cell? ⟨g,0,none⟩=some (.bool b)∧W.cell? ⟨g,1,none⟩=some (.slice p1 k1 c1)∧W.cell? ⟨g,2,none⟩=some (.slice p2 k2 c2)∧W.cell? ⟨g,3,none⟩=some (.bool b')∧W.cell? ⟨g,4,none⟩=some (.slice p1' k1' c1')∧W.cell? ⟨g,5,none⟩=some (.slice p2' k2' c2')) (first|with_reducible exact Ci.out _ jF.out|exact zI)
    (first|(go_at_call 49;refine iI.out.mono ?_;rintro e w2 ⟨rfl,aR⟩;have jF:Hid (Below w1.heap.size w1 w2):=hid ((qaa _ _).drew.trans aR);clear aR))
   all_goals
    have cO:=hid (eJ.out.later jF.out);obtain⟨⟨z0,y0⟩,⟨z1,y1⟩,⟨z2,y2⟩,⟨z3,y3⟩,⟨z4,y4⟩,⟨z5,y5⟩⟩:=qd3 cO.out.2.2;have HB:=hid ((qhm cO.out.2.2 (.bool false) (.slice none 0 0) (.slice none 0 0) (.bool false) (.slice none 0 0) (.slice none 0 0)).2 w.heap.size w (by omega) cO.out.1);go_wp2_with fail;refine bodyPost_ret (v := .tuple #[qo6,.int .i64 11]) ?_ rfl ?_
    ·simp[qo6,results,Tryz.results95,go_sem,z0,z1,z2,z3,z4,z5]
    ·exact aF.out _ HB.out
  ·have aF:Hid (∀w' v,qgo w' v (qa9 lo.data.toList) (qa9 hi.data.toList)→Below w.heap.size w w'→qlm lo hi w (.returned (.tuple #[v,.int .i64 0])) w'):=hid fun w' v n h=>by
    have e:qka lo hi=0:=by unfold qka;rw[if_neg (by omega),if_neg kA]
    unfold qlm;rw[if_pos e];exact⟨⟨v,rfl,n⟩,h⟩
   clear hg fH rM h0 hcx hcy gG hby dG aO;generalize qfd (qa9 lo.data.toList) (qa9 hi.data.toList)=r at *;generalize qa9 lo.data.toList=qx at *;generalize qa9 hi.data.toList=qy at *;go_enter Tryz.func95,Tryz.ntmps95;go_wp2_with fail;clear s0 s1;refine HRG.out.mono ?_;rintro e w1 ⟨⟨g,rfl,hn⟩,dL⟩;obtain⟨b,p1,k1,c1,p2,k2,c2,b',p1',k1',c1',p2',k2',c2',xM,uC,sX⟩:=qxl hn;have Ci:=hid xM;have zI:=xM w1 (qaa _ _);have bQ:Below w1.heap.size w1 w1.drew:=(qaa _ _).drew;have iI:=hid (Iz.out w1.drew _ _ (uC.later bQ) (sX.later bQ));have eJ:=hid dL;have lJ:=hid uC;have qD:=hid sX;clear hn dL xM uC sX bQ HRG Iz;obtain⟨r0,r1,r2,r3,r4,r5⟩:=id zI;go_wp2_with fail
   go_region_held3 (fun W=>W.cell? ⟨g,0,none⟩=some (.bool b)∧W.cell? ⟨g,1,none⟩=some (.slice p1 k1 c1)∧W.cell? ⟨g,2,none⟩=some (.slice p2 k2 c2)∧W.cell? ⟨g,3,none⟩=some (.bool b')∧W.cell? ⟨g,4,none⟩=some (.slice p1' k1' c1')∧W.cell? ⟨g,5,none⟩=some (.slice p2' k2' c2')) (first|with_reducible exact Ci.out _ jF.out|exact zI)
    (first|(go_at_call 49;refine iI.out.mono ?_;rintro e w2 ⟨rfl,aR⟩;have jF:Hid (Below w1.heap.size w1 w2):=hid ((qaa _ _).drew.trans aR);clear aR))
   all_goals
    have cO:=hid (eJ.out.later jF.out);obtain⟨⟨z0,y0⟩,⟨z1,y1⟩,⟨z2,y2⟩,⟨z3,y3⟩,⟨z4,y4⟩,⟨z5,y5⟩⟩:=qd3 cO.out.2.2;obtain⟨t0,t1,t2,t3,t4,t5⟩:=Ci.out w2 jF.out;have jG:=qhm cO.out.2.2 (.bool b) (.slice p1 k1 c1) (.slice p2 k2 c2) (.bool b') (.slice p1' k1' c1') (.slice p2' k2' c2');have dI:=hid (jG.1 _ _ (lJ.out.later jF.out));have fX:=hid (jG.1 _ _ (qD.out.later jF.out));have HB:=hid (jG.2 w.heap.size w (by omega) cO.out.1);clear jG;go_wp2_with fail
    go_region
    go_wp2_with fail;refine bodyPost_ret (v := .tuple #[.agg #[.bool b,.slice p1 k1 c1,.slice p2 k2 c2,.bool b',.slice p1' k1' c1',.slice p2' k2' c2'],.int .i64 0]) ?_ rfl ?_
    ·simp[results,Tryz.results95,go_sem,z0,z1,z2,z3,z4,z5]
    ·exact aF.out _ _ ⟨_,_,_,_,_,_,_,_,_,_,_,_,_,_,rfl,dI.out.later (qaa _ _).drew,fX.out.later (qaa _ _).drew⟩ HB.out.drew
 ·have pF:=hid (q96 aO.out dG hg fH rM h0)
  have aF:Hid (∀w',Below w.heap.size w w'→qlm lo hi w (.returned (.tuple #[qo6,.int .i64 (qai [qah lo.data.toList,qah hi.data.toList]:Nat)])) w'):=hid fun w' h=>by
   have e:qka lo hi=qai [qah lo.data.toList,qah hi.data.toList]:=by unfold qka;rw[if_pos h0]
   unfold qlm;rw[e,if_neg h0];exact⟨rfl,h⟩
  have eE:((qai [qah lo.data.toList,qah hi.data.toList]:Int)==0)=false:=qan (by omega);clear hg fH rM h0 dG aO;generalize qai [qah lo.data.toList,qah hi.data.toList]=c at *;go_enter Tryz.func95,Tryz.ntmps95;go_wp2_with fail;clear s0 s1;refine pF.out.mono ?_;rintro e w2 ⟨rfl,dL⟩;have cO:=hid dL;clear dL pF;obtain⟨⟨z0,y0⟩,⟨z1,y1⟩,⟨z2,y2⟩,⟨z3,y3⟩,⟨z4,y4⟩,⟨z5,y5⟩⟩:=qd3 cO.out.2.2;have HB:=hid ((qhm cO.out.2.2 (.bool false) (.slice none 0 0) (.slice none 0 0) (.bool false) (.slice none 0 0) (.slice none 0 0)).2 w.heap.size w (by omega) cO.out.1);go_wp2_with fail;refine bodyPost_ret (v := .tuple #[qo6,.int .i64 c]) ?_ rfl ?_
  ·simp[qo6,results,Tryz.results95,go_sem,z0,z1,z2,z3,z4,z5]
  ·exact aF.out _ HB.out
def qcz(q:Rat):BA:=if qbr q 600 then⟨(qa7 q).toArray⟩ else⟨#[]⟩
def qgi(q:Rat):Nat:=if qbr q 600 then 0 else 4
theorem qmt{q:Rat}{w w':World}{e:Ending}(h:qmo q w e w'):e = .returned (.tuple #[.string (qcz q),.int .i64 (qgi q:Nat)])∧Below w.heap.size w w':=by
 obtain⟨h1,h2⟩:=h;refine⟨?_,h2⟩;rw[h1];unfold qcz qgi;cases qbr q 600<;>rfl
def qv0(W:World)(g cap:Nat)(l:List BA):Prop:=
 l.length≤cap∧∃cur:Array Value,W.heap[g]? = some (.cells cur 30 (0,0))∧cur.size=cap∧∀(j:Nat) (s:BA),l[j]? = some s→cur.toList[j]? = some (.string s)
theorem qzm(w:World)(cap:Nat):qv0 (w.alloc (.cells (madeCells #[.string ⟨#[]⟩] cap) 30)) w.heap.size cap []:=
 ⟨Nat.zero_le _,_,heap_alloc_new w _,size_madeCells _ _,fun j q h=>by simp at h⟩
theorem qv0.lt{W:World}{g cap:Nat}{l:List BA}(h:qv0 W g cap l):g<W.heap.size:=by
 obtain⟨_,cur,hg,_⟩:=h;rcases Nat.lt_or_ge g W.heap.size with h1|h1
 ·exact h1
 ·rw[Array.getElem?_eq_none h1] at hg;cases hg
theorem qv0.later{W W':World}{g cap:Nat}{l:List BA}(h:qv0 W g cap l)(hb:Below W.heap.size W W'):qv0 W' g cap l:=by
 have bC:=h.lt;obtain⟨h1,cur,hg,h2,h3⟩:=h;exact⟨h1,cur,(hb.block g bC).trans hg,h2,h3⟩
theorem qv0.push{W:World}{g cap:Nat}{l:List BA}{s:BA}(h:qv0 W g cap l)(hk:l.length<cap):
  ∃cur:Array Value,W.heap[g]? = some (.cells cur 30 (0,0))∧l.length*1+1≤cur.size∧
   qv0 (W.setRow g (cur.toList.take l.length++[Value.string s]++cur.toList.drop (l.length+1)).toArray) g cap (l++[s])∧
   ∀B,B≤g→Below B W (W.setRow g (cur.toList.take l.length++[Value.string s]++cur.toList.drop (l.length+1)).toArray):=by
 obtain⟨h1,cur,hg,h2,h4⟩:=h;have hfit':l.length+1≤cur.toList.length:=by rw[show cur.toList.length=cur.size from Array.length_toList,h2];exact hk
 have aE:(cur.toList.take l.length).length=l.length:=by rw[List.length_take];omega
 refine⟨cur,hg,by rw[h2];omega,⟨by rw[List.length_append,List.length_singleton];exact hk,_,setRow_heap W g cur _ _ _ hg, ?_, ?_⟩,fun B hB=>⟨rfl,rfl,rfl,by simp[World.setRow],fun k hk=>setRow_other W g k _ (by omega)⟩⟩
 ·simp only[List.size_toArray,List.length_append,aE,List.length_cons,List.length_nil,List.length_drop,Array.length_toList]
  omega
 ·intro j q' hq'
  rcases Nat.lt_or_ge j l.length with hj|hj
  ·rw[List.getElem?_append_left hj] at hq'
   rw[List.append_assoc,List.getElem?_append_left (by rw[aE];exact hj),List.getElem?_take_of_lt hj];exact h4 j q' hq'
  ·have hj':j=l.length:=by
    have:=(List.getElem?_eq_some_iff.1 hq').1;rw[List.length_append] at this;simp at this;omega
   subst hj'
   have Ba:q'=s:=by
    rw[List.getElem?_append_right (qac _),Nat.sub_self] at hq'
    simpa using hq'.symm
   subst Ba;rw[List.append_assoc,List.getElem?_append_right (by rw[aE];exact qac _),aE,Nat.sub_self];rfl
theorem qv0.get{W:World}{g cap:Nat}{l:List BA}(h:qv0 W g cap l)(j:Nat)(s:BA)(hs:l[j]? = some s):W.cell? ⟨g,j,none⟩=some (.string s):=by
 obtain⟨_,cur,hg,_,h4⟩:=h;rw[cell_of_row W g _ cur _ (0,0) hg,←Array.getElem?_toList];exact h4 j s hs
theorem q2o(n:Nat)(hn:n≤1048576)(w:World):
  (Instr.makeSlice 114 (.int .i64 0) (.int .i64 (n:Int))).run Tryz.prog w = .ok (.slice (some ⟨w.heap.size,0,none⟩) 0 n) (w.alloc (.cells (madeCells #[.string ⟨#[]⟩] n) 30)):=by
 obtain⟨i0,hi,cP,dV,eF⟩:=info_parts (show(Tryz.prog.info? 30).map (fun i=>(i.zero,i.size,i.bytes))=some (some (.string ⟨#[]⟩),1,16) by kernel_rfl);have h:=run_make (P:=Tryz.prog) w 114 30 i0 _ Tryz.underlying114 hi cP .i64 .i64 0 (n:Int) (Int.le_refl _) (by omega) (by rw[eF];omega) (by omega);rw[dV] at h
 simpa [Value.cells] using h
def qhn(W:World)(b o:Nat)(qs:List Rat):Prop:=
 ∀(j:Nat) (q:Rat),qs[j]? = some q→∃sg p1 k1 c1 p2 k2 c2,W.cell? ⟨b,o+j*3,none⟩=some (.bool sg)∧W.cell? ⟨b,o+j*3+1,none⟩=some (.slice p1 k1 c1)∧W.cell? ⟨b,o+j*3+2,none⟩=some (.slice p2 k2 c2)∧qaw W (.agg #[.bool sg,.slice p1 k1 c1,.slice p2 k2 c2]) q
def q2p(qs:List Rat)(w:World)(e:Ending)(w':World):Prop:=
 (if qai (qs.map qgi)=0 then ∃g,e = .returned (.tuple #[.slice (some ⟨g,0,none⟩) qs.length qs.length,.int .i64 0])∧qv0 w' g qs.length (qs.map qcz)
  else e = .returned (.tuple #[.slice none 0 0,.int .i64 (qai (qs.map qgi))]))∧Below w.heap.size w w'
theorem q2q{qs:List Rat}{w w':World}{k:Nat}{e:Ending}(h:qai (qs.map qgi)=k)(hk:k≠0)(he:e = .returned (.tuple #[.slice none 0 0,.int .i64 (k:Int)]))(hb:Below w.heap.size w w'):q2p qs w e w':=by
 unfold q2p;rw[if_neg (by omega),h];exact⟨he,hb⟩
theorem qzn{qs:List Rat}{w w':World}{g:Nat}{e:Ending}(h:qai (qs.map qgi)=0)(he:e = .returned (.tuple #[.slice (some ⟨g,0,none⟩) qs.length qs.length,.int .i64 0]))(hv:qv0 w' g qs.length (qs.map qcz))(hb:Below w.heap.size w w'):q2p qs w e w':=by
 unfold q2p;rw[if_pos h];exact⟨⟨g,he,hv⟩,hb⟩
theorem qzo(qs:List Rat)(b o c:Nat)(w:World)(aB:qhn w b o qs)(hl:qs.length≤1048576)(hs:∀q ∈ qs,rs q≤Cap):
  Calls Tryz.prog 104 #[.slice (some ⟨b,o,none⟩) qs.length c,.func (.func 42) #[] #[]] w (q2p qs w):=by
 have bP:=hid aB;have HS:=hid hs;have kX:=q2o qs.length hl;obtain⟨i0,hi,cP,dV,eF⟩:=info_parts (show(Tryz.prog.info? 30).map (fun i=>(i.zero,i.size,i.bytes))=some (some (.string ⟨#[]⟩),1,16) by kernel_rfl);have HI:=hid hi;clear aB hs hi cP eF;go_enter Tryz.func104,Tryz.ntmps104;go_wp2_with fail;clear kX;have gJ:=hid (qzm w qs.length);have dU:Hid (Below w.heap.size w (w.alloc (.cells (madeCells #[.string ⟨#[]⟩] qs.length) 30))):=hid (qad _ _);generalize w.alloc (.cells (madeCells #[.string ⟨#[]⟩] qs.length) 30)=w0 at *
 go_loopw [6,16] (fun r i wr=>∃k:Nat,k≤qs.length∧i = .int .i64 k∧r = .slice (some ⟨w.heap.size,0,none⟩) k qs.length∧Hid (qv0 wr w.heap.size qs.length ((qs.take k).map qcz))∧Hid (qai ((qs.take k).map qgi)=0)∧Hid (Below w.heap.size w wr)) (fun _ i _=>qs.length-(intOf i).toNat)
 case atStart=>exact⟨0,Nat.zero_le _,rfl,rfl,gJ,hid rfl,dU⟩
 case round=>
  obtain⟨k,hk,rfl,rfl,HN,HE,HB⟩:=hrel;clear gJ dU;by_cases cQ:k<qs.length
  ·obtain⟨q,sC⟩:∃q,qs[k]? = some q:=⟨qs[k],qat cQ⟩
   obtain⟨sg,p1,k1,c1,p2,k2,c2,e0,e1,e2,hv⟩:=bP.out k q sC;have fA:wr.cell? ⟨b,o+k*3,none⟩=some (.bool sg):=by rw[HB.out.cell (qaf w _ e0)];exact e0
   have bO:wr.cell? ⟨b,o+k*3+1,none⟩=some (.slice p1 k1 c1):=by rw[HB.out.cell (qaf w _ e1)];exact e1
   have bJ:wr.cell? ⟨b,o+k*3+2,none⟩=some (.slice p2 k2 c2):=by rw[HB.out.cell (qaf w _ e2)];exact e2
   obtain⟨aD,gG⟩:=qvy wr sg (.slice p1 k1 c1) (.slice p2 k2 c2);obtain⟨x0,x1,x2⟩:=qbs gG;have Aq:=hid ((qjc _ q (wr.alloc (.cells #[.bool sg,.slice p1 k1 c1,.slice p2 k2 c2] 85)) ((hv.later HB.out).later aD) (HS.out q (qbj sC))).mono fun e w' h=>qmt h);have dK:=hid aD;have oE:=hid sC;clear e0 e1 e2 hv aD gG sC;by_cases hc:qgi q=0
   ·have gB:=hid (qhl qgi oE.out HE.out hc)
    rw[hc] at Aq
    have jU:((qs.take k).map qcz)++[qcz q]=(qs.take (k+1)).map qcz:=by
     rw[qbp oE.out,List.map_append];rfl
    have vJ:=hid jU;have gT:((qs.take k).map qcz).length=k:=by rw[List.length_map,List.length_take];omega
    clear HE hc jU;generalize qcz q=tx at *;generalize ((qs.take k).map qcz)=txs at *;have dI:=hid (HN.out.later dK.out);have aP:=hid (HB.out.trans (dK.out.mono HB.out.size));clear HN HB dK;go_wp2_with fail;refine Aq.out.mono ?_;rintro e w1 ⟨rfl,hb⟩;have fX:=hid (dI.out.later hb);have aK:=hid (aP.out.trans (hb.mono aP.out.size));have bL:Below w1.heap.size w1 (w1.alloc (.cells #[.string tx] 30)):=qad _ _;obtain⟨cur,dX,bM,bZ,bI⟩:=(fX.out.later bL).push (s:=tx) (by rw[gT];exact cQ);have iD:=heap_alloc_new w1 (.cells #[.string tx] 30);rw[gT] at bM bZ bI;simp only[List.append_assoc,List.cons_append,List.nil_append] at bZ bI;have bV:=hid bZ;have aG:=hid (aK.out.trans ((bL.mono aK.out.size).trans (bI w.heap.size (qac _))));have kE:=hid dX;have jL:=hid iD;have dF:=hid bM;clear hb bL dX bM bZ bI iD dI aP fX aK gT Aq x0 x1 x2 fA bO bJ;go_wp2_with (at_builtin;refine qbu _ rfl _ _ 114 rfl 30 i0 1 Tryz.underlying114 HI.out dV w.heap.size k qs.length cur rfl kE.out ⟨w1.heap.size,0,none⟩ 1 1 [.string tx] rfl rfl (World.news_of_block jL.out) ?lQ (by omega) dF.out ?_)
    case lQ=>
     intro u hu;simp only[List.mem_cons,List.not_mem_nil,or_false] at hu;rcases hu with rfl
     rfl
    go_wp2_with fail;go_roundw
    case rel=>exact⟨k+1,cQ,by go_num,rfl,hid (by rw[←vJ.out];exact bV.out),gB,aG⟩
    case measure=>simp[intOf];omega
   ·have HF:=hid (qjg qgi oE.out HE.out hc)
    clear HE;generalize qgi q=ck at *;generalize qcz q=tx at *;have nE:((ck:Int)==0)=false:=qan (by omega);have eY:=hid hc;clear hc;go_wp2_with fail;refine Aq.out.mono ?_;rintro e w1 ⟨rfl,hb⟩;have aP:=hid (HB.out.trans ((dK.out.trans (hb.mono dK.out.size)).mono HB.out.size));clear hb HB Aq x0 x1 x2 fA bO bJ;go_wp2_with fail;go_ret2;exact q2q HF.out eY.out rfl aP.out
  ·obtain rfl:k=qs.length:=by omega
   have hE:=HE.out;have hN:=HN.out;rw[List.take_length] at hE hN;have HE':=hid hE;have HN':=hid hN;clear hE hN HE HN;go_wp2_with fail;go_ret2;exact qzn HE'.out rfl HN'.out HB.out
def qe8(lo hi:Rat)(w:World)(e:Ending)(w':World):Prop:=
 (if qai [qgi lo,qgi hi]=0 then e = .returned (.tuple #[.agg #[.string (qcz lo),.string (qcz hi)],.int .i64 0])
  else e = .returned (.tuple #[.agg #[.string ⟨#[]⟩,.string ⟨#[]⟩],.int .i64 (qai [qgi lo,qgi hi])]))∧Below w.heap.size w w'
theorem qjh{lo hi:Rat}{w w':World}{e:Ending}(h:qe8 lo hi w e w'):∃(t1 t2:BA) (ec:Int),e = .returned (.tuple #[.agg #[.string t1,.string t2],.int .i64 ec])∧qe8 lo hi w (.returned (.tuple #[.agg #[.string t1,.string t2],.int .i64 ec])) w':=by
 have h0:=h;obtain⟨h1,h2⟩:=h;split at h1
 ·exact⟨_,_,_,h1,by rw[←h1];exact h0⟩
 ·exact⟨_,_,_,h1,by rw[←h1];exact h0⟩
def q9e(w:World)(b:Bool)(t m:Value)(b':Bool)(t' m':Value)(W:World):Prop:=
 Below w.heap.size w W∧Own W w.heap.size 6 (qkr b t m b' t' m')∧Own W (w.heap.size+1) 2 (qvs (.string ⟨#[]⟩) (.string ⟨#[]⟩))
theorem q9e.later{w W W':World}{b:Bool}{t m:Value}{b':Bool}{t' m':Value}(h:q9e w b t m b' t' m' W)(hb:Below W.heap.size W W'):q9e w b t m b' t' m' W':=
 ⟨h.1.trans (hb.mono h.1.size),h.2.1.later (hb.mono h.2.1.1),h.2.2.later (hb.mono h.2.2.1)⟩
theorem q5z(w:World)(b:Bool)(t m:Value)(b':Bool)(t' m':Value)(t1 t2:TypeId):q9e w b t m b' t' m' ((w.alloc (.cells #[.bool b,t,m,.bool b',t',m'] t1)).alloc (.cells #[.string ⟨#[]⟩,.string ⟨#[]⟩] t2)):=by
 have h1:Below w.heap.size w (w.alloc (.cells #[.bool b,t,m,.bool b',t',m'] t1)):=qad _ _;have h2:=qks w b t m b' t' m' t1;have h3:=qd2 (w.alloc (.cells #[.bool b,t,m,.bool b',t',m'] t1)) t2 (.string ⟨#[]⟩) (.string ⟨#[]⟩);rw[qab] at h3;exact⟨h1.alloc (by rw[qab];omega) _,h2.later ((qaa _ _).alloc (by rw[qab];omega) _),h3⟩
theorem qia{W:World}{g:Nat}{a b:Value}(h:Own W g 2 (qvs a b)):(W.cell? ⟨g,0,none⟩=some a∧W.frozen? ⟨g,0,none⟩=false)∧(W.cell? ⟨g,1,none⟩=some b∧W.frozen? ⟨g,1,none⟩=false):=
 ⟨h.2 0 (by omega),h.2 1 (by omega)⟩
theorem qzp{W:World}{b:Bool}{p1:Option Addr}{k1 c1:Nat}{p2:Option Addr}{k2 c2:Nat}{b':Bool}{p1':Option Addr}{k1' c1':Nat}{p2':Option Addr}{k2' c2':Nat}{lo hi:Rat}(ty:TypeId)
  (h1:qaw W (.agg #[.bool b,.slice p1 k1 c1,.slice p2 k2 c2]) lo) (h2:qaw W (.agg #[.bool b',.slice p1' k1' c1',.slice p2' k2' c2']) hi):
  qhn (W.alloc (.cells #[.bool b,.slice p1 k1 c1,.slice p2 k2 c2,.bool b',.slice p1' k1' c1',.slice p2' k2' c2'] ty)) W.heap.size 0 [lo,hi]:=by
 have aD:Below W.heap.size W (W.alloc (.cells #[.bool b,.slice p1 k1 c1,.slice p2 k2 c2,.bool b',.slice p1' k1' c1',.slice p2' k2' c2'] ty)):=qad _ _;intro j q hq
 match j,hq with
 | 0,hq=>
  cases hq
  refine⟨b,p1,k1,c1,p2,k2,c2, ?_, ?_, ?_,h1.later aD⟩<;>(rw[World.cell?_alloc_at _ _ _ _ rfl];rfl)
 | 1,hq=>
  cases hq
  refine⟨b',p1',k1',c1',p2',k2',c2', ?_, ?_, ?_,h2.later aD⟩<;>(rw[World.cell?_alloc_at _ _ _ _ rfl];rfl)
theorem q50{w W:World}{b:Bool}{p1:Option Addr}{k1 c1:Nat}{p2:Option Addr}{k2 c2:Nat}{b':Bool}{p1':Option Addr}{k1' c1':Nat}{p2':Option Addr}{k2' c2':Nat}{lo hi:Rat}(hW:q9e w b (.slice p1 k1 c1) (.slice p2 k2 c2) b' (.slice p1' k1' c1') (.slice p2' k2' c2') W)(hs:W.heap.size=w.heap.size+1+1)
  (h1:qaw w (.agg #[.bool b,.slice p1 k1 c1,.slice p2 k2 c2]) lo) (h2:qaw w (.agg #[.bool b',.slice p1' k1' c1',.slice p2' k2' c2']) hi) (r1:rs lo≤Cap) (r2:rs hi≤Cap):
  Calls Tryz.prog 104 #[.slice (some ⟨w.heap.size+1+1,0,none⟩) 2 2,.func (.func 42) #[] #[]] (W.alloc (.cells #[.bool b,.slice p1 k1 c1,.slice p2 k2 c2,.bool b',.slice p1' k1' c1',.slice p2' k2' c2'] 85))
   (fun e w'=>(if qai [qgi lo,qgi hi]=0 then ∃g,e = .returned (.tuple #[.slice (some ⟨g,0,none⟩) 2 2,.int .i64 0])∧qv0 w' g 2 [qcz lo,qcz hi]
    else e = .returned (.tuple #[.slice none 0 0,.int .i64 (qai [qgi lo,qgi hi])]))∧q9e w b (.slice p1 k1 c1) (.slice p2 k2 c2) b' (.slice p1' k1' c1') (.slice p2' k2' c2') w'):=by
 rw[←hs];have aD:Below W.heap.size W (W.alloc (.cells #[.bool b,.slice p1 k1 c1,.slice p2 k2 c2,.bool b',.slice p1' k1' c1',.slice p2' k2' c2'] 85)):=qad _ _
 refine(qzo [lo,hi] W.heap.size 0 2 _ (qzp _ (h1.later hW.1) (h2.later hW.1)) (by simp) (by
  intro q hq;simp only[List.mem_cons,List.not_mem_nil,or_false] at hq
  rcases hq with rfl|rfl<;>assumption)).mono ?_
 intro e w' h;exact⟨h.1,hW.later (aD.trans (h.2.mono (by rw[qab];omega)))⟩
theorem qln(v:Value)(lo hi:Rat)(w:World)(hv:qgo w v lo hi)(r1:rs lo≤Cap)(r2:rs hi≤Cap):
  Calls Tryz.prog 54 #[v] w (qe8 lo hi w):=by
 obtain⟨b,p1,k1,c1,p2,k2,c2,b',p1',k1',c1',p2',k2',c2',rfl,n1,n2⟩:=hv;have aO:=hid (q5z w b (.slice p1 k1 c1) (.slice p2 k2 c2) b' (.slice p1' k1' c1') (.slice p2' k2' c2') 101 47);have dG:=q2n w (.cells #[.bool b,.slice p1 k1 c1,.slice p2 k2 c2,.bool b',.slice p1' k1' c1',.slice p2' k2' c2'] 101) (.cells #[.string ⟨#[]⟩,.string ⟨#[]⟩] 47);have zJ:=hid (q50 aO.out dG n1 n2 r1 r2);obtain⟨⟨s0,_⟩,⟨s1,_⟩,⟨s2,_⟩,⟨s3,_⟩,⟨s4,_⟩,⟨s5,_⟩⟩:=qd3 aO.out.2.1;by_cases h0:qai [qgi lo,qgi hi]=0
 ·have aF:Hid (∀w',Below w.heap.size w w'→qe8 lo hi w (.returned (.tuple #[.agg #[.string (qcz lo),.string (qcz hi)],.int .i64 0])) w'):=hid fun w' h=>by
   unfold qe8;rw[if_pos h0];exact⟨rfl,h⟩
  simp only[if_pos h0] at zJ;clear dG aO n1 n2 r1 r2 h0;generalize qcz lo=x1 at *;generalize qcz hi=x2 at *;go_enter Tryz.func54,Tryz.ntmps54;go_wp2_with fail;clear s0 s1 s2 s3 s4 s5;refine zJ.out.mono ?_;rintro e w1 ⟨⟨g,rfl,hs⟩,hw⟩;have e1:=hs.get 0 x1 rfl;have e2:=hs.get 1 x2 rfl;have Bh:=hid hw;obtain⟨⟨z0,y0⟩,⟨z1,y1⟩⟩:=qia hw.2.2;have HB:=hid ((hw.1.setCell (p:=⟨w.heap.size+1,0,none⟩) (by show w.heap.size≤w.heap.size+1;omega) (.string x1)).setCell (p:=⟨w.heap.size+1,1,none⟩) (by show w.heap.size≤w.heap.size+1;omega) (.string x2));clear hs hw zJ;go_wp2_with fail
  go_region
  go_wp2_with fail;refine bodyPost_ret (v := .tuple #[.agg #[.string x1,.string x2],.int .i64 0]) ?_ rfl ?_
  ·simp[results,Tryz.results54,go_sem,z0,z1]
  ·exact aF.out _ HB.out.drew
 ·have aF:Hid (∀w',Below w.heap.size w w'→qe8 lo hi w (.returned (.tuple #[.agg #[.string ⟨#[]⟩,.string ⟨#[]⟩],.int .i64 (qai [qgi lo,qgi hi]:Nat)])) w'):=hid fun w' h=>by
   unfold qe8;rw[if_neg h0];exact⟨rfl,h⟩
  simp only[if_neg h0] at zJ;have eE:((qai [qgi lo,qgi hi]:Int)==0)=false:=qan (by omega);clear dG aO n1 n2 r1 r2 h0;generalize qai [qgi lo,qgi hi]=ck at *;go_enter Tryz.func54,Tryz.ntmps54;go_wp2_with fail;clear s0 s1 s2 s3 s4 s5;refine zJ.out.mono ?_;rintro e w1 ⟨rfl,hw⟩;obtain⟨⟨z0,y0⟩,⟨z1,y1⟩⟩:=qia hw.2.2;have HB:=hid ((hw.1.setCell (p:=⟨w.heap.size+1,0,none⟩) (by show w.heap.size≤w.heap.size+1;omega) (.string ⟨#[]⟩)).setCell (p:=⟨w.heap.size+1,1,none⟩) (by show w.heap.size≤w.heap.size+1;omega) (.string ⟨#[]⟩));clear hw zJ;go_wp2_with fail;refine bodyPost_ret (v := .tuple #[.agg #[.string ⟨#[]⟩,.string ⟨#[]⟩],.int .i64 ck]) ?_ rfl ?_
  ·simp[results,Tryz.results54,go_sem,z0,z1]
  ·exact aF.out _ HB.out
end Go.Proofs.YtmcfcpgglfimjaaGreatDoor
