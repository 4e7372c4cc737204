/- readSpan: the two numbers of a span. -/
import Derived.Test.YtlkdlffhmakbgaaGreatDoorMRounded
set_option linter.all false
namespace Go.Proofs.YtlkdlffhmakbgaaGreatDoor
open Go.RowKit
set_option maxRecDepth 100000
set_option maxHeartbeats 4000000
def qkn(b:Bool)(t m:Value)(b':Bool)(t' m':Value)(i:Nat):Value:=
 if i=0 then .bool b else if i=1 then t else if i=2 then m else if i=3 then .bool b' else if i=4 then t' else m'
theorem qko(w:World)(b:Bool)(t m:Value)(b':Bool)(t' m':Value)(ty:TypeId):Own (w.alloc (.cells #[.bool b,t,m,.bool b',t',m'] ty)) w.heap.size 6 (qkn b t m b' t' m'):=by
 refine⟨by rw[qab];omega,fun i hi => ?_⟩;rw[World.cell?_alloc_at _ _ _ _ rfl,World.frozen?_alloc_at _ _ _ _ rfl]
 match i,hi with
 | 0,_=>exact⟨rfl,rfl⟩
 | 1,_=>exact⟨rfl,rfl⟩
 | 2,_=>exact⟨rfl,rfl⟩
 | 3,_=>exact⟨rfl,rfl⟩
 | 4,_=>exact⟨rfl,rfl⟩
 | 5,_=>exact⟨rfl,rfl⟩
theorem qd4{W:World}{g:Nat}{b:Bool}{t m:Value}{b':Bool}{t' m':Value}(h:Own W g 6 (qkn b t m b' t' m')):
  (W.cell? ⟨g,0,none⟩=some (.bool b)∧W.frozen? ⟨g,0,none⟩=false)∧(W.cell? ⟨g,1,none⟩=some t∧W.frozen? ⟨g,1,none⟩=false)∧(W.cell? ⟨g,2,none⟩=some m∧W.frozen? ⟨g,2,none⟩=false)∧
  (W.cell? ⟨g,3,none⟩=some (.bool b')∧W.frozen? ⟨g,3,none⟩=false)∧(W.cell? ⟨g,4,none⟩=some t'∧W.frozen? ⟨g,4,none⟩=false)∧(W.cell? ⟨g,5,none⟩=some m'∧W.frozen? ⟨g,5,none⟩=false):=
 ⟨h.2 0 (by omega),h.2 1 (by omega),h.2 2 (by omega),h.2 3 (by omega),h.2 4 (by omega),h.2 5 (by omega)⟩
theorem qhg{W:World}{g:Nat}(ho:Own W g 6 (qkn false (.slice none 0 0) (.slice none 0 0) false (.slice none 0 0) (.slice none 0 0)))(x0 x1 x2 x3 x4 x5:Value):
  (∀v q,qau W v q→qau ((((((W.setCell ⟨g,0,none⟩ x0).setCell ⟨g,1,none⟩ x1).setCell ⟨g,2,none⟩ x2).setCell ⟨g,3,none⟩ x3).setCell ⟨g,4,none⟩ x4).setCell ⟨g,5,none⟩ x5) v q)∧
  (∀B w0,B≤g→Below B w0 W→Below B w0 ((((((W.setCell ⟨g,0,none⟩ x0).setCell ⟨g,1,none⟩ x1).setCell ⟨g,2,none⟩ x2).setCell ⟨g,3,none⟩ x3).setCell ⟨g,4,none⟩ x4).setCell ⟨g,5,none⟩ x5)):=by
 have o1:=ho.set 0 (by omega) x0;have o2:=o1.set 1 (by omega) x1;have o3:=o2.set 2 (by omega) x2;have o4:=o3.set 3 (by omega) x3;have o5:=o4.set 4 (by omega) x4;constructor
 ·intro v q h
  have h1:=qbp h ho 0 (by omega) (by intro k z e;cases e) x0;have h2:=qbp h1 o1 1 (by omega) (by intro k z e;cases e) x1;have h3:=qbp h2 o2 2 (by omega) (by intro k z e;cases e) x2;have h4:=qbp h3 o3 3 (by omega) (by intro k z e;cases e) x3;have h5:=qbp h4 o4 4 (by omega) (by intro k z e;cases e) x4;exact qbp h5 o5 5 (by omega) (by intro k z e;cases e) x5
 ·intro B w0 hB hb
  exact((((((hb.setCell (p:=⟨g,0,none⟩) hB x0).setCell (p:=⟨g,1,none⟩) hB x1).setCell (p:=⟨g,2,none⟩) hB x2).setCell (p:=⟨g,3,none⟩) hB x3).setCell (p:=⟨g,4,none⟩) hB x4).setCell (p:=⟨g,5,none⟩) hB x5)
def qj9(lo hi:BA):Nat:=
 if qaj [qah lo.data.toList,qah hi.data.toList]≠0 then qaj [qah lo.data.toList,qah hi.data.toList]
 else if 0<qfe (qbc lo.data.toList) (qbc hi.data.toList) then 11 else 0
def qo3:Value := .agg #[.bool false,.slice none 0 0,.slice none 0 0,.bool false,.slice none 0 0,.slice none 0 0]
def qgl(w:World)(v:Value)(lo hi:Rat):Prop:=
 ∃b p1 k1 c1 p2 k2 c2 b' p1' k1' c1' p2' k2' c2',v = .agg #[.bool b,.slice p1 k1 c1,.slice p2 k2 c2,.bool b',.slice p1' k1' c1',.slice p2' k2' c2']∧
  qau w (.agg #[.bool b,.slice p1 k1 c1,.slice p2 k2 c2]) lo∧qau w (.agg #[.bool b',.slice p1' k1' c1',.slice p2' k2' c2']) hi
theorem qgl.later{w w':World}{v:Value}{lo hi:Rat}(h:qgl w v lo hi)(hb:Below w.heap.size w w'):qgl w' v lo hi:=by
 obtain⟨b,p1,k1,c1,p2,k2,c2,b',p1',k1',c1',p2',k2',c2',e,h1,h2⟩:=h;exact⟨b,p1,k1,c1,p2,k2,c2,b',p1',k1',c1',p2',k2',c2',e,h1.later hb,h2.later hb⟩
def qlk(lo hi:BA)(w:World)(e:Ending)(w':World):Prop:=
 (if qj9 lo hi=0 then ∃v,e = .returned (.tuple #[v,.int .i64 0])∧qgl w' v (qbc lo.data.toList) (qbc hi.data.toList)
  else e = .returned (.tuple #[qo3,.int .i64 (qj9 lo hi)]))∧Below w.heap.size w w'
def q6r(w:World)(lo hi:BA)(W:World):Prop:=
 Below w.heap.size w W∧Own W w.heap.size 2 (qu8 (.string lo) (.string hi))∧Own W (w.heap.size+1) 6 (qkn false (.slice none 0 0) (.slice none 0 0) false (.slice none 0 0) (.slice none 0 0))
theorem q6r.later{w W W':World}{lo hi:BA}(h:q6r w lo hi W)(hb:Below W.heap.size W W'):q6r w lo hi W':=
 ⟨h.1.trans (hb.mono h.1.size),h.2.1.later (hb.mono h.2.1.1),h.2.2.later (hb.mono h.2.2.1)⟩
theorem q5f(w:World)(lo hi:BA)(t1 t2:TypeId):q6r w lo hi ((w.alloc (.cells #[.string lo,.string hi] t1)).alloc (.cells #[.bool false,.slice none 0 0,.slice none 0 0,.bool false,.slice none 0 0,.slice none 0 0] t2)):=by
 have h1:Below w.heap.size w (w.alloc (.cells #[.string lo,.string hi] t1)):=qad _ _;have h2:=qd3 w t1 (.string lo) (.string hi);have h3:=qko (w.alloc (.cells #[.string lo,.string hi] t1)) false (.slice none 0 0) (.slice none 0 0) false (.slice none 0 0) (.slice none 0 0) t2;rw[qab] at h3;exact⟨h1.alloc (by rw[qab];omega) _,h2.later ((qaa _ _).alloc (by rw[qab];omega) _),h3⟩
theorem q1p(w:World)(o1 o2:Obj):((w.alloc o1).alloc o2).heap.size=w.heap.size+1+1:=by
 rw[qab,qab]
theorem q7r{w W:World}{lo hi:BA}(hW:q6r w lo hi W)(hs:W.heap.size=w.heap.size+1+1)(hg:GW w)(fO:lo.size≤1073741824)(sF:hi.size≤1073741824)(h0:qaj [qah lo.data.toList,qah hi.data.toList]=0):
  Calls Tryz.prog 61 #[.slice (some ⟨w.heap.size+1+1,0,none⟩) 2 2,.func (.func 45) #[] #[]] (W.alloc (.cells #[.string lo,.string hi] 39))
   (fun e w'=>(∃g,e = .returned (.tuple #[.slice (some ⟨g,0,none⟩) 2 2,.int .i64 0])∧qjv w' g 2 [qbc lo.data.toList,qbc hi.data.toList])∧q6r w lo hi w'):=by
 rw[←hs];exact(q5e (qxc lo hi W (hg.later hW.1) fO sF _) h0).mono fun e w' ⟨h1,h2⟩=>⟨h1,hW.later h2⟩
theorem q9n{w W:World}{lo hi:BA}(hW:q6r w lo hi W)(hs:W.heap.size=w.heap.size+1+1)(hg:GW w)(fO:lo.size≤1073741824)(sF:hi.size≤1073741824)(h0:qaj [qah lo.data.toList,qah hi.data.toList]≠0):
  Calls Tryz.prog 61 #[.slice (some ⟨w.heap.size+1+1,0,none⟩) 2 2,.func (.func 45) #[] #[]] (W.alloc (.cells #[.string lo,.string hi] 39))
   (fun e w'=>e = .returned (.tuple #[.slice none 0 0,.int .i64 (qaj [qah lo.data.toList,qah hi.data.toList]:Nat)])∧q6r w lo hi w'):=by
 rw[←hs];exact(q7q (qxc lo hi W (hg.later hW.1) fO sF _) h0).mono fun e w' ⟨h1,h2⟩=>⟨h1,hW.later h2⟩
theorem qti(lo hi:BA)(w:World)(hg:GW w)(fO:lo.size≤1073741824)(sF:hi.size≤1073741824):
  Calls Tryz.prog 104 #[.agg #[.string lo,.string hi]] w (qlk lo hi w):=by
 have aM:=hid (q5f w lo hi 46 103);have dK:=q1p w (.cells #[.string lo,.string hi] 46) (.cells #[.bool false,.slice none 0 0,.slice none 0 0,.bool false,.slice none 0 0,.slice none 0 0] 103);obtain⟨s0,s1⟩:=qaq aM.out.2.1;by_cases h0:qaj [qah lo.data.toList,qah hi.data.toList]=0
 ·obtain⟨hcx,hcy⟩:=qmu h0
  have gU:=qim hcx;have hby:=qim hcy;have HRG:=hid (q7r aM.out dK hg fO sF h0)
  have Jd:Hid (∀W va vb,qau W va (qbc lo.data.toList)→qau W vb (qbc hi.data.toList)→Calls Tryz.prog 51 #[va,vb] W fun e w'=>e = .returned (.int .i64 (qfe (qbc lo.data.toList) (qbc hi.data.toList)))∧Below W.heap.size W w'):=
   hid fun W va vb uQ tN=>qdq va vb _ _ W uQ tN (by have:=gU.rs;have:=hby.rs;unfold Cap;omega)
  by_cases kJ:0<qfe (qbc lo.data.toList) (qbc hi.data.toList)
  ·have aF:Hid (∀w',Below w.heap.size w w'→qlk lo hi w (.returned (.tuple #[qo3,.int .i64 11])) w'):=hid fun w' h=>by
    have e:qj9 lo hi=11:=by unfold qj9;rw[if_neg (by omega),if_pos kJ]
    unfold qlk;rw[e];exact⟨rfl,h⟩
   clear hg fO sF h0 hcx hcy gU hby dK aM;generalize qfe (qbc lo.data.toList) (qbc hi.data.toList)=r at *;generalize qbc lo.data.toList=qx at *;generalize qbc hi.data.toList=qy at *;go_enter Tryz.func104,Tryz.ntmps104;go_wp2_with fail;clear s0 s1;refine HRG.out.mono ?_;rintro e w1 ⟨⟨g,rfl,hn⟩,dO⟩;obtain⟨b,p1,k1,c1,p2,k2,c2,b',p1',k1',c1',p2',k2',c2',uR,uQ,tN⟩:=qxd hn;have Dn:=hid uR;have Ab:=uR w1 (qaa _ _);have bT:Below w1.heap.size w1 w1.drew:=(qaa _ _).drew;have fB:=hid (Jd.out w1.drew _ _ (uQ.later bT) (tN.later bT));have dN:=hid dO;have mF:=hid uQ;have qW:=hid tN;clear hn dO uR uQ tN bT HRG Jd;obtain⟨r0,r1,r2,r3,r4,r5⟩:=id Ab;go_wp2_with fail
   go_region_held3 (fun W=>W.cell? ⟨g,0,none⟩=some (.bool b)∧W.cell? ⟨g,1,none⟩=some (.slice p1 k1 c1)∧W.cell? ⟨g,2,none⟩=some (.slice p2 k2 c2)∧W.cell? ⟨g,3,none⟩=some (.bool b')∧W.cell? ⟨g,4,none⟩=some (.slice p1' k1' c1')∧W.cell? ⟨g,5,none⟩=some (.slice p2' k2' c2')) (first|with_reducible exact Dn.out _ jQ.out|exact Ab)
    (first|(go_at_call 51;refine fB.out.mono ?_;rintro e w2 ⟨rfl,aR⟩;have jQ:Hid (Below w1.heap.size w1 w2):=hid ((qaa _ _).drew.trans aR);clear aR))
   all_goals
    have cL:=hid (dN.out.later jQ.out);obtain⟨⟨z0,y0⟩,⟨z1,y1⟩,⟨z2,y2⟩,⟨z3,y3⟩,⟨z4,y4⟩,⟨z5,y5⟩⟩:=qd4 cL.out.2.2;have HB:=hid ((qhg cL.out.2.2 (.bool false) (.slice none 0 0) (.slice none 0 0) (.bool false) (.slice none 0 0) (.slice none 0 0)).2 w.heap.size w (by omega) cL.out.1);go_wp2_with fail;refine bodyPost_ret (v := .tuple #[qo3,.int .i64 11]) ?_ rfl ?_
    ·simp[qo3,results,Tryz.results104,go_sem,z0,z1,z2,z3,z4,z5]
    ·exact aF.out _ HB.out
  ·have aF:Hid (∀w' v,qgl w' v (qbc lo.data.toList) (qbc hi.data.toList)→Below w.heap.size w w'→qlk lo hi w (.returned (.tuple #[v,.int .i64 0])) w'):=hid fun w' v n h=>by
    have e:qj9 lo hi=0:=by unfold qj9;rw[if_neg (by omega),if_neg kJ]
    unfold qlk;rw[if_pos e];exact⟨⟨v,rfl,n⟩,h⟩
   clear hg fO sF h0 hcx hcy gU hby dK aM;generalize qfe (qbc lo.data.toList) (qbc hi.data.toList)=r at *;generalize qbc lo.data.toList=qx at *;generalize qbc hi.data.toList=qy at *;go_enter Tryz.func104,Tryz.ntmps104;go_wp2_with fail;clear s0 s1;refine HRG.out.mono ?_;rintro e w1 ⟨⟨g,rfl,hn⟩,dO⟩;obtain⟨b,p1,k1,c1,p2,k2,c2,b',p1',k1',c1',p2',k2',c2',uR,uQ,tN⟩:=qxd hn;have Dn:=hid uR;have Ab:=uR w1 (qaa _ _);have bT:Below w1.heap.size w1 w1.drew:=(qaa _ _).drew;have fB:=hid (Jd.out w1.drew _ _ (uQ.later bT) (tN.later bT));have dN:=hid dO;have mF:=hid uQ;have qW:=hid tN;clear hn dO uR uQ tN bT HRG Jd;obtain⟨r0,r1,r2,r3,r4,r5⟩:=id Ab;go_wp2_with fail
   go_region_held3 (fun W=>W.cell? ⟨g,0,none⟩=some (.bool b)∧W.cell? ⟨g,1,none⟩=some (.slice p1 k1 c1)∧W.cell? ⟨g,2,none⟩=some (.slice p2 k2 c2)∧W.cell? ⟨g,3,none⟩=some (.bool b')∧W.cell? ⟨g,4,none⟩=some (.slice p1' k1' c1')∧W.cell? ⟨g,5,none⟩=some (.slice p2' k2' c2')) (first|with_reducible exact Dn.out _ jQ.out|exact Ab)
    (first|(go_at_call 51;refine fB.out.mono ?_;rintro e w2 ⟨rfl,aR⟩;have jQ:Hid (Below w1.heap.size w1 w2):=hid ((qaa _ _).drew.trans aR);clear aR))
   all_goals
    have cL:=hid (dN.out.later jQ.out);obtain⟨⟨z0,y0⟩,⟨z1,y1⟩,⟨z2,y2⟩,⟨z3,y3⟩,⟨z4,y4⟩,⟨z5,y5⟩⟩:=qd4 cL.out.2.2;obtain⟨t0,t1,t2,t3,t4,t5⟩:=Dn.out w2 jQ.out;have jT:=qhg cL.out.2.2 (.bool b) (.slice p1 k1 c1) (.slice p2 k2 c2) (.bool b') (.slice p1' k1' c1') (.slice p2' k2' c2');have dH:=hid (jT.1 _ _ (mF.out.later jQ.out));have gI:=hid (jT.1 _ _ (qW.out.later jQ.out));have HB:=hid (jT.2 w.heap.size w (by omega) cL.out.1);clear jT;go_wp2_with fail
    go_region
    go_wp2_with fail;refine bodyPost_ret (v := .tuple #[.agg #[.bool b,.slice p1 k1 c1,.slice p2 k2 c2,.bool b',.slice p1' k1' c1',.slice p2' k2' c2'],.int .i64 0]) ?_ rfl ?_
    ·simp[results,Tryz.results104,go_sem,z0,z1,z2,z3,z4,z5]
    ·exact aF.out _ _ ⟨_,_,_,_,_,_,_,_,_,_,_,_,_,_,rfl,dH.out.later (qaa _ _).drew,gI.out.later (qaa _ _).drew⟩ HB.out.drew
 ·have qG:=hid (q9n aM.out dK hg fO sF h0)
  have aF:Hid (∀w',Below w.heap.size w w'→qlk lo hi w (.returned (.tuple #[qo3,.int .i64 (qaj [qah lo.data.toList,qah hi.data.toList]:Nat)])) w'):=hid fun w' h=>by
   have e:qj9 lo hi=qaj [qah lo.data.toList,qah hi.data.toList]:=by unfold qj9;rw[if_pos h0]
   unfold qlk;rw[e,if_neg h0];exact⟨rfl,h⟩
  have dS:((qaj [qah lo.data.toList,qah hi.data.toList]:Int)==0)=false:=qam (by omega);clear hg fO sF h0 dK aM;generalize qaj [qah lo.data.toList,qah hi.data.toList]=c at *;go_enter Tryz.func104,Tryz.ntmps104;go_wp2_with fail;clear s0 s1;refine qG.out.mono ?_;rintro e w2 ⟨rfl,dO⟩;have cL:=hid dO;clear dO qG;obtain⟨⟨z0,y0⟩,⟨z1,y1⟩,⟨z2,y2⟩,⟨z3,y3⟩,⟨z4,y4⟩,⟨z5,y5⟩⟩:=qd4 cL.out.2.2;have HB:=hid ((qhg cL.out.2.2 (.bool false) (.slice none 0 0) (.slice none 0 0) (.bool false) (.slice none 0 0) (.slice none 0 0)).2 w.heap.size w (by omega) cL.out.1);go_wp2_with fail;refine bodyPost_ret (v := .tuple #[qo3,.int .i64 c]) ?_ rfl ?_
  ·simp[qo3,results,Tryz.results104,go_sem,z0,z1,z2,z3,z4,z5]
  ·exact aF.out _ HB.out
def qc7(q:Rat):BA:=if qby q 600 then⟨(qa2 q).toArray⟩ else⟨#[]⟩
def qgf(q:Rat):Nat:=if qby q 600 then 0 else 4
theorem qmv{q:Rat}{w w':World}{e:Ending}(h:qmq q w e w'):e = .returned (.tuple #[.string (qc7 q),.int .i64 (qgf q:Nat)])∧Below w.heap.size w w':=by
 obtain⟨h1,h2⟩:=h;refine⟨?_,h2⟩;rw[h1];unfold qc7 qgf;cases qby q 600<;>rfl
def qvg(W:World)(g cap:Nat)(l:List BA):Prop:=
 l.length≤cap∧∃cur:Array Value,W.heap[g]? = some (.cells cur 39 (0,0))∧cur.size=cap∧∀(j:Nat) (s:BA),l[j]? = some s→cur.toList[j]? = some (.string s)
theorem qzb(w:World)(cap:Nat):qvg (w.alloc (.cells (madeCells #[.string ⟨#[]⟩] cap) 39)) w.heap.size cap []:=
 ⟨Nat.zero_le _,_,heap_alloc_new w _,size_madeCells _ _,fun j q h=>by simp at h⟩
theorem qvg.lt{W:World}{g cap:Nat}{l:List BA}(h:qvg W g cap l):g<W.heap.size:=by
 obtain⟨_,cur,hg,_⟩:=h;rcases Nat.lt_or_ge g W.heap.size with h1|h1
 ·exact h1
 ·rw[Array.getElem?_eq_none h1] at hg;cases hg
theorem qvg.later{W W':World}{g cap:Nat}{l:List BA}(h:qvg W g cap l)(hb:Below W.heap.size W W'):qvg W' g cap l:=by
 have aY:=h.lt;obtain⟨h1,cur,hg,h2,h3⟩:=h;exact⟨h1,cur,(hb.block g aY).trans hg,h2,h3⟩
theorem qvg.push{W:World}{g cap:Nat}{l:List BA}{s:BA}(h:qvg W g cap l)(hk:l.length<cap):
  ∃cur:Array Value,W.heap[g]? = some (.cells cur 39 (0,0))∧l.length*1+1≤cur.size∧
   qvg (W.setRow g (cur.toList.take l.length++[Value.string s]++cur.toList.drop (l.length+1)).toArray) g cap (l++[s])∧
   ∀B,B≤g→Below B W (W.setRow g (cur.toList.take l.length++[Value.string s]++cur.toList.drop (l.length+1)).toArray):=by
 obtain⟨h1,cur,hg,h2,h4⟩:=h;have hfit':l.length+1≤cur.toList.length:=by rw[show cur.toList.length=cur.size from Array.length_toList,h2];exact hk
 have aE:(cur.toList.take l.length).length=l.length:=by rw[List.length_take];omega
 refine⟨cur,hg,by rw[h2];omega,⟨by rw[List.length_append,List.length_singleton];exact hk,_,setRow_heap W g cur _ _ _ hg, ?_, ?_⟩,fun B hB=>⟨rfl,rfl,rfl,by simp[World.setRow],fun k hk=>setRow_other W g k _ (by omega)⟩⟩
 ·simp only[List.size_toArray,List.length_append,aE,List.length_cons,List.length_nil,List.length_drop,Array.length_toList]
  omega
 ·intro j q' hq'
  rcases Nat.lt_or_ge j l.length with hj|hj
  ·rw[List.getElem?_append_left hj] at hq'
   rw[List.append_assoc,List.getElem?_append_left (by rw[aE];exact hj),List.getElem?_take_of_lt hj];exact h4 j q' hq'
  ·have hj':j=l.length:=by
    have:=(List.getElem?_eq_some_iff.1 hq').1;rw[List.length_append] at this;simp at this;omega
   subst hj'
   have Cm:q'=s:=by
    rw[List.getElem?_append_right (qac _),Nat.sub_self] at hq'
    simpa using hq'.symm
   subst Cm;rw[List.append_assoc,List.getElem?_append_right (by rw[aE];exact qac _),aE,Nat.sub_self];rfl
theorem qvg.get{W:World}{g cap:Nat}{l:List BA}(h:qvg W g cap l)(j:Nat)(s:BA)(hs:l[j]? = some s):W.cell? ⟨g,j,none⟩=some (.string s):=by
 obtain⟨_,cur,hg,_,h4⟩:=h;rw[cell_of_row W g _ cur _ (0,0) hg,←Array.getElem?_toList];exact h4 j s hs
theorem q1q(n:Nat)(hn:n≤1048576)(w:World):
  (Instr.makeSlice 115 (.int .i64 0) (.int .i64 (n:Int))).run Tryz.prog w = .ok (.slice (some ⟨w.heap.size,0,none⟩) 0 n) (w.alloc (.cells (madeCells #[.string ⟨#[]⟩] n) 39)):=by
 obtain⟨i0,hi,cU,eE,eK⟩:=info_parts (show(Tryz.prog.info? 39).map (fun i=>(i.zero,i.size,i.bytes))=some (some (.string ⟨#[]⟩),1,16) by kernel_rfl);have h:=run_make (P:=Tryz.prog) w 115 39 i0 _ Tryz.underlying115 hi cU .i64 .i64 0 (n:Int) (Int.le_refl _) (by omega) (by rw[eK];omega) (by omega);rw[eE] at h
 simpa [Value.cells] using h
def qhh(W:World)(b o:Nat)(qs:List Rat):Prop:=
 ∀(j:Nat) (q:Rat),qs[j]? = some q→∃sg p1 k1 c1 p2 k2 c2,W.cell? ⟨b,o+j*3,none⟩=some (.bool sg)∧W.cell? ⟨b,o+j*3+1,none⟩=some (.slice p1 k1 c1)∧W.cell? ⟨b,o+j*3+2,none⟩=some (.slice p2 k2 c2)∧qau W (.agg #[.bool sg,.slice p1 k1 c1,.slice p2 k2 c2]) q
def q1r(qs:List Rat)(w:World)(e:Ending)(w':World):Prop:=
 (if qaj (qs.map qgf)=0 then ∃g,e = .returned (.tuple #[.slice (some ⟨g,0,none⟩) qs.length qs.length,.int .i64 0])∧qvg w' g qs.length (qs.map qc7)
  else e = .returned (.tuple #[.slice none 0 0,.int .i64 (qaj (qs.map qgf))]))∧Below w.heap.size w w'
theorem q1s{qs:List Rat}{w w':World}{k:Nat}{e:Ending}(h:qaj (qs.map qgf)=k)(hk:k≠0)(he:e = .returned (.tuple #[.slice none 0 0,.int .i64 (k:Int)]))(hb:Below w.heap.size w w'):q1r qs w e w':=by
 unfold q1r;rw[if_neg (by omega),h];exact⟨he,hb⟩
theorem qzc{qs:List Rat}{w w':World}{g:Nat}{e:Ending}(h:qaj (qs.map qgf)=0)(he:e = .returned (.tuple #[.slice (some ⟨g,0,none⟩) qs.length qs.length,.int .i64 0]))(hv:qvg w' g qs.length (qs.map qc7))(hb:Below w.heap.size w w'):q1r qs w e w':=by
 unfold q1r;rw[if_pos h];exact⟨⟨g,he,hv⟩,hb⟩
theorem qzd(qs:List Rat)(b o c:Nat)(w:World)(aB:qhh w b o qs)(hl:qs.length≤1048576)(hs:∀q ∈ qs,rs q≤Cap):
  Calls Tryz.prog 113 #[.slice (some ⟨b,o,none⟩) qs.length c,.func (.func 44) #[] #[]] w (q1r qs w):=by
 have bL:=hid aB;have HS:=hid hs;have lO:=q1q qs.length hl;obtain⟨i0,hi,cU,eE,eK⟩:=info_parts (show(Tryz.prog.info? 39).map (fun i=>(i.zero,i.size,i.bytes))=some (some (.string ⟨#[]⟩),1,16) by kernel_rfl);have HI:=hid hi;clear aB hs hi cU eK;go_enter Tryz.func113,Tryz.ntmps113;go_wp2_with fail;clear lO;have hU:=hid (qzb w qs.length);have dM:Hid (Below w.heap.size w (w.alloc (.cells (madeCells #[.string ⟨#[]⟩] qs.length) 39))):=hid (qad _ _);generalize w.alloc (.cells (madeCells #[.string ⟨#[]⟩] qs.length) 39)=w0 at *
 go_loopw [6,16] (fun r i wr=>∃k:Nat,k≤qs.length∧i = .int .i64 k∧r = .slice (some ⟨w.heap.size,0,none⟩) k qs.length∧Hid (qvg wr w.heap.size qs.length ((qs.take k).map qc7))∧Hid (qaj ((qs.take k).map qgf)=0)∧Hid (Below w.heap.size w wr)) (fun _ i _=>qs.length-(intOf i).toNat)
 case atStart=>exact⟨0,Nat.zero_le _,rfl,rfl,hU,hid rfl,dM⟩
 case round=>
  obtain⟨k,hk,rfl,rfl,HN,HE,HB⟩:=hrel;clear hU dM;by_cases cT:k<qs.length
  ·obtain⟨q,sT⟩:∃q,qs[k]? = some q:=⟨qs[k],qap cT⟩
   obtain⟨sg,p1,k1,c1,p2,k2,c2,e0,e1,e2,hv⟩:=bL.out k q sT;have eY:wr.cell? ⟨b,o+k*3,none⟩=some (.bool sg):=by rw[HB.out.cell (qae w _ e0)];exact e0
   have bO:wr.cell? ⟨b,o+k*3+1,none⟩=some (.slice p1 k1 c1):=by rw[HB.out.cell (qae w _ e1)];exact e1
   have bG:wr.cell? ⟨b,o+k*3+2,none⟩=some (.slice p2 k2 c2):=by rw[HB.out.cell (qae w _ e2)];exact e2
   obtain⟨aD,gU⟩:=qve wr sg (.slice p1 k1 c1) (.slice p2 k2 c2);obtain⟨x0,x1,x2⟩:=qbt gU;have Bt:=hid ((qi6 _ q (wr.alloc (.cells #[.bool sg,.slice p1 k1 c1,.slice p2 k2 c2] 87)) ((hv.later HB.out).later aD) (HS.out q (qbh sT))).mono fun e w' h=>qmv h);have cX:=hid aD;have oZ:=hid sT;clear e0 e1 e2 hv aD gU sT;by_cases hc:qgf q=0
   ·have gN:=hid (qhf qgf oZ.out HE.out hc)
    rw[hc] at Bt
    have iU:((qs.take k).map qc7)++[qc7 q]=(qs.take (k+1)).map qc7:=by
     rw[qbl oZ.out,List.map_append];rfl
    have xN:=hid iU;have iG:((qs.take k).map qc7).length=k:=by rw[List.length_map,List.length_take];omega
    clear HE hc iU;generalize qc7 q=tx at *;generalize ((qs.take k).map qc7)=txs at *;have dH:=hid (HN.out.later cX.out);have aP:=hid (HB.out.trans (cX.out.mono HB.out.size));clear HN HB cX;go_wp2_with fail;refine Bt.out.mono ?_;rintro e w1 ⟨rfl,hb⟩;have gI:=hid (dH.out.later hb);have aK:=hid (aP.out.trans (hb.mono aP.out.size));have bP:Below w1.heap.size w1 (w1.alloc (.cells #[.string tx] 39)):=qad _ _;obtain⟨cur,eH,bU,cG,bK⟩:=(gI.out.later bP).push (s:=tx) (by rw[iG];exact cT);have gO:=heap_alloc_new w1 (.cells #[.string tx] 39);rw[iG] at bU cG bK;simp only[List.append_assoc,List.cons_append,List.nil_append] at cG bK;have bY:=hid cG;have aG:=hid (aK.out.trans ((bP.mono aK.out.size).trans (bK w.heap.size (qac _))));have kT:=hid eH;have kA:=hid gO;have dJ:=hid bU;clear hb bP eH bU cG bK gO dH aP gI aK iG Bt x0 x1 x2 eY bO bG;go_wp2_with (at_builtin;refine qbw _ rfl _ _ 115 rfl 39 i0 1 Tryz.underlying115 HI.out eE w.heap.size k qs.length cur rfl kT.out ⟨w1.heap.size,0,none⟩ 1 1 [.string tx] rfl rfl (World.news_of_block kA.out) ?mK (by omega) dJ.out ?_)
    case mK=>
     intro u hu;simp only[List.mem_cons,List.not_mem_nil,or_false] at hu;rcases hu with rfl
     rfl
    go_wp2_with fail;go_roundw
    case rel=>exact⟨k+1,cT,by go_num,rfl,hid (by rw[←xN.out];exact bY.out),gN,aG⟩
    case measure=>simp[intOf];omega
   ·have HF:=hid (qja qgf oZ.out HE.out hc)
    clear HE;generalize qgf q=ck at *;generalize qc7 q=tx at *;have lV:((ck:Int)==0)=false:=qam (by omega);have eX:=hid hc;clear hc;go_wp2_with fail;refine Bt.out.mono ?_;rintro e w1 ⟨rfl,hb⟩;have aP:=hid (HB.out.trans ((cX.out.trans (hb.mono cX.out.size)).mono HB.out.size));clear hb HB Bt x0 x1 x2 eY bO bG;go_wp2_with fail;go_ret2;exact q1s HF.out eX.out rfl aP.out
  ·obtain rfl:k=qs.length:=by omega
   have hE:=HE.out;have hN:=HN.out;rw[List.take_length] at hE hN;have HE':=hid hE;have HN':=hid hN;clear hE hN HE HN;go_wp2_with fail;go_ret2;exact qzc HE'.out rfl HN'.out HB.out
def qe9(lo hi:Rat)(w:World)(e:Ending)(w':World):Prop:=
 (if qaj [qgf lo,qgf hi]=0 then e = .returned (.tuple #[.agg #[.string (qc7 lo),.string (qc7 hi)],.int .i64 0])
  else e = .returned (.tuple #[.agg #[.string ⟨#[]⟩,.string ⟨#[]⟩],.int .i64 (qaj [qgf lo,qgf hi])]))∧Below w.heap.size w w'
theorem qjb{lo hi:Rat}{w w':World}{e:Ending}(h:qe9 lo hi w e w'):∃(t1 t2:BA) (ec:Int),e = .returned (.tuple #[.agg #[.string t1,.string t2],.int .i64 ec])∧qe9 lo hi w (.returned (.tuple #[.agg #[.string t1,.string t2],.int .i64 ec])) w':=by
 have h0:=h;obtain⟨h1,h2⟩:=h;split at h1
 ·exact⟨_,_,_,h1,by rw[←h1];exact h0⟩
 ·exact⟨_,_,_,h1,by rw[←h1];exact h0⟩
def q86(w:World)(b:Bool)(t m:Value)(b':Bool)(t' m':Value)(W:World):Prop:=
 Below w.heap.size w W∧Own W w.heap.size 6 (qkn b t m b' t' m')∧Own W (w.heap.size+1) 2 (qu8 (.string ⟨#[]⟩) (.string ⟨#[]⟩))
theorem q86.later{w W W':World}{b:Bool}{t m:Value}{b':Bool}{t' m':Value}(h:q86 w b t m b' t' m' W)(hb:Below W.heap.size W W'):q86 w b t m b' t' m' W':=
 ⟨h.1.trans (hb.mono h.1.size),h.2.1.later (hb.mono h.2.1.1),h.2.2.later (hb.mono h.2.2.1)⟩
theorem q5g(w:World)(b:Bool)(t m:Value)(b':Bool)(t' m':Value)(t1 t2:TypeId):q86 w b t m b' t' m' ((w.alloc (.cells #[.bool b,t,m,.bool b',t',m'] t1)).alloc (.cells #[.string ⟨#[]⟩,.string ⟨#[]⟩] t2)):=by
 have h1:Below w.heap.size w (w.alloc (.cells #[.bool b,t,m,.bool b',t',m'] t1)):=qad _ _;have h2:=qko w b t m b' t' m' t1;have h3:=qd3 (w.alloc (.cells #[.bool b,t,m,.bool b',t',m'] t1)) t2 (.string ⟨#[]⟩) (.string ⟨#[]⟩);rw[qab] at h3;exact⟨h1.alloc (by rw[qab];omega) _,h2.later ((qaa _ _).alloc (by rw[qab];omega) _),h3⟩
theorem qh4{W:World}{g:Nat}{a b:Value}(h:Own W g 2 (qu8 a b)):(W.cell? ⟨g,0,none⟩=some a∧W.frozen? ⟨g,0,none⟩=false)∧(W.cell? ⟨g,1,none⟩=some b∧W.frozen? ⟨g,1,none⟩=false):=
 ⟨h.2 0 (by omega),h.2 1 (by omega)⟩
theorem qze{W:World}{b:Bool}{p1:Option Addr}{k1 c1:Nat}{p2:Option Addr}{k2 c2:Nat}{b':Bool}{p1':Option Addr}{k1' c1':Nat}{p2':Option Addr}{k2' c2':Nat}{lo hi:Rat}(ty:TypeId)
  (h1:qau W (.agg #[.bool b,.slice p1 k1 c1,.slice p2 k2 c2]) lo) (h2:qau W (.agg #[.bool b',.slice p1' k1' c1',.slice p2' k2' c2']) hi):
  qhh (W.alloc (.cells #[.bool b,.slice p1 k1 c1,.slice p2 k2 c2,.bool b',.slice p1' k1' c1',.slice p2' k2' c2'] ty)) W.heap.size 0 [lo,hi]:=by
 have aD:Below W.heap.size W (W.alloc (.cells #[.bool b,.slice p1 k1 c1,.slice p2 k2 c2,.bool b',.slice p1' k1' c1',.slice p2' k2' c2'] ty)):=qad _ _;intro j q hq
 match j,hq with
 | 0,hq=>
  cases hq
  refine⟨b,p1,k1,c1,p2,k2,c2, ?_, ?_, ?_,h1.later aD⟩<;>(rw[World.cell?_alloc_at _ _ _ _ rfl];rfl)
 | 1,hq=>
  cases hq
  refine⟨b',p1',k1',c1',p2',k2',c2', ?_, ?_, ?_,h2.later aD⟩<;>(rw[World.cell?_alloc_at _ _ _ _ rfl];rfl)
theorem q5h{w W:World}{b:Bool}{p1:Option Addr}{k1 c1:Nat}{p2:Option Addr}{k2 c2:Nat}{b':Bool}{p1':Option Addr}{k1' c1':Nat}{p2':Option Addr}{k2' c2':Nat}{lo hi:Rat}(hW:q86 w b (.slice p1 k1 c1) (.slice p2 k2 c2) b' (.slice p1' k1' c1') (.slice p2' k2' c2') W)(hs:W.heap.size=w.heap.size+1+1)
  (h1:qau w (.agg #[.bool b,.slice p1 k1 c1,.slice p2 k2 c2]) lo) (h2:qau w (.agg #[.bool b',.slice p1' k1' c1',.slice p2' k2' c2']) hi) (r1:rs lo≤Cap) (r2:rs hi≤Cap):
  Calls Tryz.prog 113 #[.slice (some ⟨w.heap.size+1+1,0,none⟩) 2 2,.func (.func 44) #[] #[]] (W.alloc (.cells #[.bool b,.slice p1 k1 c1,.slice p2 k2 c2,.bool b',.slice p1' k1' c1',.slice p2' k2' c2'] 87))
   (fun e w'=>(if qaj [qgf lo,qgf hi]=0 then ∃g,e = .returned (.tuple #[.slice (some ⟨g,0,none⟩) 2 2,.int .i64 0])∧qvg w' g 2 [qc7 lo,qc7 hi]
    else e = .returned (.tuple #[.slice none 0 0,.int .i64 (qaj [qgf lo,qgf hi])]))∧q86 w b (.slice p1 k1 c1) (.slice p2 k2 c2) b' (.slice p1' k1' c1') (.slice p2' k2' c2') w'):=by
 rw[←hs];have aD:Below W.heap.size W (W.alloc (.cells #[.bool b,.slice p1 k1 c1,.slice p2 k2 c2,.bool b',.slice p1' k1' c1',.slice p2' k2' c2'] 87)):=qad _ _
 refine(qzd [lo,hi] W.heap.size 0 2 _ (qze _ (h1.later hW.1) (h2.later hW.1)) (by simp) (by
  intro q hq;simp only[List.mem_cons,List.not_mem_nil,or_false] at hq
  rcases hq with rfl|rfl<;>assumption)).mono ?_
 intro e w' h;exact⟨h.1,hW.later (aD.trans (h.2.mono (by rw[qab];omega)))⟩
theorem qll(v:Value)(lo hi:Rat)(w:World)(hv:qgl w v lo hi)(r1:rs lo≤Cap)(r2:rs hi≤Cap):
  Calls Tryz.prog 56 #[v] w (qe9 lo hi w):=by
 obtain⟨b,p1,k1,c1,p2,k2,c2,b',p1',k1',c1',p2',k2',c2',rfl,n1,n2⟩:=hv;have aM:=hid (q5g w b (.slice p1 k1 c1) (.slice p2 k2 c2) b' (.slice p1' k1' c1') (.slice p2' k2' c2') 103 46);have dK:=q1p w (.cells #[.bool b,.slice p1 k1 c1,.slice p2 k2 c2,.bool b',.slice p1' k1' c1',.slice p2' k2' c2'] 103) (.cells #[.string ⟨#[]⟩,.string ⟨#[]⟩] 46);have Ac:=hid (q5h aM.out dK n1 n2 r1 r2);obtain⟨⟨s0,_⟩,⟨s1,_⟩,⟨s2,_⟩,⟨s3,_⟩,⟨s4,_⟩,⟨s5,_⟩⟩:=qd4 aM.out.2.1;by_cases h0:qaj [qgf lo,qgf hi]=0
 ·have aF:Hid (∀w',Below w.heap.size w w'→qe9 lo hi w (.returned (.tuple #[.agg #[.string (qc7 lo),.string (qc7 hi)],.int .i64 0])) w'):=hid fun w' h=>by
   unfold qe9;rw[if_pos h0];exact⟨rfl,h⟩
  simp only[if_pos h0] at Ac;clear dK aM n1 n2 r1 r2 h0;generalize qc7 lo=x1 at *;generalize qc7 hi=x2 at *;go_enter Tryz.func56,Tryz.ntmps56;go_wp2_with fail;clear s0 s1 s2 s3 s4 s5;refine Ac.out.mono ?_;rintro e w1 ⟨⟨g,rfl,hs⟩,hw⟩;have e1:=hs.get 0 x1 rfl;have e2:=hs.get 1 x2 rfl;have Cp:=hid hw;obtain⟨⟨z0,y0⟩,⟨z1,y1⟩⟩:=qh4 hw.2.2;have HB:=hid ((hw.1.setCell (p:=⟨w.heap.size+1,0,none⟩) (by show w.heap.size≤w.heap.size+1;omega) (.string x1)).setCell (p:=⟨w.heap.size+1,1,none⟩) (by show w.heap.size≤w.heap.size+1;omega) (.string x2));clear hs hw Ac;go_wp2_with fail
  go_region
  go_wp2_with fail;refine bodyPost_ret (v := .tuple #[.agg #[.string x1,.string x2],.int .i64 0]) ?_ rfl ?_
  ·simp[results,Tryz.results56,go_sem,z0,z1]
  ·exact aF.out _ HB.out.drew
 ·have aF:Hid (∀w',Below w.heap.size w w'→qe9 lo hi w (.returned (.tuple #[.agg #[.string ⟨#[]⟩,.string ⟨#[]⟩],.int .i64 (qaj [qgf lo,qgf hi]:Nat)])) w'):=hid fun w' h=>by
   unfold qe9;rw[if_neg h0];exact⟨rfl,h⟩
  simp only[if_neg h0] at Ac;have dS:((qaj [qgf lo,qgf hi]:Int)==0)=false:=qam (by omega);clear dK aM n1 n2 r1 r2 h0;generalize qaj [qgf lo,qgf hi]=ck at *;go_enter Tryz.func56,Tryz.ntmps56;go_wp2_with fail;clear s0 s1 s2 s3 s4 s5;refine Ac.out.mono ?_;rintro e w1 ⟨rfl,hw⟩;obtain⟨⟨z0,y0⟩,⟨z1,y1⟩⟩:=qh4 hw.2.2;have HB:=hid ((hw.1.setCell (p:=⟨w.heap.size+1,0,none⟩) (by show w.heap.size≤w.heap.size+1;omega) (.string ⟨#[]⟩)).setCell (p:=⟨w.heap.size+1,1,none⟩) (by show w.heap.size≤w.heap.size+1;omega) (.string ⟨#[]⟩));clear hw Ac;go_wp2_with fail;refine bodyPost_ret (v := .tuple #[.agg #[.string ⟨#[]⟩,.string ⟨#[]⟩],.int .i64 ck]) ?_ rfl ?_
  ·simp[results,Tryz.results56,go_sem,z0,z1]
  ·exact aF.out _ HB.out
end Go.Proofs.YtlkdlffhmakbgaaGreatDoor
