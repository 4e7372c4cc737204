/- readSpan: the two numbers of a span. -/
import Derived.Test.YtclimablgihlhaaGreatDoorMRounded
set_option linter.all false
namespace Go.Proofs.YtclimablgihlhaaGreatDoor
open Go.RowKit
set_option maxRecDepth 100000
set_option maxHeartbeats 4000000
def qkh(b:Bool)(t m:Value)(b':Bool)(t' m':Value)(i:Nat):Value:=
 if i=0 then .bool b else if i=1 then t else if i=2 then m else if i=3 then .bool b' else if i=4 then t' else m'
theorem qki(w:World)(b:Bool)(t m:Value)(b':Bool)(t' m':Value)(ty:TypeId):Own (w.alloc (.cells #[.bool b,t,m,.bool b',t',m'] ty)) w.heap.size 6 (qkh b t m b' t' m'):=by
 refine⟨by rw[zao];omega,fun i hi => ?_⟩;rw[World.cell?_alloc_at _ _ _ _ rfl,World.frozen?_alloc_at _ _ _ _ rfl]
 match i,hi with
 | 0,_=>exact⟨rfl,rfl⟩
 | 1,_=>exact⟨rfl,rfl⟩
 | 2,_=>exact⟨rfl,rfl⟩
 | 3,_=>exact⟨rfl,rfl⟩
 | 4,_=>exact⟨rfl,rfl⟩
 | 5,_=>exact⟨rfl,rfl⟩
theorem qbl{W:World}{g:Nat}{b:Bool}{t m:Value}{b':Bool}{t' m':Value}(h:Own W g 6 (qkh b t m b' t' m')):
  (W.cell? ⟨g,0,none⟩=some (.bool b)∧W.frozen? ⟨g,0,none⟩=false)∧(W.cell? ⟨g,1,none⟩=some t∧W.frozen? ⟨g,1,none⟩=false)∧(W.cell? ⟨g,2,none⟩=some m∧W.frozen? ⟨g,2,none⟩=false)∧
  (W.cell? ⟨g,3,none⟩=some (.bool b')∧W.frozen? ⟨g,3,none⟩=false)∧(W.cell? ⟨g,4,none⟩=some t'∧W.frozen? ⟨g,4,none⟩=false)∧(W.cell? ⟨g,5,none⟩=some m'∧W.frozen? ⟨g,5,none⟩=false):=
 ⟨h.2 0 (by omega),h.2 1 (by omega),h.2 2 (by omega),h.2 3 (by omega),h.2 4 (by omega),h.2 5 (by omega)⟩
theorem qhk{W:World}{g:Nat}(ho:Own W g 6 (qkh false (.slice none 0 0) (.slice none 0 0) false (.slice none 0 0) (.slice none 0 0)))(x0 x1 x2 x3 x4 x5:Value):
  (∀v q,qaj W v q→qaj ((((((W.setCell ⟨g,0,none⟩ x0).setCell ⟨g,1,none⟩ x1).setCell ⟨g,2,none⟩ x2).setCell ⟨g,3,none⟩ x3).setCell ⟨g,4,none⟩ x4).setCell ⟨g,5,none⟩ x5) v q)∧
  (∀B w0,B≤g→Below B w0 W→Below B w0 ((((((W.setCell ⟨g,0,none⟩ x0).setCell ⟨g,1,none⟩ x1).setCell ⟨g,2,none⟩ x2).setCell ⟨g,3,none⟩ x3).setCell ⟨g,4,none⟩ x4).setCell ⟨g,5,none⟩ x5)):=by
 have o1:=ho.set 0 (by omega) x0;have o2:=o1.set 1 (by omega) x1;have o3:=o2.set 2 (by omega) x2;have o4:=o3.set 3 (by omega) x3;have o5:=o4.set 4 (by omega) x4;constructor
 ·intro v q h
  have h1:=qa7 h ho 0 (by omega) (by intro k z e;cases e) x0;have h2:=qa7 h1 o1 1 (by omega) (by intro k z e;cases e) x1;have h3:=qa7 h2 o2 2 (by omega) (by intro k z e;cases e) x2;have h4:=qa7 h3 o3 3 (by omega) (by intro k z e;cases e) x3;have h5:=qa7 h4 o4 4 (by omega) (by intro k z e;cases e) x4;exact qa7 h5 o5 5 (by omega) (by intro k z e;cases e) x5
 ·intro B w0 hB hb
  exact((((((hb.setCell (p:=⟨g,0,none⟩) hB x0).setCell (p:=⟨g,1,none⟩) hB x1).setCell (p:=⟨g,2,none⟩) hB x2).setCell (p:=⟨g,3,none⟩) hB x3).setCell (p:=⟨g,4,none⟩) hB x4).setCell (p:=⟨g,5,none⟩) hB x5)
def qc8(lo hi:BA):Nat:=
 if qac [qaa lo.data.toList,qaa hi.data.toList]≠0 then qac [qaa lo.data.toList,qaa hi.data.toList]
 else if 0<qcq (qav lo.data.toList) (qav hi.data.toList) then 11 else 0
def qo2:Value := .agg #[.bool false,.slice none 0 0,.slice none 0 0,.bool false,.slice none 0 0,.slice none 0 0]
def qgm(w:World)(v:Value)(lo hi:Rat):Prop:=
 ∃b p1 k1 c1 p2 k2 c2 b' p1' k1' c1' p2' k2' c2',v = .agg #[.bool b,.slice p1 k1 c1,.slice p2 k2 c2,.bool b',.slice p1' k1' c1',.slice p2' k2' c2']∧
  qaj w (.agg #[.bool b,.slice p1 k1 c1,.slice p2 k2 c2]) lo∧qaj w (.agg #[.bool b',.slice p1' k1' c1',.slice p2' k2' c2']) hi
theorem qgm.later{w w':World}{v:Value}{lo hi:Rat}(h:qgm w v lo hi)(hb:Below w.heap.size w w'):qgm w' v lo hi:=by
 obtain⟨b,p1,k1,c1,p2,k2,c2,b',p1',k1',c1',p2',k2',c2',e,h1,h2⟩:=h;exact⟨b,p1,k1,c1,p2,k2,c2,b',p1',k1',c1',p2',k2',c2',e,h1.later hb,h2.later hb⟩
def qll(lo hi:BA)(w:World)(e:Ending)(w':World):Prop:=
 (if qc8 lo hi=0 then ∃v,e = .returned (.tuple #[v,.int .i64 0])∧qgm w' v (qav lo.data.toList) (qav hi.data.toList)
  else e = .returned (.tuple #[qo2,.int .i64 (qc8 lo hi)]))∧Below w.heap.size w w'
def q6p(w:World)(lo hi:BA)(W:World):Prop:=
 Below w.heap.size w W∧Own W w.heap.size 2 (qko (.string lo) (.string hi))∧Own W (w.heap.size+1) 6 (qkh false (.slice none 0 0) (.slice none 0 0) false (.slice none 0 0) (.slice none 0 0))
theorem q6p.later{w W W':World}{lo hi:BA}(h:q6p w lo hi W)(hb:Below W.heap.size W W'):q6p w lo hi W':=
 ⟨h.1.trans (hb.mono h.1.size),h.2.1.later (hb.mono h.2.1.1),h.2.2.later (hb.mono h.2.2.1)⟩
theorem q42(w:World)(lo hi:BA)(t1 t2:TypeId):q6p w lo hi ((w.alloc (.cells #[.string lo,.string hi] t1)).alloc (.cells #[.bool false,.slice none 0 0,.slice none 0 0,.bool false,.slice none 0 0,.slice none 0 0] t2)):=by
 have h1:Below w.heap.size w (w.alloc (.cells #[.string lo,.string hi] t1)):=zam _ _;have h2:=qbg w t1 (.string lo) (.string hi);have h3:=qki (w.alloc (.cells #[.string lo,.string hi] t1)) false (.slice none 0 0) (.slice none 0 0) false (.slice none 0 0) (.slice none 0 0) t2;rw[zao] at h3;exact⟨h1.alloc (by rw[zao];omega) _,h2.later ((zan _ _).alloc (by rw[zao];omega) _),h3⟩
theorem q12(w:World)(o1 o2:Obj):((w.alloc o1).alloc o2).heap.size=w.heap.size+1+1:=by
 rw[zao,zao]
theorem q7w{w W:World}{lo hi:BA}(hW:q6p w lo hi W)(hs:W.heap.size=w.heap.size+1+1)(hg:GW w)(fW:lo.size≤1073741824)(tC:hi.size≤1073741824)(h0:qac [qaa lo.data.toList,qaa hi.data.toList]=0):
  Calls Tryz.prog 63 #[.slice (some ⟨w.heap.size+1+1,0,none⟩) 2 2,.func (.func 51) #[] #[]] (W.alloc (.cells #[.string lo,.string hi] 26))
   (fun e w'=>(∃g,e = .returned (.tuple #[.slice (some ⟨g,0,none⟩) 2 2,.int .i64 0])∧qjm w' g 2 [qav lo.data.toList,qav hi.data.toList])∧q6p w lo hi w'):=by
 rw[←hs];exact(q4n (qwt lo hi W (hg.later hW.1) fW tC _) h0).mono fun e w' ⟨h1,h2⟩=>⟨h1,hW.later h2⟩
theorem q9q{w W:World}{lo hi:BA}(hW:q6p w lo hi W)(hs:W.heap.size=w.heap.size+1+1)(hg:GW w)(fW:lo.size≤1073741824)(tC:hi.size≤1073741824)(h0:qac [qaa lo.data.toList,qaa hi.data.toList]≠0):
  Calls Tryz.prog 63 #[.slice (some ⟨w.heap.size+1+1,0,none⟩) 2 2,.func (.func 51) #[] #[]] (W.alloc (.cells #[.string lo,.string hi] 26))
   (fun e w'=>e = .returned (.tuple #[.slice none 0 0,.int .i64 (qac [qaa lo.data.toList,qaa hi.data.toList]:Nat)])∧q6p w lo hi w'):=by
 rw[←hs];exact(q7h (qwt lo hi W (hg.later hW.1) fW tC _) h0).mono fun e w' ⟨h1,h2⟩=>⟨h1,hW.later h2⟩
theorem qtn(lo hi:BA)(w:World)(hg:GW w)(fW:lo.size≤1073741824)(tC:hi.size≤1073741824):
  Calls Tryz.prog 68 #[.agg #[.string lo,.string hi]] w (qll lo hi w):=by
 have aO:=hid (q42 w lo hi 28 76);have dM:=q12 w (.cells #[.string lo,.string hi] 28) (.cells #[.bool false,.slice none 0 0,.slice none 0 0,.bool false,.slice none 0 0,.slice none 0 0] 76);obtain⟨s0,s1⟩:=qag aO.out.2.1;by_cases h0:qac [qaa lo.data.toList,qaa hi.data.toList]=0
 ·obtain⟨hcx,hcy⟩:=qjn h0
  have iB:=qib hcx;have hby:=qib hcy;have HRG:=hid (q7w aO.out dM hg fW tC h0)
  have Lz:Hid (∀W va vb,qaj W va (qav lo.data.toList)→qaj W vb (qav hi.data.toList)→Calls Tryz.prog 33 #[va,vb] W fun e w'=>e = .returned (.int .i64 (qcq (qav lo.data.toList) (qav hi.data.toList)))∧Below W.heap.size W w'):=
   hid fun W va vb xP uV=>qb5 va vb _ _ W xP uV (by have:=iB.rs;have:=hby.rs;unfold Cap;omega)
  by_cases nA:0<qcq (qav lo.data.toList) (qav hi.data.toList)
  ·have aG:Hid (∀w',Below w.heap.size w w'→qll lo hi w (.returned (.tuple #[qo2,.int .i64 11])) w'):=hid fun w' h=>by
    have e:qc8 lo hi=11:=by unfold qc8;rw[if_neg (by omega),if_pos nA]
    unfold qll;rw[e];exact⟨rfl,h⟩
   clear hg fW tC h0 hcx hcy iB hby dM aO;generalize qcq (qav lo.data.toList) (qav hi.data.toList)=r at *;generalize qav lo.data.toList=qx at *;generalize qav hi.data.toList=qy at *;go_enter Tryz.func68,Tryz.ntmps68;go_wp2_with fail;clear s0 s1;refine HRG.out.mono ?_;rintro e w1 ⟨⟨g,rfl,hn⟩,eW⟩;obtain⟨b,p1,k1,c1,p2,k2,c2,b',p1',k1',c1',p2',k2',c2',Do,xP,uV⟩:=qwu hn;have Fj:=hid Do;have Ch:=Do w1 (zan _ _);have bX:Below w1.heap.size w1 w1.drew:=(zan _ _).drew;have jS:=hid (Lz.out w1.drew _ _ (xP.later bX) (uV.later bX));have eH:=hid eW;have mN:=hid xP;have rL:=hid uV;clear hn eW Do xP uV bX HRG Lz;obtain⟨r0,r1,r2,r3,r4,r5⟩:=id Ch;go_wp2_with fail
   go_region_held3 (fun W=>W.cell? ⟨g,0,none⟩=some (.bool b)∧W.cell? ⟨g,1,none⟩=some (.slice p1 k1 c1)∧W.cell? ⟨g,2,none⟩=some (.slice p2 k2 c2)∧W.cell? ⟨g,3,none⟩=some (.bool b')∧W.cell? ⟨g,4,none⟩=some (.slice p1' k1' c1')∧W.cell? ⟨g,5,none⟩=some (.slice p2' k2' c2')) (first|with_reducible exact Fj.out _ kK.out|exact Ch)
    (first|(go_at_call 33;refine jS.out.mono ?_;rintro e w2 ⟨rfl,aT⟩;have kK:Hid (Below w1.heap.size w1 w2):=hid ((zan _ _).drew.trans aT);clear aT))
   all_goals
    have dE:=hid (eH.out.later kK.out);obtain⟨⟨z0,y0⟩,⟨z1,y1⟩,⟨z2,y2⟩,⟨z3,y3⟩,⟨z4,y4⟩,⟨z5,y5⟩⟩:=qbl dE.out.2.2;have HB:=hid ((qhk dE.out.2.2 (.bool false) (.slice none 0 0) (.slice none 0 0) (.bool false) (.slice none 0 0) (.slice none 0 0)).2 w.heap.size w (by omega) dE.out.1);go_wp2_with fail;refine bodyPost_ret (v := .tuple #[qo2,.int .i64 11]) ?_ rfl ?_
    ·simp[qo2,results,Tryz.results68,go_sem,z0,z1,z2,z3,z4,z5]
    ·exact aG.out _ HB.out
  ·have aG:Hid (∀w' v,qgm w' v (qav lo.data.toList) (qav hi.data.toList)→Below w.heap.size w w'→qll lo hi w (.returned (.tuple #[v,.int .i64 0])) w'):=hid fun w' v n h=>by
    have e:qc8 lo hi=0:=by unfold qc8;rw[if_neg (by omega),if_neg nA]
    unfold qll;rw[if_pos e];exact⟨⟨v,rfl,n⟩,h⟩
   clear hg fW tC h0 hcx hcy iB hby dM aO;generalize qcq (qav lo.data.toList) (qav hi.data.toList)=r at *;generalize qav lo.data.toList=qx at *;generalize qav hi.data.toList=qy at *;go_enter Tryz.func68,Tryz.ntmps68;go_wp2_with fail;clear s0 s1;refine HRG.out.mono ?_;rintro e w1 ⟨⟨g,rfl,hn⟩,eW⟩;obtain⟨b,p1,k1,c1,p2,k2,c2,b',p1',k1',c1',p2',k2',c2',Do,xP,uV⟩:=qwu hn;have Fj:=hid Do;have Ch:=Do w1 (zan _ _);have bX:Below w1.heap.size w1 w1.drew:=(zan _ _).drew;have jS:=hid (Lz.out w1.drew _ _ (xP.later bX) (uV.later bX));have eH:=hid eW;have mN:=hid xP;have rL:=hid uV;clear hn eW Do xP uV bX HRG Lz;obtain⟨r0,r1,r2,r3,r4,r5⟩:=id Ch;go_wp2_with fail
   go_region_held3 (fun W=>W.cell? ⟨g,0,none⟩=some (.bool b)∧W.cell? ⟨g,1,none⟩=some (.slice p1 k1 c1)∧W.cell? ⟨g,2,none⟩=some (.slice p2 k2 c2)∧W.cell? ⟨g,3,none⟩=some (.bool b')∧W.cell? ⟨g,4,none⟩=some (.slice p1' k1' c1')∧W.cell? ⟨g,5,none⟩=some (.slice p2' k2' c2')) (first|with_reducible exact Fj.out _ kK.out|exact Ch)
    (first|(go_at_call 33;refine jS.out.mono ?_;rintro e w2 ⟨rfl,aT⟩;have kK:Hid (Below w1.heap.size w1 w2):=hid ((zan _ _).drew.trans aT);clear aT))
   all_goals
    have dE:=hid (eH.out.later kK.out);obtain⟨⟨z0,y0⟩,⟨z1,y1⟩,⟨z2,y2⟩,⟨z3,y3⟩,⟨z4,y4⟩,⟨z5,y5⟩⟩:=qbl dE.out.2.2;obtain⟨t0,t1,t2,t3,t4,t5⟩:=Fj.out w2 kK.out;have kO:=qhk dE.out.2.2 (.bool b) (.slice p1 k1 c1) (.slice p2 k2 c2) (.bool b') (.slice p1' k1' c1') (.slice p2' k2' c2');have cX:=hid (kO.1 _ _ (mN.out.later kK.out));have fM:=hid (kO.1 _ _ (rL.out.later kK.out));have HB:=hid (kO.2 w.heap.size w (by omega) dE.out.1);clear kO;go_wp2_with fail
    go_region
    go_wp2_with fail;refine bodyPost_ret (v := .tuple #[.agg #[.bool b,.slice p1 k1 c1,.slice p2 k2 c2,.bool b',.slice p1' k1' c1',.slice p2' k2' c2'],.int .i64 0]) ?_ rfl ?_
    ·simp[results,Tryz.results68,go_sem,z0,z1,z2,z3,z4,z5]
    ·exact aG.out _ _ ⟨_,_,_,_,_,_,_,_,_,_,_,_,_,_,rfl,cX.out.later (zan _ _).drew,fM.out.later (zan _ _).drew⟩ HB.out.drew
 ·have qP:=hid (q9q aO.out dM hg fW tC h0)
  have aG:Hid (∀w',Below w.heap.size w w'→qll lo hi w (.returned (.tuple #[qo2,.int .i64 (qac [qaa lo.data.toList,qaa hi.data.toList]:Nat)])) w'):=hid fun w' h=>by
   have e:qc8 lo hi=qac [qaa lo.data.toList,qaa hi.data.toList]:=by unfold qc8;rw[if_pos h0]
   unfold qll;rw[e,if_neg h0];exact⟨rfl,h⟩
  have dL:((qac [qaa lo.data.toList,qaa hi.data.toList]:Int)==0)=false:=zat (by omega);clear hg fW tC h0 dM aO;generalize qac [qaa lo.data.toList,qaa hi.data.toList]=c at *;go_enter Tryz.func68,Tryz.ntmps68;go_wp2_with fail;clear s0 s1;refine qP.out.mono ?_;rintro e w2 ⟨rfl,eW⟩;have dE:=hid eW;clear eW qP;obtain⟨⟨z0,y0⟩,⟨z1,y1⟩,⟨z2,y2⟩,⟨z3,y3⟩,⟨z4,y4⟩,⟨z5,y5⟩⟩:=qbl dE.out.2.2;have HB:=hid ((qhk dE.out.2.2 (.bool false) (.slice none 0 0) (.slice none 0 0) (.bool false) (.slice none 0 0) (.slice none 0 0)).2 w.heap.size w (by omega) dE.out.1);go_wp2_with fail;refine bodyPost_ret (v := .tuple #[qo2,.int .i64 c]) ?_ rfl ?_
  ·simp[qo2,results,Tryz.results68,go_sem,z0,z1,z2,z3,z4,z5]
  ·exact aG.out _ HB.out
def qcw(q:Rat):BA:=if qa3 q 600 then⟨(qat q).toArray⟩ else⟨#[]⟩
def qfa(q:Rat):Nat:=if qa3 q 600 then 0 else 4
theorem qmj{q:Rat}{w w':World}{e:Ending}(h:qmb q w e w'):e = .returned (.tuple #[.string (qcw q),.int .i64 (qfa q:Nat)])∧Below w.heap.size w w':=by
 obtain⟨h1,h2⟩:=h;refine⟨?_,h2⟩;rw[h1];unfold qcw qfa;cases qa3 q 600<;>rfl
def qvl(W:World)(g cap:Nat)(l:List BA):Prop:=
 l.length≤cap∧∃cur:Array Value,W.heap[g]? = some (.cells cur 26 (0,0))∧cur.size=cap∧∀(j:Nat) (s:BA),l[j]? = some s→cur.toList[j]? = some (.string s)
theorem qyr(w:World)(cap:Nat):qvl (w.alloc (.cells (madeCells #[.string ⟨#[]⟩] cap) 26)) w.heap.size cap []:=
 ⟨Nat.zero_le _,_,heap_alloc_new w _,size_madeCells _ _,fun j q h=>by simp at h⟩
theorem qvl.lt{W:World}{g cap:Nat}{l:List BA}(h:qvl W g cap l):g<W.heap.size:=by
 obtain⟨_,cur,hg,_⟩:=h;rcases Nat.lt_or_ge g W.heap.size with h1|h1
 ·exact h1
 ·rw[Array.getElem?_eq_none h1] at hg;cases hg
theorem qvl.later{W W':World}{g cap:Nat}{l:List BA}(h:qvl W g cap l)(hb:Below W.heap.size W W'):qvl W' g cap l:=by
 have bI:=h.lt;obtain⟨h1,cur,hg,h2,h3⟩:=h;exact⟨h1,cur,(hb.block g bI).trans hg,h2,h3⟩
theorem qvl.push{W:World}{g cap:Nat}{l:List BA}{s:BA}(h:qvl W g cap l)(hk:l.length<cap):
  ∃cur:Array Value,W.heap[g]? = some (.cells cur 26 (0,0))∧l.length*1+1≤cur.size∧
   qvl (W.setRow g (cur.toList.take l.length++[Value.string s]++cur.toList.drop (l.length+1)).toArray) g cap (l++[s])∧
   ∀B,B≤g→Below B W (W.setRow g (cur.toList.take l.length++[Value.string s]++cur.toList.drop (l.length+1)).toArray):=by
 obtain⟨h1,cur,hg,h2,h4⟩:=h;have hfit':l.length+1≤cur.toList.length:=by rw[show cur.toList.length=cur.size from Array.length_toList,h2];exact hk
 have aF:(cur.toList.take l.length).length=l.length:=by rw[List.length_take];omega
 refine⟨cur,hg,by rw[h2];omega,⟨by rw[List.length_append,List.length_singleton];exact hk,_,setRow_heap W g cur _ _ _ hg, ?_, ?_⟩,fun B hB=>⟨rfl,rfl,rfl,by simp[World.setRow],fun k hk=>setRow_other W g k _ (by omega)⟩⟩
 ·simp only[List.size_toArray,List.length_append,aF,List.length_cons,List.length_nil,List.length_drop,Array.length_toList]
  omega
 ·intro j q' hq'
  rcases Nat.lt_or_ge j l.length with hj|hj
  ·rw[List.getElem?_append_left hj] at hq'
   rw[List.append_assoc,List.getElem?_append_left (by rw[aF];exact hj),List.getElem?_take_of_lt hj];exact h4 j q' hq'
  ·have hj':j=l.length:=by
    have:=(List.getElem?_eq_some_iff.1 hq').1;rw[List.length_append] at this;simp at this;omega
   subst hj'
   have oO:q'=s:=by
    rw[List.getElem?_append_right (zap _),Nat.sub_self] at hq'
    simpa using hq'.symm
   subst oO;rw[List.append_assoc,List.getElem?_append_right (by rw[aF];exact zap _),aF,Nat.sub_self];rfl
theorem qvl.get{W:World}{g cap:Nat}{l:List BA}(h:qvl W g cap l)(j:Nat)(s:BA)(hs:l[j]? = some s):W.cell? ⟨g,j,none⟩=some (.string s):=by
 obtain⟨_,cur,hg,_,h4⟩:=h;rw[cell_of_row W g _ cur _ (0,0) hg,←Array.getElem?_toList];exact h4 j s hs
theorem q13(n:Nat)(hn:n≤1048576)(w:World):
  (Instr.makeSlice 88 (.int .i64 0) (.int .i64 (n:Int))).run Tryz.prog w = .ok (.slice (some ⟨w.heap.size,0,none⟩) 0 n) (w.alloc (.cells (madeCells #[.string ⟨#[]⟩] n) 26)):=by
 obtain⟨i0,hi,cT,dT,dU⟩:=info_parts (show(Tryz.prog.info? 26).map (fun i=>(i.zero,i.size,i.bytes))=some (some (.string ⟨#[]⟩),1,16) by kernel_rfl);have h:=run_make (P:=Tryz.prog) w 88 26 i0 _ Tryz.underlying88 hi cT .i64 .i64 0 (n:Int) (Int.le_refl _) (by omega) (by rw[dU];omega) (by omega);rw[dT] at h
 simpa [Value.cells] using h
def qhl(W:World)(b o:Nat)(qs:List Rat):Prop:=
 ∀(j:Nat) (q:Rat),qs[j]? = some q→∃sg p1 k1 c1 p2 k2 c2,W.cell? ⟨b,o+j*3,none⟩=some (.bool sg)∧W.cell? ⟨b,o+j*3+1,none⟩=some (.slice p1 k1 c1)∧W.cell? ⟨b,o+j*3+2,none⟩=some (.slice p2 k2 c2)∧qaj W (.agg #[.bool sg,.slice p1 k1 c1,.slice p2 k2 c2]) q
def q14(qs:List Rat)(w:World)(e:Ending)(w':World):Prop:=
 (if qac (qs.map qfa)=0 then ∃g,e = .returned (.tuple #[.slice (some ⟨g,0,none⟩) qs.length qs.length,.int .i64 0])∧qvl w' g qs.length (qs.map qcw)
  else e = .returned (.tuple #[.slice none 0 0,.int .i64 (qac (qs.map qfa))]))∧Below w.heap.size w w'
theorem q15{qs:List Rat}{w w':World}{k:Nat}{e:Ending}(h:qac (qs.map qfa)=k)(hk:k≠0)(he:e = .returned (.tuple #[.slice none 0 0,.int .i64 (k:Int)]))(hb:Below w.heap.size w w'):q14 qs w e w':=by
 unfold q14;rw[if_neg (by omega),h];exact⟨he,hb⟩
theorem qys{qs:List Rat}{w w':World}{g:Nat}{e:Ending}(h:qac (qs.map qfa)=0)(he:e = .returned (.tuple #[.slice (some ⟨g,0,none⟩) qs.length qs.length,.int .i64 0]))(hv:qvl w' g qs.length (qs.map qcw))(hb:Below w.heap.size w w'):q14 qs w e w':=by
 unfold q14;rw[if_pos h];exact⟨⟨g,he,hv⟩,hb⟩
theorem qyt(qs:List Rat)(b o c:Nat)(w:World)(aB:qhl w b o qs)(hl:qs.length≤1048576)(hs:∀q ∈ qs,rs q≤Cap):
  Calls Tryz.prog 69 #[.slice (some ⟨b,o,none⟩) qs.length c,.func (.func 50) #[] #[]] w (q14 qs w):=by
 have bN:=hid aB;have HS:=hid hs;have lS:=q13 qs.length hl;obtain⟨i0,hi,cT,dT,dU⟩:=info_parts (show(Tryz.prog.info? 26).map (fun i=>(i.zero,i.size,i.bytes))=some (some (.string ⟨#[]⟩),1,16) by kernel_rfl);have HI:=hid hi;clear aB hs hi cT dU;go_enter Tryz.func69,Tryz.ntmps69;go_wp2_with fail;clear lS;have gE:=hid (qyr w qs.length);have eY:Hid (Below w.heap.size w (w.alloc (.cells (madeCells #[.string ⟨#[]⟩] qs.length) 26))):=hid (zam _ _);generalize w.alloc (.cells (madeCells #[.string ⟨#[]⟩] qs.length) 26)=w0 at *
 go_loopw [6,16] (fun r i wr=>∃k:Nat,k≤qs.length∧i = .int .i64 k∧r = .slice (some ⟨w.heap.size,0,none⟩) k qs.length∧Hid (qvl wr w.heap.size qs.length ((qs.take k).map qcw))∧Hid (qac ((qs.take k).map qfa)=0)∧Hid (Below w.heap.size w wr)) (fun _ i _=>qs.length-(intOf i).toNat)
 case atStart=>exact⟨0,Nat.zero_le _,rfl,rfl,gE,hid rfl,eY⟩
 case round=>
  obtain⟨k,hk,rfl,rfl,HN,HE,HB⟩:=hrel;clear gE eY;by_cases cV:k<qs.length
  ·obtain⟨q,qX⟩:∃q,qs[k]? = some q:=⟨qs[k],zau cV⟩
   obtain⟨sg,p1,k1,c1,p2,k2,c2,e0,e1,e2,hv⟩:=bN.out k q qX;have fC:wr.cell? ⟨b,o+k*3,none⟩=some (.bool sg):=by rw[HB.out.cell (zaq w _ e0)];exact e0
   have bP:wr.cell? ⟨b,o+k*3+1,none⟩=some (.slice p1 k1 c1):=by rw[HB.out.cell (zaq w _ e1)];exact e1
   have bK:wr.cell? ⟨b,o+k*3+2,none⟩=some (.slice p2 k2 c2):=by rw[HB.out.cell (zaq w _ e2)];exact e2
   obtain⟨aD,iB⟩:=qu2 wr sg (.slice p1 k1 c1) (.slice p2 k2 c2);obtain⟨x0,x1,x2⟩:=qbe iB;have Dj:=hid ((qiv _ q (wr.alloc (.cells #[.bool sg,.slice p1 k1 c1,.slice p2 k2 c2] 74)) ((hv.later HB.out).later aD) (HS.out q (zax qX))).mono fun e w' h=>qmj h);have eI:=hid aD;have pI:=hid qX;clear e0 e1 e2 hv aD iB qX;by_cases hc:qfa q=0
   ·have jR:=hid (qhh qfa pI.out HE.out hc)
    rw[hc] at Dj
    have jQ:((qs.take k).map qcw)++[qcw q]=(qs.take (k+1)).map qcw:=by
     rw[qcm pI.out,List.map_append];rfl
    have yT:=hid jQ;have jB:((qs.take k).map qcw).length=k:=by rw[List.length_map,List.length_take];omega
    clear HE hc jQ;generalize qcw q=tx at *;generalize ((qs.take k).map qcw)=txs at *;have cX:=hid (HN.out.later eI.out);have aQ:=hid (HB.out.trans (eI.out.mono HB.out.size));clear HN HB eI;go_wp2_with fail;refine Dj.out.mono ?_;rintro e w1 ⟨rfl,hb⟩;have fM:=hid (cX.out.later hb);have aR:=hid (aQ.out.trans (hb.mono aQ.out.size));have bT:Below w1.heap.size w1 (w1.alloc (.cells #[.string tx] 26)):=zam _ _;obtain⟨cur,eJ,bZ,cK,bM⟩:=(fM.out.later bT).push (s:=tx) (by rw[jB];exact cV);have jI:=heap_alloc_new w1 (.cells #[.string tx] 26);rw[jB] at bZ cK bM;simp only[List.append_assoc,List.cons_append,List.nil_append] at cK bM;have cH:=hid cK;have aH:=hid (aR.out.trans ((bT.mono aR.out.size).trans (bM w.heap.size (zap _))));have lB:=hid eJ;have kU:=hid jI;have dQ:=hid bZ;clear hb bT eJ bZ cK bM jI cX aQ fM aR jB Dj x0 x1 x2 fC bP bK;go_wp2_with (at_builtin;refine qbi _ rfl _ _ 88 rfl 26 i0 1 Tryz.underlying88 HI.out dT w.heap.size k qs.length cur rfl lB.out ⟨w1.heap.size,0,none⟩ 1 1 [.string tx] rfl rfl (World.news_of_block kU.out) ?mT (by omega) dQ.out ?_)
    case mT=>
     intro u hu;simp only[List.mem_cons,List.not_mem_nil,or_false] at hu;rcases hu with rfl
     rfl
    go_wp2_with fail;go_roundw
    case rel=>exact⟨k+1,cV,by go_num,rfl,hid (by rw[←yT.out];exact cH.out),jR,aH⟩
    case measure=>simp[intOf];omega
   ·have HF:=hid (qiz qfa pI.out HE.out hc)
    clear HE;generalize qfa q=ck at *;generalize qcw q=tx at *;have oF:((ck:Int)==0)=false:=zat (by omega);have gN:=hid hc;clear hc;go_wp2_with fail;refine Dj.out.mono ?_;rintro e w1 ⟨rfl,hb⟩;have aQ:=hid (HB.out.trans ((eI.out.trans (hb.mono eI.out.size)).mono HB.out.size));clear hb HB Dj x0 x1 x2 fC bP bK;go_wp2_with fail;go_ret2;exact q15 HF.out gN.out rfl aQ.out
  ·obtain rfl:k=qs.length:=by omega
   have hE:=HE.out;have hN:=HN.out;rw[List.take_length] at hE hN;have HE':=hid hE;have HN':=hid hN;clear hE hN HE HN;go_wp2_with fail;go_ret2;exact qys HE'.out rfl HN'.out HB.out
def qdw(lo hi:Rat)(w:World)(e:Ending)(w':World):Prop:=
 (if qac [qfa lo,qfa hi]=0 then e = .returned (.tuple #[.agg #[.string (qcw lo),.string (qcw hi)],.int .i64 0])
  else e = .returned (.tuple #[.agg #[.string ⟨#[]⟩,.string ⟨#[]⟩],.int .i64 (qac [qfa lo,qfa hi])]))∧Below w.heap.size w w'
theorem qfk{lo hi:Rat}{w w':World}{e:Ending}(h:qdw lo hi w e w'):∃(t1 t2:BA) (ec:Int),e = .returned (.tuple #[.agg #[.string t1,.string t2],.int .i64 ec])∧qdw lo hi w (.returned (.tuple #[.agg #[.string t1,.string t2],.int .i64 ec])) w':=by
 have h0:=h;obtain⟨h1,h2⟩:=h;split at h1
 ·exact⟨_,_,_,h1,by rw[←h1];exact h0⟩
 ·exact⟨_,_,_,h1,by rw[←h1];exact h0⟩
def q8o(w:World)(b:Bool)(t m:Value)(b':Bool)(t' m':Value)(W:World):Prop:=
 Below w.heap.size w W∧Own W w.heap.size 6 (qkh b t m b' t' m')∧Own W (w.heap.size+1) 2 (qko (.string ⟨#[]⟩) (.string ⟨#[]⟩))
theorem q8o.later{w W W':World}{b:Bool}{t m:Value}{b':Bool}{t' m':Value}(h:q8o w b t m b' t' m' W)(hb:Below W.heap.size W W'):q8o w b t m b' t' m' W':=
 ⟨h.1.trans (hb.mono h.1.size),h.2.1.later (hb.mono h.2.1.1),h.2.2.later (hb.mono h.2.2.1)⟩
theorem q43(w:World)(b:Bool)(t m:Value)(b':Bool)(t' m':Value)(t1 t2:TypeId):q8o w b t m b' t' m' ((w.alloc (.cells #[.bool b,t,m,.bool b',t',m'] t1)).alloc (.cells #[.string ⟨#[]⟩,.string ⟨#[]⟩] t2)):=by
 have h1:Below w.heap.size w (w.alloc (.cells #[.bool b,t,m,.bool b',t',m'] t1)):=zam _ _;have h2:=qki w b t m b' t' m' t1;have h3:=qbg (w.alloc (.cells #[.bool b,t,m,.bool b',t',m'] t1)) t2 (.string ⟨#[]⟩) (.string ⟨#[]⟩);rw[zao] at h3;exact⟨h1.alloc (by rw[zao];omega) _,h2.later ((zan _ _).alloc (by rw[zao];omega) _),h3⟩
theorem qas{W:World}{g:Nat}{a b:Value}(h:Own W g 2 (qko a b)):(W.cell? ⟨g,0,none⟩=some a∧W.frozen? ⟨g,0,none⟩=false)∧(W.cell? ⟨g,1,none⟩=some b∧W.frozen? ⟨g,1,none⟩=false):=
 ⟨h.2 0 (by omega),h.2 1 (by omega)⟩
theorem qyu{W:World}{b:Bool}{p1:Option Addr}{k1 c1:Nat}{p2:Option Addr}{k2 c2:Nat}{b':Bool}{p1':Option Addr}{k1' c1':Nat}{p2':Option Addr}{k2' c2':Nat}{lo hi:Rat}(ty:TypeId)
  (h1:qaj W (.agg #[.bool b,.slice p1 k1 c1,.slice p2 k2 c2]) lo) (h2:qaj W (.agg #[.bool b',.slice p1' k1' c1',.slice p2' k2' c2']) hi):
  qhl (W.alloc (.cells #[.bool b,.slice p1 k1 c1,.slice p2 k2 c2,.bool b',.slice p1' k1' c1',.slice p2' k2' c2'] ty)) W.heap.size 0 [lo,hi]:=by
 have aD:Below W.heap.size W (W.alloc (.cells #[.bool b,.slice p1 k1 c1,.slice p2 k2 c2,.bool b',.slice p1' k1' c1',.slice p2' k2' c2'] ty)):=zam _ _;intro j q hq
 match j,hq with
 | 0,hq=>
  cases hq
  refine⟨b,p1,k1,c1,p2,k2,c2, ?_, ?_, ?_,h1.later aD⟩<;>(rw[World.cell?_alloc_at _ _ _ _ rfl];rfl)
 | 1,hq=>
  cases hq
  refine⟨b',p1',k1',c1',p2',k2',c2', ?_, ?_, ?_,h2.later aD⟩<;>(rw[World.cell?_alloc_at _ _ _ _ rfl];rfl)
theorem q44{w W:World}{b:Bool}{p1:Option Addr}{k1 c1:Nat}{p2:Option Addr}{k2 c2:Nat}{b':Bool}{p1':Option Addr}{k1' c1':Nat}{p2':Option Addr}{k2' c2':Nat}{lo hi:Rat}(hW:q8o w b (.slice p1 k1 c1) (.slice p2 k2 c2) b' (.slice p1' k1' c1') (.slice p2' k2' c2') W)(hs:W.heap.size=w.heap.size+1+1)
  (h1:qaj w (.agg #[.bool b,.slice p1 k1 c1,.slice p2 k2 c2]) lo) (h2:qaj w (.agg #[.bool b',.slice p1' k1' c1',.slice p2' k2' c2']) hi) (r1:rs lo≤Cap) (r2:rs hi≤Cap):
  Calls Tryz.prog 69 #[.slice (some ⟨w.heap.size+1+1,0,none⟩) 2 2,.func (.func 50) #[] #[]] (W.alloc (.cells #[.bool b,.slice p1 k1 c1,.slice p2 k2 c2,.bool b',.slice p1' k1' c1',.slice p2' k2' c2'] 74))
   (fun e w'=>(if qac [qfa lo,qfa hi]=0 then ∃g,e = .returned (.tuple #[.slice (some ⟨g,0,none⟩) 2 2,.int .i64 0])∧qvl w' g 2 [qcw lo,qcw hi]
    else e = .returned (.tuple #[.slice none 0 0,.int .i64 (qac [qfa lo,qfa hi])]))∧q8o w b (.slice p1 k1 c1) (.slice p2 k2 c2) b' (.slice p1' k1' c1') (.slice p2' k2' c2') w'):=by
 rw[←hs];have aD:Below W.heap.size W (W.alloc (.cells #[.bool b,.slice p1 k1 c1,.slice p2 k2 c2,.bool b',.slice p1' k1' c1',.slice p2' k2' c2'] 74)):=zam _ _
 refine(qyt [lo,hi] W.heap.size 0 2 _ (qyu _ (h1.later hW.1) (h2.later hW.1)) (by simp) (by
  intro q hq;simp only[List.mem_cons,List.not_mem_nil,or_false] at hq
  rcases hq with rfl|rfl<;>assumption)).mono ?_
 intro e w' h;exact⟨h.1,hW.later (aD.trans (h.2.mono (by rw[zao];omega)))⟩
theorem qf3(v:Value)(lo hi:Rat)(w:World)(hv:qgm w v lo hi)(r1:rs lo≤Cap)(r2:rs hi≤Cap):
  Calls Tryz.prog 32 #[v] w (qdw lo hi w):=by
 obtain⟨b,p1,k1,c1,p2,k2,c2,b',p1',k1',c1',p2',k2',c2',rfl,n1,n2⟩:=hv;have aO:=hid (q43 w b (.slice p1 k1 c1) (.slice p2 k2 c2) b' (.slice p1' k1' c1') (.slice p2' k2' c2') 76 28);have dM:=q12 w (.cells #[.bool b,.slice p1 k1 c1,.slice p2 k2 c2,.bool b',.slice p1' k1' c1',.slice p2' k2' c2'] 76) (.cells #[.string ⟨#[]⟩,.string ⟨#[]⟩] 28);have sW:=hid (q44 aO.out dM n1 n2 r1 r2);obtain⟨⟨s0,_⟩,⟨s1,_⟩,⟨s2,_⟩,⟨s3,_⟩,⟨s4,_⟩,⟨s5,_⟩⟩:=qbl aO.out.2.1;by_cases h0:qac [qfa lo,qfa hi]=0
 ·have aG:Hid (∀w',Below w.heap.size w w'→qdw lo hi w (.returned (.tuple #[.agg #[.string (qcw lo),.string (qcw hi)],.int .i64 0])) w'):=hid fun w' h=>by
   unfold qdw;rw[if_pos h0];exact⟨rfl,h⟩
  simp only[if_pos h0] at sW;clear dM aO n1 n2 r1 r2 h0;generalize qcw lo=x1 at *;generalize qcw hi=x2 at *;go_enter Tryz.func32,Tryz.ntmps32;go_wp2_with fail;clear s0 s1 s2 s3 s4 s5;refine sW.out.mono ?_;rintro e w1 ⟨⟨g,rfl,hs⟩,hw⟩;have e1:=hs.get 0 x1 rfl;have e2:=hs.get 1 x2 rfl;have sF:=hid hw;obtain⟨⟨z0,y0⟩,⟨z1,y1⟩⟩:=qas hw.2.2;have HB:=hid ((hw.1.setCell (p:=⟨w.heap.size+1,0,none⟩) (by show w.heap.size≤w.heap.size+1;omega) (.string x1)).setCell (p:=⟨w.heap.size+1,1,none⟩) (by show w.heap.size≤w.heap.size+1;omega) (.string x2));clear hs hw sW;go_wp2_with fail
  go_region
  go_wp2_with fail;refine bodyPost_ret (v := .tuple #[.agg #[.string x1,.string x2],.int .i64 0]) ?_ rfl ?_
  ·simp[results,Tryz.results32,go_sem,z0,z1]
  ·exact aG.out _ HB.out.drew
 ·have aG:Hid (∀w',Below w.heap.size w w'→qdw lo hi w (.returned (.tuple #[.agg #[.string ⟨#[]⟩,.string ⟨#[]⟩],.int .i64 (qac [qfa lo,qfa hi]:Nat)])) w'):=hid fun w' h=>by
   unfold qdw;rw[if_neg h0];exact⟨rfl,h⟩
  simp only[if_neg h0] at sW;have dL:((qac [qfa lo,qfa hi]:Int)==0)=false:=zat (by omega);clear dM aO n1 n2 r1 r2 h0;generalize qac [qfa lo,qfa hi]=ck at *;go_enter Tryz.func32,Tryz.ntmps32;go_wp2_with fail;clear s0 s1 s2 s3 s4 s5;refine sW.out.mono ?_;rintro e w1 ⟨rfl,hw⟩;obtain⟨⟨z0,y0⟩,⟨z1,y1⟩⟩:=qas hw.2.2;have HB:=hid ((hw.1.setCell (p:=⟨w.heap.size+1,0,none⟩) (by show w.heap.size≤w.heap.size+1;omega) (.string ⟨#[]⟩)).setCell (p:=⟨w.heap.size+1,1,none⟩) (by show w.heap.size≤w.heap.size+1;omega) (.string ⟨#[]⟩));clear hw sW;go_wp2_with fail;refine bodyPost_ret (v := .tuple #[.agg #[.string ⟨#[]⟩,.string ⟨#[]⟩],.int .i64 ck]) ?_ rfl ?_
  ·simp[results,Tryz.results32,go_sem,z0,z1]
  ·exact aG.out _ HB.out
end Go.Proofs.YtclimablgihlhaaGreatDoor
