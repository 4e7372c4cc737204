/- readSpan: the two numbers of a span. -/
import Derived.Test.YthjagoogkkgelaaGreatDoorMRounded
set_option linter.all false
namespace Go.Proofs.YthjagoogkkgelaaGreatDoor
open Go.RowKit
set_option maxRecDepth 100000
set_option maxHeartbeats 4000000
def qkz(b:Bool)(t m:Value)(b':Bool)(t' m':Value)(i:Nat):Value:=
 if i=0 then .bool b else if i=1 then t else if i=2 then m else if i=3 then .bool b' else if i=4 then t' else m'
theorem qk0(w:World)(b:Bool)(t m:Value)(b':Bool)(t' m':Value)(ty:TypeId):Own (w.alloc (.cells #[.bool b,t,m,.bool b',t',m'] ty)) w.heap.size 6 (qkz b t m b' t' m'):=by
 refine⟨by rw[World.size_alloc];omega,fun i hi => ?_⟩;rw[World.cell?_alloc_at _ _ _ _ rfl,World.frozen?_alloc_at _ _ _ _ rfl]
 match i,hi with
 | 0,_=>exact⟨rfl,rfl⟩
 | 1,_=>exact⟨rfl,rfl⟩
 | 2,_=>exact⟨rfl,rfl⟩
 | 3,_=>exact⟨rfl,rfl⟩
 | 4,_=>exact⟨rfl,rfl⟩
 | 5,_=>exact⟨rfl,rfl⟩
theorem qbm{W:World}{g:Nat}{b:Bool}{t m:Value}{b':Bool}{t' m':Value}(h:Own W g 6 (qkz b t m b' t' m')):
  (W.cell? ⟨g,0,none⟩=some (.bool b)∧W.frozen? ⟨g,0,none⟩=false)∧(W.cell? ⟨g,1,none⟩=some t∧W.frozen? ⟨g,1,none⟩=false)∧(W.cell? ⟨g,2,none⟩=some m∧W.frozen? ⟨g,2,none⟩=false)∧
  (W.cell? ⟨g,3,none⟩=some (.bool b')∧W.frozen? ⟨g,3,none⟩=false)∧(W.cell? ⟨g,4,none⟩=some t'∧W.frozen? ⟨g,4,none⟩=false)∧(W.cell? ⟨g,5,none⟩=some m'∧W.frozen? ⟨g,5,none⟩=false):=
 ⟨h.2 0 (by omega),h.2 1 (by omega),h.2 2 (by omega),h.2 3 (by omega),h.2 4 (by omega),h.2 5 (by omega)⟩
theorem qhz{W:World}{g:Nat}(ho:Own W g 6 (qkz false (.slice none 0 0) (.slice none 0 0) false (.slice none 0 0) (.slice none 0 0)))(x0 x1 x2 x3 x4 x5:Value):
  (∀v q,qaj W v q→qaj ((((((W.setCell ⟨g,0,none⟩ x0).setCell ⟨g,1,none⟩ x1).setCell ⟨g,2,none⟩ x2).setCell ⟨g,3,none⟩ x3).setCell ⟨g,4,none⟩ x4).setCell ⟨g,5,none⟩ x5) v q)∧
  (∀B w0,B≤g→Below B w0 W→Below B w0 ((((((W.setCell ⟨g,0,none⟩ x0).setCell ⟨g,1,none⟩ x1).setCell ⟨g,2,none⟩ x2).setCell ⟨g,3,none⟩ x3).setCell ⟨g,4,none⟩ x4).setCell ⟨g,5,none⟩ x5)):=by
 have o1:=ho.set 0 (by omega) x0;have o2:=o1.set 1 (by omega) x1;have o3:=o2.set 2 (by omega) x2;have o4:=o3.set 3 (by omega) x3;have o5:=o4.set 4 (by omega) x4;constructor
 ·intro v q h
  have h1:=qa8 h ho 0 (by omega) (by intro k z e;cases e) x0;have h2:=qa8 h1 o1 1 (by omega) (by intro k z e;cases e) x1;have h3:=qa8 h2 o2 2 (by omega) (by intro k z e;cases e) x2;have h4:=qa8 h3 o3 3 (by omega) (by intro k z e;cases e) x3;have h5:=qa8 h4 o4 4 (by omega) (by intro k z e;cases e) x4;exact qa8 h5 o5 5 (by omega) (by intro k z e;cases e) x5
 ·intro B w0 hB hb
  exact((((((hb.setCell (p:=⟨g,0,none⟩) hB x0).setCell (p:=⟨g,1,none⟩) hB x1).setCell (p:=⟨g,2,none⟩) hB x2).setCell (p:=⟨g,3,none⟩) hB x3).setCell (p:=⟨g,4,none⟩) hB x4).setCell (p:=⟨g,5,none⟩) hB x5)
def qdd(lo hi:ByteArray):Nat:=
 if qac [qaa lo.data.toList,qaa hi.data.toList]≠0 then qac [qaa lo.data.toList,qaa hi.data.toList]
 else if 0<qcu (qav lo.data.toList) (qav hi.data.toList) then 11 else 0
def qpk:Value := .agg #[.bool false,.slice none 0 0,.slice none 0 0,.bool false,.slice none 0 0,.slice none 0 0]
def qg1(w:World)(v:Value)(lo hi:Rat):Prop:=
 ∃b p1 k1 c1 p2 k2 c2 b' p1' k1' c1' p2' k2' c2',v = .agg #[.bool b,.slice p1 k1 c1,.slice p2 k2 c2,.bool b',.slice p1' k1' c1',.slice p2' k2' c2']∧
  qaj w (.agg #[.bool b,.slice p1 k1 c1,.slice p2 k2 c2]) lo∧qaj w (.agg #[.bool b',.slice p1' k1' c1',.slice p2' k2' c2']) hi
theorem qg1.later{w w':World}{v:Value}{lo hi:Rat}(h:qg1 w v lo hi)(hb:Below w.heap.size w w'):qg1 w' v lo hi:=by
 obtain⟨b,p1,k1,c1,p2,k2,c2,b',p1',k1',c1',p2',k2',c2',e,h1,h2⟩:=h;exact⟨b,p1,k1,c1,p2,k2,c2,b',p1',k1',c1',p2',k2',c2',e,h1.later hb,h2.later hb⟩
def qly(lo hi:ByteArray)(w:World)(e:Ending)(w':World):Prop:=
 (if qdd lo hi=0 then ∃v,e = .returned (.tuple #[v,.int .i64 0])∧qg1 w' v (qav lo.data.toList) (qav hi.data.toList)
  else e = .returned (.tuple #[qpk,.int .i64 (qdd lo hi)]))∧Below w.heap.size w w'
def q71(w:World)(lo hi:ByteArray)(W:World):Prop:=
 Below w.heap.size w W∧Own W w.heap.size 2 (qml (.string lo) (.string hi))∧Own W (w.heap.size+1) 6 (qkz false (.slice none 0 0) (.slice none 0 0) false (.slice none 0 0) (.slice none 0 0))
theorem q71.later{w W W':World}{lo hi:ByteArray}(h:q71 w lo hi W)(hb:Below W.heap.size W W'):q71 w lo hi W':=
 ⟨h.1.trans (hb.mono h.1.size),h.2.1.later (hb.mono h.2.1.1),h.2.2.later (hb.mono h.2.2.1)⟩
theorem q6b(w:World)(lo hi:ByteArray)(t1 t2:TypeId):q71 w lo hi ((w.alloc (.cells #[.string lo,.string hi] t1)).alloc (.cells #[.bool false,.slice none 0 0,.slice none 0 0,.bool false,.slice none 0 0,.slice none 0 0] t2)):=by
 have h1:Below w.heap.size w (w.alloc (.cells #[.string lo,.string hi] t1)):=(Below.refl _ _).alloc (Nat.le_refl _) _;have h2:=qbl w t1 (.string lo) (.string hi);have h3:=qk0 (w.alloc (.cells #[.string lo,.string hi] t1)) false (.slice none 0 0) (.slice none 0 0) false (.slice none 0 0) (.slice none 0 0) t2;rw[World.size_alloc] at h3;exact⟨h1.alloc (by rw[World.size_alloc];omega) _,h2.later ((Below.refl _ _).alloc (by rw[World.size_alloc];omega) _),h3⟩
theorem q2i(w:World)(o1 o2:Obj):((w.alloc o1).alloc o2).heap.size=w.heap.size+1+1:=by
 rw[World.size_alloc,World.size_alloc]
theorem q88{w W:World}{lo hi:ByteArray}(hW:q71 w lo hi W)(hs:W.heap.size=w.heap.size+1+1)(hg:GW w)(hlo:lo.size≤1073741824)(hhi:hi.size≤1073741824)(h0:qac [qaa lo.data.toList,qaa hi.data.toList]=0):
  Calls Tryz.prog 66 #[.slice (some ⟨w.heap.size+1+1,0,none⟩) 2 2,.func (.func 57) #[] #[]] (W.alloc (.cells #[.string lo,.string hi] 26))
   (fun e w'=>(∃g,e = .returned (.tuple #[.slice (some ⟨g,0,none⟩) 2 2,.int .i64 0])∧qj7 w' g 2 [qav lo.data.toList,qav hi.data.toList])∧q71 w lo hi w'):=by
 rw[←hs];exact(q6a (qx6 lo hi W (hg.later hW.1) hlo hhi _) h0).mono fun e w' ⟨h1,h2⟩=>⟨h1,hW.later h2⟩
theorem za2{w W:World}{lo hi:ByteArray}(hW:q71 w lo hi W)(hs:W.heap.size=w.heap.size+1+1)(hg:GW w)(hlo:lo.size≤1073741824)(hhi:hi.size≤1073741824)(h0:qac [qaa lo.data.toList,qaa hi.data.toList]≠0):
  Calls Tryz.prog 66 #[.slice (some ⟨w.heap.size+1+1,0,none⟩) 2 2,.func (.func 57) #[] #[]] (W.alloc (.cells #[.string lo,.string hi] 26))
   (fun e w'=>e = .returned (.tuple #[.slice none 0 0,.int .i64 (qac [qaa lo.data.toList,qaa hi.data.toList]:Nat)])∧q71 w lo hi w'):=by
 rw[←hs];exact(q87 (qx6 lo hi W (hg.later hW.1) hlo hhi _) h0).mono fun e w' ⟨h1,h2⟩=>⟨h1,hW.later h2⟩
theorem qt0(lo hi:ByteArray)(w:World)(hg:GW w)(hlo:lo.size≤1073741824)(hhi:hi.size≤1073741824):
  Calls Tryz.prog 71 #[.agg #[.string lo,.string hi]] w (qly lo hi w):=by
 have HW0:=hid (q6b w lo hi 28 82);have hsz:=q2i w (.cells #[.string lo,.string hi] 28) (.cells #[.bool false,.slice none 0 0,.slice none 0 0,.bool false,.slice none 0 0,.slice none 0 0] 82);obtain⟨s0,s1⟩:=qag HW0.out.2.1;by_cases h0:qac [qaa lo.data.toList,qaa hi.data.toList]=0
 ·obtain⟨hcx,hcy⟩:=qj8 h0
  have hbx:=qiu hcx;have hby:=qiu hcy;have HRG:=hid (q88 HW0.out hsz hg hlo hhi h0)
  have HOP:Hid (∀W va vb,qaj W va (qav lo.data.toList)→qaj W vb (qav hi.data.toList)→Calls Tryz.prog 36 #[va,vb] W fun e w'=>e = .returned (.int .i64 (qcu (qav lo.data.toList) (qav hi.data.toList)))∧Below W.heap.size W w'):=
   hid fun W va vb hva hvb=>qb7 va vb _ _ W hva hvb (by have:=hbx.rs;have:=hby.rs;unfold Cap;omega)
  by_cases hcmp:0<qcu (qav lo.data.toList) (qav hi.data.toList)
  ·have HFIN:Hid (∀w',Below w.heap.size w w'→qly lo hi w (.returned (.tuple #[qpk,.int .i64 11])) w'):=hid fun w' h=>by
    have e:qdd lo hi=11:=by unfold qdd;rw[if_neg (by omega),if_pos hcmp]
    unfold qly;rw[e];exact⟨rfl,h⟩
   clear hg hlo hhi h0 hcx hcy hbx hby hsz HW0;generalize qcu (qav lo.data.toList) (qav hi.data.toList)=r at *;generalize qav lo.data.toList=qx at *;generalize qav hi.data.toList=qy at *;go_enter Tryz.func71,Tryz.ntmps71;go_wp2_with fail;clear s0 s1;refine HRG.out.mono ?_;rintro e w1 ⟨⟨g,rfl,hn⟩,hs1⟩;obtain⟨b,p1,k1,c1,p2,k2,c2,b',p1',k1',c1',p2',k2',c2',hsx,hva,hvb⟩:=qx7 hn;have HSIX:=hid hsx;have hsix:=hsx w1 (Below.refl _ _);have hdrew:Below w1.heap.size w1 w1.drew:=(Below.refl _ _).drew;have HO1:=hid (HOP.out w1.drew _ _ (hva.later hdrew) (hvb.later hdrew));have HS1:=hid hs1;have HVA:=hid hva;have HVB:=hid hvb;clear hn hs1 hsx hva hvb hdrew HRG HOP;obtain⟨r0,r1,r2,r3,r4,r5⟩:=id hsix;go_wp2_with fail
   go_region_held3 (fun W=>W.cell? ⟨g,0,none⟩=some (.bool b)∧W.cell? ⟨g,1,none⟩=some (.slice p1 k1 c1)∧W.cell? ⟨g,2,none⟩=some (.slice p2 k2 c2)∧W.cell? ⟨g,3,none⟩=some (.bool b')∧W.cell? ⟨g,4,none⟩=some (.slice p1' k1' c1')∧W.cell? ⟨g,5,none⟩=some (.slice p2' k2' c2')) (first|with_reducible exact HSIX.out _ HBB2.out|exact hsix)
    (first|(go_at_call 36;refine HO1.out.mono ?_;rintro e w2 ⟨rfl,hb2⟩;have HBB2:Hid (Below w1.heap.size w1 w2):=hid ((Below.refl _ _).drew.trans hb2);clear hb2))
   all_goals
    have HS2:=hid (HS1.out.later HBB2.out);obtain⟨⟨z0,y0⟩,⟨z1,y1⟩,⟨z2,y2⟩,⟨z3,y3⟩,⟨z4,y4⟩,⟨z5,y5⟩⟩:=qbm HS2.out.2.2;have HB:=hid ((qhz HS2.out.2.2 (.bool false) (.slice none 0 0) (.slice none 0 0) (.bool false) (.slice none 0 0) (.slice none 0 0)).2 w.heap.size w (by omega) HS2.out.1);go_wp2_with fail;refine bodyPost_ret (v := .tuple #[qpk,.int .i64 11]) ?_ rfl ?_
    ·simp[qpk,results,Tryz.results71,go_sem,z0,z1,z2,z3,z4,z5]
    ·exact HFIN.out _ HB.out
  ·have HFIN:Hid (∀w' v,qg1 w' v (qav lo.data.toList) (qav hi.data.toList)→Below w.heap.size w w'→qly lo hi w (.returned (.tuple #[v,.int .i64 0])) w'):=hid fun w' v n h=>by
    have e:qdd lo hi=0:=by unfold qdd;rw[if_neg (by omega),if_neg hcmp]
    unfold qly;rw[if_pos e];exact⟨⟨v,rfl,n⟩,h⟩
   clear hg hlo hhi h0 hcx hcy hbx hby hsz HW0;generalize qcu (qav lo.data.toList) (qav hi.data.toList)=r at *;generalize qav lo.data.toList=qx at *;generalize qav hi.data.toList=qy at *;go_enter Tryz.func71,Tryz.ntmps71;go_wp2_with fail;clear s0 s1;refine HRG.out.mono ?_;rintro e w1 ⟨⟨g,rfl,hn⟩,hs1⟩;obtain⟨b,p1,k1,c1,p2,k2,c2,b',p1',k1',c1',p2',k2',c2',hsx,hva,hvb⟩:=qx7 hn;have HSIX:=hid hsx;have hsix:=hsx w1 (Below.refl _ _);have hdrew:Below w1.heap.size w1 w1.drew:=(Below.refl _ _).drew;have HO1:=hid (HOP.out w1.drew _ _ (hva.later hdrew) (hvb.later hdrew));have HS1:=hid hs1;have HVA:=hid hva;have HVB:=hid hvb;clear hn hs1 hsx hva hvb hdrew HRG HOP;obtain⟨r0,r1,r2,r3,r4,r5⟩:=id hsix;go_wp2_with fail
   go_region_held3 (fun W=>W.cell? ⟨g,0,none⟩=some (.bool b)∧W.cell? ⟨g,1,none⟩=some (.slice p1 k1 c1)∧W.cell? ⟨g,2,none⟩=some (.slice p2 k2 c2)∧W.cell? ⟨g,3,none⟩=some (.bool b')∧W.cell? ⟨g,4,none⟩=some (.slice p1' k1' c1')∧W.cell? ⟨g,5,none⟩=some (.slice p2' k2' c2')) (first|with_reducible exact HSIX.out _ HBB2.out|exact hsix)
    (first|(go_at_call 36;refine HO1.out.mono ?_;rintro e w2 ⟨rfl,hb2⟩;have HBB2:Hid (Below w1.heap.size w1 w2):=hid ((Below.refl _ _).drew.trans hb2);clear hb2))
   all_goals
    have HS2:=hid (HS1.out.later HBB2.out);obtain⟨⟨z0,y0⟩,⟨z1,y1⟩,⟨z2,y2⟩,⟨z3,y3⟩,⟨z4,y4⟩,⟨z5,y5⟩⟩:=qbm HS2.out.2.2;obtain⟨t0,t1,t2,t3,t4,t5⟩:=HSIX.out w2 HBB2.out;have hst:=qhz HS2.out.2.2 (.bool b) (.slice p1 k1 c1) (.slice p2 k2 c2) (.bool b') (.slice p1' k1' c1') (.slice p2' k2' c2');have HN1:=hid (hst.1 _ _ (HVA.out.later HBB2.out));have HN2:=hid (hst.1 _ _ (HVB.out.later HBB2.out));have HB:=hid (hst.2 w.heap.size w (by omega) HS2.out.1);clear hst;go_wp2_with fail
    go_region
    go_wp2_with fail;refine bodyPost_ret (v := .tuple #[.agg #[.bool b,.slice p1 k1 c1,.slice p2 k2 c2,.bool b',.slice p1' k1' c1',.slice p2' k2' c2'],.int .i64 0]) ?_ rfl ?_
    ·simp[results,Tryz.results71,go_sem,z0,z1,z2,z3,z4,z5]
    ·exact HFIN.out _ _ ⟨_,_,_,_,_,_,_,_,_,_,_,_,_,_,rfl,HN1.out.later (Below.refl _ _).drew,HN2.out.later (Below.refl _ _).drew⟩ HB.out.drew
 ·have HRB:=hid (za2 HW0.out hsz hg hlo hhi h0)
  have HFIN:Hid (∀w',Below w.heap.size w w'→qly lo hi w (.returned (.tuple #[qpk,.int .i64 (qac [qaa lo.data.toList,qaa hi.data.toList]:Nat)])) w'):=hid fun w' h=>by
   have e:qdd lo hi=qac [qaa lo.data.toList,qaa hi.data.toList]:=by unfold qdd;rw[if_pos h0]
   unfold qly;rw[e,if_neg h0];exact⟨rfl,h⟩
  have hb0:((qac [qaa lo.data.toList,qaa hi.data.toList]:Int)==0)=false:=beq_eq_false_iff_ne.2 (by omega);clear hg hlo hhi h0 hsz HW0;generalize qac [qaa lo.data.toList,qaa hi.data.toList]=c at *;go_enter Tryz.func71,Tryz.ntmps71;go_wp2_with fail;clear s0 s1;refine HRB.out.mono ?_;rintro e w2 ⟨rfl,hs1⟩;have HS2:=hid hs1;clear hs1 HRB;obtain⟨⟨z0,y0⟩,⟨z1,y1⟩,⟨z2,y2⟩,⟨z3,y3⟩,⟨z4,y4⟩,⟨z5,y5⟩⟩:=qbm HS2.out.2.2;have HB:=hid ((qhz HS2.out.2.2 (.bool false) (.slice none 0 0) (.slice none 0 0) (.bool false) (.slice none 0 0) (.slice none 0 0)).2 w.heap.size w (by omega) HS2.out.1);go_wp2_with fail;refine bodyPost_ret (v := .tuple #[qpk,.int .i64 c]) ?_ rfl ?_
  ·simp[qpk,results,Tryz.results71,go_sem,z0,z1,z2,z3,z4,z5]
  ·exact HFIN.out _ HB.out
def qc8(q:Rat):ByteArray:=if qa4 q 600 then⟨(qat q).toArray⟩ else⟨#[]⟩
def qfj(q:Rat):Nat:=if qa4 q 600 then 0 else 4
theorem qm6{q:Rat}{w w':World}{e:Ending}(h:qm2 q w e w'):e = .returned (.tuple #[.string (qc8 q),.int .i64 (qfj q:Nat)])∧Below w.heap.size w w':=by
 obtain⟨h1,h2⟩:=h;refine⟨?_,h2⟩;rw[h1];unfold qc8 qfj;cases qa4 q 600<;>rfl
def qv9(W:World)(g cap:Nat)(l:List ByteArray):Prop:=
 l.length≤cap∧∃cur:Array Value,W.heap[g]? = some (.cells cur 26 (0,0))∧cur.size=cap∧∀(j:Nat) (s:ByteArray),l[j]? = some s→cur.toList[j]? = some (.string s)
theorem qzu(w:World)(cap:Nat):qv9 (w.alloc (.cells (madeCells #[.string ⟨#[]⟩] cap) 26)) w.heap.size cap []:=
 ⟨Nat.zero_le _,_,heap_alloc_new w _,size_madeCells _ _,fun j q h=>by simp at h⟩
theorem qv9.lt{W:World}{g cap:Nat}{l:List ByteArray}(h:qv9 W g cap l):g<W.heap.size:=by
 obtain⟨_,cur,hg,_⟩:=h;rcases Nat.lt_or_ge g W.heap.size with h1|h1
 ·exact h1
 ·rw[Array.getElem?_eq_none h1] at hg;cases hg
theorem qv9.later{W W':World}{g cap:Nat}{l:List ByteArray}(h:qv9 W g cap l)(hb:Below W.heap.size W W'):qv9 W' g cap l:=by
 have hlt:=h.lt;obtain⟨h1,cur,hg,h2,h3⟩:=h;exact⟨h1,cur,(hb.block g hlt).trans hg,h2,h3⟩
theorem qv9.push{W:World}{g cap:Nat}{l:List ByteArray}{s:ByteArray}(h:qv9 W g cap l)(hk:l.length<cap):
  ∃cur:Array Value,W.heap[g]? = some (.cells cur 26 (0,0))∧l.length*1+1≤cur.size∧
   qv9 (W.setRow g (cur.toList.take l.length++[Value.string s]++cur.toList.drop (l.length+1)).toArray) g cap (l++[s])∧
   ∀B,B≤g→Below B W (W.setRow g (cur.toList.take l.length++[Value.string s]++cur.toList.drop (l.length+1)).toArray):=by
 obtain⟨h1,cur,hg,h2,h4⟩:=h;have hfit':l.length+1≤cur.toList.length:=by rw[show cur.toList.length=cur.size from Array.length_toList,h2];exact hk
 have hlen:(cur.toList.take l.length).length=l.length:=by rw[List.length_take];omega
 refine⟨cur,hg,by rw[h2];omega,⟨by rw[List.length_append,List.length_singleton];exact hk,_,setRow_heap W g cur _ _ _ hg, ?_, ?_⟩,fun B hB=>⟨rfl,rfl,rfl,by simp[World.setRow],fun k hk=>setRow_other W g k _ (by omega)⟩⟩
 ·simp only[List.size_toArray,List.length_append,hlen,List.length_cons,List.length_nil,List.length_drop,Array.length_toList]
  omega
 ·intro j q' hq'
  rcases Nat.lt_or_ge j l.length with hj|hj
  ·rw[List.getElem?_append_left hj] at hq'
   rw[List.append_assoc,List.getElem?_append_left (by rw[hlen];exact hj),List.getElem?_take_of_lt hj];exact h4 j q' hq'
  ·have hj':j=l.length:=by
    have:=(List.getElem?_eq_some_iff.1 hq').1;rw[List.length_append] at this;simp at this;omega
   subst hj'
   have hqq:q'=s:=by
    rw[List.getElem?_append_right (Nat.le_refl _),Nat.sub_self] at hq'
    simpa using hq'.symm
   subst hqq;rw[List.append_assoc,List.getElem?_append_right (by rw[hlen];exact Nat.le_refl _),hlen,Nat.sub_self];rfl
theorem qv9.get{W:World}{g cap:Nat}{l:List ByteArray}(h:qv9 W g cap l)(j:Nat)(s:ByteArray)(hs:l[j]? = some s):W.cell? ⟨g,j,none⟩=some (.string s):=by
 obtain⟨_,cur,hg,_,h4⟩:=h;rw[cell_of_row W g _ cur _ (0,0) hg,←Array.getElem?_toList];exact h4 j s hs
theorem q2j(n:Nat)(hn:n≤1048576)(w:World):
  (Instr.makeSlice 94 (.int .i64 0) (.int .i64 (n:Int))).run Tryz.prog w = .ok (.slice (some ⟨w.heap.size,0,none⟩) 0 n) (w.alloc (.cells (madeCells #[.string ⟨#[]⟩] n) 26)):=by
 obtain⟨i0,hi,hz0,hz1,hz2⟩:=info_parts (show(Tryz.prog.info? 26).map (fun i=>(i.zero,i.size,i.bytes))=some (some (.string ⟨#[]⟩),1,16) by kernel_rfl);have h:=run_make (P:=Tryz.prog) w 94 26 i0 _ Tryz.underlying94 hi hz0 .i64 .i64 0 (n:Int) (Int.le_refl _) (by omega) (by rw[hz2];omega) (by omega);rw[hz1] at h
 simpa [Value.cells] using h
def qh0(W:World)(b o:Nat)(qs:List Rat):Prop:=
 ∀(j:Nat) (q:Rat),qs[j]? = some q→∃sg p1 k1 c1 p2 k2 c2,W.cell? ⟨b,o+j*3,none⟩=some (.bool sg)∧W.cell? ⟨b,o+j*3+1,none⟩=some (.slice p1 k1 c1)∧W.cell? ⟨b,o+j*3+2,none⟩=some (.slice p2 k2 c2)∧qaj W (.agg #[.bool sg,.slice p1 k1 c1,.slice p2 k2 c2]) q
def q2k(qs:List Rat)(w:World)(e:Ending)(w':World):Prop:=
 (if qac (qs.map qfj)=0 then ∃g,e = .returned (.tuple #[.slice (some ⟨g,0,none⟩) qs.length qs.length,.int .i64 0])∧qv9 w' g qs.length (qs.map qc8)
  else e = .returned (.tuple #[.slice none 0 0,.int .i64 (qac (qs.map qfj))]))∧Below w.heap.size w w'
theorem q2l{qs:List Rat}{w w':World}{k:Nat}{e:Ending}(h:qac (qs.map qfj)=k)(hk:k≠0)(he:e = .returned (.tuple #[.slice none 0 0,.int .i64 (k:Int)]))(hb:Below w.heap.size w w'):q2k qs w e w':=by
 unfold q2k;rw[if_neg (by omega),h];exact⟨he,hb⟩
theorem qzv{qs:List Rat}{w w':World}{g:Nat}{e:Ending}(h:qac (qs.map qfj)=0)(he:e = .returned (.tuple #[.slice (some ⟨g,0,none⟩) qs.length qs.length,.int .i64 0]))(hv:qv9 w' g qs.length (qs.map qc8))(hb:Below w.heap.size w w'):q2k qs w e w':=by
 unfold q2k;rw[if_pos h];exact⟨⟨g,he,hv⟩,hb⟩
theorem qzw(qs:List Rat)(b o c:Nat)(w:World)(hrow:qh0 w b o qs)(hl:qs.length≤1048576)(hs:∀q ∈ qs,rs q≤Cap):
  Calls Tryz.prog 72 #[.slice (some ⟨b,o,none⟩) qs.length c,.func (.func 56) #[] #[]] w (q2k qs w):=by
 have HROW:=hid hrow;have HS:=hid hs;have hmk:=q2j qs.length hl;obtain⟨i0,hi,hz0,hz1,hz2⟩:=info_parts (show(Tryz.prog.info? 26).map (fun i=>(i.zero,i.size,i.bytes))=some (some (.string ⟨#[]⟩),1,16) by kernel_rfl);have HI:=hid hi;clear hrow hs hi hz0 hz2;go_enter Tryz.func72,Tryz.ntmps72;go_wp2_with fail;clear hmk;have HN0:=hid (qzu w qs.length);have HB0:Hid (Below w.heap.size w (w.alloc (.cells (madeCells #[.string ⟨#[]⟩] qs.length) 26))):=hid ((Below.refl _ _).alloc (Nat.le_refl _) _);generalize w.alloc (.cells (madeCells #[.string ⟨#[]⟩] qs.length) 26)=w0 at *
 go_loopw [6,16] (fun r i wr=>∃k:Nat,k≤qs.length∧i = .int .i64 k∧r = .slice (some ⟨w.heap.size,0,none⟩) k qs.length∧Hid (qv9 wr w.heap.size qs.length ((qs.take k).map qc8))∧Hid (qac ((qs.take k).map qfj)=0)∧Hid (Below w.heap.size w wr)) (fun _ i _=>qs.length-(intOf i).toNat)
 case atStart=>exact⟨0,Nat.zero_le _,rfl,rfl,HN0,hid rfl,HB0⟩
 case round=>
  obtain⟨k,hk,rfl,rfl,HN,HE,HB⟩:=hrel;clear HN0 HB0;by_cases hkl:k<qs.length
  ·obtain⟨q,hqk⟩:∃q,qs[k]? = some q:=⟨qs[k],List.getElem?_eq_getElem hkl⟩
   obtain⟨sg,p1,k1,c1,p2,k2,c2,e0,e1,e2,hv⟩:=HROW.out k q hqk;have hc0:wr.cell? ⟨b,o+k*3,none⟩=some (.bool sg):=by rw[HB.out.cell (World.block_lt_of_cell? w _ e0)];exact e0
   have hc1:wr.cell? ⟨b,o+k*3+1,none⟩=some (.slice p1 k1 c1):=by rw[HB.out.cell (World.block_lt_of_cell? w _ e1)];exact e1
   have hc2:wr.cell? ⟨b,o+k*3+2,none⟩=some (.slice p2 k2 c2):=by rw[HB.out.cell (World.block_lt_of_cell? w _ e2)];exact e2
   obtain⟨hal,hbx⟩:=qv7 wr sg (.slice p1 k1 c1) (.slice p2 k2 c2);obtain⟨x0,x1,x2⟩:=qbf hbx;have HWT:=hid ((qjc _ q (wr.alloc (.cells #[.bool sg,.slice p1 k1 c1,.slice p2 k2 c2] 80)) ((hv.later HB.out).later hal) (HS.out q (List.mem_of_getElem? hqk))).mono fun e w' h=>qm6 h);have HAL:=hid hal;have HSK:=hid hqk;clear e0 e1 e2 hv hal hbx hqk;by_cases hc:qfj q=0
   ·have HE2:=hid (qhy qfj HSK.out HE.out hc)
    rw[hc] at HWT
    have hqs:((qs.take k).map qc8)++[qc8 q]=(qs.take (k+1)).map qc8:=by
     rw[qb9 HSK.out,List.map_append];rfl
    have HQS:=hid hqs;have hql:((qs.take k).map qc8).length=k:=by rw[List.length_map,List.length_take];omega
    clear HE hc hqs;generalize qc8 q=tx at *;generalize ((qs.take k).map qc8)=txs at *;have HN1:=hid (HN.out.later HAL.out);have HB1:=hid (HB.out.trans (HAL.out.mono HB.out.size));clear HN HB HAL;go_wp2_with fail;refine HWT.out.mono ?_;rintro e w1 ⟨rfl,hb⟩;have HN2:=hid (HN1.out.later hb);have HB2:=hid (HB1.out.trans (hb.mono HB1.out.size));have hal2:Below w1.heap.size w1 (w1.alloc (.cells #[.string tx] 26)):=(Below.refl _ _).alloc (Nat.le_refl _) _;obtain⟨cur,hcur,hfit,hnew,hbel⟩:=(HN2.out.later hal2).push (s:=tx) (by rw[hql];exact hkl);have hnb:=heap_alloc_new w1 (.cells #[.string tx] 26);rw[hql] at hfit hnew hbel;simp only[List.append_assoc,List.cons_append,List.nil_append] at hnew hbel;have HNEW:=hid hnew;have HBEL:=hid (HB2.out.trans ((hal2.mono HB2.out.size).trans (hbel w.heap.size (Nat.le_refl _))));have HCUR:=hid hcur;have HNB:=hid hnb;have HFIT:=hid hfit;clear hb hal2 hcur hfit hnew hbel hnb HN1 HB1 HN2 HB2 hql HWT x0 x1 x2 hc0 hc1 hc2;go_wp2_with (at_builtin;refine qbi _ rfl _ _ 94 rfl 26 i0 1 Tryz.underlying94 HI.out hz1 w.heap.size k qs.length cur rfl HCUR.out ⟨w1.heap.size,0,none⟩ 1 1 [.string tx] rfl rfl (World.news_of_block HNB.out) ?qc1 (by omega) HFIT.out ?_)
    case qc1=>
     intro u hu;simp only[List.mem_cons,List.not_mem_nil,or_false] at hu;rcases hu with rfl
     rfl
    go_wp2_with fail;go_roundw
    case rel=>exact⟨k+1,hkl,by go_num,rfl,hid (by rw[←HQS.out];exact HNEW.out),HE2,HBEL⟩
    case measure=>simp[intOf];omega
   ·have HF:=hid (qjg qfj HSK.out HE.out hc)
    clear HE;generalize qfj q=ck at *;generalize qc8 q=tx at *;have hck:((ck:Int)==0)=false:=beq_eq_false_iff_ne.2 (by omega);have HCK:=hid hc;clear hc;go_wp2_with fail;refine HWT.out.mono ?_;rintro e w1 ⟨rfl,hb⟩;have HB1:=hid (HB.out.trans ((HAL.out.trans (hb.mono HAL.out.size)).mono HB.out.size));clear hb HB HWT x0 x1 x2 hc0 hc1 hc2;go_wp2_with fail;go_ret2;exact q2l HF.out HCK.out rfl HB1.out
  ·obtain rfl:k=qs.length:=by omega
   have hE:=HE.out;have hN:=HN.out;rw[List.take_length] at hE hN;have HE':=hid hE;have HN':=hid hN;clear hE hN HE HN;go_wp2_with fail;go_ret2;exact qzv HE'.out rfl HN'.out HB.out
def qd0(lo hi:Rat)(w:World)(e:Ending)(w':World):Prop:=
 (if qac [qfj lo,qfj hi]=0 then e = .returned (.tuple #[.agg #[.string (qc8 lo),.string (qc8 hi)],.int .i64 0])
  else e = .returned (.tuple #[.agg #[.string ⟨#[]⟩,.string ⟨#[]⟩],.int .i64 (qac [qfj lo,qfj hi])]))∧Below w.heap.size w w'
theorem qfp{lo hi:Rat}{w w':World}{e:Ending}(h:qd0 lo hi w e w'):∃(t1 t2:ByteArray) (ec:Int),e = .returned (.tuple #[.agg #[.string t1,.string t2],.int .i64 ec])∧qd0 lo hi w (.returned (.tuple #[.agg #[.string t1,.string t2],.int .i64 ec])) w':=by
 have h0:=h;obtain⟨h1,h2⟩:=h;split at h1
 ·exact⟨_,_,_,h1,by rw[←h1];exact h0⟩
 ·exact⟨_,_,_,h1,by rw[←h1];exact h0⟩
def zal(w:World)(b:Bool)(t m:Value)(b':Bool)(t' m':Value)(W:World):Prop:=
 Below w.heap.size w W∧Own W w.heap.size 6 (qkz b t m b' t' m')∧Own W (w.heap.size+1) 2 (qml (.string ⟨#[]⟩) (.string ⟨#[]⟩))
theorem zal.later{w W W':World}{b:Bool}{t m:Value}{b':Bool}{t' m':Value}(h:zal w b t m b' t' m' W)(hb:Below W.heap.size W W'):zal w b t m b' t' m' W':=
 ⟨h.1.trans (hb.mono h.1.size),h.2.1.later (hb.mono h.2.1.1),h.2.2.later (hb.mono h.2.2.1)⟩
theorem q6c(w:World)(b:Bool)(t m:Value)(b':Bool)(t' m':Value)(t1 t2:TypeId):zal w b t m b' t' m' ((w.alloc (.cells #[.bool b,t,m,.bool b',t',m'] t1)).alloc (.cells #[.string ⟨#[]⟩,.string ⟨#[]⟩] t2)):=by
 have h1:Below w.heap.size w (w.alloc (.cells #[.bool b,t,m,.bool b',t',m'] t1)):=(Below.refl _ _).alloc (Nat.le_refl _) _;have h2:=qk0 w b t m b' t' m' t1;have h3:=qbl (w.alloc (.cells #[.bool b,t,m,.bool b',t',m'] t1)) t2 (.string ⟨#[]⟩) (.string ⟨#[]⟩);rw[World.size_alloc] at h3;exact⟨h1.alloc (by rw[World.size_alloc];omega) _,h2.later ((Below.refl _ _).alloc (by rw[World.size_alloc];omega) _),h3⟩
theorem qax{W:World}{g:Nat}{a b:Value}(h:Own W g 2 (qml a b)):(W.cell? ⟨g,0,none⟩=some a∧W.frozen? ⟨g,0,none⟩=false)∧(W.cell? ⟨g,1,none⟩=some b∧W.frozen? ⟨g,1,none⟩=false):=
 ⟨h.2 0 (by omega),h.2 1 (by omega)⟩
theorem qzx{W:World}{b:Bool}{p1:Option Addr}{k1 c1:Nat}{p2:Option Addr}{k2 c2:Nat}{b':Bool}{p1':Option Addr}{k1' c1':Nat}{p2':Option Addr}{k2' c2':Nat}{lo hi:Rat}(ty:TypeId)
  (h1:qaj W (.agg #[.bool b,.slice p1 k1 c1,.slice p2 k2 c2]) lo) (h2:qaj W (.agg #[.bool b',.slice p1' k1' c1',.slice p2' k2' c2']) hi):
  qh0 (W.alloc (.cells #[.bool b,.slice p1 k1 c1,.slice p2 k2 c2,.bool b',.slice p1' k1' c1',.slice p2' k2' c2'] ty)) W.heap.size 0 [lo,hi]:=by
 have hal:Below W.heap.size W (W.alloc (.cells #[.bool b,.slice p1 k1 c1,.slice p2 k2 c2,.bool b',.slice p1' k1' c1',.slice p2' k2' c2'] ty)):=(Below.refl _ _).alloc (Nat.le_refl _) _;intro j q hq
 match j,hq with
 | 0,hq=>
  cases hq
  refine⟨b,p1,k1,c1,p2,k2,c2, ?_, ?_, ?_,h1.later hal⟩<;>(rw[World.cell?_alloc_at _ _ _ _ rfl];rfl)
 | 1,hq=>
  cases hq
  refine⟨b',p1',k1',c1',p2',k2',c2', ?_, ?_, ?_,h2.later hal⟩<;>(rw[World.cell?_alloc_at _ _ _ _ rfl];rfl)
theorem q6d{w W:World}{b:Bool}{p1:Option Addr}{k1 c1:Nat}{p2:Option Addr}{k2 c2:Nat}{b':Bool}{p1':Option Addr}{k1' c1':Nat}{p2':Option Addr}{k2' c2':Nat}{lo hi:Rat}(hW:zal w b (.slice p1 k1 c1) (.slice p2 k2 c2) b' (.slice p1' k1' c1') (.slice p2' k2' c2') W)(hs:W.heap.size=w.heap.size+1+1)
  (h1:qaj w (.agg #[.bool b,.slice p1 k1 c1,.slice p2 k2 c2]) lo) (h2:qaj w (.agg #[.bool b',.slice p1' k1' c1',.slice p2' k2' c2']) hi) (r1:rs lo≤Cap) (r2:rs hi≤Cap):
  Calls Tryz.prog 72 #[.slice (some ⟨w.heap.size+1+1,0,none⟩) 2 2,.func (.func 56) #[] #[]] (W.alloc (.cells #[.bool b,.slice p1 k1 c1,.slice p2 k2 c2,.bool b',.slice p1' k1' c1',.slice p2' k2' c2'] 80))
   (fun e w'=>(if qac [qfj lo,qfj hi]=0 then ∃g,e = .returned (.tuple #[.slice (some ⟨g,0,none⟩) 2 2,.int .i64 0])∧qv9 w' g 2 [qc8 lo,qc8 hi]
    else e = .returned (.tuple #[.slice none 0 0,.int .i64 (qac [qfj lo,qfj hi])]))∧zal w b (.slice p1 k1 c1) (.slice p2 k2 c2) b' (.slice p1' k1' c1') (.slice p2' k2' c2') w'):=by
 rw[←hs];have hal:Below W.heap.size W (W.alloc (.cells #[.bool b,.slice p1 k1 c1,.slice p2 k2 c2,.bool b',.slice p1' k1' c1',.slice p2' k2' c2'] 80)):=(Below.refl _ _).alloc (Nat.le_refl _) _
 refine(qzw [lo,hi] W.heap.size 0 2 _ (qzx _ (h1.later hW.1) (h2.later hW.1)) (by simp) (by
  intro q hq;simp only[List.mem_cons,List.not_mem_nil,or_false] at hq
  rcases hq with rfl|rfl<;>assumption)).mono ?_
 intro e w' h;exact⟨h.1,hW.later (hal.trans (h.2.mono (by rw[World.size_alloc];omega)))⟩
theorem qgc(v:Value)(lo hi:Rat)(w:World)(hv:qg1 w v lo hi)(r1:rs lo≤Cap)(r2:rs hi≤Cap):
  Calls Tryz.prog 35 #[v] w (qd0 lo hi w):=by
 obtain⟨b,p1,k1,c1,p2,k2,c2,b',p1',k1',c1',p2',k2',c2',rfl,n1,n2⟩:=hv;have HW0:=hid (q6c w b (.slice p1 k1 c1) (.slice p2 k2 c2) b' (.slice p1' k1' c1') (.slice p2' k2' c2') 82 28);have hsz:=q2i w (.cells #[.bool b,.slice p1 k1 c1,.slice p2 k2 c2,.bool b',.slice p1' k1' c1',.slice p2' k2' c2'] 82) (.cells #[.string ⟨#[]⟩,.string ⟨#[]⟩] 28);have HWR:=hid (q6d HW0.out hsz n1 n2 r1 r2);obtain⟨⟨s0,_⟩,⟨s1,_⟩,⟨s2,_⟩,⟨s3,_⟩,⟨s4,_⟩,⟨s5,_⟩⟩:=qbm HW0.out.2.1;by_cases h0:qac [qfj lo,qfj hi]=0
 ·have HFIN:Hid (∀w',Below w.heap.size w w'→qd0 lo hi w (.returned (.tuple #[.agg #[.string (qc8 lo),.string (qc8 hi)],.int .i64 0])) w'):=hid fun w' h=>by
   unfold qd0;rw[if_pos h0];exact⟨rfl,h⟩
  simp only[if_pos h0] at HWR;clear hsz HW0 n1 n2 r1 r2 h0;generalize qc8 lo=x1 at *;generalize qc8 hi=x2 at *;go_enter Tryz.func35,Tryz.ntmps35;go_wp2_with fail;clear s0 s1 s2 s3 s4 s5;refine HWR.out.mono ?_;rintro e w1 ⟨⟨g,rfl,hs⟩,hw⟩;have e1:=hs.get 0 x1 rfl;have e2:=hs.get 1 x2 rfl;have HW1:=hid hw;obtain⟨⟨z0,y0⟩,⟨z1,y1⟩⟩:=qax hw.2.2;have HB:=hid ((hw.1.setCell (p:=⟨w.heap.size+1,0,none⟩) (by show w.heap.size≤w.heap.size+1;omega) (.string x1)).setCell (p:=⟨w.heap.size+1,1,none⟩) (by show w.heap.size≤w.heap.size+1;omega) (.string x2));clear hs hw HWR;go_wp2_with fail
  go_region
  go_wp2_with fail;refine bodyPost_ret (v := .tuple #[.agg #[.string x1,.string x2],.int .i64 0]) ?_ rfl ?_
  ·simp[results,Tryz.results35,go_sem,z0,z1]
  ·exact HFIN.out _ HB.out.drew
 ·have HFIN:Hid (∀w',Below w.heap.size w w'→qd0 lo hi w (.returned (.tuple #[.agg #[.string ⟨#[]⟩,.string ⟨#[]⟩],.int .i64 (qac [qfj lo,qfj hi]:Nat)])) w'):=hid fun w' h=>by
   unfold qd0;rw[if_neg h0];exact⟨rfl,h⟩
  simp only[if_neg h0] at HWR;have hb0:((qac [qfj lo,qfj hi]:Int)==0)=false:=beq_eq_false_iff_ne.2 (by omega);clear hsz HW0 n1 n2 r1 r2 h0;generalize qac [qfj lo,qfj hi]=ck at *;go_enter Tryz.func35,Tryz.ntmps35;go_wp2_with fail;clear s0 s1 s2 s3 s4 s5;refine HWR.out.mono ?_;rintro e w1 ⟨rfl,hw⟩;obtain⟨⟨z0,y0⟩,⟨z1,y1⟩⟩:=qax hw.2.2;have HB:=hid ((hw.1.setCell (p:=⟨w.heap.size+1,0,none⟩) (by show w.heap.size≤w.heap.size+1;omega) (.string ⟨#[]⟩)).setCell (p:=⟨w.heap.size+1,1,none⟩) (by show w.heap.size≤w.heap.size+1;omega) (.string ⟨#[]⟩));clear hw HWR;go_wp2_with fail;refine bodyPost_ret (v := .tuple #[.agg #[.string ⟨#[]⟩,.string ⟨#[]⟩],.int .i64 ck]) ?_ rfl ?_
  ·simp[results,Tryz.results35,go_sem,z0,z1]
  ·exact HFIN.out _ HB.out
end Go.Proofs.YthjagoogkkgelaaGreatDoor
