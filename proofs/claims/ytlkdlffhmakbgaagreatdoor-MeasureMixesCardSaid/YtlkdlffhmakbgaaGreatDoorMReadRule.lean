/- readRule: a rule of rounding, or its error. -/
import Derived.Test.YtlkdlffhmakbgaaGreatDoorMRules
import Derived.Test.YtlkdlffhmakbgaaGreatDoorMCmpQ
import Derived.Laws.EntriesVeiled
set_option linter.all false
namespace Go.Proofs.YtlkdlffhmakbgaaGreatDoor
open Go.RowKit
set_option maxRecDepth 100000
set_option maxHeartbeats 4000000
def qa8(k:BA)(step:List UInt8):Nat:=
 if qdr k=none then 20 else if qah step≠0 then qah step else if(qbc step).num≤0 then 3 else 0
def q4j(a b c d:Value)(i:Nat):Value:=if i=0 then a else if i=1 then b else if i=2 then c else d
def qu8(a b:Value)(i:Nat):Value:=if i=0 then a else b
theorem qh2(w:World)(t:TypeId)(a b c d:Value):Own (w.alloc (.cells #[a,b,c,d] t)) w.heap.size 4 (q4j a b c d):=by
 refine⟨by rw[qab];omega,fun i hi => ?_⟩;rw[World.cell?_alloc_at _ _ _ _ rfl,World.frozen?_alloc_at _ _ _ _ rfl]
 match i,hi with
 | 0,_=>exact⟨rfl,rfl⟩
 | 1,_=>exact⟨rfl,rfl⟩
 | 2,_=>exact⟨rfl,rfl⟩
 | 3,_=>exact⟨rfl,rfl⟩
theorem qd3(w:World)(t:TypeId)(a b:Value):Own (w.alloc (.cells #[a,b] t)) w.heap.size 2 (qu8 a b):=by
 refine⟨by rw[qab];omega,fun i hi => ?_⟩;rw[World.cell?_alloc_at _ _ _ _ rfl,World.frozen?_alloc_at _ _ _ _ rfl]
 match i,hi with
 | 0,_=>exact⟨rfl,rfl⟩
 | 1,_=>exact⟨rfl,rfl⟩
theorem qdx{W:World}{g:Nat}{a b c d:Value}(h:Own W g 4 (q4j a b c d)):
  (W.cell? ⟨g,0,none⟩=some a∧W.cell? ⟨g,1,none⟩=some b∧W.cell? ⟨g,2,none⟩=some c∧W.cell? ⟨g,3,none⟩=some d)∧
  (W.frozen? ⟨g,0,none⟩=false∧W.frozen? ⟨g,1,none⟩=false∧W.frozen? ⟨g,2,none⟩=false∧W.frozen? ⟨g,3,none⟩=false):=
 ⟨⟨(h.2 0 (by omega)).1,(h.2 1 (by omega)).1,(h.2 2 (by omega)).1,(h.2 3 (by omega)).1⟩,(h.2 0 (by omega)).2,(h.2 1 (by omega)).2,(h.2 2 (by omega)).2,(h.2 3 (by omega)).2⟩
theorem qaq{W:World}{g:Nat}{a b:Value}(h:Own W g 2 (qu8 a b)):W.cell? ⟨g,0,none⟩=some a∧W.cell? ⟨g,1,none⟩=some b:=
 ⟨(h.2 0 (by omega)).1,(h.2 1 (by omega)).1⟩
theorem qf2{W:World}{g g1 o:Nat}{c:Option Value}(h:W.cell? ⟨g1,o,none⟩=c)(hne:g≠g1)(x0 x1 x2 x3:Value):
  ((((W.setCell ⟨g,0,none⟩ x0).setCell ⟨g,1,none⟩ x1).setCell ⟨g,2,none⟩ x2).setCell ⟨g,3,none⟩ x3).cell? ⟨g1,o,none⟩=c:=by
 have k:∀(V:World) (i:Nat) (x:Value),(V.setCell ⟨g,i,none⟩ x).cell? ⟨g1,o,none⟩=V.cell? ⟨g1,o,none⟩:=fun V i x=>World.cell?_setCell_other _ _ _ _ (by intro e;injection e with e;exact hne e);rw[k,k,k,k];exact h
def qi8(k:BA)(step:List UInt8)(w:World)(e:Ending)(w':World):Prop:=
 (if qa8 k step=0 then ∃f v b t bo,e = .returned (.tuple #[.agg #[.func (.func f) #[] #[],.bool b,t,bo],.int .i64 0])∧qdr k=some f∧v = .agg #[.bool b,t,bo]∧qau w' v (qbc step)
  else e = .returned (.tuple #[.agg #[.nilFunc,.bool false,.slice none 0 0,.slice none 0 0],.int .i64 (qa8 k step)]))∧Below w.heap.size w w'
theorem qmr{k:BA}{l:List UInt8}{w w':World}{e:Ending}{x:Int}(h:qa8 k l≠0)(hx:x=qa8 k l)(he:e = .returned (.tuple #[.agg #[.nilFunc,.bool false,.slice none 0 0,.slice none 0 0],.int .i64 x]))(hb:Below w.heap.size w w'):qi8 k l w e w':=by
 unfold qi8;rw[if_neg h,←hx];exact⟨he,hb⟩
theorem q1l{k:BA}{l:List UInt8}{w w':World}{e:Ending}{f:Nat}{b:Bool}{t bo:Value}(h:qa8 k l=0)(he:e = .returned (.tuple #[.agg #[.func (.func f) #[] #[],.bool b,t,bo],.int .i64 0]))(hf:qdr k=some f)(hv:qau w' (.agg #[.bool b,t,bo]) (qbc l))(hb:Below w.heap.size w w'):qi8 k l w e w':=by
 unfold qi8;rw[if_pos h];exact⟨⟨f,_,b,t,bo,he,hf,rfl,hv⟩,hb⟩
def qcp(w:World)(k s:BA)(W:World):Prop:=
 Below w.heap.size w W∧Own W w.heap.size 2 (qu8 (.string k) (.string s))∧Own W (w.heap.size+1) 4 (q4j .nilFunc (.bool false) (.slice none 0 0) (.slice none 0 0))
theorem qcp.later{w W W':World}{k s:BA}(h:qcp w k s W)(hb:Below W.heap.size W W'):qcp w k s W':=by
 obtain⟨h1,h2,h3⟩:=h;exact⟨h1.trans (hb.mono h1.size),h2.later (hb.mono h2.1),h3.later (hb.mono h3.1)⟩
theorem qjt(w:World)(k s:BA):qcp w k s ((w.alloc (.cells #[.string k,.string s] 44)).alloc (.cells #[.nilFunc,.bool false,.slice none 0 0,.slice none 0 0] 95)):=by
 have h1:=qd3 w 44 (.string k) (.string s);have h2:=qh2 (w.alloc (.cells #[.string k,.string s] 44)) 95 .nilFunc (.bool false) (.slice none 0 0) (.slice none 0 0);rw[qab] at h2;have al:∀(V:World) (o:Obj),Below V.heap.size V (V.alloc o):=fun V o=>qad _ _;exact⟨(al w _).trans ((al _ _).mono (by rw[qab];omega)),h1.later ((al _ _).mono (by rw[qab];omega)),h2⟩
theorem qbp{W:World}{g n:Nat}{f:Nat→Value}{v:Value}{q:Rat}(hv:qau W v q)(ho:Own W g n f)(o:Nat)(h:o<n)(hf:∀k z,f o ≠ .int k z)(x:Value):qau (W.setCell ⟨g,o,none⟩ x) v q:=by
 obtain⟨t,b,e,h1,h2⟩:=hv;exact⟨t,b,e,h1.setOther (ho.2 o h).1 hf,h2.setOther (ho.2 o h).1 hf⟩
theorem qcp.set{w W:World}{k s:BA}(h:qcp w k s W){g:Nat}(hg:w.heap.size+1<g)(o:Nat)(x:Value):qcp w k s (W.setCell ⟨g,o,none⟩ x):=by
 obtain⟨h1,h2,h3⟩:=h;have hb:Below (w.heap.size+1+1) W (W.setCell ⟨g,o,none⟩ x):=(qaa _ _).setCell hg x;exact⟨h1.setCell (by show w.heap.size≤g;omega) x,h2.later (hb.mono (by omega)),h3.later hb⟩
theorem qn1{w W:World}{k s:BA}(h:qcp w k s W){g:Nat}(hg:w.heap.size+1<g){f:Nat→Value}(ho:Own W g 4 f)(x0 x1 x2 x3:Value):
  qcp w k s ((((W.setCell ⟨g,0,none⟩ x0).setCell ⟨g,1,none⟩ x1).setCell ⟨g,2,none⟩ x2).setCell ⟨g,3,none⟩ x3)∧Own ((((W.setCell ⟨g,0,none⟩ x0).setCell ⟨g,1,none⟩ x1).setCell ⟨g,2,none⟩ x2).setCell ⟨g,3,none⟩ x3) g 4 (q4j x0 x1 x2 x3)∧w.heap.size+1<g:=by
 refine⟨(((h.set hg 0 x0).set hg 1 x1).set hg 2 x2).set hg 3 x3, ?_,hg⟩;have h1:=(((ho.set 0 (by omega) x0).set 1 (by omega) x1).set 2 (by omega) x2).set 3 (by omega) x3;refine h1.congr fun i hi => ?_
 match i,hi with
 | 0,_=>rfl
 | 1,_=>rfl
 | 2,_=>rfl
 | 3,_=>rfl
theorem qen{w W:World}{k s:BA}(h:qcp w k s W)(x0 x1 x2 x3:Value):qcp w k s (W.alloc (.cells #[x0,x1,x2,x3] 95))∧Own (W.alloc (.cells #[x0,x1,x2,x3] 95)) W.heap.size 4 (q4j x0 x1 x2 x3)∧w.heap.size+1<W.heap.size:=
 ⟨h.later (qad _ _),qh2 _ _ _ _ _ _,h.2.2.1⟩
theorem qrn(k s:BA)(w:World)(hf:qdr k=none):
  Calls Tryz.prog 46 #[.agg #[.string k,.string s]] w (qi8 k s.data.toList w):=by
 have lV:qa8 k s.data.toList=20:=by unfold qa8;rw[if_pos hf]
 have eX:Hid ((20:Int)=qa8 k s.data.toList):=hid (by rw[lV];rfl);have iF:Hid (qa8 k s.data.toList≠0):=hid (by rw[lV];omega);have oY:Hid (qli qd2 k=none):=hid (by rw[qh1,hf];rfl);have aM:=hid (qjt w k s);have hzv:∀w,(zeroValue 95).run Tryz.prog w = .ok (.agg #[.nilFunc,.bool false,.slice none 0 0,.slice none 0 0]) w:=fun w=>by kernel_rfl
 have Ih:=hid hzv;clear hzv hf lV;go_enter Tryz.func46,Tryz.ntmps46;go_wp2_with fail;generalize (w.alloc (.cells #[.string k,.string s] 44)).alloc (.cells #[.nilFunc,.bool false,.slice none 0 0,.slice none 0 0] 95)=w0 at *;have bX:=hid (aM.out.later ((qaa _ _).drew));obtain⟨c0,c1⟩:=qaq bX.out.2.1;have al:∀V:World,Below V.heap.size V (V.alloc (.cells #[.nilFunc,.bool false,.slice none 0 0,.slice none 0 0] 95)):=fun V=>qad _ _;have AL:=hid al;have iH:w.heap.size+1<w0.heap.size:=aM.out.2.2.1;have nE:Hid (Calls Tryz.prog 97 #[] w0.drew fun e w'=>e = .returned (.map (some w0.heap.size))∧qrm w' w0.heap.size qd2∧qcp w k s w'):=hid ((qb9 w0.drew).mono fun e w' ⟨h1,h2,h3⟩=>⟨h1,h2,bX.out.later h3⟩)
 have nF:Hid (Calls Tryz.prog 97 #[] (w0.alloc (.cells #[.nilFunc,.bool false,.slice none 0 0,.slice none 0 0] 95)).drew fun e w'=>e = .returned (.map (some (w0.heap.size+1)))∧qrm w' (w0.heap.size+1) qd2∧qcp w k s w'∧Own w' w0.heap.size 4 (q4j .nilFunc (.bool false) (.slice none 0 0) (.slice none 0 0))):=hid (by
  have h:=qb9 (w0.alloc (.cells #[.nilFunc,.bool false,.slice none 0 0,.slice none 0 0] 95)).drew;have e1:(w0.alloc (.cells #[.nilFunc,.bool false,.slice none 0 0,.slice none 0 0] 95)).drew.heap.size=w0.heap.size+1:=qab _ _;rw[e1] at h;have h5:Below w0.heap.size w0 (w0.alloc (.cells #[.nilFunc,.bool false,.slice none 0 0,.slice none 0 0] 95)).drew:=(al w0).drew;refine h.mono fun e w' ⟨h1,h2,h3⟩=>⟨h1,h2, ?_, ?_⟩
  ·exact(aM.out.later h5).later (by rw[e1];exact h3)
  ·exact((qh2 w0 95 .nilFunc (.bool false) (.slice none 0 0) (.slice none 0 0)).later ((qaa _ _).drew)).later h3)
 have nG:w0.heap.size≠w.heap.size:=by have:=aM.out.2.2.1;omega
 have cz:(w0.alloc (.cells #[.nilFunc,.bool false,.slice none 0 0,.slice none 0 0] 95)).drew.cell? ⟨w.heap.size,0,none⟩=some (.string k):=(qaq ((aM.out.later (al w0)).later ((qaa _ _).drew)).2.1).1;clear al
 go_region_held3 (fun W=>W.cell? ⟨w.heap.size,0,none⟩=some (.string k)) (first|with_reducible exact c0|with_reducible exact cz|with_reducible exact cm|with_reducible exact ca|with_reducible exact cv|with_reducible exact qf2 cm nG _ _ _ _|fail)
  (first
   | (go_at_call 97;((with_reducible refine nE.out.mono ?_);rintro e w1 ⟨rfl,hm,hr⟩;have qR:(Instr.lookup 149 (.map (some w0.heap.size)) (.string k) true).run Tryz.prog w1 = .ok (.tuple #[.agg #[.nilFunc,.bool false,.slice none 0 0,.slice none 0 0],.bool false]) w1:=(qeg (P:=Tryz.prog) _ 149 9 95 Tryz.underlying149 Tryz.underlying9 _ _ hm k _ (Ih.out _) oY.out).1;have tK:(Instr.lookup 149 (.map (some w0.heap.size)) (.string k) true).run Tryz.prog (w1.alloc (.cells #[.nilFunc,.bool false,.slice none 0 0,.slice none 0 0] 95)) = .ok (.tuple #[.agg #[.nilFunc,.bool false,.slice none 0 0,.slice none 0 0],.bool false]) (w1.alloc (.cells #[.nilFunc,.bool false,.slice none 0 0,.slice none 0 0] 95)):=(qeg (P:=Tryz.prog) _ 149 9 95 Tryz.underlying149 Tryz.underlying9 _ _ (hm.later (AL.out _)) k _ (Ih.out _) oY.out).1;have gH:=hid hr;have cm:=(qaq hr.2.1).1;have ca:=(qaq (hr.later (AL.out _)).2.1).1;have cv:=(qaq (qen hr (.nilFunc) (.bool false) (.slice none 0 0) (.slice none 0 0)).1.2.1).1;clear hm hr))
   | (go_at_call 97;((with_reducible refine nF.out.mono ?_);rintro e w1 ⟨rfl,hm,hr,ho⟩;have qR:(Instr.lookup 149 (.map (some (w0.heap.size+1))) (.string k) true).run Tryz.prog w1 = .ok (.tuple #[.agg #[.nilFunc,.bool false,.slice none 0 0,.slice none 0 0],.bool false]) w1:=(qeg (P:=Tryz.prog) _ 149 9 95 Tryz.underlying149 Tryz.underlying9 _ _ hm k _ (Ih.out _) oY.out).1;have gH:=hid hr;have cm:=(qaq hr.2.1).1;have nH:=hid ho;obtain⟨⟨z0,z1,z2,z3⟩,y0,y1,y2,y3⟩:=qdx ho;clear hm hr ho)))
 all_goals
  first
  | (obtain⟨tL,how,aZ⟩:=qn1 gH.out iH nH.out (.nilFunc) (.bool false) (.slice none 0 0) (.slice none 0 0);clear z0 z1 z2 z3 y0 y1 y2 y3 qR cm cz nH;generalize ((((w1.setCell ⟨w0.heap.size,0,none⟩ (.nilFunc)).setCell ⟨w0.heap.size,1,none⟩ (.bool false)).setCell ⟨w0.heap.size,2,none⟩ (.slice none 0 0)).setCell ⟨w0.heap.size,3,none⟩ (.slice none 0 0))=W2 at *;generalize w0.heap.size=B1 at *)
  | (obtain⟨tL,how,aZ⟩:=qen gH.out (.nilFunc) (.bool false) (.slice none 0 0) (.slice none 0 0);clear qR tK cm ca cv cz;generalize (w1.alloc (.cells #[.nilFunc,.bool false,.slice none 0 0,.slice none 0 0] 95))=W2 at *;generalize w1.heap.size=B1 at *)
  have sP:=hid tL;have lT:=hid how;have aP:=hid aZ;clear tL how aZ gH aM bX c0 c1 nE nF AL nG;obtain⟨⟨r0,r1,r2,r3⟩,g0,g1,g2,g3⟩:=qdx sP.out.2.2;have aG:Hid (Below w.heap.size w ((((W2.setCell ⟨w.heap.size+1,0,none⟩ .nilFunc).setCell ⟨w.heap.size+1,1,none⟩ (.bool false)).setCell ⟨w.heap.size+1,2,none⟩ (.slice none 0 0)).setCell ⟨w.heap.size+1,3,none⟩ (.slice none 0 0))):=hid ((((sP.out.1.setCell (Nat.le_succ _) _).setCell (Nat.le_succ _) _).setCell (Nat.le_succ _) _).setCell (Nat.le_succ _) _);go_wp2_with fail;refine bodyPost_ret (v := .tuple #[.agg #[.nilFunc,.bool false,.slice none 0 0,.slice none 0 0],.int .i64 20]) ?_ rfl ?_
  ·simp[results,Tryz.results46,go_sem,r0,r1,r2,r3]
  ·exact qmr iF.out eX.out rfl aG.out
end Go.Proofs.YtlkdlffhmakbgaaGreatDoor
