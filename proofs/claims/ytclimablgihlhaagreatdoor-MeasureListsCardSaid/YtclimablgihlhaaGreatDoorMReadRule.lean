/- readRule: a rule of rounding, or its error. -/
import Derived.Test.YtclimablgihlhaaGreatDoorMRules
import Derived.Test.YtclimablgihlhaaGreatDoorMCmpQ
import Derived.Laws.EntriesVeiled
set_option linter.all false
namespace Go.Proofs.YtclimablgihlhaaGreatDoor
open Go.RowKit
set_option maxRecDepth 100000
set_option maxHeartbeats 4000000
def qau(k:BA)(step:List UInt8):Nat:=
 if qdg k=none then 20 else if qaa step≠0 then qaa step else if(qav step).num≤0 then 3 else 0
def q3q(a b c d:Value)(i:Nat):Value:=if i=0 then a else if i=1 then b else if i=2 then c else d
def qko(a b:Value)(i:Nat):Value:=if i=0 then a else b
theorem qhy(w:World)(t:TypeId)(a b c d:Value):Own (w.alloc (.cells #[a,b,c,d] t)) w.heap.size 4 (q3q a b c d):=by
 refine⟨by rw[zao];omega,fun i hi => ?_⟩;rw[World.cell?_alloc_at _ _ _ _ rfl,World.frozen?_alloc_at _ _ _ _ rfl]
 match i,hi with
 | 0,_=>exact⟨rfl,rfl⟩
 | 1,_=>exact⟨rfl,rfl⟩
 | 2,_=>exact⟨rfl,rfl⟩
 | 3,_=>exact⟨rfl,rfl⟩
theorem qbg(w:World)(t:TypeId)(a b:Value):Own (w.alloc (.cells #[a,b] t)) w.heap.size 2 (qko a b):=by
 refine⟨by rw[zao];omega,fun i hi => ?_⟩;rw[World.cell?_alloc_at _ _ _ _ rfl,World.frozen?_alloc_at _ _ _ _ rfl]
 match i,hi with
 | 0,_=>exact⟨rfl,rfl⟩
 | 1,_=>exact⟨rfl,rfl⟩
theorem qdo{W:World}{g:Nat}{a b c d:Value}(h:Own W g 4 (q3q a b c d)):
  (W.cell? ⟨g,0,none⟩=some a∧W.cell? ⟨g,1,none⟩=some b∧W.cell? ⟨g,2,none⟩=some c∧W.cell? ⟨g,3,none⟩=some d)∧
  (W.frozen? ⟨g,0,none⟩=false∧W.frozen? ⟨g,1,none⟩=false∧W.frozen? ⟨g,2,none⟩=false∧W.frozen? ⟨g,3,none⟩=false):=
 ⟨⟨(h.2 0 (by omega)).1,(h.2 1 (by omega)).1,(h.2 2 (by omega)).1,(h.2 3 (by omega)).1⟩,(h.2 0 (by omega)).2,(h.2 1 (by omega)).2,(h.2 2 (by omega)).2,(h.2 3 (by omega)).2⟩
theorem qag{W:World}{g:Nat}{a b:Value}(h:Own W g 2 (qko a b)):W.cell? ⟨g,0,none⟩=some a∧W.cell? ⟨g,1,none⟩=some b:=
 ⟨(h.2 0 (by omega)).1,(h.2 1 (by omega)).1⟩
theorem qfx{W:World}{g g1 o:Nat}{c:Option Value}(h:W.cell? ⟨g1,o,none⟩=c)(hne:g≠g1)(x0 x1 x2 x3:Value):
  ((((W.setCell ⟨g,0,none⟩ x0).setCell ⟨g,1,none⟩ x1).setCell ⟨g,2,none⟩ x2).setCell ⟨g,3,none⟩ x3).cell? ⟨g1,o,none⟩=c:=by
 have k:∀(V:World) (i:Nat) (x:Value),(V.setCell ⟨g,i,none⟩ x).cell? ⟨g1,o,none⟩=V.cell? ⟨g1,o,none⟩:=fun V i x=>World.cell?_setCell_other _ _ _ _ (by intro e;injection e with e;exact hne e);rw[k,k,k,k];exact h
def qix(k:BA)(step:List UInt8)(w:World)(e:Ending)(w':World):Prop:=
 (if qau k step=0 then ∃f v b t bo,e = .returned (.tuple #[.agg #[.func (.func f) #[] #[],.bool b,t,bo],.int .i64 0])∧qdg k=some f∧v = .agg #[.bool b,t,bo]∧qaj w' v (qav step)
  else e = .returned (.tuple #[.agg #[.nilFunc,.bool false,.slice none 0 0,.slice none 0 0],.int .i64 (qau k step)]))∧Below w.heap.size w w'
theorem qmc{k:BA}{l:List UInt8}{w w':World}{e:Ending}{x:Int}(h:qau k l≠0)(hx:x=qau k l)(he:e = .returned (.tuple #[.agg #[.nilFunc,.bool false,.slice none 0 0,.slice none 0 0],.int .i64 x]))(hb:Below w.heap.size w w'):qix k l w e w':=by
 unfold qix;rw[if_neg h,←hx];exact⟨he,hb⟩
theorem q0r{k:BA}{l:List UInt8}{w w':World}{e:Ending}{f:Nat}{b:Bool}{t bo:Value}(h:qau k l=0)(he:e = .returned (.tuple #[.agg #[.func (.func f) #[] #[],.bool b,t,bo],.int .i64 0]))(hf:qdg k=some f)(hv:qaj w' (.agg #[.bool b,t,bo]) (qav l))(hb:Below w.heap.size w w'):qix k l w e w':=by
 unfold qix;rw[if_pos h];exact⟨⟨f,_,b,t,bo,he,hf,rfl,hv⟩,hb⟩
def qcd(w:World)(k s:BA)(W:World):Prop:=
 Below w.heap.size w W∧Own W w.heap.size 2 (qko (.string k) (.string s))∧Own W (w.heap.size+1) 4 (q3q .nilFunc (.bool false) (.slice none 0 0) (.slice none 0 0))
theorem qcd.later{w W W':World}{k s:BA}(h:qcd w k s W)(hb:Below W.heap.size W W'):qcd w k s W':=by
 obtain⟨h1,h2,h3⟩:=h;exact⟨h1.trans (hb.mono h1.size),h2.later (hb.mono h2.1),h3.later (hb.mono h3.1)⟩
theorem qjk(w:World)(k s:BA):qcd w k s ((w.alloc (.cells #[.string k,.string s] 51)).alloc (.cells #[.nilFunc,.bool false,.slice none 0 0,.slice none 0 0] 102)):=by
 have h1:=qbg w 51 (.string k) (.string s);have h2:=qhy (w.alloc (.cells #[.string k,.string s] 51)) 102 .nilFunc (.bool false) (.slice none 0 0) (.slice none 0 0);rw[zao] at h2;have al:∀(V:World) (o:Obj),Below V.heap.size V (V.alloc o):=fun V o=>zam _ _;exact⟨(al w _).trans ((al _ _).mono (by rw[zao];omega)),h1.later ((al _ _).mono (by rw[zao];omega)),h2⟩
theorem qa7{W:World}{g n:Nat}{f:Nat→Value}{v:Value}{q:Rat}(hv:qaj W v q)(ho:Own W g n f)(o:Nat)(h:o<n)(hf:∀k z,f o ≠ .int k z)(x:Value):qaj (W.setCell ⟨g,o,none⟩ x) v q:=by
 obtain⟨t,b,e,h1,h2⟩:=hv;exact⟨t,b,e,h1.setOther (ho.2 o h).1 hf,h2.setOther (ho.2 o h).1 hf⟩
theorem qcd.set{w W:World}{k s:BA}(h:qcd w k s W){g:Nat}(hg:w.heap.size+1<g)(o:Nat)(x:Value):qcd w k s (W.setCell ⟨g,o,none⟩ x):=by
 obtain⟨h1,h2,h3⟩:=h;have hb:Below (w.heap.size+1+1) W (W.setCell ⟨g,o,none⟩ x):=(zan _ _).setCell hg x;exact⟨h1.setCell (by show w.heap.size≤g;omega) x,h2.later (hb.mono (by omega)),h3.later hb⟩
theorem qnm{w W:World}{k s:BA}(h:qcd w k s W){g:Nat}(hg:w.heap.size+1<g){f:Nat→Value}(ho:Own W g 4 f)(x0 x1 x2 x3:Value):
  qcd w k s ((((W.setCell ⟨g,0,none⟩ x0).setCell ⟨g,1,none⟩ x1).setCell ⟨g,2,none⟩ x2).setCell ⟨g,3,none⟩ x3)∧Own ((((W.setCell ⟨g,0,none⟩ x0).setCell ⟨g,1,none⟩ x1).setCell ⟨g,2,none⟩ x2).setCell ⟨g,3,none⟩ x3) g 4 (q3q x0 x1 x2 x3)∧w.heap.size+1<g:=by
 refine⟨(((h.set hg 0 x0).set hg 1 x1).set hg 2 x2).set hg 3 x3, ?_,hg⟩;have h1:=(((ho.set 0 (by omega) x0).set 1 (by omega) x1).set 2 (by omega) x2).set 3 (by omega) x3;refine h1.congr fun i hi => ?_
 match i,hi with
 | 0,_=>rfl
 | 1,_=>rfl
 | 2,_=>rfl
 | 3,_=>rfl
theorem qec{w W:World}{k s:BA}(h:qcd w k s W)(x0 x1 x2 x3:Value):qcd w k s (W.alloc (.cells #[x0,x1,x2,x3] 102))∧Own (W.alloc (.cells #[x0,x1,x2,x3] 102)) W.heap.size 4 (q3q x0 x1 x2 x3)∧w.heap.size+1<W.heap.size:=
 ⟨h.later (zam _ _),qhy _ _ _ _ _ _,h.2.2.1⟩
theorem qq9(k s:BA)(w:World)(hf:qdg k=none):
  Calls Tryz.prog 52 #[.agg #[.string k,.string s]] w (qix k s.data.toList w):=by
 have oF:qau k s.data.toList=20:=by unfold qau;rw[if_pos hf]
 have gN:Hid ((20:Int)=qau k s.data.toList):=hid (by rw[oF];rfl);have jW:Hid (qau k s.data.toList≠0):=hid (by rw[oF];omega);have uQ:Hid (qk9 qdt k=none):=hid (by rw[qhx,hf];rfl);have aO:=hid (qjk w k s);have hzv:∀w,(zeroValue 102).run Tryz.prog w = .ok (.agg #[.nilFunc,.bool false,.slice none 0 0,.slice none 0 0]) w:=fun w=>by kernel_rfl
 have Kd:=hid hzv;clear hzv hf oF;go_enter Tryz.func52,Tryz.ntmps52;go_wp2_with fail;generalize (w.alloc (.cells #[.string k,.string s] 51)).alloc (.cells #[.nilFunc,.bool false,.slice none 0 0,.slice none 0 0] 102)=w0 at *;have cG:=hid (aO.out.later ((zan _ _).drew));obtain⟨c0,c1⟩:=qag cG.out.2.1;have al:∀V:World,Below V.heap.size V (V.alloc (.cells #[.nilFunc,.bool false,.slice none 0 0,.slice none 0 0] 102)):=fun V=>zam _ _;have AL:=hid al;have iT:w.heap.size+1<w0.heap.size:=aO.out.2.2.1;have nO:Hid (Calls Tryz.prog 94 #[] w0.drew fun e w'=>e = .returned (.map (some w0.heap.size))∧qq8 w' w0.heap.size qdt∧qcd w k s w'):=hid ((qby w0.drew).mono fun e w' ⟨h1,h2,h3⟩=>⟨h1,h2,cG.out.later h3⟩)
 have nP:Hid (Calls Tryz.prog 94 #[] (w0.alloc (.cells #[.nilFunc,.bool false,.slice none 0 0,.slice none 0 0] 102)).drew fun e w'=>e = .returned (.map (some (w0.heap.size+1)))∧qq8 w' (w0.heap.size+1) qdt∧qcd w k s w'∧Own w' w0.heap.size 4 (q3q .nilFunc (.bool false) (.slice none 0 0) (.slice none 0 0))):=hid (by
  have h:=qby (w0.alloc (.cells #[.nilFunc,.bool false,.slice none 0 0,.slice none 0 0] 102)).drew;have e1:(w0.alloc (.cells #[.nilFunc,.bool false,.slice none 0 0,.slice none 0 0] 102)).drew.heap.size=w0.heap.size+1:=zao _ _;rw[e1] at h;have h5:Below w0.heap.size w0 (w0.alloc (.cells #[.nilFunc,.bool false,.slice none 0 0,.slice none 0 0] 102)).drew:=(al w0).drew;refine h.mono fun e w' ⟨h1,h2,h3⟩=>⟨h1,h2, ?_, ?_⟩
  ·exact(aO.out.later h5).later (by rw[e1];exact h3)
  ·exact((qhy w0 102 .nilFunc (.bool false) (.slice none 0 0) (.slice none 0 0)).later ((zan _ _).drew)).later h3)
 have nQ:w0.heap.size≠w.heap.size:=by have:=aO.out.2.2.1;omega
 have cz:(w0.alloc (.cells #[.nilFunc,.bool false,.slice none 0 0,.slice none 0 0] 102)).drew.cell? ⟨w.heap.size,0,none⟩=some (.string k):=(qag ((aO.out.later (al w0)).later ((zan _ _).drew)).2.1).1;clear al
 go_region_held3 (fun W=>W.cell? ⟨w.heap.size,0,none⟩=some (.string k)) (first|with_reducible exact c0|with_reducible exact cz|with_reducible exact cm|with_reducible exact ca|with_reducible exact cv|with_reducible exact qfx cm nQ _ _ _ _|fail)
  (first
   | (go_at_call 94;((with_reducible refine nO.out.mono ?_);rintro e w1 ⟨rfl,hm,hr⟩;have qG:(Instr.lookup 144 (.map (some w0.heap.size)) (.string k) true).run Tryz.prog w1 = .ok (.tuple #[.agg #[.nilFunc,.bool false,.slice none 0 0,.slice none 0 0],.bool false]) w1:=(qd5 (P:=Tryz.prog) _ 144 9 102 Tryz.underlying144 Tryz.underlying9 _ _ hm k _ (Kd.out _) uQ.out).1;have uR:(Instr.lookup 144 (.map (some w0.heap.size)) (.string k) true).run Tryz.prog (w1.alloc (.cells #[.nilFunc,.bool false,.slice none 0 0,.slice none 0 0] 102)) = .ok (.tuple #[.agg #[.nilFunc,.bool false,.slice none 0 0,.slice none 0 0],.bool false]) (w1.alloc (.cells #[.nilFunc,.bool false,.slice none 0 0,.slice none 0 0] 102)):=(qd5 (P:=Tryz.prog) _ 144 9 102 Tryz.underlying144 Tryz.underlying9 _ _ (hm.later (AL.out _)) k _ (Kd.out _) uQ.out).1;have gT:=hid hr;have cm:=(qag hr.2.1).1;have ca:=(qag (hr.later (AL.out _)).2.1).1;have cv:=(qag (qec hr (.nilFunc) (.bool false) (.slice none 0 0) (.slice none 0 0)).1.2.1).1;clear hm hr))
   | (go_at_call 94;((with_reducible refine nP.out.mono ?_);rintro e w1 ⟨rfl,hm,hr,ho⟩;have qG:(Instr.lookup 144 (.map (some (w0.heap.size+1))) (.string k) true).run Tryz.prog w1 = .ok (.tuple #[.agg #[.nilFunc,.bool false,.slice none 0 0,.slice none 0 0],.bool false]) w1:=(qd5 (P:=Tryz.prog) _ 144 9 102 Tryz.underlying144 Tryz.underlying9 _ _ hm k _ (Kd.out _) uQ.out).1;have gT:=hid hr;have cm:=(qag hr.2.1).1;have uS:=hid ho;obtain⟨⟨z0,z1,z2,z3⟩,y0,y1,y2,y3⟩:=qdo ho;clear hm hr ho)))
 all_goals
  first
  | (obtain⟨uT,how,bB⟩:=qnm gT.out iT uS.out (.nilFunc) (.bool false) (.slice none 0 0) (.slice none 0 0);clear z0 z1 z2 z3 y0 y1 y2 y3 qG cm cz uS;generalize ((((w1.setCell ⟨w0.heap.size,0,none⟩ (.nilFunc)).setCell ⟨w0.heap.size,1,none⟩ (.bool false)).setCell ⟨w0.heap.size,2,none⟩ (.slice none 0 0)).setCell ⟨w0.heap.size,3,none⟩ (.slice none 0 0))=W2 at *;generalize w0.heap.size=B1 at *)
  | (obtain⟨uT,how,bB⟩:=qec gT.out (.nilFunc) (.bool false) (.slice none 0 0) (.slice none 0 0);clear qG uR cm ca cv cz;generalize (w1.alloc (.cells #[.nilFunc,.bool false,.slice none 0 0,.slice none 0 0] 102))=W2 at *;generalize w1.heap.size=B1 at *)
  have tQ:=hid uT;have tJ:=hid how;have aQ:=hid bB;clear uT how bB gT aO cG c0 c1 nO nP AL nQ;obtain⟨⟨r0,r1,r2,r3⟩,g0,g1,g2,g3⟩:=qdo tQ.out.2.2;have aH:Hid (Below w.heap.size w ((((W2.setCell ⟨w.heap.size+1,0,none⟩ .nilFunc).setCell ⟨w.heap.size+1,1,none⟩ (.bool false)).setCell ⟨w.heap.size+1,2,none⟩ (.slice none 0 0)).setCell ⟨w.heap.size+1,3,none⟩ (.slice none 0 0))):=hid ((((tQ.out.1.setCell (Nat.le_succ _) _).setCell (Nat.le_succ _) _).setCell (Nat.le_succ _) _).setCell (Nat.le_succ _) _);go_wp2_with fail;refine bodyPost_ret (v := .tuple #[.agg #[.nilFunc,.bool false,.slice none 0 0,.slice none 0 0],.int .i64 20]) ?_ rfl ?_
  ·simp[results,Tryz.results52,go_sem,r0,r1,r2,r3]
  ·exact qmc jW.out gN.out rfl aH.out
end Go.Proofs.YtclimablgihlhaaGreatDoor
