/- readRule: a rule of rounding, or its error. -/
import Derived.Test.YtmcfcpgglfimjaaGreatDoorMRules
import Derived.Test.YtmcfcpgglfimjaaGreatDoorMCmpQ
import Derived.Laws.EntriesVeiled
set_option linter.all false
namespace Go.Proofs.YtmcfcpgglfimjaaGreatDoor
open Go.RowKit
set_option maxRecDepth 100000
set_option maxHeartbeats 4000000
def qa5(k:BA)(step:List UInt8):Nat:=
 if qdq k=none then 20 else if qah step≠0 then qah step else if(qa9 step).num≤0 then 3 else 0
def q4q(a b c d:Value)(i:Nat):Value:=if i=0 then a else if i=1 then b else if i=2 then c else d
def qvs(a b:Value)(i:Nat):Value:=if i=0 then a else b
theorem qh8(w:World)(t:TypeId)(a b c d:Value):Own (w.alloc (.cells #[a,b,c,d] t)) w.heap.size 4 (q4q a b c d):=by
 refine⟨by rw[qab];omega,fun i hi => ?_⟩;rw[World.cell?_alloc_at _ _ _ _ rfl,World.frozen?_alloc_at _ _ _ _ rfl]
 match i,hi with
 | 0,_=>exact⟨rfl,rfl⟩
 | 1,_=>exact⟨rfl,rfl⟩
 | 2,_=>exact⟨rfl,rfl⟩
 | 3,_=>exact⟨rfl,rfl⟩
theorem qd2(w:World)(t:TypeId)(a b:Value):Own (w.alloc (.cells #[a,b] t)) w.heap.size 2 (qvs a b):=by
 refine⟨by rw[qab];omega,fun i hi => ?_⟩;rw[World.cell?_alloc_at _ _ _ _ rfl,World.frozen?_alloc_at _ _ _ _ rfl]
 match i,hi with
 | 0,_=>exact⟨rfl,rfl⟩
 | 1,_=>exact⟨rfl,rfl⟩
theorem qdw{W:World}{g:Nat}{a b c d:Value}(h:Own W g 4 (q4q a b c d)):
  (W.cell? ⟨g,0,none⟩=some a∧W.cell? ⟨g,1,none⟩=some b∧W.cell? ⟨g,2,none⟩=some c∧W.cell? ⟨g,3,none⟩=some d)∧
  (W.frozen? ⟨g,0,none⟩=false∧W.frozen? ⟨g,1,none⟩=false∧W.frozen? ⟨g,2,none⟩=false∧W.frozen? ⟨g,3,none⟩=false):=
 ⟨⟨(h.2 0 (by omega)).1,(h.2 1 (by omega)).1,(h.2 2 (by omega)).1,(h.2 3 (by omega)).1⟩,(h.2 0 (by omega)).2,(h.2 1 (by omega)).2,(h.2 2 (by omega)).2,(h.2 3 (by omega)).2⟩
theorem qap{W:World}{g:Nat}{a b:Value}(h:Own W g 2 (qvs a b)):W.cell? ⟨g,0,none⟩=some a∧W.cell? ⟨g,1,none⟩=some b:=
 ⟨(h.2 0 (by omega)).1,(h.2 1 (by omega)).1⟩
theorem qf5{W:World}{g g1 o:Nat}{c:Option Value}(h:W.cell? ⟨g1,o,none⟩=c)(hne:g≠g1)(x0 x1 x2 x3:Value):
  ((((W.setCell ⟨g,0,none⟩ x0).setCell ⟨g,1,none⟩ x1).setCell ⟨g,2,none⟩ x2).setCell ⟨g,3,none⟩ x3).cell? ⟨g1,o,none⟩=c:=by
 have k:∀(V:World) (i:Nat) (x:Value),(V.setCell ⟨g,i,none⟩ x).cell? ⟨g1,o,none⟩=V.cell? ⟨g1,o,none⟩:=fun V i x=>World.cell?_setCell_other _ _ _ _ (by intro e;injection e with e;exact hne e);rw[k,k,k,k];exact h
def qje(k:BA)(step:List UInt8)(w:World)(e:Ending)(w':World):Prop:=
 (if qa5 k step=0 then ∃f v b t bo,e = .returned (.tuple #[.agg #[.func (.func f) #[] #[],.bool b,t,bo],.int .i64 0])∧qdq k=some f∧v = .agg #[.bool b,t,bo]∧qaw w' v (qa9 step)
  else e = .returned (.tuple #[.agg #[.nilFunc,.bool false,.slice none 0 0,.slice none 0 0],.int .i64 (qa5 k step)]))∧Below w.heap.size w w'
theorem qmp{k:BA}{l:List UInt8}{w w':World}{e:Ending}{x:Int}(h:qa5 k l≠0)(hx:x=qa5 k l)(he:e = .returned (.tuple #[.agg #[.nilFunc,.bool false,.slice none 0 0,.slice none 0 0],.int .i64 x]))(hb:Below w.heap.size w w'):qje k l w e w':=by
 unfold qje;rw[if_neg h,←hx];exact⟨he,hb⟩
theorem q2j{k:BA}{l:List UInt8}{w w':World}{e:Ending}{f:Nat}{b:Bool}{t bo:Value}(h:qa5 k l=0)(he:e = .returned (.tuple #[.agg #[.func (.func f) #[] #[],.bool b,t,bo],.int .i64 0]))(hf:qdq k=some f)(hv:qaw w' (.agg #[.bool b,t,bo]) (qa9 l))(hb:Below w.heap.size w w'):qje k l w e w':=by
 unfold qje;rw[if_pos h];exact⟨⟨f,_,b,t,bo,he,hf,rfl,hv⟩,hb⟩
def qco(w:World)(k s:BA)(W:World):Prop:=
 Below w.heap.size w W∧Own W w.heap.size 2 (qvs (.string k) (.string s))∧Own W (w.heap.size+1) 4 (q4q .nilFunc (.bool false) (.slice none 0 0) (.slice none 0 0))
theorem qco.later{w W W':World}{k s:BA}(h:qco w k s W)(hb:Below W.heap.size W W'):qco w k s W':=by
 obtain⟨h1,h2,h3⟩:=h;exact⟨h1.trans (hb.mono h1.size),h2.later (hb.mono h2.1),h3.later (hb.mono h3.1)⟩
theorem qjy(w:World)(k s:BA):qco w k s ((w.alloc (.cells #[.string k,.string s] 45)).alloc (.cells #[.nilFunc,.bool false,.slice none 0 0,.slice none 0 0] 93)):=by
 have h1:=qd2 w 45 (.string k) (.string s);have h2:=qh8 (w.alloc (.cells #[.string k,.string s] 45)) 93 .nilFunc (.bool false) (.slice none 0 0) (.slice none 0 0);rw[qab] at h2;have al:∀(V:World) (o:Obj),Below V.heap.size V (V.alloc o):=fun V o=>qad _ _;exact⟨(al w _).trans ((al _ _).mono (by rw[qab];omega)),h1.later ((al _ _).mono (by rw[qab];omega)),h2⟩
theorem qbl{W:World}{g n:Nat}{f:Nat→Value}{v:Value}{q:Rat}(hv:qaw W v q)(ho:Own W g n f)(o:Nat)(h:o<n)(hf:∀k z,f o ≠ .int k z)(x:Value):qaw (W.setCell ⟨g,o,none⟩ x) v q:=by
 obtain⟨t,b,e,h1,h2⟩:=hv;exact⟨t,b,e,h1.setOther (ho.2 o h).1 hf,h2.setOther (ho.2 o h).1 hf⟩
theorem qco.set{w W:World}{k s:BA}(h:qco w k s W){g:Nat}(hg:w.heap.size+1<g)(o:Nat)(x:Value):qco w k s (W.setCell ⟨g,o,none⟩ x):=by
 obtain⟨h1,h2,h3⟩:=h;have hb:Below (w.heap.size+1+1) W (W.setCell ⟨g,o,none⟩ x):=(qaa _ _).setCell hg x;exact⟨h1.setCell (by show w.heap.size≤g;omega) x,h2.later (hb.mono (by omega)),h3.later hb⟩
theorem qn0{w W:World}{k s:BA}(h:qco w k s W){g:Nat}(hg:w.heap.size+1<g){f:Nat→Value}(ho:Own W g 4 f)(x0 x1 x2 x3:Value):
  qco w k s ((((W.setCell ⟨g,0,none⟩ x0).setCell ⟨g,1,none⟩ x1).setCell ⟨g,2,none⟩ x2).setCell ⟨g,3,none⟩ x3)∧Own ((((W.setCell ⟨g,0,none⟩ x0).setCell ⟨g,1,none⟩ x1).setCell ⟨g,2,none⟩ x2).setCell ⟨g,3,none⟩ x3) g 4 (q4q x0 x1 x2 x3)∧w.heap.size+1<g:=by
 refine⟨(((h.set hg 0 x0).set hg 1 x1).set hg 2 x2).set hg 3 x3, ?_,hg⟩;have h1:=(((ho.set 0 (by omega) x0).set 1 (by omega) x1).set 2 (by omega) x2).set 3 (by omega) x3;refine h1.congr fun i hi => ?_
 match i,hi with
 | 0,_=>rfl
 | 1,_=>rfl
 | 2,_=>rfl
 | 3,_=>rfl
theorem qej{w W:World}{k s:BA}(h:qco w k s W)(x0 x1 x2 x3:Value):qco w k s (W.alloc (.cells #[x0,x1,x2,x3] 93))∧Own (W.alloc (.cells #[x0,x1,x2,x3] 93)) W.heap.size 4 (q4q x0 x1 x2 x3)∧w.heap.size+1<W.heap.size:=
 ⟨h.later (qad _ _),qh8 _ _ _ _ _ _,h.2.2.1⟩
theorem qrv(k s:BA)(w:World)(hf:qdq k=none):
  Calls Tryz.prog 44 #[.agg #[.string k,.string s]] w (qje k s.data.toList w):=by
 have nE:qa5 k s.data.toList=20:=by unfold qa5;rw[if_pos hf]
 have eY:Hid ((20:Int)=qa5 k s.data.toList):=hid (by rw[nE];rfl);have iR:Hid (qa5 k s.data.toList≠0):=hid (by rw[nE];omega);have tA:Hid (qlk qd1 k=none):=hid (by rw[qh7,hf];rfl);have aO:=hid (qjy w k s);have hzv:∀w,(zeroValue 93).run Tryz.prog w = .ok (.agg #[.nilFunc,.bool false,.slice none 0 0,.slice none 0 0]) w:=fun w=>by kernel_rfl
 have Hf:=hid hzv;clear hzv hf nE;go_enter Tryz.func44,Tryz.ntmps44;go_wp2_with fail;generalize (w.alloc (.cells #[.string k,.string s] 45)).alloc (.cells #[.nilFunc,.bool false,.slice none 0 0,.slice none 0 0] 93)=w0 at *;have cF:=hid (aO.out.later ((qaa _ _).drew));obtain⟨c0,c1⟩:=qap cF.out.2.1;have al:∀V:World,Below V.heap.size V (V.alloc (.cells #[.nilFunc,.bool false,.slice none 0 0,.slice none 0 0] 93)):=fun V=>qad _ _;have AL:=hid al;have gU:w.heap.size+1<w0.heap.size:=aO.out.2.2.1;have mR:Hid (Calls Tryz.prog 88 #[] w0.drew fun e w'=>e = .returned (.map (some w0.heap.size))∧qru w' w0.heap.size qd1∧qco w k s w'):=hid ((qca w0.drew).mono fun e w' ⟨h1,h2,h3⟩=>⟨h1,h2,cF.out.later h3⟩)
 have mS:Hid (Calls Tryz.prog 88 #[] (w0.alloc (.cells #[.nilFunc,.bool false,.slice none 0 0,.slice none 0 0] 93)).drew fun e w'=>e = .returned (.map (some (w0.heap.size+1)))∧qru w' (w0.heap.size+1) qd1∧qco w k s w'∧Own w' w0.heap.size 4 (q4q .nilFunc (.bool false) (.slice none 0 0) (.slice none 0 0))):=hid (by
  have h:=qca (w0.alloc (.cells #[.nilFunc,.bool false,.slice none 0 0,.slice none 0 0] 93)).drew;have e1:(w0.alloc (.cells #[.nilFunc,.bool false,.slice none 0 0,.slice none 0 0] 93)).drew.heap.size=w0.heap.size+1:=qab _ _;rw[e1] at h;have h5:Below w0.heap.size w0 (w0.alloc (.cells #[.nilFunc,.bool false,.slice none 0 0,.slice none 0 0] 93)).drew:=(al w0).drew;refine h.mono fun e w' ⟨h1,h2,h3⟩=>⟨h1,h2, ?_, ?_⟩
  ·exact(aO.out.later h5).later (by rw[e1];exact h3)
  ·exact((qh8 w0 93 .nilFunc (.bool false) (.slice none 0 0) (.slice none 0 0)).later ((qaa _ _).drew)).later h3)
 have mT:w0.heap.size≠w.heap.size:=by have:=aO.out.2.2.1;omega
 have cz:(w0.alloc (.cells #[.nilFunc,.bool false,.slice none 0 0,.slice none 0 0] 93)).drew.cell? ⟨w.heap.size,0,none⟩=some (.string k):=(qap ((aO.out.later (al w0)).later ((qaa _ _).drew)).2.1).1;clear al
 go_region_held3 (fun W=>W.cell? ⟨w.heap.size,0,none⟩=some (.string k)) (first|with_reducible exact c0|with_reducible exact cz|with_reducible exact cm|with_reducible exact ca|with_reducible exact cv|with_reducible exact qf5 cm mT _ _ _ _|fail)
  (first
   | (go_at_call 88;((with_reducible refine mR.out.mono ?_);rintro e w1 ⟨rfl,hm,hr⟩;have pW:(Instr.lookup 144 (.map (some w0.heap.size)) (.string k) true).run Tryz.prog w1 = .ok (.tuple #[.agg #[.nilFunc,.bool false,.slice none 0 0,.slice none 0 0],.bool false]) w1:=(qeb (P:=Tryz.prog) _ 144 9 93 Tryz.underlying144 Tryz.underlying9 _ _ hm k _ (Hf.out _) tA.out).1;have tB:(Instr.lookup 144 (.map (some w0.heap.size)) (.string k) true).run Tryz.prog (w1.alloc (.cells #[.nilFunc,.bool false,.slice none 0 0,.slice none 0 0] 93)) = .ok (.tuple #[.agg #[.nilFunc,.bool false,.slice none 0 0,.slice none 0 0],.bool false]) (w1.alloc (.cells #[.nilFunc,.bool false,.slice none 0 0,.slice none 0 0] 93)):=(qeb (P:=Tryz.prog) _ 144 9 93 Tryz.underlying144 Tryz.underlying9 _ _ (hm.later (AL.out _)) k _ (Hf.out _) tA.out).1;have iL:=hid hr;have cm:=(qap hr.2.1).1;have ca:=(qap (hr.later (AL.out _)).2.1).1;have cv:=(qap (qej hr (.nilFunc) (.bool false) (.slice none 0 0) (.slice none 0 0)).1.2.1).1;clear hm hr))
   | (go_at_call 88;((with_reducible refine mS.out.mono ?_);rintro e w1 ⟨rfl,hm,hr,ho⟩;have pW:(Instr.lookup 144 (.map (some (w0.heap.size+1))) (.string k) true).run Tryz.prog w1 = .ok (.tuple #[.agg #[.nilFunc,.bool false,.slice none 0 0,.slice none 0 0],.bool false]) w1:=(qeb (P:=Tryz.prog) _ 144 9 93 Tryz.underlying144 Tryz.underlying9 _ _ hm k _ (Hf.out _) tA.out).1;have iL:=hid hr;have cm:=(qap hr.2.1).1;have tC:=hid ho;obtain⟨⟨z0,z1,z2,z3⟩,y0,y1,y2,y3⟩:=qdw ho;clear hm hr ho)))
 all_goals
  first
  | (obtain⟨tD,how,aY⟩:=qn0 iL.out gU tC.out (.nilFunc) (.bool false) (.slice none 0 0) (.slice none 0 0);clear z0 z1 z2 z3 y0 y1 y2 y3 pW cm cz tC;generalize ((((w1.setCell ⟨w0.heap.size,0,none⟩ (.nilFunc)).setCell ⟨w0.heap.size,1,none⟩ (.bool false)).setCell ⟨w0.heap.size,2,none⟩ (.slice none 0 0)).setCell ⟨w0.heap.size,3,none⟩ (.slice none 0 0))=W2 at *;generalize w0.heap.size=B1 at *)
  | (obtain⟨tD,how,aY⟩:=qej iL.out (.nilFunc) (.bool false) (.slice none 0 0) (.slice none 0 0);clear pW tB cm ca cv cz;generalize (w1.alloc (.cells #[.nilFunc,.bool false,.slice none 0 0,.slice none 0 0] 93))=W2 at *;generalize w1.heap.size=B1 at *)
  have rZ:=hid tD;have oN:=hid how;have aP:=hid aY;clear tD how aY iL aO cF c0 c1 mR mS AL mT;obtain⟨⟨r0,r1,r2,r3⟩,g0,g1,g2,g3⟩:=qdw rZ.out.2.2;have aG:Hid (Below w.heap.size w ((((W2.setCell ⟨w.heap.size+1,0,none⟩ .nilFunc).setCell ⟨w.heap.size+1,1,none⟩ (.bool false)).setCell ⟨w.heap.size+1,2,none⟩ (.slice none 0 0)).setCell ⟨w.heap.size+1,3,none⟩ (.slice none 0 0))):=hid ((((rZ.out.1.setCell (Nat.le_succ _) _).setCell (Nat.le_succ _) _).setCell (Nat.le_succ _) _).setCell (Nat.le_succ _) _);go_wp2_with fail;refine bodyPost_ret (v := .tuple #[.agg #[.nilFunc,.bool false,.slice none 0 0,.slice none 0 0],.int .i64 20]) ?_ rfl ?_
  ·simp[results,Tryz.results44,go_sem,r0,r1,r2,r3]
  ·exact qmp iR.out eY.out rfl aG.out
end Go.Proofs.YtmcfcpgglfimjaaGreatDoor
