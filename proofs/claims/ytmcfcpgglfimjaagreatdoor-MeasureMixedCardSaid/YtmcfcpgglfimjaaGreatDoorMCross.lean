/- subtractCrosswise: two numbers in memory of the call's own become combinations of both. -/
import Derived.Test.YtmcfcpgglfimjaaGreatDoorMMine
set_option linter.all false
namespace Go.Proofs.YtmcfcpgglfimjaaGreatDoor
open Go.RowKit
set_option maxRecDepth 100000
set_option maxHeartbeats 2000000
theorem Own.other{w:World}{g g' n:Nat}{f:Nat→Value}(h:Own w g n f)(hne:g≠g')(o:Nat)(v:Value):Own (w.setCell ⟨g',o,none⟩ v) g n f:=
 ((qfb.refl g' w).set o v).own h hne
structure qdn(W:World)(g1 g2 k:Nat)(S1 S2:List Nat)(o0 o1 c0 c1 p0 p1 q0 q1 b0 b1:Nat):Prop where
 A:Own W g1 S1.length (wd S1)
 B:Own W g2 S2.length (wd S2)
 O:Own W k [o0,o1].length (wd [o0,o1])
 C:Own W (k+1) [c0,c1].length (wd [c0,c1])
 P:Own W (k+1+1) [p0,p1].length (wd [p0,p1])
 Q:Own W (k+1+1+1) [q0,q1].length (wd [q0,q1])
 T:Own W (k+1+1+1+1) [b0,b1].length (wd [b0,b1])
 h1:g1<k
 h2:g2<k
 h3:g1≠g2
theorem qdn.setA{W:World}{g1 g2 k:Nat}{S1 S2:List Nat}{o0 o1 c0 c1 p0 p1 q0 q1 b0 b1:Nat}(h:qdn W g1 g2 k S1 S2 o0 o1 c0 c1 p0 p1 q0 q1 b0 b1)(i:Nat)(hi:i<S1.length)(x:Nat):
  qdn (W.setCell ⟨g1,i,none⟩ (.int .u64 (x:Nat))) g1 g2 k (S1.set i x) S2 o0 o1 c0 c1 p0 p1 q0 q1 b0 b1:=by
 have:=h.h1;have:=h.h2;have:=h.h3;exact⟨h.A.setWord i hi x,h.B.other (by omega) _ _,h.O.other (by omega) _ _,h.C.other (by omega) _ _,h.P.other (by omega) _ _,h.Q.other (by omega) _ _,h.T.other (by omega) _ _,h.h1,h.h2,h.h3⟩
theorem qdn.setB{W:World}{g1 g2 k:Nat}{S1 S2:List Nat}{o0 o1 c0 c1 p0 p1 q0 q1 b0 b1:Nat}(h:qdn W g1 g2 k S1 S2 o0 o1 c0 c1 p0 p1 q0 q1 b0 b1)(i:Nat)(hi:i<S2.length)(x:Nat):
  qdn (W.setCell ⟨g2,i,none⟩ (.int .u64 (x:Nat))) g1 g2 k S1 (S2.set i x) o0 o1 c0 c1 p0 p1 q0 q1 b0 b1:=by
 have:=h.h1;have:=h.h2;have:=h.h3;exact⟨h.A.other (by omega) _ _,h.B.setWord i hi x,h.O.other (by omega) _ _,h.C.other (by omega) _ _,h.P.other (by omega) _ _,h.Q.other (by omega) _ _,h.T.other (by omega) _ _,h.h1,h.h2,h.h3⟩
theorem qdn.setP0{W:World}{g1 g2 k:Nat}{S1 S2:List Nat}{o0 o1 c0 c1 p0 p1 q0 q1 b0 b1:Nat}(h:qdn W g1 g2 k S1 S2 o0 o1 c0 c1 p0 p1 q0 q1 b0 b1)(x:Nat):
  qdn (W.setCell ⟨k+1+1,0,none⟩ (.int .u64 (x:Nat))) g1 g2 k S1 S2 o0 o1 c0 c1 x p1 q0 q1 b0 b1:=by
 have:=h.h1;have:=h.h2;have:=h.h3;exact⟨h.A.other (by omega) _ _,h.B.other (by omega) _ _,h.O.other (by omega) _ _,h.C.other (by omega) _ _,h.P.setWord 0 (by simp) x,h.Q.other (by omega) _ _,h.T.other (by omega) _ _,h.h1,h.h2,h.h3⟩
theorem qdn.setP1{W:World}{g1 g2 k:Nat}{S1 S2:List Nat}{o0 o1 c0 c1 p0 p1 q0 q1 b0 b1:Nat}(h:qdn W g1 g2 k S1 S2 o0 o1 c0 c1 p0 p1 q0 q1 b0 b1)(x:Nat):
  qdn (W.setCell ⟨k+1+1,1,none⟩ (.int .u64 (x:Nat))) g1 g2 k S1 S2 o0 o1 c0 c1 p0 x q0 q1 b0 b1:=by
 have:=h.h1;have:=h.h2;have:=h.h3;exact⟨h.A.other (by omega) _ _,h.B.other (by omega) _ _,h.O.other (by omega) _ _,h.C.other (by omega) _ _,h.P.setWord 1 (by simp) x,h.Q.other (by omega) _ _,h.T.other (by omega) _ _,h.h1,h.h2,h.h3⟩
theorem qdn.setQ0{W:World}{g1 g2 k:Nat}{S1 S2:List Nat}{o0 o1 c0 c1 p0 p1 q0 q1 b0 b1:Nat}(h:qdn W g1 g2 k S1 S2 o0 o1 c0 c1 p0 p1 q0 q1 b0 b1)(x:Nat):
  qdn (W.setCell ⟨k+1+1+1,0,none⟩ (.int .u64 (x:Nat))) g1 g2 k S1 S2 o0 o1 c0 c1 p0 p1 x q1 b0 b1:=by
 have:=h.h1;have:=h.h2;have:=h.h3;exact⟨h.A.other (by omega) _ _,h.B.other (by omega) _ _,h.O.other (by omega) _ _,h.C.other (by omega) _ _,h.P.other (by omega) _ _,h.Q.setWord 0 (by simp) x,h.T.other (by omega) _ _,h.h1,h.h2,h.h3⟩
theorem qdn.setQ1{W:World}{g1 g2 k:Nat}{S1 S2:List Nat}{o0 o1 c0 c1 p0 p1 q0 q1 b0 b1:Nat}(h:qdn W g1 g2 k S1 S2 o0 o1 c0 c1 p0 p1 q0 q1 b0 b1)(x:Nat):
  qdn (W.setCell ⟨k+1+1+1,1,none⟩ (.int .u64 (x:Nat))) g1 g2 k S1 S2 o0 o1 c0 c1 p0 p1 q0 x b0 b1:=by
 have:=h.h1;have:=h.h2;have:=h.h3;exact⟨h.A.other (by omega) _ _,h.B.other (by omega) _ _,h.O.other (by omega) _ _,h.C.other (by omega) _ _,h.P.other (by omega) _ _,h.Q.setWord 1 (by simp) x,h.T.other (by omega) _ _,h.h1,h.h2,h.h3⟩
theorem qdn.setT0{W:World}{g1 g2 k:Nat}{S1 S2:List Nat}{o0 o1 c0 c1 p0 p1 q0 q1 b0 b1:Nat}(h:qdn W g1 g2 k S1 S2 o0 o1 c0 c1 p0 p1 q0 q1 b0 b1)(x:Nat):
  qdn (W.setCell ⟨k+1+1+1+1,0,none⟩ (.int .u64 (x:Nat))) g1 g2 k S1 S2 o0 o1 c0 c1 p0 p1 q0 q1 x b1:=by
 have:=h.h1;have:=h.h2;have:=h.h3;exact⟨h.A.other (by omega) _ _,h.B.other (by omega) _ _,h.O.other (by omega) _ _,h.C.other (by omega) _ _,h.P.other (by omega) _ _,h.Q.other (by omega) _ _,h.T.setWord 0 (by simp) x,h.h1,h.h2,h.h3⟩
theorem qdn.setT1{W:World}{g1 g2 k:Nat}{S1 S2:List Nat}{o0 o1 c0 c1 p0 p1 q0 q1 b0 b1:Nat}(h:qdn W g1 g2 k S1 S2 o0 o1 c0 c1 p0 p1 q0 q1 b0 b1)(x:Nat):
  qdn (W.setCell ⟨k+1+1+1+1,1,none⟩ (.int .u64 (x:Nat))) g1 g2 k S1 S2 o0 o1 c0 c1 p0 p1 q0 q1 b0 x:=by
 have:=h.h1;have:=h.h2;have:=h.h3;exact⟨h.A.other (by omega) _ _,h.B.other (by omega) _ _,h.O.other (by omega) _ _,h.C.other (by omega) _ _,h.P.other (by omega) _ _,h.Q.other (by omega) _ _,h.T.setWord 1 (by simp) x,h.h1,h.h2,h.h3⟩
theorem qdn.drew{W:World}{g1 g2 k:Nat}{S1 S2:List Nat}{o0 o1 c0 c1 p0 p1 q0 q1 b0 b1:Nat}(h:qdn W g1 g2 k S1 S2 o0 o1 c0 c1 p0 p1 q0 q1 b0 b1):
  qdn W.drew g1 g2 k S1 S2 o0 o1 c0 c1 p0 p1 q0 q1 b0 b1:=
 ⟨h.A.later (qaa _ _).drew,h.B.later (qaa _ _).drew,h.O.later (qaa _ _).drew,h.C.later (qaa _ _).drew,h.P.later (qaa _ _).drew,h.Q.later (qaa _ _).drew,h.T.later (qaa _ _).drew,h.h1,h.h2,h.h3⟩
theorem qdn.a{W:World}{g1 g2 k:Nat}{S1 S2:List Nat}{o0 o1 c0 c1 p0 p1 q0 q1 b0 b1:Nat}(h:qdn W g1 g2 k S1 S2 o0 o1 c0 c1 p0 p1 q0 q1 b0 b1)(i:Nat)(hi:i<S1.length):W.cell? ⟨g1,i,none⟩=some (.int .u64 (S1.getD i 0:Nat))∧W.frozen? ⟨g1,i,none⟩=false:=h.A.2 i hi
theorem qdn.b{W:World}{g1 g2 k:Nat}{S1 S2:List Nat}{o0 o1 c0 c1 p0 p1 q0 q1 b0 b1:Nat}(h:qdn W g1 g2 k S1 S2 o0 o1 c0 c1 p0 p1 q0 q1 b0 b1)(i:Nat)(hi:i<S2.length):W.cell? ⟨g2,i,none⟩=some (.int .u64 (S2.getD i 0:Nat))∧W.frozen? ⟨g2,i,none⟩=false:=h.B.2 i hi
theorem qdn.boxes{W:World}{g1 g2 k:Nat}{S1 S2:List Nat}{o0 o1 c0 c1 p0 p1 q0 q1 b0 b1:Nat}(h:qdn W g1 g2 k S1 S2 o0 o1 c0 c1 p0 p1 q0 q1 b0 b1):
  (W.cell? ⟨k,0,none⟩=some (.int .u64 o0)∧W.cell? ⟨k,1,none⟩=some (.int .u64 o1))∧(W.cell? ⟨k+1,0,none⟩=some (.int .u64 c0)∧W.cell? ⟨k+1,1,none⟩=some (.int .u64 c1))∧
  (W.cell? ⟨k+1+1,0,none⟩=some (.int .u64 p0)∧W.cell? ⟨k+1+1,1,none⟩=some (.int .u64 p1))∧(W.cell? ⟨k+1+1+1,0,none⟩=some (.int .u64 q0)∧W.cell? ⟨k+1+1+1,1,none⟩=some (.int .u64 q1))∧
  (W.cell? ⟨k+1+1+1+1,0,none⟩=some (.int .u64 b0)∧W.cell? ⟨k+1+1+1+1,1,none⟩=some (.int .u64 b1))∧
  (W.frozen? ⟨k+1+1,0,none⟩=false∧W.frozen? ⟨k+1+1,1,none⟩=false∧W.frozen? ⟨k+1+1+1,0,none⟩=false∧W.frozen? ⟨k+1+1+1,1,none⟩=false∧W.frozen? ⟨k+1+1+1+1,0,none⟩=false∧W.frozen? ⟨k+1+1+1+1,1,none⟩=false):=
 ⟨⟨(h.O.2 0 (by simp)).1,(h.O.2 1 (by simp)).1⟩,⟨(h.C.2 0 (by simp)).1,(h.C.2 1 (by simp)).1⟩,⟨(h.P.2 0 (by simp)).1,(h.P.2 1 (by simp)).1⟩,⟨(h.Q.2 0 (by simp)).1,(h.Q.2 1 (by simp)).1⟩,⟨(h.T.2 0 (by simp)).1,(h.T.2 1 (by simp)).1⟩,
  ⟨(h.P.2 0 (by simp)).2,(h.P.2 1 (by simp)).2,(h.Q.2 0 (by simp)).2,(h.Q.2 1 (by simp)).2,(h.T.2 0 (by simp)).2,(h.T.2 1 (by simp)).2⟩⟩
theorem qk9(w:World)(x y:Nat):Own (w.alloc (.cells #[.int .u64 (x:Nat),.int .u64 (y:Nat)] 233)) w.heap.size [x,y].length (wd [x,y]):=by
 refine⟨by rw[qab];omega,fun i hi => ?_⟩;rw[World.cell?_alloc_at _ _ _ _ rfl,World.frozen?_alloc_at _ _ _ _ rfl]
 match i,hi with
 | 0,_=>exact⟨rfl,rfl⟩
 | 1,_=>exact⟨rfl,rfl⟩
theorem Own.alloc{w:World}{g n:Nat}{f:Nat→Value}(h:Own w g n f)(o:Obj):Own (w.alloc o) g n f:=
 h.later ((qaa _ _).alloc (by have:=h.1;omega) _)
theorem qu4(w:World)(g1 g2:Nat)(A B:List Nat)(o0 o1 c0 c1:Nat)(hA:Own w g1 A.length (wd A))(hB:Own w g2 B.length (wd B))(hne:g1≠g2):
  qdn (((((w.alloc (.cells #[.int .u64 (o0:Nat),.int .u64 (o1:Nat)] 233)).alloc (.cells #[.int .u64 (c0:Nat),.int .u64 (c1:Nat)] 233)).alloc (.cells #[.int .u64 0,.int .u64 0] 233)).alloc (.cells #[.int .u64 0,.int .u64 0] 233)).alloc (.cells #[.int .u64 0,.int .u64 0] 233)) g1 g2 w.heap.size A B o0 o1 c0 c1 0 0 0 0 0 0:=by
 have e1:=qk9 w o0 o1;have e2:=qk9 (w.alloc (.cells #[.int .u64 (o0:Nat),.int .u64 (o1:Nat)] 233)) c0 c1;have e3:=qk9 ((w.alloc (.cells #[.int .u64 (o0:Nat),.int .u64 (o1:Nat)] 233)).alloc (.cells #[.int .u64 (c0:Nat),.int .u64 (c1:Nat)] 233)) 0 0;have e4:=qk9 (((w.alloc (.cells #[.int .u64 (o0:Nat),.int .u64 (o1:Nat)] 233)).alloc (.cells #[.int .u64 (c0:Nat),.int .u64 (c1:Nat)] 233)).alloc (.cells #[.int .u64 ((0:Nat):Int),.int .u64 ((0:Nat):Int)] 233)) 0 0;have e5:=qk9 ((((w.alloc (.cells #[.int .u64 (o0:Nat),.int .u64 (o1:Nat)] 233)).alloc (.cells #[.int .u64 (c0:Nat),.int .u64 (c1:Nat)] 233)).alloc (.cells #[.int .u64 ((0:Nat):Int),.int .u64 ((0:Nat):Int)] 233)).alloc (.cells #[.int .u64 ((0:Nat):Int),.int .u64 ((0:Nat):Int)] 233)) 0 0;simp only[qab] at e2 e3 e4 e5;exact⟨((((hA.alloc _).alloc _).alloc _).alloc _).alloc _,((((hB.alloc _).alloc _).alloc _).alloc _).alloc _,(((e1.alloc _).alloc _).alloc _).alloc _,((e2.alloc _).alloc _).alloc _,(e3.alloc _).alloc _,e4.alloc _,e5,hA.1,hB.1,hne⟩
def Blk(base:Nat)(w w':World):Prop:=Below base w w'∧qnm w w'
theorem qfj{base:Nat}{w wr:World}(h:Blk base w wr){g:Nat}(hg:base≤g)(o:Nat)(v:Value):Blk base w (wr.setCell ⟨g,o,none⟩ v):=⟨h.1.setCell hg v,h.2.trans (qnm.setCell _ _ _ _)⟩
theorem Blk.drew{base:Nat}{w wr:World}(h:Blk base w wr):Blk base w wr.drew:=⟨h.1.drew,h.2.trans (qnm.drew _)⟩
theorem qyz{base:Nat}(w:World)(o1 o2 o3 o4 o5:Obj)(h:base≤w.heap.size):Blk base w (((((w.alloc o1).alloc o2).alloc o3).alloc o4).alloc o5):=by
 refine⟨?_,((((qnm.alloc _ _).trans (qnm.alloc _ _)).trans (qnm.alloc _ _)).trans (qnm.alloc _ _)).trans (qnm.alloc _ _)⟩;refine(((((qaa _ _).alloc h _).alloc ?_ _).alloc ?_ _).alloc ?_ _).alloc ?_ _<;>simp only[qab]<;>omega
theorem qqj{B p S R L mA mB bw mA' mB' bw' a b x y left right res:Nat}(h:S+R*y+p*mA=L*x+p*mB+p*bw)
  (h1:left+B*mA'=a*x+mA) (h2:right+B*mB'=b*y+mB) (h3:res+right+bw=left+B*bw'):
  (S+p*res)+(R+p*b)*y+p*B*mA'=(L+p*a)*x+p*B*mB'+p*B*bw':=by
 have e:res+(b*y+mB)+bw+B*mA'=a*x+mA+B*mB'+B*bw':=by omega
 have e2:=congrArg (p * ·) e;simp only[Nat.mul_add] at e2;rw[Nat.add_mul,Nat.add_mul,Nat.mul_assoc p b y,Nat.mul_assoc p a x];simp only[Nat.mul_assoc p B] at *;omega
theorem qs1{P S R L mA mB bw x y:Nat}(h:S+R*y+P*mA=L*x+P*mB+P*bw)(dS:R*y≤L*x)(bC:L*x-R*y<P)(hS:S<P):S=L*x-R*y:=by
 have e:S+P*mA=(L*x-R*y)+P*(mB+bw):=by rw[Nat.mul_add];omega
 have e2:=congrArg (· % P) e;simp only[Nat.add_mul_mod_self_left,Nat.mod_eq_of_lt hS,Nat.mod_eq_of_lt bC] at e2;exact e2
theorem qw7(_b:Nat){S A:List Nat}{k:Nat}(_hS:S.length=A.length)(h:∀j,k≤j→S.getD j 0=A.getD j 0)(x:Nat)(_hk:k<A.length):∀j,k+1≤j→(S.set k x).getD j 0=A.getD j 0:=by
 intro j hj;rw[qa3 S k j x (by omega)];exact h j (by omega)
theorem qla(g1 g2 n ca cb base a b o0 o1 c0 c1:Nat)(A B:List Nat)(w:World)(hne:g1≠g2)(jO:base≤g1)(sD:base≤g2)(hA:A.length=n)(hB:B.length=n)
  (hoA:Own w g1 A.length (wd A)) (hoB:Own w g2 B.length (wd B)) (hdA:∀d ∈ A,d<B64) (hdB:∀d ∈ B,d<B64) (hvA:val B64 A=a) (hvB:val B64 B=b)
  (ho0:o0<B64) (ho1:o1<B64) (fA:c0<B64) (bO:c1<B64) (hn:n≤Cap)
  (h1:b*c0≤a*o0) (h2:a*o0-b*c0<B64^n) (h3:a*c1≤b*o1) (h4:b*o1-a*c1<B64^n):
  Calls Tryz.prog 184 #[.slice (some ⟨g1,0,none⟩) n ca,.slice (some ⟨g2,0,none⟩) n cb,.agg #[.int .u64 o0,.int .u64 o1],.agg #[.int .u64 c0,.int .u64 c1]] w fun e w'=>
   e = .returned (.tuple #[])∧(∃S1 S2,S1.length=n∧S2.length=n∧(∀d ∈ S1,d<B64)∧(∀d ∈ S2,d<B64)∧val B64 S1=a*o0-b*c0∧val B64 S2=b*o1-a*c1∧Own w' g1 n (wd S1)∧Own w' g2 n (wd S2))∧Blk base w w':=by
 have hN62:n<4611686018427387904:=by unfold Cap at hn;omega
 have HK1:Hid (g1<w.heap.size):=hid hoA.1;have Mb:Hid (g2<w.heap.size):=hid hoB.1
 have Ds:Hid (∀(S:List Nat) (mA mB bw:Nat),S.length=n→(∀d ∈ S,d<B64)→low B64 S n+low B64 B n*c0+B64^n*mA=low B64 A n*o0+B64^n*mB+B64^n*bw→val B64 S=a*o0-b*c0):=by
  refine hid fun S mA mB bw hs hsb h => ?_;rw[qbf B64 S _ (by omega),qbf B64 B _ (by omega),qbf B64 A _ (by omega),hvA,hvB] at h;have eQ:=qiv B64 S hsb;rw[hs] at eQ;exact qs1 h h1 h2 eQ
 have Dt:Hid (∀(S:List Nat) (mA mB bw:Nat),S.length=n→(∀d ∈ S,d<B64)→low B64 S n+low B64 A n*c1+B64^n*mA=low B64 B n*o1+B64^n*mB+B64^n*bw→val B64 S=b*o1-a*c1):=by
  refine hid fun S mA mB bw hs hsb h => ?_;rw[qbf B64 S _ (by omega),qbf B64 B _ (by omega),qbf B64 A _ (by omega),hvA,hvB] at h;have eQ:=qiv B64 S hsb;rw[hs] at eQ;exact qs1 h h3 h4 eQ
 have Du:=hid hoA;have uT:=hid hoB;have gD:=hid hdA;have fQ:=hid hdB;have kL:=hid hA;have iQ:=hid hB;have qZ:=hid ho0;have iI:=hid ho1;have kS:=hid fA;have jJ:=hid bO;have lG:=hid jO;have mG:=hid sD;have iR:=hid hne;clear h1 h2 h3 h4 hvA hvB hoA hoB hdA hdB hA hB ho0 ho1 fA bO hn jO sD hne;go_enter Tryz.func184,Tryz.ntmps184;go_wp2_with fail;have Af:=hid (qu4 w g1 g2 A B o0 o1 c0 c1 Du.out uT.out iR.out);have dU:Hid (Blk base w (((((w.alloc (.cells #[.int .u64 (o0:Nat),.int .u64 (o1:Nat)] 233)).alloc (.cells #[.int .u64 (c0:Nat),.int .u64 (c1:Nat)] 233)).alloc (.cells #[.int .u64 0,.int .u64 0] 233)).alloc (.cells #[.int .u64 0,.int .u64 0] 233)).alloc (.cells #[.int .u64 0,.int .u64 0] 233))):=hid (qyz w _ _ _ _ _ (by have:=HK1.out;have:=lG.out;omega));generalize (((((w.alloc (.cells #[.int .u64 (o0:Nat),.int .u64 (o1:Nat)] 233)).alloc (.cells #[.int .u64 (c0:Nat),.int .u64 (c1:Nat)] 233)).alloc (.cells #[.int .u64 0,.int .u64 0] 233)).alloc (.cells #[.int .u64 0,.int .u64 0] 233)).alloc (.cells #[.int .u64 0,.int .u64 0] 233))=w0 at *;have uR:Hid (base≤w.heap.size):=hid (by have:=HK1.out;have:=lG.out;omega);clear Du uT
 go_loopw [18] (fun i wr=>∃(k p0 p1 q0 q1 b0 b1:Nat) (S1 S2:List Nat),k≤n∧i = .int .i64 k∧b0≤1∧b1≤1∧Hid (p0<B64∧p1<B64∧q0<B64∧q1<B64)∧Hid (S1.length=n∧S2.length=n)∧Hid ((∀d ∈ S1,d<B64)∧(∀d ∈ S2,d<B64))∧Hid ((∀j,k≤j→S1.getD j 0=A.getD j 0)∧(∀j,k≤j→S2.getD j 0=B.getD j 0))∧Hid (qdn wr g1 g2 w.heap.size S1 S2 o0 o1 c0 c1 p0 p1 q0 q1 b0 b1)∧
  Hid (low B64 S1 k+low B64 B k*c0+B64^k*p0=low B64 A k*o0+B64^k*q0+B64^k*b0)∧Hid (low B64 S2 k+low B64 A k*c1+B64^k*p1=low B64 B k*o1+B64^k*q1+B64^k*b1)∧Hid (Blk base w wr)) (fun i _=>n-(intOf i).toNat)
 case atStart=>exact⟨0,0,0,0,0,0,0,A,B,Nat.zero_le _,rfl,by omega,by omega,hid (by rw[qaj];omega),hid ⟨kL.out,iQ.out⟩,hid ⟨gD.out,fQ.out⟩,hid ⟨fun _ _=>rfl,fun _ _=>rfl⟩,Af,hid (by simp),hid (by simp),dU⟩
 case round=>
  obtain⟨k,p0,p1,q0,q1,b0,b1,S1,S2,hk,rfl,eE,aY,lI,aW,qF,qE,HS,nQ,cN,HB⟩:=hrel;clear Af dU;by_cases kT:k<n
  ·have lA:k<S1.length:=by rw[aW.out.1];exact kT
   have nB:k<S2.length:=by rw[aW.out.2];exact kT
   obtain⟨hxa,fxa⟩:=HS.out.a k lA;obtain⟨Gs,fyb⟩:=HS.out.b k nB;rw[qE.out.1 k (qac _)] at hxa;rw[qE.out.2 k (qac _)] at Gs;have aD:=qaz (b:=B64) (by rw[qaj];omega) gD.out k;have lK:=qaz (b:=B64) (by rw[qaj];omega) fQ.out k;have Gt:=qa0 B64 A k;have Gu:=qa0 B64 B k;have Dw:=fun v=>qb2 B64 S1 k v lA;have Dx:=fun v=>qb2 B64 S2 k v nB
   have iB:Hid (∀r1 r2,(∀j,k+1≤j→(S1.set k r1).getD j 0=A.getD j 0)∧(∀j,k+1≤j→(S2.set k r2).getD j 0=B.getD j 0)):=
    hid fun r1 r2=>⟨qw7 B64 (by rw[aW.out.1,kL.out]) qE.out.1 r1 (by rw[kL.out];exact kT),qw7 B64 (by rw[aW.out.2,iQ.out]) qE.out.2 r2 (by rw[iQ.out];exact kT)⟩
   have Dy:=hid (And.intro lA nB);generalize A.getD k 0=x at *;generalize B.getD k 0=y at *;have gK:Hid (∀w,Calls Tryz.prog 134 #[.int .u64 x,.int .u64 o0,.int .u64 p0] w fun e w'=>e = .returned (.tuple #[.int .u64 (qit x o0 p0:Nat),.int .u64 (qiu x o0 p0:Nat)])∧w'=w):=hid fun w=>qcb _ _ _ aD qZ.out lI.out.1 w;have fF:Hid (∀w,Calls Tryz.prog 134 #[.int .u64 y,.int .u64 c0,.int .u64 q0] w fun e w'=>e = .returned (.tuple #[.int .u64 (qit y c0 q0:Nat),.int .u64 (qiu y c0 q0:Nat)])∧w'=w):=hid fun w=>qcb _ _ _ lK kS.out lI.out.2.2.1 w;have Kg:Hid (∀w,Calls Tryz.prog 134 #[.int .u64 y,.int .u64 o1,.int .u64 p1] w fun e w'=>e = .returned (.tuple #[.int .u64 (qit y o1 p1:Nat),.int .u64 (qiu y o1 p1:Nat)])∧w'=w):=hid fun w=>qcb _ _ _ lK iI.out lI.out.2.1 w;have HM4:Hid (∀w,Calls Tryz.prog 134 #[.int .u64 x,.int .u64 c1,.int .u64 q1] w fun e w'=>e = .returned (.tuple #[.int .u64 (qit x c1 q1:Nat),.int .u64 (qiu x c1 q1:Nat)])∧w'=w):=hid fun w=>qcb _ _ _ aD jJ.out lI.out.2.2.2 w;have e1:=qq6 x o0 p0;have e2:=qq6 y c0 q0;have e3:=qq6 y o1 p1;have e4:=qq6 x c1 q1;have l1:=qkf x o0 p0;have l2:=qkf y c0 q0;have l3:=qkf y o1 p1;have l4:=qkf x c1 q1;have HPQ2:Hid (qiu x o0 p0<B64∧qiu y o1 p1<B64∧qiu y c0 q0<B64∧qiu x c1 q1<B64):=hid ⟨ql7 aD qZ.out lI.out.1,ql7 lK iI.out lI.out.2.1,ql7 lK kS.out lI.out.2.2.1,ql7 aD jJ.out lI.out.2.2.2⟩;generalize qit x o0 p0=z1 at *;generalize qiu x o0 p0=p0' at *;generalize qit y c0 q0=z2 at *;generalize qiu y c0 q0=q0' at *;generalize qit y o1 p1=z3 at *;generalize qiu y o1 p1=p1' at *;generalize qit x c1 q1=z4 at *;generalize qiu x c1 q1=q1' at *;have Ni:=fun w=>qi1 z1 z2 b0 eE w;have Nj:=fun w=>qi1 z3 z4 b1 aY w;have t1:=qso l1 l2 eE;have t2:=qso l3 l4 aY;have hb0':=qnq z1 z2 b0;have hb1':=qnq z3 z4 b1;have r1l:=qk3 z1 z2 b0;have r2l:=qk3 z3 z4 b1
   generalize qht z1 z2 b0=r1 at *;generalize ql6 z1 z2 b0=b0' at *;generalize qht z3 z4 b1=r2 at *;generalize ql6 z3 z4 b1=b1' at *
   have HR1':Hid (low B64 (S1.set k r1) (k+1)+low B64 B (k+1)*c0+B64^(k+1)*p0'=low B64 A (k+1)*o0+B64^(k+1)*q0'+B64^(k+1)*b0'):=by
    refine hid ?_;rw[Dw r1,Gt,Gu,Nat.pow_succ];exact qqj nQ.out e1 e2 t1
   have HR2':Hid (low B64 (S2.set k r2) (k+1)+low B64 A (k+1)*c1+B64^(k+1)*p1'=low B64 B (k+1)*o1+B64^(k+1)*q1'+B64^(k+1)*b1'):=by
    refine hid ?_;rw[Dx r2,Gt,Gu,Nat.pow_succ];exact qqj cN.out e3 e4 t2
   have HDD':Hid ((∀d ∈ S1.set k r1,d<B64)∧(∀d ∈ S2.set k r2,d<B64)):=hid ⟨qc7 qF.out.1 _ _ r1l,qc7 qF.out.2 _ _ r2l⟩;have HLEN':Hid ((S1.set k r1).length=n∧(S2.set k r2).length=n):=hid (by rw[List.length_set,List.length_set];exact aW.out);have HTL':=hid (iB.out r1 r2);clear Dw Dx Gt Gu e1 e2 e3 e4 t1 t2 l1 l2 l3 l4 aD lK r1l r2l lA nB nQ cN iB qE qF aW lI fxa fyb eE aY;go_wp2_with fail
   go_region
   have eJ:=hid HS.out.drew;have aP:Hid (Blk base w wr.drew):=hid HB.out.drew;clear hxa Gs HS HB;generalize wr.drew=w1 at *;obtain⟨⟨cO0,cO1⟩,⟨cC0,cC1⟩,⟨cP0,cP1⟩,⟨cQ0,cQ1⟩,⟨cT0,cT1⟩,fP0,fP1,fQ0,fQ1,fT0,fT1⟩:=eJ.out.boxes;go_wp2_with fail;refine(gK.out _).mono ?_;rintro e w' ⟨rfl,hw'⟩;rw[hw'];clear hw' gK;have cO:=hid (eJ.out.setP0 p0');have aK:=hid (qfj aP.out (g:=w.heap.size+1+1) (by have:=uR.out;omega) 0 (.int .u64 (p0':Nat)));have cC0':=cO.out.boxes.2.1.1;have cQ0':=cO.out.boxes.2.2.2.1.1;go_wp2_with fail;clear cO0 cO1 cC0 cC1 cP0 cP1 cQ0 cQ1 cT0 cT1 fP0 fP1 fQ0 fQ1 fT0 fT1 cC0' cQ0' eJ aP;generalize w1.setCell ⟨w.heap.size+1+1,0,none⟩ (.int .u64 (p0':Nat))=w2 at *;refine(fF.out _).mono ?_;rintro e w' ⟨rfl,hw'⟩;rw[hw'];clear hw' fF;obtain⟨_,_,_,⟨cQ0,_⟩,_,_,_,fQ0,_,_,_⟩:=cO.out.boxes;have Ag:=hid (cO.out.setQ0 q0');have bR:=hid (qfj aK.out (g:=w.heap.size+1+1+1) (by have:=uR.out;omega) 0 (.int .u64 (q0':Nat)));have cT3:=Ag.out.boxes.2.2.2.2.1.1;obtain⟨cA3,fA3⟩:=Ag.out.a k Dy.out.1;have HS4:=hid (Ag.out.setA k Dy.out.1 r1);have eG:=hid (qfj bR.out (g:=g1) lG.out k (.int .u64 (r1:Nat)));have cT4:=HS4.out.boxes.2.2.2.2.1.1;have fT4:=HS4.out.boxes.2.2.2.2.2.2.2.2.2.1;have Dz:=hid (HS4.out.setT0 b0');have nC:=hid (qfj eG.out (g:=w.heap.size+1+1+1+1) (by have:=uR.out;omega) 0 (.int .u64 (b0':Nat)));have cO5:=Dz.out.boxes.1.2;have cP5:=Dz.out.boxes.2.2.1.2;go_wp2_with fail;clear cQ0 fQ0 cT3 cA3 fA3 cT4 fT4 cO5 cP5 cO Ag HS4 aK bR eG Ni;generalize ((w2.setCell ⟨w.heap.size+1+1+1,0,none⟩ (.int .u64 (q0':Nat))).setCell ⟨g1,k,none⟩ (.int .u64 (r1:Nat))).setCell ⟨w.heap.size+1+1+1+1,0,none⟩ (.int .u64 (b0':Nat))=w5 at *;refine(Kg.out _).mono ?_;rintro e w' ⟨rfl,hw'⟩;rw[hw'];clear hw' Kg;obtain⟨_,_,⟨_,cP1⟩,_,_,_,fP1,_,_,_,_⟩:=Dz.out.boxes;have Nk:=hid (Dz.out.setP1 p1')
   have oM:=hid (qfj nC.out (g:=w.heap.size+1+1) (by have:=uR.out;omega) 1 (.int .u64 (p1':Nat)));have cC6:=Nk.out.boxes.2.1.2;have cQ6:=Nk.out.boxes.2.2.2.1.2;go_wp2_with fail;clear cP1 fP1 cC6 cQ6 Dz nC;generalize w5.setCell ⟨w.heap.size+1+1,1,none⟩ (.int .u64 (p1':Nat))=w6 at *;refine(HM4.out _).mono ?_;rintro e w' ⟨rfl,hw'⟩;rw[hw'];clear hw' HM4;obtain⟨_,_,_,⟨_,cQ1⟩,_,_,_,_,fQ1,_,_⟩:=Nk.out.boxes;have HS7:=hid (Nk.out.setQ1 q1');have nR:=hid (qfj oM.out (g:=w.heap.size+1+1+1) (by have:=uR.out;omega) 1 (.int .u64 (q1':Nat)));have cT7:=HS7.out.boxes.2.2.2.2.1.2;obtain⟨cB7,fB7⟩:=HS7.out.b k Dy.out.2;have iC:=hid (HS7.out.setB k Dy.out.2 r2);have tS:=hid (qfj nR.out (g:=g2) mG.out k (.int .u64 (r2:Nat)));have cT8:=iC.out.boxes.2.2.2.2.1.2;have fT8:=iC.out.boxes.2.2.2.2.2.2.2.2.2.2;have HS9:=hid (iC.out.setT1 b1');have nM:=hid (qfj tS.out (g:=w.heap.size+1+1+1+1) (by have:=uR.out;omega) 1 (.int .u64 (b1':Nat)));go_wp2_with fail;clear cQ1 fQ1 cT7 cB7 fB7 cT8 fT8 Nk HS7 iC oM nR tS Nj;go_roundw
   case rel=>exact⟨k+1,p0',p1',q0',q1',b0',b1',S1.set k r1,S2.set k r2,kT,by go_num,hb0',hb1',HPQ2,HLEN',HDD',HTL',HS9,HR1',HR2',nM⟩
   case measure=>simp[intOf];omega
  ·have e:k=n:=by omega
   subst e;have lM:=Ds.out S1 p0 q0 b0 aW.out.1 qF.out.1 nQ.out;have pJ:=Dt.out S2 p1 q1 b1 aW.out.2 qF.out.2 cN.out
   have HF:Hid (∃S1 S2:List Nat,S1.length=k∧S2.length=k∧(∀d ∈ S1,d<B64)∧(∀d ∈ S2,d<B64)∧val B64 S1=a*o0-b*c0∧val B64 S2=b*o1-a*c1∧Own wr g1 k (wd S1)∧Own wr g2 k (wd S2)):=by
    have h1:=HS.out.A;have h2:=HS.out.B;rw[aW.out.1] at h1;rw[aW.out.2] at h2;exact hid ⟨S1,S2,aW.out.1,aW.out.2,qF.out.1,qF.out.2,lM,pJ,h1,h2⟩
   clear lM pJ Ds Dt nQ cN;go_wp2_with fail
   go_end0
   exact⟨rfl,HF.out,HB.out⟩
end Go.Proofs.YtmcfcpgglfimjaaGreatDoor
