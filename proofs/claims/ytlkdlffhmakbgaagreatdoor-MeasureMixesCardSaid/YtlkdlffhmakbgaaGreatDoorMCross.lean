/- subtractCrosswise: two numbers in memory of the call's own become combinations of both. -/
import Derived.Test.YtlkdlffhmakbgaaGreatDoorMMine
set_option linter.all false
namespace Go.Proofs.YtlkdlffhmakbgaaGreatDoor
open Go.RowKit
set_option maxRecDepth 100000
set_option maxHeartbeats 2000000
theorem Own.other{w:World}{g g' n:Nat}{f:Nat→Value}(h:Own w g n f)(hne:g≠g')(o:Nat)(v:Value):Own (w.setCell ⟨g',o,none⟩ v) g n f:=
 ((qfd.refl g' w).set o v).own h hne
structure qdo(W:World)(g1 g2 k:Nat)(S1 S2:List Nat)(o0 o1 c0 c1 p0 p1 q0 q1 b0 b1:Nat):Prop where
 A:Own W g1 S1.length (wd S1)
 B:Own W g2 S2.length (wd S2)
 O:Own W k [o0,o1].length (wd [o0,o1])
 C:Own W (k+1) [c0,c1].length (wd [c0,c1])
 P:Own W (k+1+1) [p0,p1].length (wd [p0,p1])
 Q:Own W (k+1+1+1) [q0,q1].length (wd [q0,q1])
 T:Own W (k+1+1+1+1) [b0,b1].length (wd [b0,b1])
 h1:g1<k
 h2:g2<k
 h3:g1≠g2
theorem qdo.setA{W:World}{g1 g2 k:Nat}{S1 S2:List Nat}{o0 o1 c0 c1 p0 p1 q0 q1 b0 b1:Nat}(h:qdo W g1 g2 k S1 S2 o0 o1 c0 c1 p0 p1 q0 q1 b0 b1)(i:Nat)(hi:i<S1.length)(x:Nat):
  qdo (W.setCell ⟨g1,i,none⟩ (.int .u64 (x:Nat))) g1 g2 k (S1.set i x) S2 o0 o1 c0 c1 p0 p1 q0 q1 b0 b1:=by
 have:=h.h1;have:=h.h2;have:=h.h3;exact⟨h.A.setWord i hi x,h.B.other (by omega) _ _,h.O.other (by omega) _ _,h.C.other (by omega) _ _,h.P.other (by omega) _ _,h.Q.other (by omega) _ _,h.T.other (by omega) _ _,h.h1,h.h2,h.h3⟩
theorem qdo.setB{W:World}{g1 g2 k:Nat}{S1 S2:List Nat}{o0 o1 c0 c1 p0 p1 q0 q1 b0 b1:Nat}(h:qdo W g1 g2 k S1 S2 o0 o1 c0 c1 p0 p1 q0 q1 b0 b1)(i:Nat)(hi:i<S2.length)(x:Nat):
  qdo (W.setCell ⟨g2,i,none⟩ (.int .u64 (x:Nat))) g1 g2 k S1 (S2.set i x) o0 o1 c0 c1 p0 p1 q0 q1 b0 b1:=by
 have:=h.h1;have:=h.h2;have:=h.h3;exact⟨h.A.other (by omega) _ _,h.B.setWord i hi x,h.O.other (by omega) _ _,h.C.other (by omega) _ _,h.P.other (by omega) _ _,h.Q.other (by omega) _ _,h.T.other (by omega) _ _,h.h1,h.h2,h.h3⟩
theorem qdo.setP0{W:World}{g1 g2 k:Nat}{S1 S2:List Nat}{o0 o1 c0 c1 p0 p1 q0 q1 b0 b1:Nat}(h:qdo W g1 g2 k S1 S2 o0 o1 c0 c1 p0 p1 q0 q1 b0 b1)(x:Nat):
  qdo (W.setCell ⟨k+1+1,0,none⟩ (.int .u64 (x:Nat))) g1 g2 k S1 S2 o0 o1 c0 c1 x p1 q0 q1 b0 b1:=by
 have:=h.h1;have:=h.h2;have:=h.h3;exact⟨h.A.other (by omega) _ _,h.B.other (by omega) _ _,h.O.other (by omega) _ _,h.C.other (by omega) _ _,h.P.setWord 0 (by simp) x,h.Q.other (by omega) _ _,h.T.other (by omega) _ _,h.h1,h.h2,h.h3⟩
theorem qdo.setP1{W:World}{g1 g2 k:Nat}{S1 S2:List Nat}{o0 o1 c0 c1 p0 p1 q0 q1 b0 b1:Nat}(h:qdo W g1 g2 k S1 S2 o0 o1 c0 c1 p0 p1 q0 q1 b0 b1)(x:Nat):
  qdo (W.setCell ⟨k+1+1,1,none⟩ (.int .u64 (x:Nat))) g1 g2 k S1 S2 o0 o1 c0 c1 p0 x q0 q1 b0 b1:=by
 have:=h.h1;have:=h.h2;have:=h.h3;exact⟨h.A.other (by omega) _ _,h.B.other (by omega) _ _,h.O.other (by omega) _ _,h.C.other (by omega) _ _,h.P.setWord 1 (by simp) x,h.Q.other (by omega) _ _,h.T.other (by omega) _ _,h.h1,h.h2,h.h3⟩
theorem qdo.setQ0{W:World}{g1 g2 k:Nat}{S1 S2:List Nat}{o0 o1 c0 c1 p0 p1 q0 q1 b0 b1:Nat}(h:qdo W g1 g2 k S1 S2 o0 o1 c0 c1 p0 p1 q0 q1 b0 b1)(x:Nat):
  qdo (W.setCell ⟨k+1+1+1,0,none⟩ (.int .u64 (x:Nat))) g1 g2 k S1 S2 o0 o1 c0 c1 p0 p1 x q1 b0 b1:=by
 have:=h.h1;have:=h.h2;have:=h.h3;exact⟨h.A.other (by omega) _ _,h.B.other (by omega) _ _,h.O.other (by omega) _ _,h.C.other (by omega) _ _,h.P.other (by omega) _ _,h.Q.setWord 0 (by simp) x,h.T.other (by omega) _ _,h.h1,h.h2,h.h3⟩
theorem qdo.setQ1{W:World}{g1 g2 k:Nat}{S1 S2:List Nat}{o0 o1 c0 c1 p0 p1 q0 q1 b0 b1:Nat}(h:qdo W g1 g2 k S1 S2 o0 o1 c0 c1 p0 p1 q0 q1 b0 b1)(x:Nat):
  qdo (W.setCell ⟨k+1+1+1,1,none⟩ (.int .u64 (x:Nat))) g1 g2 k S1 S2 o0 o1 c0 c1 p0 p1 q0 x b0 b1:=by
 have:=h.h1;have:=h.h2;have:=h.h3;exact⟨h.A.other (by omega) _ _,h.B.other (by omega) _ _,h.O.other (by omega) _ _,h.C.other (by omega) _ _,h.P.other (by omega) _ _,h.Q.setWord 1 (by simp) x,h.T.other (by omega) _ _,h.h1,h.h2,h.h3⟩
theorem qdo.setT0{W:World}{g1 g2 k:Nat}{S1 S2:List Nat}{o0 o1 c0 c1 p0 p1 q0 q1 b0 b1:Nat}(h:qdo W g1 g2 k S1 S2 o0 o1 c0 c1 p0 p1 q0 q1 b0 b1)(x:Nat):
  qdo (W.setCell ⟨k+1+1+1+1,0,none⟩ (.int .u64 (x:Nat))) g1 g2 k S1 S2 o0 o1 c0 c1 p0 p1 q0 q1 x b1:=by
 have:=h.h1;have:=h.h2;have:=h.h3;exact⟨h.A.other (by omega) _ _,h.B.other (by omega) _ _,h.O.other (by omega) _ _,h.C.other (by omega) _ _,h.P.other (by omega) _ _,h.Q.other (by omega) _ _,h.T.setWord 0 (by simp) x,h.h1,h.h2,h.h3⟩
theorem qdo.setT1{W:World}{g1 g2 k:Nat}{S1 S2:List Nat}{o0 o1 c0 c1 p0 p1 q0 q1 b0 b1:Nat}(h:qdo W g1 g2 k S1 S2 o0 o1 c0 c1 p0 p1 q0 q1 b0 b1)(x:Nat):
  qdo (W.setCell ⟨k+1+1+1+1,1,none⟩ (.int .u64 (x:Nat))) g1 g2 k S1 S2 o0 o1 c0 c1 p0 p1 q0 q1 b0 x:=by
 have:=h.h1;have:=h.h2;have:=h.h3;exact⟨h.A.other (by omega) _ _,h.B.other (by omega) _ _,h.O.other (by omega) _ _,h.C.other (by omega) _ _,h.P.other (by omega) _ _,h.Q.other (by omega) _ _,h.T.setWord 1 (by simp) x,h.h1,h.h2,h.h3⟩
theorem qdo.drew{W:World}{g1 g2 k:Nat}{S1 S2:List Nat}{o0 o1 c0 c1 p0 p1 q0 q1 b0 b1:Nat}(h:qdo W g1 g2 k S1 S2 o0 o1 c0 c1 p0 p1 q0 q1 b0 b1):
  qdo W.drew g1 g2 k S1 S2 o0 o1 c0 c1 p0 p1 q0 q1 b0 b1:=
 ⟨h.A.later (qaa _ _).drew,h.B.later (qaa _ _).drew,h.O.later (qaa _ _).drew,h.C.later (qaa _ _).drew,h.P.later (qaa _ _).drew,h.Q.later (qaa _ _).drew,h.T.later (qaa _ _).drew,h.h1,h.h2,h.h3⟩
theorem qdo.a{W:World}{g1 g2 k:Nat}{S1 S2:List Nat}{o0 o1 c0 c1 p0 p1 q0 q1 b0 b1:Nat}(h:qdo W g1 g2 k S1 S2 o0 o1 c0 c1 p0 p1 q0 q1 b0 b1)(i:Nat)(hi:i<S1.length):W.cell? ⟨g1,i,none⟩=some (.int .u64 (S1.getD i 0:Nat))∧W.frozen? ⟨g1,i,none⟩=false:=h.A.2 i hi
theorem qdo.b{W:World}{g1 g2 k:Nat}{S1 S2:List Nat}{o0 o1 c0 c1 p0 p1 q0 q1 b0 b1:Nat}(h:qdo W g1 g2 k S1 S2 o0 o1 c0 c1 p0 p1 q0 q1 b0 b1)(i:Nat)(hi:i<S2.length):W.cell? ⟨g2,i,none⟩=some (.int .u64 (S2.getD i 0:Nat))∧W.frozen? ⟨g2,i,none⟩=false:=h.B.2 i hi
theorem qdo.boxes{W:World}{g1 g2 k:Nat}{S1 S2:List Nat}{o0 o1 c0 c1 p0 p1 q0 q1 b0 b1:Nat}(h:qdo W g1 g2 k S1 S2 o0 o1 c0 c1 p0 p1 q0 q1 b0 b1):
  (W.cell? ⟨k,0,none⟩=some (.int .u64 o0)∧W.cell? ⟨k,1,none⟩=some (.int .u64 o1))∧(W.cell? ⟨k+1,0,none⟩=some (.int .u64 c0)∧W.cell? ⟨k+1,1,none⟩=some (.int .u64 c1))∧
  (W.cell? ⟨k+1+1,0,none⟩=some (.int .u64 p0)∧W.cell? ⟨k+1+1,1,none⟩=some (.int .u64 p1))∧(W.cell? ⟨k+1+1+1,0,none⟩=some (.int .u64 q0)∧W.cell? ⟨k+1+1+1,1,none⟩=some (.int .u64 q1))∧
  (W.cell? ⟨k+1+1+1+1,0,none⟩=some (.int .u64 b0)∧W.cell? ⟨k+1+1+1+1,1,none⟩=some (.int .u64 b1))∧
  (W.frozen? ⟨k+1+1,0,none⟩=false∧W.frozen? ⟨k+1+1,1,none⟩=false∧W.frozen? ⟨k+1+1+1,0,none⟩=false∧W.frozen? ⟨k+1+1+1,1,none⟩=false∧W.frozen? ⟨k+1+1+1+1,0,none⟩=false∧W.frozen? ⟨k+1+1+1+1,1,none⟩=false):=
 ⟨⟨(h.O.2 0 (by simp)).1,(h.O.2 1 (by simp)).1⟩,⟨(h.C.2 0 (by simp)).1,(h.C.2 1 (by simp)).1⟩,⟨(h.P.2 0 (by simp)).1,(h.P.2 1 (by simp)).1⟩,⟨(h.Q.2 0 (by simp)).1,(h.Q.2 1 (by simp)).1⟩,⟨(h.T.2 0 (by simp)).1,(h.T.2 1 (by simp)).1⟩,
  ⟨(h.P.2 0 (by simp)).2,(h.P.2 1 (by simp)).2,(h.Q.2 0 (by simp)).2,(h.Q.2 1 (by simp)).2,(h.T.2 0 (by simp)).2,(h.T.2 1 (by simp)).2⟩⟩
theorem qk8(w:World)(x y:Nat):Own (w.alloc (.cells #[.int .u64 (x:Nat),.int .u64 (y:Nat)] 236)) w.heap.size [x,y].length (wd [x,y]):=by
 refine⟨by rw[qab];omega,fun i hi => ?_⟩;rw[World.cell?_alloc_at _ _ _ _ rfl,World.frozen?_alloc_at _ _ _ _ rfl]
 match i,hi with
 | 0,_=>exact⟨rfl,rfl⟩
 | 1,_=>exact⟨rfl,rfl⟩
theorem Own.alloc{w:World}{g n:Nat}{f:Nat→Value}(h:Own w g n f)(o:Obj):Own (w.alloc o) g n f:=
 h.later ((qaa _ _).alloc (by have:=h.1;omega) _)
theorem qu0(w:World)(g1 g2:Nat)(A B:List Nat)(o0 o1 c0 c1:Nat)(hA:Own w g1 A.length (wd A))(hB:Own w g2 B.length (wd B))(hne:g1≠g2):
  qdo (((((w.alloc (.cells #[.int .u64 (o0:Nat),.int .u64 (o1:Nat)] 236)).alloc (.cells #[.int .u64 (c0:Nat),.int .u64 (c1:Nat)] 236)).alloc (.cells #[.int .u64 0,.int .u64 0] 236)).alloc (.cells #[.int .u64 0,.int .u64 0] 236)).alloc (.cells #[.int .u64 0,.int .u64 0] 236)) g1 g2 w.heap.size A B o0 o1 c0 c1 0 0 0 0 0 0:=by
 have e1:=qk8 w o0 o1;have e2:=qk8 (w.alloc (.cells #[.int .u64 (o0:Nat),.int .u64 (o1:Nat)] 236)) c0 c1;have e3:=qk8 ((w.alloc (.cells #[.int .u64 (o0:Nat),.int .u64 (o1:Nat)] 236)).alloc (.cells #[.int .u64 (c0:Nat),.int .u64 (c1:Nat)] 236)) 0 0;have e4:=qk8 (((w.alloc (.cells #[.int .u64 (o0:Nat),.int .u64 (o1:Nat)] 236)).alloc (.cells #[.int .u64 (c0:Nat),.int .u64 (c1:Nat)] 236)).alloc (.cells #[.int .u64 ((0:Nat):Int),.int .u64 ((0:Nat):Int)] 236)) 0 0;have e5:=qk8 ((((w.alloc (.cells #[.int .u64 (o0:Nat),.int .u64 (o1:Nat)] 236)).alloc (.cells #[.int .u64 (c0:Nat),.int .u64 (c1:Nat)] 236)).alloc (.cells #[.int .u64 ((0:Nat):Int),.int .u64 ((0:Nat):Int)] 236)).alloc (.cells #[.int .u64 ((0:Nat):Int),.int .u64 ((0:Nat):Int)] 236)) 0 0;simp only[qab] at e2 e3 e4 e5;exact⟨((((hA.alloc _).alloc _).alloc _).alloc _).alloc _,((((hB.alloc _).alloc _).alloc _).alloc _).alloc _,(((e1.alloc _).alloc _).alloc _).alloc _,((e2.alloc _).alloc _).alloc _,(e3.alloc _).alloc _,e4.alloc _,e5,hA.1,hB.1,hne⟩
def Blk(base:Nat)(w w':World):Prop:=Below base w w'∧qns w w'
theorem qfk{base:Nat}{w wr:World}(h:Blk base w wr){g:Nat}(hg:base≤g)(o:Nat)(v:Value):Blk base w (wr.setCell ⟨g,o,none⟩ v):=⟨h.1.setCell hg v,h.2.trans (qns.setCell _ _ _ _)⟩
theorem Blk.drew{base:Nat}{w wr:World}(h:Blk base w wr):Blk base w wr.drew:=⟨h.1.drew,h.2.trans (qns.drew _)⟩
theorem qyt{base:Nat}(w:World)(o1 o2 o3 o4 o5:Obj)(h:base≤w.heap.size):Blk base w (((((w.alloc o1).alloc o2).alloc o3).alloc o4).alloc o5):=by
 refine⟨?_,((((qns.alloc _ _).trans (qns.alloc _ _)).trans (qns.alloc _ _)).trans (qns.alloc _ _)).trans (qns.alloc _ _)⟩;refine(((((qaa _ _).alloc h _).alloc ?_ _).alloc ?_ _).alloc ?_ _).alloc ?_ _<;>simp only[qab]<;>omega
theorem qqh{B p S R L mA mB bw mA' mB' bw' a b x y left right res:Nat}(h:S+R*y+p*mA=L*x+p*mB+p*bw)
  (h1:left+B*mA'=a*x+mA) (h2:right+B*mB'=b*y+mB) (h3:res+right+bw=left+B*bw'):
  (S+p*res)+(R+p*b)*y+p*B*mA'=(L+p*a)*x+p*B*mB'+p*B*bw':=by
 have e:res+(b*y+mB)+bw+B*mA'=a*x+mA+B*mB'+B*bw':=by omega
 have e2:=congrArg (p * ·) e;simp only[Nat.mul_add] at e2;rw[Nat.add_mul,Nat.add_mul,Nat.mul_assoc p b y,Nat.mul_assoc p a x];simp only[Nat.mul_assoc p B] at *;omega
theorem qsx{P S R L mA mB bw x y:Nat}(h:S+R*y+P*mA=L*x+P*mB+P*bw)(dY:R*y≤L*x)(aY:L*x-R*y<P)(hS:S<P):S=L*x-R*y:=by
 have e:S+P*mA=(L*x-R*y)+P*(mB+bw):=by rw[Nat.mul_add];omega
 have e2:=congrArg (· % P) e;simp only[Nat.add_mul_mod_self_left,Nat.mod_eq_of_lt hS,Nat.mod_eq_of_lt aY] at e2;exact e2
theorem qw2(_b:Nat){S A:List Nat}{k:Nat}(_hS:S.length=A.length)(h:∀j,k≤j→S.getD j 0=A.getD j 0)(x:Nat)(_hk:k<A.length):∀j,k+1≤j→(S.set k x).getD j 0=A.getD j 0:=by
 intro j hj;rw[qa6 S k j x (by omega)];exact h j (by omega)
theorem qk9(g1 g2 n ca cb base a b o0 o1 c0 c1:Nat)(A B:List Nat)(w:World)(hne:g1≠g2)(iR:base≤g1)(pX:base≤g2)(hA:A.length=n)(hB:B.length=n)
  (hoA:Own w g1 A.length (wd A)) (hoB:Own w g2 B.length (wd B)) (hdA:∀d ∈ A,d<B64) (hdB:∀d ∈ B,d<B64) (hvA:val B64 A=a) (hvB:val B64 B=b)
  (ho0:o0<B64) (ho1:o1<B64) (eY:c0<B64) (bO:c1<B64) (hn:n≤Cap)
  (h1:b*c0≤a*o0) (h2:a*o0-b*c0<B64^n) (h3:a*c1≤b*o1) (h4:b*o1-a*c1<B64^n):
  Calls Tryz.prog 190 #[.slice (some ⟨g1,0,none⟩) n ca,.slice (some ⟨g2,0,none⟩) n cb,.agg #[.int .u64 o0,.int .u64 o1],.agg #[.int .u64 c0,.int .u64 c1]] w fun e w'=>
   e = .returned (.tuple #[])∧(∃S1 S2,S1.length=n∧S2.length=n∧(∀d ∈ S1,d<B64)∧(∀d ∈ S2,d<B64)∧val B64 S1=a*o0-b*c0∧val B64 S2=b*o1-a*c1∧Own w' g1 n (wd S1)∧Own w' g2 n (wd S2))∧Blk base w w':=by
 have hN62:n<4611686018427387904:=by unfold Cap at hn;omega
 have HK1:Hid (g1<w.heap.size):=hid hoA.1;have Nc:Hid (g2<w.heap.size):=hid hoB.1
 have Ey:Hid (∀(S:List Nat) (mA mB bw:Nat),S.length=n→(∀d ∈ S,d<B64)→low B64 S n+low B64 B n*c0+B64^n*mA=low B64 A n*o0+B64^n*mB+B64^n*bw→val B64 S=a*o0-b*c0):=by
  refine hid fun S mA mB bw hs hsb h => ?_;rw[qbi B64 S _ (by omega),qbi B64 B _ (by omega),qbi B64 A _ (by omega),hvA,hvB] at h;have eS:=qiu B64 S hsb;rw[hs] at eS;exact qsx h h1 h2 eS
 have Ez:Hid (∀(S:List Nat) (mA mB bw:Nat),S.length=n→(∀d ∈ S,d<B64)→low B64 S n+low B64 A n*c1+B64^n*mA=low B64 B n*o1+B64^n*mB+B64^n*bw→val B64 S=b*o1-a*c1):=by
  refine hid fun S mA mB bw hs hsb h => ?_;rw[qbi B64 S _ (by omega),qbi B64 B _ (by omega),qbi B64 A _ (by omega),hvA,hvB] at h;have eS:=qiu B64 S hsb;rw[hs] at eS;exact qsx h h3 h4 eS
 have Fa:=hid hoA;have wR:=hid hoB;have gF:=hid hdA;have fV:=hid hdB;have lA:=hid hA;have jE:=hid hB;have mV:=hid ho0;have fB:=hid ho1;have lI:=hid eY;have jV:=hid bO;have mE:=hid iR;have mW:=hid pX;have iF:=hid hne;clear h1 h2 h3 h4 hvA hvB hoA hoB hdA hdB hA hB ho0 ho1 eY bO hn iR pX hne;go_enter Tryz.func190,Tryz.ntmps190;go_wp2_with fail;have wS:=hid (qu0 w g1 g2 A B o0 o1 c0 c1 Fa.out wR.out iF.out);have dM:Hid (Blk base w (((((w.alloc (.cells #[.int .u64 (o0:Nat),.int .u64 (o1:Nat)] 236)).alloc (.cells #[.int .u64 (c0:Nat),.int .u64 (c1:Nat)] 236)).alloc (.cells #[.int .u64 0,.int .u64 0] 236)).alloc (.cells #[.int .u64 0,.int .u64 0] 236)).alloc (.cells #[.int .u64 0,.int .u64 0] 236))):=hid (qyt w _ _ _ _ _ (by have:=HK1.out;have:=mE.out;omega));generalize (((((w.alloc (.cells #[.int .u64 (o0:Nat),.int .u64 (o1:Nat)] 236)).alloc (.cells #[.int .u64 (c0:Nat),.int .u64 (c1:Nat)] 236)).alloc (.cells #[.int .u64 0,.int .u64 0] 236)).alloc (.cells #[.int .u64 0,.int .u64 0] 236)).alloc (.cells #[.int .u64 0,.int .u64 0] 236))=w0 at *;have wO:Hid (base≤w.heap.size):=hid (by have:=HK1.out;have:=mE.out;omega);clear Fa wR
 go_loopw [18] (fun i wr=>∃(k p0 p1 q0 q1 b0 b1:Nat) (S1 S2:List Nat),k≤n∧i = .int .i64 k∧b0≤1∧b1≤1∧Hid (p0<B64∧p1<B64∧q0<B64∧q1<B64)∧Hid (S1.length=n∧S2.length=n)∧Hid ((∀d ∈ S1,d<B64)∧(∀d ∈ S2,d<B64))∧Hid ((∀j,k≤j→S1.getD j 0=A.getD j 0)∧(∀j,k≤j→S2.getD j 0=B.getD j 0))∧Hid (qdo wr g1 g2 w.heap.size S1 S2 o0 o1 c0 c1 p0 p1 q0 q1 b0 b1)∧
  Hid (low B64 S1 k+low B64 B k*c0+B64^k*p0=low B64 A k*o0+B64^k*q0+B64^k*b0)∧Hid (low B64 S2 k+low B64 A k*c1+B64^k*p1=low B64 B k*o1+B64^k*q1+B64^k*b1)∧Hid (Blk base w wr)) (fun i _=>n-(intOf i).toNat)
 case atStart=>exact⟨0,0,0,0,0,0,0,A,B,Nat.zero_le _,rfl,by omega,by omega,hid (by rw[qai];omega),hid ⟨lA.out,jE.out⟩,hid ⟨gF.out,fV.out⟩,hid ⟨fun _ _=>rfl,fun _ _=>rfl⟩,wS,hid (by simp),hid (by simp),dM⟩
 case round=>
  obtain⟨k,p0,p1,q0,q1,b0,b1,S1,S2,hk,rfl,dS,aZ,kL,aX,qY,qX,HS,oF,cK,HB⟩:=hrel;clear wS dM;by_cases iM:k<n
  ·have jN:k<S1.length:=by rw[aX.out.1];exact iM
   have oH:k<S2.length:=by rw[aX.out.2];exact iM
   obtain⟨hxa,fxa⟩:=HS.out.a k jN;obtain⟨Hs,fyb⟩:=HS.out.b k oH;rw[qX.out.1 k (qac _)] at hxa;rw[qX.out.2 k (qac _)] at Hs;have aD:=qaz (b:=B64) (by rw[qai];omega) gF.out k;have mG:=qaz (b:=B64) (by rw[qai];omega) fV.out k;have Ht:=qa0 B64 A k;have Hu:=qa0 B64 B k;have Fb:=fun v=>qb3 B64 S1 k v jN;have Fc:=fun v=>qb3 B64 S2 k v oH
   have fX:Hid (∀r1 r2,(∀j,k+1≤j→(S1.set k r1).getD j 0=A.getD j 0)∧(∀j,k+1≤j→(S2.set k r2).getD j 0=B.getD j 0)):=
    hid fun r1 r2=>⟨qw2 B64 (by rw[aX.out.1,lA.out]) qX.out.1 r1 (by rw[lA.out];exact iM),qw2 B64 (by rw[aX.out.2,jE.out]) qX.out.2 r2 (by rw[jE.out];exact iM)⟩
   have Fd:=hid (And.intro jN oH);generalize A.getD k 0=x at *;generalize B.getD k 0=y at *;have fY:Hid (∀w,Calls Tryz.prog 142 #[.int .u64 x,.int .u64 o0,.int .u64 p0] w fun e w'=>e = .returned (.tuple #[.int .u64 (qis x o0 p0:Nat),.int .u64 (qit x o0 p0:Nat)])∧w'=w):=hid fun w=>qcb _ _ _ aD mV.out kL.out.1 w;have eV:Hid (∀w,Calls Tryz.prog 142 #[.int .u64 y,.int .u64 c0,.int .u64 q0] w fun e w'=>e = .returned (.tuple #[.int .u64 (qis y c0 q0:Nat),.int .u64 (qit y c0 q0:Nat)])∧w'=w):=hid fun w=>qcb _ _ _ mG lI.out kL.out.2.2.1 w;have Le:Hid (∀w,Calls Tryz.prog 142 #[.int .u64 y,.int .u64 o1,.int .u64 p1] w fun e w'=>e = .returned (.tuple #[.int .u64 (qis y o1 p1:Nat),.int .u64 (qit y o1 p1:Nat)])∧w'=w):=hid fun w=>qcb _ _ _ mG fB.out kL.out.2.1 w;have HM4:Hid (∀w,Calls Tryz.prog 142 #[.int .u64 x,.int .u64 c1,.int .u64 q1] w fun e w'=>e = .returned (.tuple #[.int .u64 (qis x c1 q1:Nat),.int .u64 (qit x c1 q1:Nat)])∧w'=w):=hid fun w=>qcb _ _ _ aD jV.out kL.out.2.2.2 w;have e1:=qrb x o0 p0;have e2:=qrb y c0 q0;have e3:=qrb y o1 p1;have e4:=qrb x c1 q1;have l1:=qkg x o0 p0;have l2:=qkg y c0 q0;have l3:=qkg y o1 p1;have l4:=qkg x c1 q1;have HPQ2:Hid (qit x o0 p0<B64∧qit y o1 p1<B64∧qit y c0 q0<B64∧qit x c1 q1<B64):=hid ⟨qme aD mV.out kL.out.1,qme mG fB.out kL.out.2.1,qme mG lI.out kL.out.2.2.1,qme aD jV.out kL.out.2.2.2⟩;generalize qis x o0 p0=z1 at *;generalize qit x o0 p0=p0' at *;generalize qis y c0 q0=z2 at *;generalize qit y c0 q0=q0' at *;generalize qis y o1 p1=z3 at *;generalize qit y o1 p1=p1' at *;generalize qis x c1 q1=z4 at *;generalize qit x c1 q1=q1' at *;have Oc:=fun w=>qi0 z1 z2 b0 dS w;have Od:=fun w=>qi0 z3 z4 b1 aZ w;have t1:=qsp l1 l2 dS;have t2:=qsp l3 l4 aZ;have hb0':=qnw z1 z2 b0;have hb1':=qnw z3 z4 b1;have r1l:=qk4 z1 z2 b0;have r2l:=qk4 z3 z4 b1
   generalize qhs z1 z2 b0=r1 at *;generalize qmd z1 z2 b0=b0' at *;generalize qhs z3 z4 b1=r2 at *;generalize qmd z3 z4 b1=b1' at *
   have HR1':Hid (low B64 (S1.set k r1) (k+1)+low B64 B (k+1)*c0+B64^(k+1)*p0'=low B64 A (k+1)*o0+B64^(k+1)*q0'+B64^(k+1)*b0'):=by
    refine hid ?_;rw[Fb r1,Ht,Hu,Nat.pow_succ];exact qqh oF.out e1 e2 t1
   have HR2':Hid (low B64 (S2.set k r2) (k+1)+low B64 A (k+1)*c1+B64^(k+1)*p1'=low B64 B (k+1)*o1+B64^(k+1)*q1'+B64^(k+1)*b1'):=by
    refine hid ?_;rw[Fc r2,Ht,Hu,Nat.pow_succ];exact qqh cK.out e3 e4 t2
   have HDD':Hid ((∀d ∈ S1.set k r1,d<B64)∧(∀d ∈ S2.set k r2,d<B64)):=hid ⟨qc8 qY.out.1 _ _ r1l,qc8 qY.out.2 _ _ r2l⟩;have HLEN':Hid ((S1.set k r1).length=n∧(S2.set k r2).length=n):=hid (by rw[List.length_set,List.length_set];exact aX.out);have HTL':=hid (fX.out r1 r2);clear Fb Fc Ht Hu e1 e2 e3 e4 t1 t2 l1 l2 l3 l4 aD mG r1l r2l jN oH oF cK fX qX qY aX kL fxa fyb dS aZ;go_wp2_with fail
   go_region
   have dN:=hid HS.out.drew;have aP:Hid (Blk base w wr.drew):=hid HB.out.drew;clear hxa Hs HS HB;generalize wr.drew=w1 at *;obtain⟨⟨cO0,cO1⟩,⟨cC0,cC1⟩,⟨cP0,cP1⟩,⟨cQ0,cQ1⟩,⟨cT0,cT1⟩,fP0,fP1,fQ0,fQ1,fT0,fT1⟩:=dN.out.boxes;go_wp2_with fail;refine(fY.out _).mono ?_;rintro e w' ⟨rfl,hw'⟩;rw[hw'];clear hw' fY;have cL:=hid (dN.out.setP0 p0');have aK:=hid (qfk aP.out (g:=w.heap.size+1+1) (by have:=wO.out;omega) 0 (.int .u64 (p0':Nat)));have cC0':=cL.out.boxes.2.1.1;have cQ0':=cL.out.boxes.2.2.2.1.1;go_wp2_with fail;clear cO0 cO1 cC0 cC1 cP0 cP1 cQ0 cQ1 cT0 cT1 fP0 fP1 fQ0 fQ1 fT0 fT1 cC0' cQ0' dN aP;generalize w1.setCell ⟨w.heap.size+1+1,0,none⟩ (.int .u64 (p0':Nat))=w2 at *;refine(eV.out _).mono ?_;rintro e w' ⟨rfl,hw'⟩;rw[hw'];clear hw' eV;obtain⟨_,_,_,⟨cQ0,_⟩,_,_,_,fQ0,_,_,_⟩:=cL.out.boxes;have Bl:=hid (cL.out.setQ0 q0');have bR:=hid (qfk aK.out (g:=w.heap.size+1+1+1) (by have:=wO.out;omega) 0 (.int .u64 (q0':Nat)));have cT3:=Bl.out.boxes.2.2.2.2.1.1;obtain⟨cA3,fA3⟩:=Bl.out.a k Fd.out.1;have Bm:=hid (Bl.out.setA k Fd.out.1 r1);have eL:=hid (qfk bR.out (g:=g1) mE.out k (.int .u64 (r1:Nat)));have cT4:=Bm.out.boxes.2.2.2.2.1.1;have fT4:=Bm.out.boxes.2.2.2.2.2.2.2.2.2.1;have zL:=hid (Bm.out.setT0 b0');have lG:=hid (qfk eL.out (g:=w.heap.size+1+1+1+1) (by have:=wO.out;omega) 0 (.int .u64 (b0':Nat)));have cO5:=zL.out.boxes.1.2;have cP5:=zL.out.boxes.2.2.1.2;go_wp2_with fail;clear cQ0 fQ0 cT3 cA3 fA3 cT4 fT4 cO5 cP5 cL Bl Bm aK bR eL Oc;generalize ((w2.setCell ⟨w.heap.size+1+1+1,0,none⟩ (.int .u64 (q0':Nat))).setCell ⟨g1,k,none⟩ (.int .u64 (r1:Nat))).setCell ⟨w.heap.size+1+1+1+1,0,none⟩ (.int .u64 (b0':Nat))=w5 at *;refine(Le.out _).mono ?_;rintro e w' ⟨rfl,hw'⟩;rw[hw'];clear hw' Le;obtain⟨_,_,⟨_,cP1⟩,_,_,_,fP1,_,_,_,_⟩:=zL.out.boxes;have Oe:=hid (zL.out.setP1 p1')
   have lH:=hid (qfk lG.out (g:=w.heap.size+1+1) (by have:=wO.out;omega) 1 (.int .u64 (p1':Nat)));have cC6:=Oe.out.boxes.2.1.2;have cQ6:=Oe.out.boxes.2.2.2.1.2;go_wp2_with fail;clear cP1 fP1 cC6 cQ6 zL lG;generalize w5.setCell ⟨w.heap.size+1+1,1,none⟩ (.int .u64 (p1':Nat))=w6 at *;refine(HM4.out _).mono ?_;rintro e w' ⟨rfl,hw'⟩;rw[hw'];clear hw' HM4;obtain⟨_,_,_,⟨_,cQ1⟩,_,_,_,_,fQ1,_,_⟩:=Oe.out.boxes;have HS7:=hid (Oe.out.setQ1 q1');have kK:=hid (qfk lH.out (g:=w.heap.size+1+1+1) (by have:=wO.out;omega) 1 (.int .u64 (q1':Nat)));have cT7:=HS7.out.boxes.2.2.2.2.1.2;obtain⟨cB7,fB7⟩:=HS7.out.b k Fd.out.2;have iN:=hid (HS7.out.setB k Fd.out.2 r2);have qZ:=hid (qfk kK.out (g:=g2) mW.out k (.int .u64 (r2:Nat)));have cT8:=iN.out.boxes.2.2.2.2.1.2;have fT8:=iN.out.boxes.2.2.2.2.2.2.2.2.2.2;have HS9:=hid (iN.out.setT1 b1');have oI:=hid (qfk qZ.out (g:=w.heap.size+1+1+1+1) (by have:=wO.out;omega) 1 (.int .u64 (b1':Nat)));go_wp2_with fail;clear cQ1 fQ1 cT7 cB7 fB7 cT8 fT8 Oe HS7 iN lH kK qZ Od;go_roundw
   case rel=>exact⟨k+1,p0',p1',q0',q1',b0',b1',S1.set k r1,S2.set k r2,iM,by go_num,hb0',hb1',HPQ2,HLEN',HDD',HTL',HS9,HR1',HR2',oI⟩
   case measure=>simp[intOf];omega
  ·have e:k=n:=by omega
   subst e;have mI:=Ey.out S1 p0 q0 b0 aX.out.1 qY.out.1 oF.out;have qD:=Ez.out S2 p1 q1 b1 aX.out.2 qY.out.2 cK.out
   have HF:Hid (∃S1 S2:List Nat,S1.length=k∧S2.length=k∧(∀d ∈ S1,d<B64)∧(∀d ∈ S2,d<B64)∧val B64 S1=a*o0-b*c0∧val B64 S2=b*o1-a*c1∧Own wr g1 k (wd S1)∧Own wr g2 k (wd S2)):=by
    have h1:=HS.out.A;have h2:=HS.out.B;rw[aX.out.1] at h1;rw[aX.out.2] at h2;exact hid ⟨S1,S2,aX.out.1,aX.out.2,qY.out.1,qY.out.2,mI,qD,h1,h2⟩
   clear mI qD Ey Ez oF cK;go_wp2_with fail
   go_end0
   exact⟨rfl,HF.out,HB.out⟩
end Go.Proofs.YtlkdlffhmakbgaaGreatDoor
