/- subtractCrosswise: two numbers in memory of the call's own become combinations of both. -/
import Derived.Test.YthjagoogkkgelaaGreatDoorMMine
set_option linter.all false
namespace Go.Proofs.YthjagoogkkgelaaGreatDoor
open Go.RowKit
set_option maxRecDepth 100000
set_option maxHeartbeats 2000000
theorem Own.other{w:World}{g g' n:Nat}{f:Nat→Value}(h:Own w g n f)(hne:g≠g')(o:Nat)(v:Value):Own (w.setCell ⟨g',o,none⟩ v) g n f:=
 ((qfh.refl g' w).set o v).own h hne
structure qdi(W:World)(g1 g2 k:Nat)(S1 S2:List Nat)(o0 o1 c0 c1 p0 p1 q0 q1 b0 b1:Nat):Prop where
 A:Own W g1 S1.length (wd S1)
 B:Own W g2 S2.length (wd S2)
 O:Own W k [o0,o1].length (wd [o0,o1])
 C:Own W (k+1) [c0,c1].length (wd [c0,c1])
 P:Own W (k+1+1) [p0,p1].length (wd [p0,p1])
 Q:Own W (k+1+1+1) [q0,q1].length (wd [q0,q1])
 T:Own W (k+1+1+1+1) [b0,b1].length (wd [b0,b1])
 h1:g1<k
 h2:g2<k
 h3:g1≠g2
theorem qdi.setA{W:World}{g1 g2 k:Nat}{S1 S2:List Nat}{o0 o1 c0 c1 p0 p1 q0 q1 b0 b1:Nat}(h:qdi W g1 g2 k S1 S2 o0 o1 c0 c1 p0 p1 q0 q1 b0 b1)(i:Nat)(hi:i<S1.length)(x:Nat):
  qdi (W.setCell ⟨g1,i,none⟩ (.int .u64 (x:Nat))) g1 g2 k (S1.set i x) S2 o0 o1 c0 c1 p0 p1 q0 q1 b0 b1:=by
 have:=h.h1;have:=h.h2;have:=h.h3;exact⟨h.A.setWord i hi x,h.B.other (by omega) _ _,h.O.other (by omega) _ _,h.C.other (by omega) _ _,h.P.other (by omega) _ _,h.Q.other (by omega) _ _,h.T.other (by omega) _ _,h.h1,h.h2,h.h3⟩
theorem qdi.setB{W:World}{g1 g2 k:Nat}{S1 S2:List Nat}{o0 o1 c0 c1 p0 p1 q0 q1 b0 b1:Nat}(h:qdi W g1 g2 k S1 S2 o0 o1 c0 c1 p0 p1 q0 q1 b0 b1)(i:Nat)(hi:i<S2.length)(x:Nat):
  qdi (W.setCell ⟨g2,i,none⟩ (.int .u64 (x:Nat))) g1 g2 k S1 (S2.set i x) o0 o1 c0 c1 p0 p1 q0 q1 b0 b1:=by
 have:=h.h1;have:=h.h2;have:=h.h3;exact⟨h.A.other (by omega) _ _,h.B.setWord i hi x,h.O.other (by omega) _ _,h.C.other (by omega) _ _,h.P.other (by omega) _ _,h.Q.other (by omega) _ _,h.T.other (by omega) _ _,h.h1,h.h2,h.h3⟩
theorem qdi.setP0{W:World}{g1 g2 k:Nat}{S1 S2:List Nat}{o0 o1 c0 c1 p0 p1 q0 q1 b0 b1:Nat}(h:qdi W g1 g2 k S1 S2 o0 o1 c0 c1 p0 p1 q0 q1 b0 b1)(x:Nat):
  qdi (W.setCell ⟨k+1+1,0,none⟩ (.int .u64 (x:Nat))) g1 g2 k S1 S2 o0 o1 c0 c1 x p1 q0 q1 b0 b1:=by
 have:=h.h1;have:=h.h2;have:=h.h3;exact⟨h.A.other (by omega) _ _,h.B.other (by omega) _ _,h.O.other (by omega) _ _,h.C.other (by omega) _ _,h.P.setWord 0 (by simp) x,h.Q.other (by omega) _ _,h.T.other (by omega) _ _,h.h1,h.h2,h.h3⟩
theorem qdi.setP1{W:World}{g1 g2 k:Nat}{S1 S2:List Nat}{o0 o1 c0 c1 p0 p1 q0 q1 b0 b1:Nat}(h:qdi W g1 g2 k S1 S2 o0 o1 c0 c1 p0 p1 q0 q1 b0 b1)(x:Nat):
  qdi (W.setCell ⟨k+1+1,1,none⟩ (.int .u64 (x:Nat))) g1 g2 k S1 S2 o0 o1 c0 c1 p0 x q0 q1 b0 b1:=by
 have:=h.h1;have:=h.h2;have:=h.h3;exact⟨h.A.other (by omega) _ _,h.B.other (by omega) _ _,h.O.other (by omega) _ _,h.C.other (by omega) _ _,h.P.setWord 1 (by simp) x,h.Q.other (by omega) _ _,h.T.other (by omega) _ _,h.h1,h.h2,h.h3⟩
theorem qdi.setQ0{W:World}{g1 g2 k:Nat}{S1 S2:List Nat}{o0 o1 c0 c1 p0 p1 q0 q1 b0 b1:Nat}(h:qdi W g1 g2 k S1 S2 o0 o1 c0 c1 p0 p1 q0 q1 b0 b1)(x:Nat):
  qdi (W.setCell ⟨k+1+1+1,0,none⟩ (.int .u64 (x:Nat))) g1 g2 k S1 S2 o0 o1 c0 c1 p0 p1 x q1 b0 b1:=by
 have:=h.h1;have:=h.h2;have:=h.h3;exact⟨h.A.other (by omega) _ _,h.B.other (by omega) _ _,h.O.other (by omega) _ _,h.C.other (by omega) _ _,h.P.other (by omega) _ _,h.Q.setWord 0 (by simp) x,h.T.other (by omega) _ _,h.h1,h.h2,h.h3⟩
theorem qdi.setQ1{W:World}{g1 g2 k:Nat}{S1 S2:List Nat}{o0 o1 c0 c1 p0 p1 q0 q1 b0 b1:Nat}(h:qdi W g1 g2 k S1 S2 o0 o1 c0 c1 p0 p1 q0 q1 b0 b1)(x:Nat):
  qdi (W.setCell ⟨k+1+1+1,1,none⟩ (.int .u64 (x:Nat))) g1 g2 k S1 S2 o0 o1 c0 c1 p0 p1 q0 x b0 b1:=by
 have:=h.h1;have:=h.h2;have:=h.h3;exact⟨h.A.other (by omega) _ _,h.B.other (by omega) _ _,h.O.other (by omega) _ _,h.C.other (by omega) _ _,h.P.other (by omega) _ _,h.Q.setWord 1 (by simp) x,h.T.other (by omega) _ _,h.h1,h.h2,h.h3⟩
theorem qdi.setT0{W:World}{g1 g2 k:Nat}{S1 S2:List Nat}{o0 o1 c0 c1 p0 p1 q0 q1 b0 b1:Nat}(h:qdi W g1 g2 k S1 S2 o0 o1 c0 c1 p0 p1 q0 q1 b0 b1)(x:Nat):
  qdi (W.setCell ⟨k+1+1+1+1,0,none⟩ (.int .u64 (x:Nat))) g1 g2 k S1 S2 o0 o1 c0 c1 p0 p1 q0 q1 x b1:=by
 have:=h.h1;have:=h.h2;have:=h.h3;exact⟨h.A.other (by omega) _ _,h.B.other (by omega) _ _,h.O.other (by omega) _ _,h.C.other (by omega) _ _,h.P.other (by omega) _ _,h.Q.other (by omega) _ _,h.T.setWord 0 (by simp) x,h.h1,h.h2,h.h3⟩
theorem qdi.setT1{W:World}{g1 g2 k:Nat}{S1 S2:List Nat}{o0 o1 c0 c1 p0 p1 q0 q1 b0 b1:Nat}(h:qdi W g1 g2 k S1 S2 o0 o1 c0 c1 p0 p1 q0 q1 b0 b1)(x:Nat):
  qdi (W.setCell ⟨k+1+1+1+1,1,none⟩ (.int .u64 (x:Nat))) g1 g2 k S1 S2 o0 o1 c0 c1 p0 p1 q0 q1 b0 x:=by
 have:=h.h1;have:=h.h2;have:=h.h3;exact⟨h.A.other (by omega) _ _,h.B.other (by omega) _ _,h.O.other (by omega) _ _,h.C.other (by omega) _ _,h.P.other (by omega) _ _,h.Q.other (by omega) _ _,h.T.setWord 1 (by simp) x,h.h1,h.h2,h.h3⟩
theorem qdi.drew{W:World}{g1 g2 k:Nat}{S1 S2:List Nat}{o0 o1 c0 c1 p0 p1 q0 q1 b0 b1:Nat}(h:qdi W g1 g2 k S1 S2 o0 o1 c0 c1 p0 p1 q0 q1 b0 b1):
  qdi W.drew g1 g2 k S1 S2 o0 o1 c0 c1 p0 p1 q0 q1 b0 b1:=
 ⟨h.A.later (Below.refl _ _).drew,h.B.later (Below.refl _ _).drew,h.O.later (Below.refl _ _).drew,h.C.later (Below.refl _ _).drew,h.P.later (Below.refl _ _).drew,h.Q.later (Below.refl _ _).drew,h.T.later (Below.refl _ _).drew,h.h1,h.h2,h.h3⟩
theorem qdi.a{W:World}{g1 g2 k:Nat}{S1 S2:List Nat}{o0 o1 c0 c1 p0 p1 q0 q1 b0 b1:Nat}(h:qdi W g1 g2 k S1 S2 o0 o1 c0 c1 p0 p1 q0 q1 b0 b1)(i:Nat)(hi:i<S1.length):W.cell? ⟨g1,i,none⟩=some (.int .u64 (S1.getD i 0:Nat))∧W.frozen? ⟨g1,i,none⟩=false:=h.A.2 i hi
theorem qdi.b{W:World}{g1 g2 k:Nat}{S1 S2:List Nat}{o0 o1 c0 c1 p0 p1 q0 q1 b0 b1:Nat}(h:qdi W g1 g2 k S1 S2 o0 o1 c0 c1 p0 p1 q0 q1 b0 b1)(i:Nat)(hi:i<S2.length):W.cell? ⟨g2,i,none⟩=some (.int .u64 (S2.getD i 0:Nat))∧W.frozen? ⟨g2,i,none⟩=false:=h.B.2 i hi
theorem qdi.boxes{W:World}{g1 g2 k:Nat}{S1 S2:List Nat}{o0 o1 c0 c1 p0 p1 q0 q1 b0 b1:Nat}(h:qdi W g1 g2 k S1 S2 o0 o1 c0 c1 p0 p1 q0 q1 b0 b1):
  (W.cell? ⟨k,0,none⟩=some (.int .u64 o0)∧W.cell? ⟨k,1,none⟩=some (.int .u64 o1))∧(W.cell? ⟨k+1,0,none⟩=some (.int .u64 c0)∧W.cell? ⟨k+1,1,none⟩=some (.int .u64 c1))∧
  (W.cell? ⟨k+1+1,0,none⟩=some (.int .u64 p0)∧W.cell? ⟨k+1+1,1,none⟩=some (.int .u64 p1))∧(W.cell? ⟨k+1+1+1,0,none⟩=some (.int .u64 q0)∧W.cell? ⟨k+1+1+1,1,none⟩=some (.int .u64 q1))∧
  (W.cell? ⟨k+1+1+1+1,0,none⟩=some (.int .u64 b0)∧W.cell? ⟨k+1+1+1+1,1,none⟩=some (.int .u64 b1))∧
  (W.frozen? ⟨k+1+1,0,none⟩=false∧W.frozen? ⟨k+1+1,1,none⟩=false∧W.frozen? ⟨k+1+1+1,0,none⟩=false∧W.frozen? ⟨k+1+1+1,1,none⟩=false∧W.frozen? ⟨k+1+1+1+1,0,none⟩=false∧W.frozen? ⟨k+1+1+1+1,1,none⟩=false):=
 ⟨⟨(h.O.2 0 (by simp)).1,(h.O.2 1 (by simp)).1⟩,⟨(h.C.2 0 (by simp)).1,(h.C.2 1 (by simp)).1⟩,⟨(h.P.2 0 (by simp)).1,(h.P.2 1 (by simp)).1⟩,⟨(h.Q.2 0 (by simp)).1,(h.Q.2 1 (by simp)).1⟩,⟨(h.T.2 0 (by simp)).1,(h.T.2 1 (by simp)).1⟩,
  ⟨(h.P.2 0 (by simp)).2,(h.P.2 1 (by simp)).2,(h.Q.2 0 (by simp)).2,(h.Q.2 1 (by simp)).2,(h.T.2 0 (by simp)).2,(h.T.2 1 (by simp)).2⟩⟩
theorem qln(w:World)(x y:Nat):Own (w.alloc (.cells #[.int .u64 (x:Nat),.int .u64 (y:Nat)] 225)) w.heap.size [x,y].length (wd [x,y]):=by
 refine⟨by rw[World.size_alloc];omega,fun i hi => ?_⟩;rw[World.cell?_alloc_at _ _ _ _ rfl,World.frozen?_alloc_at _ _ _ _ rfl]
 match i,hi with
 | 0,_=>exact⟨rfl,rfl⟩
 | 1,_=>exact⟨rfl,rfl⟩
theorem Own.alloc{w:World}{g n:Nat}{f:Nat→Value}(h:Own w g n f)(o:Obj):Own (w.alloc o) g n f:=
 h.later ((Below.refl _ _).alloc (by have:=h.1;omega) _)
theorem qvv(w:World)(g1 g2:Nat)(A B:List Nat)(o0 o1 c0 c1:Nat)(hA:Own w g1 A.length (wd A))(hB:Own w g2 B.length (wd B))(hne:g1≠g2):
  qdi (((((w.alloc (.cells #[.int .u64 (o0:Nat),.int .u64 (o1:Nat)] 225)).alloc (.cells #[.int .u64 (c0:Nat),.int .u64 (c1:Nat)] 225)).alloc (.cells #[.int .u64 0,.int .u64 0] 225)).alloc (.cells #[.int .u64 0,.int .u64 0] 225)).alloc (.cells #[.int .u64 0,.int .u64 0] 225)) g1 g2 w.heap.size A B o0 o1 c0 c1 0 0 0 0 0 0:=by
 have e1:=qln w o0 o1;have e2:=qln (w.alloc (.cells #[.int .u64 (o0:Nat),.int .u64 (o1:Nat)] 225)) c0 c1;have e3:=qln ((w.alloc (.cells #[.int .u64 (o0:Nat),.int .u64 (o1:Nat)] 225)).alloc (.cells #[.int .u64 (c0:Nat),.int .u64 (c1:Nat)] 225)) 0 0;have e4:=qln (((w.alloc (.cells #[.int .u64 (o0:Nat),.int .u64 (o1:Nat)] 225)).alloc (.cells #[.int .u64 (c0:Nat),.int .u64 (c1:Nat)] 225)).alloc (.cells #[.int .u64 ((0:Nat):Int),.int .u64 ((0:Nat):Int)] 225)) 0 0;have e5:=qln ((((w.alloc (.cells #[.int .u64 (o0:Nat),.int .u64 (o1:Nat)] 225)).alloc (.cells #[.int .u64 (c0:Nat),.int .u64 (c1:Nat)] 225)).alloc (.cells #[.int .u64 ((0:Nat):Int),.int .u64 ((0:Nat):Int)] 225)).alloc (.cells #[.int .u64 ((0:Nat):Int),.int .u64 ((0:Nat):Int)] 225)) 0 0;simp only[World.size_alloc] at e2 e3 e4 e5;exact⟨((((hA.alloc _).alloc _).alloc _).alloc _).alloc _,((((hB.alloc _).alloc _).alloc _).alloc _).alloc _,(((e1.alloc _).alloc _).alloc _).alloc _,((e2.alloc _).alloc _).alloc _,(e3.alloc _).alloc _,e4.alloc _,e5,hA.1,hB.1,hne⟩
def Blk(base:Nat)(w w':World):Prop:=Below base w w'∧qn5 w w'
theorem qfn{base:Nat}{w wr:World}(h:Blk base w wr){g:Nat}(hg:base≤g)(o:Nat)(v:Value):Blk base w (wr.setCell ⟨g,o,none⟩ v):=⟨h.1.setCell hg v,h.2.trans (qn5.setCell _ _ _ _)⟩
theorem Blk.drew{base:Nat}{w wr:World}(h:Blk base w wr):Blk base w wr.drew:=⟨h.1.drew,h.2.trans (qn5.drew _)⟩
theorem qzd{base:Nat}(w:World)(o1 o2 o3 o4 o5:Obj)(h:base≤w.heap.size):Blk base w (((((w.alloc o1).alloc o2).alloc o3).alloc o4).alloc o5):=by
 refine⟨?_,((((qn5.alloc _ _).trans (qn5.alloc _ _)).trans (qn5.alloc _ _)).trans (qn5.alloc _ _)).trans (qn5.alloc _ _)⟩;refine(((((Below.refl _ _).alloc h _).alloc ?_ _).alloc ?_ _).alloc ?_ _).alloc ?_ _<;>simp only[World.size_alloc]<;>omega
theorem qq2{B p S R L mA mB bw mA' mB' bw' a b x y left right res:Nat}(h:S+R*y+p*mA=L*x+p*mB+p*bw)
  (h1:left+B*mA'=a*x+mA) (h2:right+B*mB'=b*y+mB) (h3:res+right+bw=left+B*bw'):
  (S+p*res)+(R+p*b)*y+p*B*mA'=(L+p*a)*x+p*B*mB'+p*B*bw':=by
 have e:res+(b*y+mB)+bw+B*mA'=a*x+mA+B*mB'+B*bw':=by omega
 have e2:=congrArg (p * ·) e;simp only[Nat.mul_add] at e2;rw[Nat.add_mul,Nat.add_mul,Nat.mul_assoc p b y,Nat.mul_assoc p a x];simp only[Nat.mul_assoc p B] at *;omega
theorem qte{P S R L mA mB bw x y:Nat}(h:S+R*y+P*mA=L*x+P*mB+P*bw)(hle:R*y≤L*x)(hlt:L*x-R*y<P)(hS:S<P):S=L*x-R*y:=by
 have e:S+P*mA=(L*x-R*y)+P*(mB+bw):=by rw[Nat.mul_add];omega
 have e2:=congrArg (· % P) e;simp only[Nat.add_mul_mod_self_left,Nat.mod_eq_of_lt hS,Nat.mod_eq_of_lt hlt] at e2;exact e2
theorem qxw(_b:Nat){S A:List Nat}{k:Nat}(_hS:S.length=A.length)(h:∀j,k≤j→S.getD j 0=A.getD j 0)(x:Nat)(_hk:k<A.length):∀j,k+1≤j→(S.set k x).getD j 0=A.getD j 0:=by
 intro j hj;rw[qar S k j x (by omega)];exact h j (by omega)
theorem qlo(g1 g2 n ca cb base a b o0 o1 c0 c1:Nat)(A B:List Nat)(w:World)(hne:g1≠g2)(hg1:base≤g1)(hg2:base≤g2)(hA:A.length=n)(hB:B.length=n)
  (hoA:Own w g1 A.length (wd A)) (hoB:Own w g2 B.length (wd B)) (hdA:∀d ∈ A,d<B64) (hdB:∀d ∈ B,d<B64) (hvA:val B64 A=a) (hvB:val B64 B=b)
  (ho0:o0<B64) (ho1:o1<B64) (hc0:c0<B64) (hc1:c1<B64) (hn:n≤Cap)
  (h1:b*c0≤a*o0) (h2:a*o0-b*c0<B64^n) (h3:a*c1≤b*o1) (h4:b*o1-a*c1<B64^n):
  Calls Tryz.prog 171 #[.slice (some ⟨g1,0,none⟩) n ca,.slice (some ⟨g2,0,none⟩) n cb,.agg #[.int .u64 o0,.int .u64 o1],.agg #[.int .u64 c0,.int .u64 c1]] w fun e w'=>
   e = .returned (.tuple #[])∧(∃S1 S2,S1.length=n∧S2.length=n∧(∀d ∈ S1,d<B64)∧(∀d ∈ S2,d<B64)∧val B64 S1=a*o0-b*c0∧val B64 S2=b*o1-a*c1∧Own w' g1 n (wd S1)∧Own w' g2 n (wd S2))∧Blk base w w':=by
 have hN62:n<4611686018427387904:=by unfold Cap at hn;omega
 have HK1:Hid (g1<w.heap.size):=hid hoA.1;have HK2:Hid (g2<w.heap.size):=hid hoB.1
 have HFIN1:Hid (∀(S:List Nat) (mA mB bw:Nat),S.length=n→(∀d ∈ S,d<B64)→low B64 S n+low B64 B n*c0+B64^n*mA=low B64 A n*o0+B64^n*mB+B64^n*bw→val B64 S=a*o0-b*c0):=by
  refine hid fun S mA mB bw hs hsb h => ?_;rw[qa5 B64 S _ (by omega),qa5 B64 B _ (by omega),qa5 B64 A _ (by omega),hvA,hvB] at h;have hsl:=qi1 B64 S hsb;rw[hs] at hsl;exact qte h h1 h2 hsl
 have HFIN2:Hid (∀(S:List Nat) (mA mB bw:Nat),S.length=n→(∀d ∈ S,d<B64)→low B64 S n+low B64 A n*c1+B64^n*mA=low B64 B n*o1+B64^n*mB+B64^n*bw→val B64 S=b*o1-a*c1):=by
  refine hid fun S mA mB bw hs hsb h => ?_;rw[qa5 B64 S _ (by omega),qa5 B64 B _ (by omega),qa5 B64 A _ (by omega),hvA,hvB] at h;have hsl:=qi1 B64 S hsb;rw[hs] at hsl;exact qte h h3 h4 hsl
 have HOA:=hid hoA;have HOB:=hid hoB;have HDA:=hid hdA;have HDB:=hid hdB;have HLA:=hid hA;have HLB:=hid hB;have HO0:=hid ho0;have HO1:=hid ho1;have HC0:=hid hc0;have HC1:=hid hc1;have HG1:=hid hg1;have HG2:=hid hg2;have HNE:=hid hne;clear h1 h2 h3 h4 hvA hvB hoA hoB hdA hdB hA hB ho0 ho1 hc0 hc1 hn hg1 hg2 hne;go_enter Tryz.func171,Tryz.ntmps171;go_wp2_with fail;have HS0:=hid (qvv w g1 g2 A B o0 o1 c0 c1 HOA.out HOB.out HNE.out);have HB0:Hid (Blk base w (((((w.alloc (.cells #[.int .u64 (o0:Nat),.int .u64 (o1:Nat)] 225)).alloc (.cells #[.int .u64 (c0:Nat),.int .u64 (c1:Nat)] 225)).alloc (.cells #[.int .u64 0,.int .u64 0] 225)).alloc (.cells #[.int .u64 0,.int .u64 0] 225)).alloc (.cells #[.int .u64 0,.int .u64 0] 225))):=hid (qzd w _ _ _ _ _ (by have:=HK1.out;have:=HG1.out;omega));generalize (((((w.alloc (.cells #[.int .u64 (o0:Nat),.int .u64 (o1:Nat)] 225)).alloc (.cells #[.int .u64 (c0:Nat),.int .u64 (c1:Nat)] 225)).alloc (.cells #[.int .u64 0,.int .u64 0] 225)).alloc (.cells #[.int .u64 0,.int .u64 0] 225)).alloc (.cells #[.int .u64 0,.int .u64 0] 225))=w0 at *;have HWS:Hid (base≤w.heap.size):=hid (by have:=HK1.out;have:=HG1.out;omega);clear HOA HOB
 go_loopw [18] (fun i wr=>∃(k p0 p1 q0 q1 b0 b1:Nat) (S1 S2:List Nat),k≤n∧i = .int .i64 k∧b0≤1∧b1≤1∧Hid (p0<B64∧p1<B64∧q0<B64∧q1<B64)∧Hid (S1.length=n∧S2.length=n)∧Hid ((∀d ∈ S1,d<B64)∧(∀d ∈ S2,d<B64))∧Hid ((∀j,k≤j→S1.getD j 0=A.getD j 0)∧(∀j,k≤j→S2.getD j 0=B.getD j 0))∧Hid (qdi wr g1 g2 w.heap.size S1 S2 o0 o1 c0 c1 p0 p1 q0 q1 b0 b1)∧
  Hid (low B64 S1 k+low B64 B k*c0+B64^k*p0=low B64 A k*o0+B64^k*q0+B64^k*b0)∧Hid (low B64 S2 k+low B64 A k*c1+B64^k*p1=low B64 B k*o1+B64^k*q1+B64^k*b1)∧Hid (Blk base w wr)) (fun i _=>n-(intOf i).toNat)
 case atStart=>exact⟨0,0,0,0,0,0,0,A,B,Nat.zero_le _,rfl,by omega,by omega,hid (by rw[qab];omega),hid ⟨HLA.out,HLB.out⟩,hid ⟨HDA.out,HDB.out⟩,hid ⟨fun _ _=>rfl,fun _ _=>rfl⟩,HS0,hid (by simp),hid (by simp),HB0⟩
 case round=>
  obtain⟨k,p0,p1,q0,q1,b0,b1,S1,S2,hk,rfl,hb0,hb1,HPQ,HLEN,HDD,HTL,HS,HR1,HR2,HB⟩:=hrel;clear HS0 HB0;by_cases hkn:k<n
  ·have hk1:k<S1.length:=by rw[HLEN.out.1];exact hkn
   have hk2:k<S2.length:=by rw[HLEN.out.2];exact hkn
   obtain⟨hxa,fxa⟩:=HS.out.a k hk1;obtain⟨hyb,fyb⟩:=HS.out.b k hk2;rw[HTL.out.1 k (Nat.le_refl _)] at hxa;rw[HTL.out.2 k (Nat.le_refl _)] at hyb;have hal:=qao (b:=B64) (by rw[qab];omega) HDA.out k;have hbl:=qao (b:=B64) (by rw[qab];omega) HDB.out k;have hsl1:=qap B64 A k;have hsl2:=qap B64 B k;have hset1:=fun v=>qbq B64 S1 k v hk1;have hset2:=fun v=>qbq B64 S2 k v hk2
   have HTN:Hid (∀r1 r2,(∀j,k+1≤j→(S1.set k r1).getD j 0=A.getD j 0)∧(∀j,k+1≤j→(S2.set k r2).getD j 0=B.getD j 0)):=
    hid fun r1 r2=>⟨qxw B64 (by rw[HLEN.out.1,HLA.out]) HTL.out.1 r1 (by rw[HLA.out];exact hkn),qxw B64 (by rw[HLEN.out.2,HLB.out]) HTL.out.2 r2 (by rw[HLB.out];exact hkn)⟩
   have HKS:=hid (And.intro hk1 hk2);generalize A.getD k 0=x at *;generalize B.getD k 0=y at *;have HM1:Hid (∀w,Calls Tryz.prog 113 #[.int .u64 x,.int .u64 o0,.int .u64 p0] w fun e w'=>e = .returned (.tuple #[.int .u64 (qiz x o0 p0:Nat),.int .u64 (qi0 x o0 p0:Nat)])∧w'=w):=hid fun w=>qb2 _ _ _ hal HO0.out HPQ.out.1 w;have HM2:Hid (∀w,Calls Tryz.prog 113 #[.int .u64 y,.int .u64 c0,.int .u64 q0] w fun e w'=>e = .returned (.tuple #[.int .u64 (qiz y c0 q0:Nat),.int .u64 (qi0 y c0 q0:Nat)])∧w'=w):=hid fun w=>qb2 _ _ _ hbl HC0.out HPQ.out.2.2.1 w;have HM3:Hid (∀w,Calls Tryz.prog 113 #[.int .u64 y,.int .u64 o1,.int .u64 p1] w fun e w'=>e = .returned (.tuple #[.int .u64 (qiz y o1 p1:Nat),.int .u64 (qi0 y o1 p1:Nat)])∧w'=w):=hid fun w=>qb2 _ _ _ hbl HO1.out HPQ.out.2.1 w;have HM4:Hid (∀w,Calls Tryz.prog 113 #[.int .u64 x,.int .u64 c1,.int .u64 q1] w fun e w'=>e = .returned (.tuple #[.int .u64 (qiz x c1 q1:Nat),.int .u64 (qi0 x c1 q1:Nat)])∧w'=w):=hid fun w=>qb2 _ _ _ hal HC1.out HPQ.out.2.2.2 w;have e1:=qrv x o0 p0;have e2:=qrv y c0 q0;have e3:=qrv y o1 p1;have e4:=qrv x c1 q1;have l1:=qkp x o0 p0;have l2:=qkp y c0 q0;have l3:=qkp y o1 p1;have l4:=qkp x c1 q1;have HPQ2:Hid (qi0 x o0 p0<B64∧qi0 y o1 p1<B64∧qi0 y c0 q0<B64∧qi0 x c1 q1<B64):=hid ⟨qmq hal HO0.out HPQ.out.1,qmq hbl HO1.out HPQ.out.2.1,qmq hbl HC0.out HPQ.out.2.2.1,qmq hal HC1.out HPQ.out.2.2.2⟩;generalize qiz x o0 p0=z1 at *;generalize qi0 x o0 p0=p0' at *;generalize qiz y c0 q0=z2 at *;generalize qi0 y c0 q0=q0' at *;generalize qiz y o1 p1=z3 at *;generalize qi0 y o1 p1=p1' at *;generalize qiz x c1 q1=z4 at *;generalize qi0 x c1 q1=q1' at *;have hrun1:=fun w=>qi7 z1 z2 b0 hb0 w;have hrun2:=fun w=>qi7 z3 z4 b1 hb1 w;have t1:=qs7 l1 l2 hb0;have t2:=qs7 l3 l4 hb1;have hb0':=qob z1 z2 b0;have hb1':=qob z3 z4 b1
   have r1l:=qlg z1 z2 b0;have r2l:=qlg z3 z4 b1;generalize qh7 z1 z2 b0=r1 at *;generalize qmp z1 z2 b0=b0' at *;generalize qh7 z3 z4 b1=r2 at *;generalize qmp z3 z4 b1=b1' at *
   have HR1':Hid (low B64 (S1.set k r1) (k+1)+low B64 B (k+1)*c0+B64^(k+1)*p0'=low B64 A (k+1)*o0+B64^(k+1)*q0'+B64^(k+1)*b0'):=by
    refine hid ?_;rw[hset1 r1,hsl1,hsl2,Nat.pow_succ];exact qq2 HR1.out e1 e2 t1
   have HR2':Hid (low B64 (S2.set k r2) (k+1)+low B64 A (k+1)*c1+B64^(k+1)*p1'=low B64 B (k+1)*o1+B64^(k+1)*q1'+B64^(k+1)*b1'):=by
    refine hid ?_;rw[hset2 r2,hsl1,hsl2,Nat.pow_succ];exact qq2 HR2.out e3 e4 t2
   have HDD':Hid ((∀d ∈ S1.set k r1,d<B64)∧(∀d ∈ S2.set k r2,d<B64)):=hid ⟨qcs HDD.out.1 _ _ r1l,qcs HDD.out.2 _ _ r2l⟩;have HLEN':Hid ((S1.set k r1).length=n∧(S2.set k r2).length=n):=hid (by rw[List.length_set,List.length_set];exact HLEN.out);have HTL':=hid (HTN.out r1 r2);clear hset1 hset2 hsl1 hsl2 e1 e2 e3 e4 t1 t2 l1 l2 l3 l4 hal hbl r1l r2l hk1 hk2 HR1 HR2 HTN HTL HDD HLEN HPQ fxa fyb hb0 hb1;go_wp2_with fail
   go_region
   have HS1:=hid HS.out.drew;have HB1:Hid (Blk base w wr.drew):=hid HB.out.drew;clear hxa hyb HS HB;generalize wr.drew=w1 at *;obtain⟨⟨cO0,cO1⟩,⟨cC0,cC1⟩,⟨cP0,cP1⟩,⟨cQ0,cQ1⟩,⟨cT0,cT1⟩,fP0,fP1,fQ0,fQ1,fT0,fT1⟩:=HS1.out.boxes;go_wp2_with fail;refine(HM1.out _).mono ?_;rintro e w' ⟨rfl,hw'⟩;rw[hw'];clear hw' HM1;have HS2:=hid (HS1.out.setP0 p0');have HB2:=hid (qfn HB1.out (g:=w.heap.size+1+1) (by have:=HWS.out;omega) 0 (.int .u64 (p0':Nat)));have cC0':=HS2.out.boxes.2.1.1;have cQ0':=HS2.out.boxes.2.2.2.1.1;go_wp2_with fail;clear cO0 cO1 cC0 cC1 cP0 cP1 cQ0 cQ1 cT0 cT1 fP0 fP1 fQ0 fQ1 fT0 fT1 cC0' cQ0' HS1 HB1;generalize w1.setCell ⟨w.heap.size+1+1,0,none⟩ (.int .u64 (p0':Nat))=w2 at *;refine(HM2.out _).mono ?_;rintro e w' ⟨rfl,hw'⟩;rw[hw'];clear hw' HM2;obtain⟨_,_,_,⟨cQ0,_⟩,_,_,_,fQ0,_,_,_⟩:=HS2.out.boxes;have HS3:=hid (HS2.out.setQ0 q0');have HB3:=hid (qfn HB2.out (g:=w.heap.size+1+1+1) (by have:=HWS.out;omega) 0 (.int .u64 (q0':Nat)));have cT3:=HS3.out.boxes.2.2.2.2.1.1;obtain⟨cA3,fA3⟩:=HS3.out.a k HKS.out.1;have HS4:=hid (HS3.out.setA k HKS.out.1 r1);have HB4:=hid (qfn HB3.out (g:=g1) HG1.out k (.int .u64 (r1:Nat)));have cT4:=HS4.out.boxes.2.2.2.2.1.1;have fT4:=HS4.out.boxes.2.2.2.2.2.2.2.2.2.1;have HS5:=hid (HS4.out.setT0 b0');have HB5:=hid (qfn HB4.out (g:=w.heap.size+1+1+1+1) (by have:=HWS.out;omega) 0 (.int .u64 (b0':Nat)));have cO5:=HS5.out.boxes.1.2;have cP5:=HS5.out.boxes.2.2.1.2;go_wp2_with fail;clear cQ0 fQ0 cT3 cA3 fA3 cT4 fT4 cO5 cP5 HS2 HS3 HS4 HB2 HB3 HB4 hrun1;generalize ((w2.setCell ⟨w.heap.size+1+1+1,0,none⟩ (.int .u64 (q0':Nat))).setCell ⟨g1,k,none⟩ (.int .u64 (r1:Nat))).setCell ⟨w.heap.size+1+1+1+1,0,none⟩ (.int .u64 (b0':Nat))=w5 at *;refine(HM3.out _).mono ?_;rintro e w' ⟨rfl,hw'⟩;rw[hw'];clear hw' HM3
   obtain⟨_,_,⟨_,cP1⟩,_,_,_,fP1,_,_,_,_⟩:=HS5.out.boxes;have HS6:=hid (HS5.out.setP1 p1');have HB6:=hid (qfn HB5.out (g:=w.heap.size+1+1) (by have:=HWS.out;omega) 1 (.int .u64 (p1':Nat)));have cC6:=HS6.out.boxes.2.1.2;have cQ6:=HS6.out.boxes.2.2.2.1.2;go_wp2_with fail;clear cP1 fP1 cC6 cQ6 HS5 HB5;generalize w5.setCell ⟨w.heap.size+1+1,1,none⟩ (.int .u64 (p1':Nat))=w6 at *;refine(HM4.out _).mono ?_;rintro e w' ⟨rfl,hw'⟩;rw[hw'];clear hw' HM4;obtain⟨_,_,_,⟨_,cQ1⟩,_,_,_,_,fQ1,_,_⟩:=HS6.out.boxes;have HS7:=hid (HS6.out.setQ1 q1');have HB7:=hid (qfn HB6.out (g:=w.heap.size+1+1+1) (by have:=HWS.out;omega) 1 (.int .u64 (q1':Nat)));have cT7:=HS7.out.boxes.2.2.2.2.1.2;obtain⟨cB7,fB7⟩:=HS7.out.b k HKS.out.2;have HS8:=hid (HS7.out.setB k HKS.out.2 r2);have HB8:=hid (qfn HB7.out (g:=g2) HG2.out k (.int .u64 (r2:Nat)));have cT8:=HS8.out.boxes.2.2.2.2.1.2;have fT8:=HS8.out.boxes.2.2.2.2.2.2.2.2.2.2;have HS9:=hid (HS8.out.setT1 b1');have HB9:=hid (qfn HB8.out (g:=w.heap.size+1+1+1+1) (by have:=HWS.out;omega) 1 (.int .u64 (b1':Nat)));go_wp2_with fail;clear cQ1 fQ1 cT7 cB7 fB7 cT8 fT8 HS6 HS7 HS8 HB6 HB7 HB8 hrun2;go_roundw
   case rel=>exact⟨k+1,p0',p1',q0',q1',b0',b1',S1.set k r1,S2.set k r2,hkn,by go_num,hb0',hb1',HPQ2,HLEN',HDD',HTL',HS9,HR1',HR2',HB9⟩
   case measure=>simp[intOf];omega
  ·have e:k=n:=by omega
   subst e;have hv1:=HFIN1.out S1 p0 q0 b0 HLEN.out.1 HDD.out.1 HR1.out;have hv2:=HFIN2.out S2 p1 q1 b1 HLEN.out.2 HDD.out.2 HR2.out
   have HF:Hid (∃S1 S2:List Nat,S1.length=k∧S2.length=k∧(∀d ∈ S1,d<B64)∧(∀d ∈ S2,d<B64)∧val B64 S1=a*o0-b*c0∧val B64 S2=b*o1-a*c1∧Own wr g1 k (wd S1)∧Own wr g2 k (wd S2)):=by
    have h1:=HS.out.A;have h2:=HS.out.B;rw[HLEN.out.1] at h1;rw[HLEN.out.2] at h2;exact hid ⟨S1,S2,HLEN.out.1,HLEN.out.2,HDD.out.1,HDD.out.2,hv1,hv2,h1,h2⟩
   clear hv1 hv2 HFIN1 HFIN2 HR1 HR2;go_wp2_with fail
   go_end0
   exact⟨rfl,HF.out,HB.out⟩
end Go.Proofs.YthjagoogkkgelaaGreatDoor
