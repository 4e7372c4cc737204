/- Slices of words in memory, and natural numbers that they are; what later calls leave of them. -/
import Derived.Test.YtmcfcpgglfimjaaGreatDoorMMaths
import Derived.Test.YtmcfcpgglfimjaaGreatDoorProg
import Derived.WalkKit
import Derived.Deep.QuietTactic
import Derived.BigQuiet
import Derived.WalkSmall
import Derived.Laws.Externs
import Derived.Lib.Mul64
import Derived.Laws.Bits64b
import Derived.Laws.AppendOwn
import Derived.Deep.OwnRows
import Derived.Laws.NewBlocks
import Derived.Deep.AppendLies
import Derived.Laws.OwnMore
import Derived.OwnWalk
set_option linter.all false
namespace Go.Proofs.YtmcfcpgglfimjaaGreatDoor
open Go.RowKit
set_option maxRecDepth 100000
set_option maxHeartbeats 1000000
theorem hid{p:Prop}(h:p):Hid p:=h
theorem qa6{k:IntKind}{a b:Int}(h:a=b):Ending.returned (.int k a) = .returned (.int k b):=by rw[h]
theorem qa8{a b:Bool}(h:a=b):Ending.returned (.bool a) = .returned (.bool b):=by rw[h]
def B64:Nat:=18446744073709551616
theorem qaj:B64=18446744073709551616:=rfl
theorem qam:2≤B64:=by rw[qaj];omega
def ql5(w:World)(b o n:Nat)(f:Nat→Value):Prop:=∀i,i<n→w.cell? ⟨b,o+i,none⟩=some (f i)
theorem ql5.later{w w':World}{b o n:Nat}{f:Nat→Value}(h:ql5 w b o n f)(hb:Below w.heap.size w w'):ql5 w' b o n f:=fun i hi=>by
 have h1:=h i hi;rw[hb.cell (p:=⟨b,o+i,none⟩) (World.block_lt_of_cell? w _ h1)];exact h1
def qel(w:World)(v:Value)(n:Nat)(f:Nat→Value):Prop:=
 ∃p c,v = .slice p n c∧n≤c∧c≤maxLen∧(n=0∨∃b o,p=some ⟨b,o,none⟩∧ql5 w b o n f)
theorem qel.later{w w':World}{v:Value}{n:Nat}{f:Nat→Value}(h:qel w v n f)(hb:Below w.heap.size w w'):qel w' v n f:=by
 obtain⟨p,c,h1,h2,h3,h4⟩:=h;refine⟨p,c,h1,h2,h3, ?_⟩;rcases h4 with h4|⟨b,o,h5,h6⟩
 ·exact .inl h4
 ·exact .inr ⟨b,o,h5,h6.later hb⟩
theorem qel.congr{w:World}{v:Value}{n:Nat}{f g:Nat→Value}(h:qel w v n f)(hfg:∀i,i<n→f i=g i):qel w v n g:=by
 obtain⟨p,c,h1,h2,h3,h4⟩:=h;refine⟨p,c,h1,h2,h3, ?_⟩;rcases h4 with h4|⟨b,o,h5,h6⟩
 ·exact .inl h4
 ·exact .inr ⟨b,o,h5,fun i hi=>by rw[h6 i hi,hfg i hi]⟩
def wd(l:List Nat)(i:Nat):Value := .int .u64 ((l.getD i 0:Nat):Int)
def Wds(w:World)(v:Value)(l:List Nat):Prop:=(∀d ∈ l,d<B64)∧qel w v l.length (wd l)
theorem Wds.later{w w':World}{v:Value}{l:List Nat}(h:Wds w v l)(hb:Below w.heap.size w w'):Wds w' v l:=⟨h.1,h.2.later hb⟩
def qa2(w:World)(v:Value)(n:Nat):Prop:=Wds w v (qao B64 n)
theorem qa2.later{w w':World}{v:Value}{n:Nat}(h:qa2 w v n)(hb:Below w.heap.size w w'):qa2 w' v n:=Wds.later h hb
def wl(n:Nat):Nat:=(qao B64 n).length
theorem qa2.nil(w:World):qa2 w (.slice none 0 0) 0:=by
 unfold qa2 Wds;rw[qau];exact⟨by simp,none,0,rfl,Nat.le_refl _,by unfold maxLen;omega,.inl rfl⟩
theorem q0o(v:Value)(l:List Nat)(w:World)(h:Wds w v l):
  Calls Tryz.prog 135 #[v] w fun e w'=>e = .returned (.bool (decide (l=[1])))∧w=w':=by
 obtain⟨hl,p,c,rfl,bO,bJ,aA⟩:=h;by_cases h1:l.length=1
 ·obtain⟨x,rfl⟩:∃x,l=[x]:=by
   match l,h1 with
   | [x],_=>exact⟨x,rfl⟩
  have hx:=hl x (by simp);rcases aA with h0|⟨b,o,rfl,aB⟩
  ·simp at h0
  ·have aC:=aB 0 (by simp)
   simp[wd] at aC;clear aB hl;by_cases oY:x=1
   ·subst oY
    go_enter Tryz.func135,Tryz.ntmps135;go_wp2;go_ret;exact⟨rfl,rfl⟩
   ·have hb:((x:Int)==1)=false:=by simp;omega
    go_enter Tryz.func135,Tryz.ntmps135;go_wp2;go_ret;refine⟨?_,rfl⟩;simp[oY]
 ·have hb:((l.length:Int)==1)=false:=by simp;omega
  have hf:decide (l=[1])=false:=by
   apply decide_eq_false;rintro rfl;exact h1 rfl
  rw[hf];clear aA hl hf h1;go_enter Tryz.func135,Tryz.ntmps135;go_wp2;go_ret;exact⟨rfl,rfl⟩
def qk2:Value→Nat
 | .slice _ k _=>k
 | _=>0
theorem q0p(l:List Nat)(k:Nat)(hl:∀d ∈ l,d<B64)(hk:k≤l.length)(hv:val B64 l=low B64 l k)(tJ:k=0∨l.getD (k-1) 0≠0):qao B64 (val B64 l)=l.take k:=by
 rw[hv];refine qkz B64 qam _ (fun d hd=>hl d (List.mem_of_mem_take hd)) ?_;intro m d hm;rcases tJ with h0|h0
 ·subst h0;simp at hm
 ·have aE:(l.take k).length=k:=by simp;omega
  have hd:(l.take k).getD (k-1) 0=d:=by
   have:m.length=k-1:=by rw[hm] at aE;simp at aE;omega
   rw[hm,←this];simp
  have kF:0<k:=by
   rw[hm] at aE;simp at aE;omega
  rw[←hd]
  have:(l.take k).getD (k-1) 0=l.getD (k-1) 0:=by
   simp only[List.getD_eq_getElem?_getD];rw[List.getElem?_take_of_lt (by omega)]
  rw[this];exact h0
theorem qwu(w:World)(p:Option Addr)(c:Nat)(l:List Nat)(k:Nat)(hl:∀d ∈ l,d<B64)(hk:k≤l.length)(bO:l.length≤c)(bJ:c≤maxLen)
  (aA:l.length=0∨∃b o,p=some ⟨b,o,none⟩∧ql5 w b o l.length (wd l)) (e:qao B64 (val B64 l)=l.take k):qa2 w (.slice p k c) (val B64 l):=by
 have aE:(l.take k).length=k:=by simp;omega
 unfold qa2 Wds;rw[e];refine⟨fun d hd=>hl d (List.mem_of_mem_take hd),p,c,by rw[aE],by omega,bJ, ?_⟩;rw[aE];rcases aA with h0|⟨b,o,hp,aB⟩
 ·exact .inl (by omega)
 ·refine .inr ⟨b,o,hp,fun i hi => ?_⟩
  rw[aB i (by omega)];unfold wd;simp only[List.getD_eq_getElem?_getD];rw[List.getElem?_take_of_lt hi]
theorem qg9(p:Option Addr)(c:Nat)(l:List Nat)(w:World)(h:Wds w (.slice p l.length c) l):
  Calls Tryz.prog 101 #[.slice p l.length c] w fun e w'=>(∃k,k≤l.length∧e = .returned (.slice p k c)∧qao B64 (val B64 l)=l.take k)∧w=w':=by
 obtain⟨hl,p',c',he,bO,bJ,aA⟩:=h;cases he
 unfold maxLen at bJ;have fin:=fun k hk=>q0p l k hl hk;have FIN:=hid fin;clear fin;go_enter Tryz.func101,Tryz.ntmps101;go_wp2
 go_loop [0] (fun s=>∃k:Nat,k≤l.length∧s = .slice p k c∧Hid (val B64 l=low B64 l k)) qk2
 case atStart=>exact⟨_,Nat.le_refl _,rfl,hid (qbf _ _ _ (Nat.le_refl _)).symm⟩
 case round=>
  obtain⟨k,hk,rfl,hv⟩:=hrel;by_cases kF:k=0
  ·subst kF
   go_wp2;go_ret;exact⟨⟨0,Nat.zero_le _,rfl,FIN.out 0 hk hv.out (.inl rfl)⟩,rfl⟩
  ·obtain⟨j,rfl⟩:∃j,k=j+1:=⟨k-1,by omega⟩
   rcases aA with h0|⟨b,o,rfl,aB⟩
   ·omega
   have aC:=aB j (by omega);unfold wd at aC;have hs:=qa0 B64 l j;have hx:=qaz (b:=B64) (by rw[qaj];omega) hl j;rw[qaj] at hx;generalize Lr:l.getD j 0=x at *;have HX:=hid Lr;have HS:=hid hs;clear Lr hs hl aB;by_cases oZ:x=0
   ·subst oZ
    have hb:(((0:Nat):Int)==0)=true:=rfl;go_wp2;exact⟨⟨j,by omega,rfl,hid (by rw[hv.out,HS.out];omega)⟩,by simp[qk2]⟩
   ·have hb:((x:Int)==0)=false:=by simp;omega
    go_wp2;go_ret;exact⟨⟨_,hk,rfl,FIN.out _ hk hv.out (.inr (by show l.getD (j+1-1) 0≠0;rw[Nat.add_sub_cancel,HX.out];exact oZ))⟩,rfl⟩
theorem qjo(v:Value)(l:List Nat)(w:World)(h:Wds w v l):
  Calls Tryz.prog 101 #[v] w fun e w'=>(∃v',e = .returned v'∧qa2 w v' (val B64 l))∧w=w':=by
 have h0:=h;obtain⟨hl,p,c,rfl,bO,bJ,aA⟩:=h;refine(qg9 p c l w h0).mono ?_;rintro e w' ⟨⟨k,hk,rfl,hd⟩,rfl⟩;exact⟨⟨_,rfl,qwu w p c l k hl hk bO bJ aA hd⟩,rfl⟩
def qsn(x y:Int):Int:=if x<y then -1 else if y<x then 1 else 0
theorem qde{x y:Int}(h:x<y):qsn x y = -1:=if_pos h
theorem qcq{x y:Int}(h:y<x):qsn x y=1:=by unfold qsn;rw[if_neg (by omega),if_pos h]
theorem qem{x y:Int}(h:x=y):qsn x y=0:=by unfold qsn;rw[if_neg (by omega),if_neg (by omega)]
theorem qjp(x y:Int)(w:World):
  Calls Tryz.prog 58 #[.int .i64 x,.int .i64 y] w fun e w'=>e = .returned (.int .i64 (qsn x y))∧w'=w:=by
 rcases Int.lt_trichotomy x y with h1|h1|h1
 ·have HE:=hid (qde h1)
  go_enter Tryz.func58,Tryz.ntmps58;go_wp2;go_ret;exact⟨qa6 HE.out.symm,rfl⟩
 ·subst h1
  have HE:=hid (qem (Eq.refl x));go_enter Tryz.func58,Tryz.ntmps58;go_wp2;go_ret;exact⟨qa6 HE.out.symm,rfl⟩
 ·have HE:=hid (qcq h1)
  go_enter Tryz.func58,Tryz.ntmps58;go_wp2;go_ret;exact⟨qa6 HE.out.symm,rfl⟩
theorem qyg(x y:Int)(w:World):
  Calls Tryz.prog 143 #[.int .u64 x,.int .u64 y] w fun e w'=>e = .returned (.int .i64 (qsn x y))∧w'=w:=by
 rcases Int.lt_trichotomy x y with h1|h1|h1
 ·have HE:=hid (qde h1)
  go_enter Tryz.func143,Tryz.ntmps143;go_wp2;go_ret;exact⟨qa6 HE.out.symm,rfl⟩
 ·subst h1
  have HE:=hid (qem (Eq.refl x));go_enter Tryz.func143,Tryz.ntmps143;go_wp2;go_ret;exact⟨qa6 HE.out.symm,rfl⟩
 ·have HE:=hid (qcq h1)
  go_enter Tryz.func143,Tryz.ntmps143;go_wp2;go_ret;exact⟨qa6 HE.out.symm,rfl⟩
def qg4(x y c:Nat):Nat:=(x+y+c) % B64
def qiz(x y c:Nat):Nat:=(x+y+c)/B64
def qht(x y c:Nat):Nat:=(x+B64-y-c) % B64
def ql6(x y c:Nat):Nat:=if x<y+c then 1 else 0
def qit(x y z:Nat):Nat:=(x*y+z) % B64
def qiu(x y z:Nat):Nat:=(x*y+z)/B64
theorem qnp(x y c:Nat):qg4 x y c<B64:=Nat.mod_lt _ (by rw[qaj];omega)
theorem qk3(x y c:Nat):qht x y c<B64:=Nat.mod_lt _ (by rw[qaj];omega)
theorem qkf(x y c:Nat):qit x y c<B64:=Nat.mod_lt _ (by rw[qaj];omega)
theorem qq5{x y c:Nat}(hx:x<B64)(hy:y<B64)(hc:c≤1):qiz x y c≤1:=by
 unfold qiz;rw[qaj] at *;omega
theorem qnq(x y c:Nat):ql6 x y c≤1:=by unfold ql6;split<;>omega
theorem qwv(x y c:Nat):qg4 x y c+B64*qiz x y c=x+y+c:=Nat.mod_add_div _ _
theorem qq6(x y c:Nat):qit x y c+B64*qiu x y c=x*y+c:=Nat.mod_add_div _ _
theorem qso{x y c:Nat}(hx:x<B64)(hy:y<B64)(hc:c≤1):qht x y c+y+c=x+B64*ql6 x y c:=by
 unfold qht ql6;rw[qaj] at *;split<;>omega
theorem q0q{x y:Nat}(hx:x<B64)(hy:y<B64):x*y≤(B64-1)*(B64-1):=Nat.mul_le_mul (by omega) (by omega)
theorem ql7{x y z:Nat}(hx:x<B64)(hy:y<B64)(hz:z<B64):qiu x y z<B64:=by
 unfold qiu;have h:=q0q hx hy;rw[qaj] at *;omega
theorem qi0(x y c:Nat)(hc:c≤1)(w:World):
  (callFunc 144 #[.int .u64 x,.int .u64 y,.int .u64 c]).run Tryz.prog w = .ok (.value (.tuple #[.int .u64 (qg4 x y c:Nat),.int .u64 (qiz x y c:Nat)])) w:=by
 rw[run_callFunc_extern Tryz.func144 (by kernel_rfl) (by kernel_rfl) (by kernel_rfl) (e:=(Extern.MathBitsCarry.rows[0]'(by decide)).2) (by kernel_rfl)];have:c=0∨c=1:=by omega
 rcases this with rfl|rfl<;>rfl
theorem qi1(x y c:Nat)(hc:c≤1)(w:World):
  (callFunc 187 #[.int .u64 x,.int .u64 y,.int .u64 c]).run Tryz.prog w = .ok (.value (.tuple #[.int .u64 (qht x y c:Nat),.int .u64 (ql6 x y c:Nat)])) w:=by
 rw[run_callFunc_extern Tryz.func187 (by kernel_rfl) (by kernel_rfl) (by kernel_rfl) (e:=(Extern.MathBitsCarry.rows[1]'(by decide)).2) (by kernel_rfl)];have:c=0∨c=1:=by omega
 rcases this with rfl|rfl<;>rfl
theorem qsp(a:Nat)(ha:a<18446744073709551616):bits .and .u64 (a:Int) 4294967295=((a % 4294967296:Nat):Int):=by
 have h:=bits_and_u64_nat a 4294967295 ha (by omega);rw[show a &&& 4294967295=a % 4294967296 from Nat.and_two_pow_sub_one_eq_mod a 32] at h;exact h
theorem zat(a:Nat):(a:Int)/4294967296=((a/4294967296:Nat):Int):=by omega
theorem q6z(a b:Nat):(a:Int)*(b:Int)=((a*b:Nat):Int):=(Int.natCast_mul a b).symm
theorem qww(a b:Nat):(a:Int)+(b:Int)=((a+b:Nat):Int):=(Int.natCast_add a b).symm
theorem qq7(a:Nat)(ha:a<18446744073709551616):IntKind.u64.wrap (a:Int)=(a:Int):=by rw[IntKind.wrap_u64];omega
theorem quu(a:Nat):IntKind.u64.wrap (a:Int)=((a % 18446744073709551616:Nat):Int):=by rw[IntKind.wrap_u64];omega
theorem qsq(x y:Nat)(hx:x<B64)(hy:y<B64)(w:World):
  Calls Tryz.prog 174 #[.int .u64 x,.int .u64 y] w fun e w'=>e = .returned (.tuple #[.int .u64 (qiu x y 0:Nat),.int .u64 (qit x y 0:Nat)])∧w'=w:=by
 rw[qaj] at hx hy;obtain⟨bd,bt,bw,rM⟩:=Lib.mul64_hi x y hx hy;have ba:=Lib.half_mul_le (a:=x/4294967296) (b:=y/4294967296) (by omega) (by omega);have bb:=Lib.half_mul_le (a:=x/4294967296) (b:=y % 4294967296) (by omega) (by omega);have bc:=Lib.half_mul_le (a:=x % 4294967296) (b:=y/4294967296) (by omega) (by omega);have ba':x/4294967296*(y/4294967296)<18446744073709551616:=by omega
 have bb':x/4294967296*(y % 4294967296)<18446744073709551616:=by omega
 have bc':x % 4294967296*(y/4294967296)<18446744073709551616:=by omega
 have bh1:x/4294967296*(y/4294967296)+(x/4294967296*(y % 4294967296)+x % 4294967296*(y % 4294967296)/4294967296)/4294967296<18446744073709551616:=by omega
 have bh:x/4294967296*(y/4294967296)+(x/4294967296*(y % 4294967296)+x % 4294967296*(y % 4294967296)/4294967296)/4294967296+((x/4294967296*(y % 4294967296)+x % 4294967296*(y % 4294967296)/4294967296) % 4294967296+x % 4294967296*(y/4294967296))/4294967296<18446744073709551616:=by omega
 have e1:qiu x y 0=x*y/18446744073709551616:=by unfold qiu;rw[qaj];omega
 have e2:qit x y 0=x*y % 18446744073709551616:=by unfold qit;rw[qaj];omega
 rw[e1,e2];clear e1 e2;go_enter Tryz.func174,Tryz.ntmps174;go_wp2;simp only[qsp x hx,qsp y hy,zat,q6z,qww,qq7 _ bd,qq7 _ bb',qq7 _ bt,qsp _ bt,qq7 _ bc',qq7 _ bw,qq7 _ ba',qq7 _ bh1,qq7 _ bh,quu];rw[rM];go_ret2;exact⟨rfl,rfl⟩
theorem q0r(x y z:Nat):qiu x y z=qiu x y 0+qiz (qit x y 0) z 0∧qit x y z=qg4 (qit x y 0) z 0:=by
 have h:=qq6 x y 0;unfold qiu qit qiz qg4;generalize x*y=p;rw[qaj];omega
theorem qcb(x y z:Nat)(hx:x<B64)(hy:y<B64)(hz:z<B64)(w:World):
  Calls Tryz.prog 134 #[.int .u64 x,.int .u64 y,.int .u64 z] w fun e w'=>e = .returned (.tuple #[.int .u64 (qit x y z:Nat),.int .u64 (qiu x y z:Nat)])∧w'=w:=by
 have hadd0:∀w,(callFunc 144 #[.int .u64 (qit x y 0:Nat),.int .u64 z,.int .u64 0]).run Tryz.prog w = .ok (.value (.tuple #[.int .u64 (qg4 (qit x y 0) z 0:Nat),.int .u64 (qiz (qit x y 0) z 0:Nat)])) w:=fun w=>qi0 (qit x y 0) z 0 (by omega) w;have hm:=ql7 hx hy hz;obtain⟨h1,h2⟩:=q0r x y z;rw[h2,h1];rw[h1] at hm
 have bX:IntKind.u64.wrap ((qiu x y 0:Int)+(qiz (qit x y 0) z 0:Int))=(qiu x y 0:Int)+(qiz (qit x y 0) z 0:Int):=by
  rw[IntKind.wrap_u64];rw[qaj] at hm;omega
 clear h1 h2 hm;rw[←qww];have HM:Hid (∀w,Calls Tryz.prog 174 #[.int .u64 x,.int .u64 y] w fun e w'=>e = .returned (.tuple #[.int .u64 (qiu x y 0:Nat),.int .u64 (qit x y 0:Nat)])∧w'=w):=fun w=>qsq x y hx hy w;have HS:=hid bX;clear hx hy hz bX;generalize qit x y 0=lo at *;generalize qiu x y 0=hi at *;generalize qg4 lo z 0=slo at *;generalize qiz lo z 0=shi at *;go_enter Tryz.func134,Tryz.ntmps134;go_wp2_with fail;refine(HM.out _).mono ?_;rintro e w' ⟨rfl,hw⟩;rw[hw];clear hw;go_wp2_with fail;go_ret2;refine⟨?_,rfl⟩;show Ending.returned (.tuple #[.int .u64 slo,.int .u64 (IntKind.u64.wrap (↑hi+↑shi))])=_;rw[HS.out]
def Own(w:World)(g n:Nat)(f:Nat→Value):Prop:=g<w.heap.size∧∀i,i<n→w.cell? ⟨g,i,none⟩=some (f i)∧w.frozen? ⟨g,i,none⟩=false
theorem Own.set{w:World}{g n:Nat}{f:Nat→Value}(h:Own w g n f)(i:Nat)(hi:i<n)(v:Value):Own (w.setCell ⟨g,i,none⟩ v) g n (fun k=>if k=i then v else f k):=by
 refine⟨by rw[World.size_setCell];exact h.1,fun k hk => ?_⟩;rw[World.frozen?_setCell];refine⟨?_,(h.2 k hk).2⟩;by_cases e:k=i
 ·subst e;simp only[if_pos];exact World.cell?_setCell_same _ _ _ (h.2 k hk).1
 ·simp only[if_neg e];rw[World.cell?_setCell_other _ _ _ _ (by intro h';injection h' with _ h';exact e h'.symm)]
  exact(h.2 k hk).1
theorem Own.later{w w':World}{g n:Nat}{f:Nat→Value}(h:Own w g n f)(hb:Below (g+1) w w'):Own w' g n f:=by
 refine⟨Nat.lt_of_lt_of_le h.1 hb.size,fun k hk => ?_⟩;rw[hb.cell (p:=⟨g,k,none⟩) (Nat.lt_succ_self g),hb.frozen (p:=⟨g,k,none⟩) (Nat.lt_succ_self g)];exact h.2 k hk
theorem Own.congr{w:World}{g n:Nat}{f f':Nat→Value}(h:Own w g n f)(hf:∀i,i<n→f i=f' i):Own w g n f':=
 ⟨h.1,fun i hi=>by rw[←hf i hi];exact h.2 i hi⟩
theorem Own.row{w:World}{g n:Nat}{f:Nat→Value}(h:Own w g n f):ql5 w g 0 n f:=fun i hi=>by rw[Nat.zero_add];exact(h.2 i hi).1
theorem Own.sliceAt{w:World}{g n c:Nat}{f:Nat→Value}(h:Own w g n f)(hn:n≤c)(hc:c≤maxLen):qel w (.slice (some ⟨g,0,none⟩) n c) n f:=
 ⟨some ⟨g,0,none⟩,c,rfl,hn,hc,.inr ⟨g,0,rfl,h.row⟩⟩
def qbg(n:Nat):Obj := .cells (madeCells #[.int .u64 0] n) 155
theorem qha(w:World)(n:Nat):Own (w.alloc (qbg n)) w.heap.size n (wd (List.replicate n 0)):=by
 refine⟨by rw[World.size_alloc];omega,fun i hi => ?_⟩;unfold qbg;rw[World.cell?_alloc_at _ _ _ _ rfl,World.frozen?_alloc_at _ _ _ _ rfl];refine⟨?_,rfl⟩;rw[←Array.getElem?_toList,toList_madeCells_one];unfold wd;simp[hi]
def Cap:Nat:=1099511627776
theorem qkg:1≤Cap:=by unfold Cap;omega
theorem qf7(n:Nat)(x:Int)(hx:x=n)(h:n≤Cap+Cap)(w:World):
  (Instr.makeSlice 83 (.int .i64 x) (.int .i64 x)).run Tryz.prog w = .ok (.slice (some ⟨w.heap.size,0,none⟩) n n) (w.alloc (qbg n)):=by
 subst hx;unfold Cap at h;exact run_make_row' (P:=Tryz.prog) 83 155 (.int .u64 0) 8 Tryz.underlying83 (by kernel_rfl) rfl .i64 .i64 n (by omega) (by omega) w
theorem q9i(l:List Nat)(i x:Nat)(hi:i<l.length):(fun k=>if k=i then Value.int .u64 (x:Nat) else wd l k)=wd (l.set i x):=by
 funext k
 unfold wd;by_cases e:k=i
 ·subst e;simp[hi]
 ·rw[if_neg e];simp[Ne.symm e]
theorem Own.setWord{w:World}{g:Nat}{l:List Nat}(h:Own w g l.length (wd l))(i:Nat)(hi:i<l.length)(x:Nat):Own (w.setCell ⟨g,i,none⟩ (.int .u64 (x:Nat))) g (l.set i x).length (wd (l.set i x)):=by
 rw[←q9i l i x hi,List.length_set];exact h.set i hi _
theorem qyh(b:Nat)(l:List Nat)(i x k:Nat)(h:k≤i):low b (l.set i x) k=low b l k:=by
 unfold low;rw[List.take_set_of_le h]
theorem qck(l:List Nat)(i x:Nat)(h:i<l.length):(l.set i x).getD i 0=x:=by simp[h]
theorem qa3(l:List Nat)(i k x:Nat)(h:k≠i):(l.set i x).getD k 0=l.getD k 0:=by simp[Ne.symm h]
theorem qb2(b:Nat)(l:List Nat)(i x:Nat)(h:i<l.length):low b (l.set i x) (i+1)=low b l i+b^i*x:=by
 rw[qa0,qyh b l i x i (Nat.le_refl _),qck l i x h]
theorem qc7{b:Nat}{l:List Nat}(h:∀d ∈ l,d<b)(i x:Nat)(hx:x<b):∀d ∈ l.set i x,d<b:=by
 intro d hd;rcases List.mem_or_eq_of_mem_set hd with h1|h1
 ·exact h d h1
 ·rw[h1];exact hx
theorem qcg{b:Nat}(hb:0<b)(n:Nat):∀d ∈ List.replicate n 0,d<b:=by
 intro d hd;rw[(List.mem_replicate.1 hd).2];exact hb
def qfb(g:Nat)(w w':World):Prop:=(∀B,B≤g→Below B w w')∧∀k,k≠g→w'.heap[k]? = w.heap[k]?
theorem qfb.refl(g:Nat)(w:World):qfb g w w:=⟨fun _ _=>Below.refl _ _,fun _ _=>rfl⟩
theorem qfb.trans{g:Nat}{a b c:World}(h:qfb g a b)(k:qfb g b c):qfb g a c:=⟨fun B hB=>(h.1 B hB).trans (k.1 B hB),fun i hi=>(k.2 i hi).trans (h.2 i hi)⟩
theorem qfb.below{g B:Nat}{w w':World}(h:qfb g w w')(hB:B≤g):Below B w w':=h.1 B hB
theorem qfb.set{g:Nat}{w w':World}(h:qfb g w w')(o:Nat)(v:Value):qfb g w (w'.setCell ⟨g,o,none⟩ v):=
 ⟨fun B hB=>(h.1 B hB).setCell hB v,fun k hk=>(Below.heap_setCell _ _ _ _ hk).trans (h.2 k hk)⟩
theorem qfb.drewN{g:Nat}{w w':World}(h:qfb g w w')(n:Nat):qfb g w (w'.drewN n):=⟨fun B hB=>below_drewN (h.1 B hB) n,h.2⟩
theorem qfb.own{g g' n:Nat}{w w':World}{f:Nat→Value}(h:qfb g w w')(ho:Own w g' n f)(hne:g'≠g):Own w' g' n f:=by
 have hb:=h.2 g' hne;refine⟨?_,fun i hi => ?_⟩
 ·rcases Nat.lt_or_ge g' w'.heap.size with h1|h1
  ·exact h1
  ·rw[Array.getElem?_eq_none h1,Array.getElem?_eq_getElem ho.1] at hb;cases hb
 ·rw[World.cell?_of_block (a:=⟨g',i,none⟩) hb,World.frozen?_of_block (a:=⟨g',i,none⟩) hb]
  exact ho.2 i hi
def iv(l:List Int)(i:Nat):Value := .int .i64 (l.getD i 0)
def qwx(w:World)(v:Value)(l:List Int):Prop:=qel w v l.length (iv l)
theorem qwx.later{w w':World}{v:Value}{l:List Int}(h:qwx w v l)(hb:Below w.heap.size w w'):qwx w' v l:=qel.later h hb
def wIn(x:Int):Bool:=decide (0≤x)&&decide (x≤999999999)
theorem ql8{x:Int}:wIn x=true↔0≤x∧x≤999999999:=by simp[wIn]
theorem qhu(l:List Int)(k:Nat)(h:k<l.length):(l.take (k+1)).sum=(l.take k).sum+l.getD k 0:=by
 rw[List.take_succ_eq_append_getElem h,List.sum_append];simp[h]
theorem qi2(l:List Int)(h:∀x ∈ l,wIn x=true):0≤l.sum∧l.sum≤l.length*999999999:=by
 induction l with
 | nil=>simp
 | cons x l ih=>
  have h1:=ql8.1 (h x (by simp));have h2:=ih (fun y hy=>h y (by simp[hy]));simp only[List.sum_cons,List.length_cons];omega
def qsi(l:List Int):Nat:=if l.all wIn then(if l.sum=0 then 6 else 0) else 3
theorem qwy{l:List Int}{k:Nat}(h:k<l.length)(hx:wIn (l.getD k 0)=false):qsi l=3:=by
 unfold qsi;rw[if_neg];intro h1;rw[List.all_eq_true] at h1;have:=h1 (l.getD k 0) (by simp[h]);rw[hx] at this;cases this
theorem qwz{l:List Int}(h:∀x ∈ l,wIn x=true):qsi l=if l.sum=0 then 6 else 0:=by
 unfold qsi;rw[if_pos (List.all_eq_true.2 h)]
theorem qsr{l:List Int}(h:qsi l=0):(∀x ∈ l,wIn x=true)∧l.sum≠0:=by
 unfold qsi at h;split at h
 ·rename_i h1
  split at h
  ·cases h
  ·exact⟨List.all_eq_true.1 h1,by assumption⟩
 ·cases h
theorem qq8{l:List Int}{k:Nat}(h:∀x ∈ l.take k,wIn x=true)(hk:k<l.length)(hx:wIn (l.getD k 0)=true):∀x ∈ l.take (k+1),wIn x=true:=by
 intro x hm;rw[List.take_succ_eq_append_getElem hk,List.mem_append] at hm;rcases hm with hm|hm
 ·exact h x hm
 ·simp at hm
  subst hm
  simpa [hk] using hx
def qp0(l:List Int)(e:Ending):Prop:=e = .returned (.tuple #[.int .i64 (if qsi l=0 then l.sum else 0),.int .i64 (qsi l:Nat)])
theorem q0s{l:List Int}{k:Nat}(h:k<l.length)(hx:wIn (l.getD k 0)=false):qp0 l (.returned (.tuple #[.int .i64 0,.int .i64 3])):=by
 unfold qp0;rw[qwy h hx];rfl
theorem qyi{l:List Int}(h:∀x ∈ l,wIn x=true)(h0:l.sum=0):qp0 l (.returned (.tuple #[.int .i64 0,.int .i64 6])):=by
 unfold qp0;rw[qwz h,if_pos h0];rfl
theorem qyj{l:List Int}(h:∀x ∈ l,wIn x=true)(h0:l.sum≠0):qp0 l (.returned (.tuple #[.int .i64 l.sum,.int .i64 0])):=by
 unfold qp0;rw[qwz h,if_neg h0];rfl
theorem qfp(v:Value)(l:List Int)(w:World)(h:qwx w v l)(aE:l.length≤1048576):
  Calls Tryz.prog 50 #[v] w fun e w'=>qp0 l e∧w=w':=by
 obtain⟨p,c,rfl,bO,bJ,aA⟩:=h;unfold maxLen at bJ;have HC:=hid aA;clear aA;go_enter Tryz.func50,Tryz.ntmps50;go_wp2_with fail
 go_loop [4,9] (fun s i=>∃k:Nat,k≤l.length∧i = .int .i64 k∧s = .int .i64 (l.take k).sum∧Hid (∀x ∈ l.take k,wIn x=true)) (fun _ i=>l.length-(intOf i).toNat)
 case atStart=>exact⟨0,Nat.zero_le _,rfl,rfl,hid (by simp)⟩
 case round=>
  obtain⟨k,hk,rfl,rfl,HA⟩:=hrel;have hb:=qi2 _ HA.out;have pW:(l.take k).length≤k:=List.length_take_le _ _;by_cases bC:k<l.length
  ·rcases HC.out with h0|⟨b,o,rfl,aB⟩
   ·omega
   have aC:=aB k bC;unfold iv at aC;have HX:=hid (qwy bC);have fB:=hid (@q0s l k bC);have HT:=hid (@qq8 l k HA.out bC);have HS:=hid (qhu l k bC);clear aB;generalize hx:l.getD k 0=x at *;have HXX:=hid hx;clear hx;generalize (l.take k).sum=s at *;by_cases h1:x<0
   ·have hw:Hid (wIn x=false):=hid (by unfold wIn;simp;omega)
    go_wp2_with fail;go_ret2;exact⟨fB.out hw.out,rfl⟩
   ·by_cases h2:999999999<x
    ·have hw:Hid (wIn x=false):=hid (by unfold wIn;simp;omega)
     go_wp2_with fail;go_ret2;exact⟨fB.out hw.out,rfl⟩
    ·have hw:Hid (wIn x=true):=hid (by unfold wIn;simp;omega)
     go_wp2_with fail;go_round
     case rel=>exact⟨k+1,by omega,by go_num,by rw[HS.out],hid (HT.out hw.out)⟩
     case measure=>simp[intOf];omega
  ·have cQ:k=l.length:=by omega
   have lD:Hid (∀x ∈ l,wIn x=true):=hid (by have:=HA.out;rw[cQ,List.take_length] at this;exact this);have uH:Hid ((l.take k).sum=l.sum):=hid (by rw[cQ,List.take_length]);have HZ:=hid (qyi lD.out);have wJ:=hid (qyj lD.out);generalize (l.take k).sum=s at *;obtain rfl:=uH.out;clear cQ;by_cases h0:l.sum=0
   ·have eE:(l.sum==0)=true:=beq_iff_eq.2 h0
    have kG:=hid (HZ.out h0);clear h0;go_wp2_with fail;go_ret2;exact⟨kG.out,rfl⟩
   ·have eE:(l.sum==0)=false:=beq_eq_false_iff_ne.2 h0
    have kG:=hid (wJ.out h0);clear h0;go_wp2_with fail;go_ret2;exact⟨kG.out,rfl⟩
theorem qhv{ops:Array Oper}{rest:List Oper}{o:Oper}{a:Act}{Q:Exit→Act→World→Prop}(xP:o.guard=none)(s x:Operand)
  (ho:o.op = .call { callee := .builtin .append,args:=#[s,x],argTypes:=#[54,54] })
  (w0 wr:World) (base k:Nat) (v:Value) (L:List Int) (y:Int) (hs:a.eval s=v)
  (aT:wr.ownsRow base 3 1 v k (L.map (Value.int .i64))) (hB:Below base w0 wr) (kH:base≤w0.heap.size)
  (hx:a.eval x = .slice (some ⟨wr.heap.size,0,none⟩) 1 1) (hk:k≤1048576)
  (h:∀v' w',w'.ownsRow base 3 1 v' (k+1) ((L++[y]).map (Value.int .i64))→Below base w0 w'→wpList Tryz.prog ops Q rest (a.put o.dst v') w'):
  wpList Tryz.prog ops Q (o::rest) a (wr.alloc (.cells #[.int .i64 y] 3)):=by
 obtain⟨i0,hi,cP,dV,eF⟩:=info_parts (show(Tryz.prog.info? 3).map (fun i=>(i.zero,i.size,i.bytes))=some (some (.int .i64 0),1,8) by kernel_rfl);have dG:=hB.size;refine wpList_append_own _ xP s x 54 ho base 3 i0 (.int .i64 0) 1 8 Tryz.underlying54 hi cP dV eF rfl (by decide) v k _ hs (aT.alloc _) ⟨wr.heap.size,0,none⟩ 1 1 [.int .i64 y] hx rfl ?c1 ?c2 ?c3 ?c4 ?c5 ?_
 case c1=>
  intro j u hj
  match j,hj with
  | 0,hj=>
   simp at hj;subst hj;simp[Addr.add]
 case c2=>intro u hu;simp at hu;subst hu;rfl
 case c3=>unfold maxLen;omega
 case c4=>omega
 case c5=>rw[World.size_alloc];omega
 intro v' w2 hown' bK _;refine h v' w2 ?_ ?_
 ·rw[List.map_append]
  exact hown'
 ·exact(hB.alloc (by omega) (.cells #[.int .i64 y] 3)).grown bK (by rw[World.size_alloc];omega) (fun q hq=>(aT.lt q hq).1)
theorem qad(w:World)(o:Obj):Below w.heap.size w (w.alloc o):=(Below.refl _ _).alloc (Nat.le_refl _) o
abbrev BA:=ByteArray
theorem qac(n:Nat):n≤n:=Nat.le_refl n
theorem qan{α:Type _}[BEq α][LawfulBEq α]{a b:α}(h:a≠b):(a==b)=false:=beq_eq_false_iff_ne.2 h
theorem qae{p:Prop}[inst:Decidable p](h:¬p):decide p=false:=decide_eq_false h
theorem qag{p:Prop}[inst:Decidable p](h:p):decide p=true:=decide_eq_true h
theorem qaf(w:World)(a:Addr){u:Value}(h:w.cell? a=some u):a.block<w.heap.size:=World.block_lt_of_cell? w a h
theorem qba{α:Type _}{l:List α}{i:Nat}{a:α}:l.getD i a=l[i]?.getD a:=List.getD_eq_getElem?_getD
theorem qat{α:Type _}{l:List α}{i:Nat}(h:i<l.length):l[i]? = some l[i]:=List.getElem?_eq_getElem h
theorem qab(w:World)(o:Obj):(w.alloc o).heap.size=w.heap.size+1:=World.size_alloc w o
theorem qaa(B:Nat)(w:World):Below B w w:=Below.refl B w
theorem qbj{α:Type _}{l:List α}{i:Nat}{a:α}(h:l[i]? = some a):a ∈ l:=List.mem_of_getElem? h
theorem qas(n:Nat):n=0∨n>0:=Nat.eq_zero_or_pos n
end Go.Proofs.YtmcfcpgglfimjaaGreatDoor
