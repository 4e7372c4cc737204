/- Bounds of the sizes of rational numbers. -/
import Derived.Test.YtclimablgihlhaaGreatDoorMCmpQ
import Derived.Test.YtclimablgihlhaaGreatDoorMNumWalk
import Derived.Carry
set_option linter.all false
namespace Go.Proofs.YtclimablgihlhaaGreatDoor
set_option maxRecDepth 100000
set_option maxHeartbeats 1000000
theorem qsy(n:Nat):n<B64^wl n:=qb6 B64 n qae
theorem q0n(m n k:Nat)(hm:wl m≤k)(hn:wl n≤k):wl (m+n)≤k+1:=by
 refine qgd ?_;have hB:2≤B64:=qae;have h1:=Nat.lt_of_lt_of_le (qsy m) (Nat.pow_le_pow_right (by omega:0<B64) hm);have h2:=Nat.lt_of_lt_of_le (qsy n) (Nat.pow_le_pow_right (by omega:0<B64) hn);have h3:B64^k*2≤B64^k*B64:=Nat.mul_le_mul_left _ hB;rw[Nat.pow_succ];omega
theorem qk8{n:Nat}(h:n<B64):wl n≤1:=qgd (by simpa using h)
def bd(q:Rat)(m:Nat):Prop:=wl q.num.natAbs≤m∧wl q.den≤m
theorem bd.mono{q:Rat}{m n:Nat}(h:bd q m)(hn:m≤n):bd q n:=⟨Nat.le_trans h.1 hn,Nat.le_trans h.2 hn⟩
theorem bd.rs{q:Rat}{m:Nat}(h:bd q m):rs q≤m+m:=by unfold Go.Proofs.YtclimablgihlhaaGreatDoor.rs;have:=h.1;have:=h.2;omega
theorem qes(z:Int)(h0 : -9223372036854775808≤z)(h1:z≤9223372036854775807):bd (z:Rat) 1:=by
 refine⟨?_, ?_⟩
 ·refine qk8 ?_
  rw[qab];show z.natAbs<_;omega
 ·exact qk8 (by rw[qab];show(1:Nat)<_;omega)
theorem q82(z:Int)(d m:Nat)(hd:d≠0)(hz:wl z.natAbs≤m)(hw:wl d≤m):bd (mkRat z d) m:=by
 refine⟨?_, ?_⟩
 ·rw[Rat.num_mkRat,if_neg hd]
  exact Nat.le_trans (qde (Int.natAbs_ediv_le_natAbs _ _)) hz
 ·rw[Rat.den_mkRat,if_neg hd]
  exact Nat.le_trans (qde (Nat.div_le_self _ _)) hw
theorem qex{a b:Rat}{m n:Nat}(ha:bd a m)(hb:bd b n):bd (a*b) (m+n):=by
 rw[Rat.mul_def,Rat.normalize_eq_mkRat];refine q82 _ _ _ (Nat.ne_of_gt (Nat.mul_pos a.den_pos b.den_pos)) ?_ ?_
 ·rw[Int.natAbs_mul]
  have:=qoc a.num.natAbs b.num.natAbs;have:=ha.1;have:=hb.1;omega
 ·have:=qoc a.den b.den
  have:=ha.2;have:=hb.2;omega
theorem q83{a:Rat}{m:Nat}(ha:bd a m):bd (-a) m:=by
 refine⟨?_, ?_⟩
 ·rw[Rat.neg_num,Int.natAbs_neg];exact ha.1
 ·rw[Rat.neg_den];exact ha.2
theorem qmx{a b:Rat}{m n:Nat}(ha:bd a m)(hb:bd b n):bd (a+b) (m+n+1):=by
 rw[Rat.add_def,Rat.normalize_eq_mkRat];refine q82 _ _ _ (Nat.ne_of_gt (Nat.mul_pos a.den_pos b.den_pos)) ?_ ?_
 ·refine Nat.le_trans (qde (Int.natAbs_add_le _ _)) ?_
  rw[Int.natAbs_mul,Int.natAbs_mul,Int.natAbs_natCast,Int.natAbs_natCast];refine q0n _ _ _ ?_ ?_
  ·have:=qoc a.num.natAbs b.den
   have:=ha.1;have:=hb.2;omega
  ·have:=qoc b.num.natAbs a.den
   have:=ha.2;have:=hb.1;omega
 ·have:=qoc a.den b.den
  have:=ha.2;have:=hb.2;omega
theorem q0o{a b:Rat}{m n:Nat}(ha:bd a m)(hb:bd b n):bd (a-b) (m+n+1):=by
 rw[Rat.sub_eq_add_neg];exact qmx ha (q83 hb)
theorem qiu(m:Nat)(h:1≤m):bd 0 m:=
 (qes 0 (by omega) (by omega)).mono h
theorem qmy{a b:Rat}{m n:Nat}(ha:bd a m)(hb:bd b n):bd (a/b) (m+n+1):=by
 rw[Rat.div_def];by_cases h:b.num=0
 ·have dL:b=0:=Rat.num_eq_zero.1 h
  rw[dL,Rat.inv_zero,Rat.mul_zero];exact qiu _ (by omega)
 ·have hi:bd b⁻¹ n:=by
   obtain⟨h1,h2,_⟩:=qk4 b h;exact⟨by rw[h1];exact hb.2,by rw[h2];exact hb.1⟩
  exact(qex ha hi).mono (by omega)
theorem qwr{a:Rat}{m:Nat}(ha:bd a m)(hm:1≤m):bd (a.floor:Rat) (m+1):=by
 refine⟨?_,Nat.le_trans (qk8 (by rw[qab];show(1:Nat)<_;omega)) (by omega)⟩;show wl a.floor.natAbs≤m+1;have h1:wl 1≤m:=Nat.le_trans (qk8 (by rw[qab];omega)) hm;have h2:wl (a.num.natAbs/a.den)≤m:=Nat.le_trans (qde (Nat.div_le_self _ _)) ha.1;by_cases h:a.num<0
 ·rw[(qof a h).1]
  refine q0n _ _ _ h2 ?_;split
  ·rw[qck];omega
  ·exact h1
 ·rw[(qoe a h).1]
  omega
theorem qib{l:List UInt8}(h:qaa l=0):bd (qav l) 600:=by
 have ht:qk7 l=l:=by
  unfold qaa at h;split at h
  ·cases h
  ·split at h
   ·cases h
   ·split at h
    ·cases h
    ·split at h
     ·assumption
     ·cases h
 have hl:l≠[]:=by
  rintro rfl;exact absurd h (by decide)
 have hf:qa3 (qav l) 600=true:=by
  unfold qk7 at ht;split at ht
  ·assumption
  ·exact absurd ht.symm hl
 unfold qa3 at hf;rw[Bool.and_eq_true,Bool.or_eq_true,decide_eq_true_iff,decide_eq_true_iff,decide_eq_true_iff] at hf;have hten:10≤B64:=by rw[qab];omega
 have key:∀n,(qaw n).length≤600→wl n≤600:=fun n hn=>by
  refine qgd ?_
  have h1:n<10^600:=by
   rcases Nat.lt_or_ge n (10^600) with h|h
   ·exact h
   ·have:=qqb h;omega
  exact Nat.lt_of_lt_of_le h1 (Nat.pow_le_pow_left hten 600)
 refine⟨key _ hf.1, ?_⟩;rcases hf.2 with h1|h1
 ·rw[h1]
  exact Nat.le_trans (qk8 (by rw[qab];omega)) (by omega)
 ·exact key _ h1
end Go.Proofs.YtclimablgihlhaaGreatDoor
namespace Go.Proofs.YtclimablgihlhaaGreatDoor
open Go.RowKit
set_option maxRecDepth 100000
set_option maxHeartbeats 1000000
def qmb(q:Rat)(w:World)(e:Ending)(w':World):Prop:=
 e = .returned (.tuple #[.string (if qa3 q 600 then⟨(qat q).toArray⟩ else⟨#[]⟩),.int .i64 (if qa3 q 600 then 0 else 4)])∧Below w.heap.size w w'
theorem q0p{q:Rat}{w w':World}{e:Ending}(h:qa3 q 600=true):qmb q w e w'↔e = .returned (.tuple #[.string ⟨(qat q).toArray⟩,.int .i64 0])∧Below w.heap.size w w':=by
 unfold qmb;rw[h];rfl
theorem q4i{q:Rat}{w w':World}{e:Ending}(h:qa3 q 600=false):qmb q w e w'↔e = .returned (.tuple #[.string ⟨#[]⟩,.int .i64 4])∧Below w.heap.size w w':=by
 unfold qmb;rw[h];rfl
theorem qiv(va:Value)(a:Rat)(w:World)(ha:qaj w va a)(hc:rs a≤Cap):
  Calls Tryz.prog 50 #[va] w (qmb a w):=by
 have HV:=hid ha;obtain⟨aI,aJ,aK,aM,aL,aN,rfl,dK,dX⟩:=ha.parts;have iW:=hid (fun(W:World) (hb:Below w.heap.size w W)=>qwq (ha.later hb) hc);have aO:=hid (qhc w (decide (a.num<0)) (.slice aI aJ aK) (.slice aM aL aN));clear ha dK dX hc;generalize decide (a.num<0)=na at *;cases h:qa3 a 600
 ·have HF:=hid (fun(e:Ending) (w':World)=>(q4i (q:=a) (w:=w) (w':=w') (e:=e) h).2)
  rw[h] at iW;have qT:Hid (∀W,Below w.heap.size w W→Calls Tryz.prog 92 #[.agg #[.bool na,.slice aI aJ aK,.slice aM aL aN],.int .i64 600] W fun e w'=>e = .returned (.tuple #[.string ⟨#[]⟩,.bool false])∧Below W.heap.size W w'):=iW;clear iW h;go_enter Tryz.func50,Tryz.ntmps50;go_wp2_with fail;refine(qT.out _ aO.out.1).mono ?_;rintro e w1 ⟨rfl,hb⟩;have HB:Hid (Below w.heap.size w w1):=hid (aO.out.1.trans (hb.mono aO.out.1.size));clear hb qT aO;go_wp2_with fail;go_ret2;exact HF.out _ _ ⟨rfl,HB.out⟩
 ·have HF:=hid (fun(e:Ending) (w':World)=>(q0p (q:=a) (w:=w) (w':=w') (e:=e) h).2)
  rw[h] at iW;have qT:Hid (∀W,Below w.heap.size w W→Calls Tryz.prog 92 #[.agg #[.bool na,.slice aI aJ aK,.slice aM aL aN],.int .i64 600] W fun e w'=>e = .returned (.tuple #[.string ⟨(qat a).toArray⟩,.bool true])∧Below W.heap.size W w'):=iW;clear iW h;go_enter Tryz.func50,Tryz.ntmps50;go_wp2_with fail;refine(qT.out _ aO.out.1).mono ?_;rintro e w1 ⟨rfl,hb⟩;have HB:Hid (Below w.heap.size w w1):=hid (aO.out.1.trans (hb.mono aO.out.1.size));clear hb qT aO;go_wp2_with fail;go_ret2;exact HF.out _ _ ⟨rfl,HB.out⟩
def qq8(w:World)(r:Nat)(D:List (BA × Value)):Prop:=
 ∃es clock,w.heap[r]? = some (.map es clock)∧es.toList.map (fun e=>(e.key,e.val))=D.map (fun p=>(Value.string p.1,p.2))
theorem qq8.later{w w':World}{r:Nat}{D:List (BA × Value)}(h:qq8 w r D)(hb:Below w.heap.size w w'):qq8 w' r D:=by
 obtain⟨es,clock,h1,h2⟩:=h
 have hr:r<w.heap.size:=by
  rcases Nat.lt_or_ge r w.heap.size with h|h
  ·exact h
  ·rw[Array.getElem?_eq_none h] at h1;cases h1
 exact⟨es,clock,by rw[hb.block r hr];exact h1,h2⟩
def qk9(D:List (BA × Value))(k:BA):Option Value:=(D.find? (fun p=>k==p.1)).map (·.2)
theorem qgq(k:BA):∀(es:List MapEntry) (D:List (BA × Value)) (i:Nat),es.map (fun e=>(e.key,e.val))=D.map (fun p=>(Value.string p.1,p.2))→
  ∃r,Instr.findNow .string (.string k) es i=some r∧r.map (·.2)=qk9 D k
 | [],[],i,_=>⟨none,rfl,rfl⟩
 | [],_::_,_,h=>by cases h
 | _::_,[],_,h=>by cases h
 | e::es,p::D,i,h=>by
  simp only[List.map_cons,List.cons.injEq,Prod.mk.injEq] at h;obtain⟨⟨h1,h2⟩,h3⟩:=h;unfold Instr.findNow;rw[h1];simp only[Instr.sameNow];by_cases hk:(k==p.1)=true
  ·rw[hk]
   refine⟨some (i,e.val),rfl, ?_⟩;unfold qk9;rw[List.find?_cons,hk];simp[h2]
  ·have hk':(k==p.1)=false:=by simpa using hk
   rw[hk'];obtain⟨r,h4,h5⟩:=qgq k es D (i+1) h3;refine⟨r,h4, ?_⟩;rw[h5];unfold qk9;rw[List.find?_cons,hk']
section
variable {P:Program}
theorem run_findKey(w:World)(kt:TypeId)(hk:P.underlying kt=some .string)(k:BA)(es:List MapEntry)(r:Option (Nat × Value))(h:Instr.findNow .string (.string k) es 0=some r):
  (Instr.findKey kt (.string k) es).run P w = .ok r w:=by
 unfold Instr.findKey;simp[run_underlying hk,Result.andThen,h,Sem.run_pure]
theorem run_checkKey(w:World)(kt:TypeId)(hk:P.underlying kt=some .string)(b:Bool)(k:BA):(Instr.checkKey b 10000 kt (.string k)).run P w = .ok () w:=by
 unfold Instr.checkKey;simp[run_underlying hk,Result.andThen,Sem.run_pure]
theorem qcj(w:World)(t kt et:TypeId)(ht:P.underlying t=some (.map kt et))(hk:P.underlying kt=some .string)(r:Nat)(D:List (BA × Value))(hm:qq8 w r D)(k:BA)(v:Value)(hv:qk9 D k=some v):
  (Instr.lookup t (.map (some r)) (.string k) true).run P w = .ok (.tuple #[v,.bool true]) w∧(Instr.lookup t (.map (some r)) (.string k) false).run P w = .ok v w:=by
 obtain⟨es,clock,h1,h2⟩:=hm;obtain⟨x,h3,h4⟩:=qgq k es.toList D 0 h2;rw[hv] at h4
 obtain⟨⟨i,u⟩,rfl,rfl⟩:∃y,x=some y∧y.2=v:=by
  cases x
  ·cases h4
  ·rename_i y;exact⟨y,rfl,by simpa using h4⟩
 have hf:=run_findKey (P:=P) w kt hk k es.toList _ h3;have hc:=fun b=>run_checkKey (P:=P) w kt hk b k;unfold Instr.lookup;constructor<;>simp[run_underlying ht,getObj,Sem.run,h1,Result.andThen,hc,hf,Sem.run_pure,Sem.run_bind]
theorem qd5(w:World)(t kt et:TypeId)(ht:P.underlying t=some (.map kt et))(hk:P.underlying kt=some .string)(r:Nat)(D:List (BA × Value))(hm:qq8 w r D)(k:BA)(z:Value)(hz:(zeroValue et).run P w = .ok z w)(hv:qk9 D k=none):
  (Instr.lookup t (.map (some r)) (.string k) true).run P w = .ok (.tuple #[z,.bool false]) w∧(Instr.lookup t (.map (some r)) (.string k) false).run P w = .ok z w:=by
 obtain⟨es,clock,h1,h2⟩:=hm;obtain⟨x,h3,h4⟩:=qgq k es.toList D 0 h2;rw[hv] at h4
 obtain rfl:x=none:=by
  cases x
  ·rfl
  ·cases h4
 have hf:=run_findKey (P:=P) w kt hk k es.toList _ h3;have hc:=fun b=>run_checkKey (P:=P) w kt hk b k;unfold Instr.lookup;constructor<;>simp[run_underlying ht,getObj,Sem.run,h1,Result.andThen,hc,hf,Sem.run_bind,hz]
theorem qnl(w:World)(t kt et:TypeId)(ht:P.underlying t=some (.map kt et))(hk:P.underlying kt=some .string)(r:Nat)(D:List (BA × Value))(hm:qq8 w r D)(k:BA)(v:Value)(hv:qk9 D k=none):
  ∃w',(Instr.mapUpdate t (.map (some r)) (.string k) v).run P w = .ok () w'∧qq8 w' r (D++[(k,v)])∧Below r w w'∧w'.heap.size=w.heap.size:=by
 obtain⟨es,clock,h1,h2⟩:=hm;obtain⟨x,h3,h4⟩:=qgq k es.toList D 0 h2;rw[hv] at h4
 obtain rfl:x=none:=by
  cases x
  ·rfl
  ·cases h4
 have hf:=run_findKey (P:=P) w kt hk k es.toList _ h3;have hc:=fun b=>run_checkKey (P:=P) w kt hk b k;have hs:=MapKept.run_setObj_map (P:=P) (.map (es.push { key := .string k,val:=v,born:=clock }) (clock+1)) h1;refine⟨_,by unfold Instr.mapUpdate;simp[run_underlying ht,getObj,Sem.run,h1,Result.andThen,hc,hf,Sem.run_bind,hs];rfl,⟨es.push { key := .string k,val:=v,born:=clock },clock+1, ?_, ?_⟩, ?_, ?_⟩
 ·exact(MapKept.heap_set h1).1
 ·simp[h2]
 ·exact⟨rfl,rfl,rfl,by simp,fun j hj=>(MapKept.heap_set h1).2 j (by omega)⟩
 ·simp
end
def qpq(f:Nat):Value := .agg #[.func (.func f) #[] #[],.bool false,.slice none 0 0,.slice none 0 0]
def q0q:BA:=⟨#[100,111,119,110]⟩
def kUp:BA:=⟨#[117,112]⟩
def qom:BA:=⟨#[104,97,108,102,45,117,112]⟩
def qiw:BA:=⟨#[104,97,108,102,45,101,118,101,110]⟩
def qdt:List (BA × Value):=[(q0q,qpq 150),(kUp,qpq 151),(qom,qpq 152),(qiw,qpq 153)]
theorem qby(w:World):
  Calls Tryz.prog 94 #[] w fun e w'=>e = .returned (.map (some w.heap.size))∧qq8 w' w.heap.size qdt∧Below w.heap.size w w':=by
 have pU:qq8 (w.alloc (.map #[] 0)) w.heap.size []:=⟨#[],0,(MapKept.heap_alloc w _).1,by simp⟩;have dL:Below w.heap.size w (w.alloc (.map #[] 0)):=zam _ _;obtain⟨w1,r1,m1,b1,_⟩:=qnl (P:=Tryz.prog) _ 144 9 102 Tryz.underlying144 Tryz.underlying9 _ _ pU q0q (qpq 150) rfl;obtain⟨w2,r2,m2,b2,_⟩:=qnl (P:=Tryz.prog) _ 144 9 102 Tryz.underlying144 Tryz.underlying9 _ _ m1 kUp (qpq 151) (by decide);obtain⟨w3,r3,m3,b3,_⟩:=qnl (P:=Tryz.prog) _ 144 9 102 Tryz.underlying144 Tryz.underlying9 _ _ m2 qom (qpq 152) (by decide);obtain⟨w4,r4,m4,b4,_⟩:=qnl (P:=Tryz.prog) _ 144 9 102 Tryz.underlying144 Tryz.underlying9 _ _ m3 qiw (qpq 153) (by decide);have HM:Hid (qq8 w4 w.heap.size qdt):=hid m4;have HB:Hid (Below w.heap.size w w4):=hid (dL.trans (b1.trans (b2.trans (b3.trans b4))));clear pU dL m1 m2 m3 m4 b1 b2 b3 b4;unfold qpq q0q kUp qom qiw at *;have Ex:=@run_makeMap Tryz.prog;go_enter Tryz.func94,Tryz.ntmps94;go_wp2_with fail;go_ret;exact⟨rfl,HM.out,HB.out⟩
def qla(f:Nat)(side:Int)(isOdd:Bool):Bool:=
 if f=150 then false else if f=151 then true else if f=152 then decide (0≤side) else decide (0<side)||(decide (side=0)&&isOdd)
theorem q7c(side:Int)(o:Bool)(w:World):Calls Tryz.prog 150 #[.int .i64 side,.bool o] w fun e w'=>e = .returned (.bool false)∧w'=w:=by
 go_enter Tryz.func150,Tryz.ntmps150;go_wp2_with fail;go_ret;exact⟨rfl,rfl⟩
theorem q7d(side:Int)(o:Bool)(w:World):Calls Tryz.prog 151 #[.int .i64 side,.bool o] w fun e w'=>e = .returned (.bool true)∧w'=w:=by
 go_enter Tryz.func151,Tryz.ntmps151;go_wp2_with fail;go_ret;exact⟨rfl,rfl⟩
theorem q7e(side:Int)(o:Bool)(w:World):Calls Tryz.prog 152 #[.int .i64 side,.bool o] w fun e w'=>e = .returned (.bool (decide (0≤side)))∧w'=w:=by
 go_enter Tryz.func152,Tryz.ntmps152;go_wp2_with fail;go_ret;exact⟨rfl,rfl⟩
theorem q7f(side:Int)(o:Bool)(w:World):Calls Tryz.prog 153 #[.int .i64 side,.bool o] w fun e w'=>e = .returned (.bool (decide (0<side)||(decide (side=0)&&o)))∧w'=w:=by
 rcases Int.lt_trichotomy side 0 with h|h|h
 ·have HE:Hid ((decide (0<side)||(decide (side=0)&&o))=false):=hid (by rw[zar (by omega),zar (by omega)];rfl)
  have b1:(side==0)=false:=zat (by omega);have b2:¬0<side:=by omega
  go_enter Tryz.func153,Tryz.ntmps153;go_wp2_with fail;go_ret;exact⟨qbb HE.out.symm,rfl⟩
 ·subst h
  cases o
  all_goals
   go_enter Tryz.func153,Tryz.ntmps153;go_wp2_with fail;go_ret;exact⟨rfl,rfl⟩
 ·have HE:Hid ((decide (0<side)||(decide (side=0)&&o))=true):=hid (by rw[zas h];rfl)
  go_enter Tryz.func153,Tryz.ntmps153;go_wp2_with fail;go_ret;exact⟨qbb HE.out.symm,rfl⟩
def qdg(k:BA):Option Nat:=
 if k==q0q then some 150 else if k==kUp then some 151 else if k==qom then some 152 else if k==qiw then some 153 else none
theorem qyb(k:BA)(f:Nat)(hf:qdg k=some f)(side:Int)(o:Bool)(w:World):
  Calls Tryz.prog f #[.int .i64 side,.bool o] w fun e w'=>e = .returned (.bool (qla f side o))∧w'=w:=by
 unfold qdg at hf;split at hf
 ·cases hf;exact q7c side o w
 split at hf
 ·cases hf;exact q7d side o w
 split at hf
 ·cases hf;exact q7e side o w
 split at hf
 ·cases hf;exact q7f side o w
 ·cases hf
theorem qhx(k:BA):qk9 qdt k=(qdg k).map qpq:=by
 unfold qk9 qdt qdg;simp only[List.find?_cons,List.find?_nil];cases h1:k==q0q
 ·cases h2:k==kUp
  ·cases h3:k==qom
   ·cases h4:k==qiw
    ·rfl
    ·rfl
   ·rfl
  ·rfl
 ·rfl
end Go.Proofs.YtclimablgihlhaaGreatDoor
