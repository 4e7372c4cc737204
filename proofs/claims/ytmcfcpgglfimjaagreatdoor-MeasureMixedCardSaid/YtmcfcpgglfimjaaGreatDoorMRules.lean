/- Bounds of the sizes of rational numbers. -/
import Derived.Test.YtmcfcpgglfimjaaGreatDoorMCmpQ
import Derived.Test.YtmcfcpgglfimjaaGreatDoorMNumWalk
import Derived.Carry
set_option linter.all false
namespace Go.Proofs.YtmcfcpgglfimjaaGreatDoor
set_option maxRecDepth 100000
set_option maxHeartbeats 1000000
theorem qtq(n:Nat):n<B64^wl n:=qcj B64 n qam
theorem q2f(m n k:Nat)(hm:wl m≤k)(hn:wl n≤k):wl (m+n)≤k+1:=by
 refine qgf ?_;have hB:2≤B64:=qam;have h1:=Nat.lt_of_lt_of_le (qtq m) (Nat.pow_le_pow_right (by omega:0<B64) hm);have h2:=Nat.lt_of_lt_of_le (qtq n) (Nat.pow_le_pow_right (by omega:0<B64) hn);have h3:B64^k*2≤B64^k*B64:=Nat.mul_le_mul_left _ hB;rw[Nat.pow_succ];omega
theorem qlj{n:Nat}(h:n<B64):wl n≤1:=qgf (by simpa using h)
def bd(q:Rat)(m:Nat):Prop:=wl q.num.natAbs≤m∧wl q.den≤m
theorem bd.mono{q:Rat}{m n:Nat}(h:bd q m)(hn:m≤n):bd q n:=⟨Nat.le_trans h.1 hn,Nat.le_trans h.2 hn⟩
theorem bd.rs{q:Rat}{m:Nat}(h:bd q m):rs q≤m+m:=by unfold Go.Proofs.YtmcfcpgglfimjaaGreatDoor.rs;have:=h.1;have:=h.2;omega
theorem qew(z:Int)(h0 : -9223372036854775808≤z)(h1:z≤9223372036854775807):bd (z:Rat) 1:=by
 refine⟨?_, ?_⟩
 ·refine qlj ?_
  rw[qaj];show z.natAbs<_;omega
 ·exact qlj (by rw[qaj];show(1:Nat)<_;omega)
theorem q93(z:Int)(d m:Nat)(hd:d≠0)(hz:wl z.natAbs≤m)(hw:wl d≤m):bd (mkRat z d) m:=by
 refine⟨?_, ?_⟩
 ·rw[Rat.num_mkRat,if_neg hd]
  exact Nat.le_trans (qdo (Int.natAbs_ediv_le_natAbs _ _)) hz
 ·rw[Rat.den_mkRat,if_neg hd]
  exact Nat.le_trans (qdo (Nat.div_le_self _ _)) hw
theorem qe0{a b:Rat}{m n:Nat}(ha:bd a m)(hb:bd b n):bd (a*b) (m+n):=by
 rw[Rat.mul_def,Rat.normalize_eq_mkRat];refine q93 _ _ _ (Nat.ne_of_gt (Nat.mul_pos a.den_pos b.den_pos)) ?_ ?_
 ·rw[Int.natAbs_mul]
  have:=qoj a.num.natAbs b.num.natAbs;have:=ha.1;have:=hb.1;omega
 ·have:=qoj a.den b.den
  have:=ha.2;have:=hb.2;omega
theorem q94{a:Rat}{m:Nat}(ha:bd a m):bd (-a) m:=by
 refine⟨?_, ?_⟩
 ·rw[Rat.neg_num,Int.natAbs_neg];exact ha.1
 ·rw[Rat.neg_den];exact ha.2
theorem qne{a b:Rat}{m n:Nat}(ha:bd a m)(hb:bd b n):bd (a+b) (m+n+1):=by
 rw[Rat.add_def,Rat.normalize_eq_mkRat];refine q93 _ _ _ (Nat.ne_of_gt (Nat.mul_pos a.den_pos b.den_pos)) ?_ ?_
 ·refine Nat.le_trans (qdo (Int.natAbs_add_le _ _)) ?_
  rw[Int.natAbs_mul,Int.natAbs_mul,Int.natAbs_natCast,Int.natAbs_natCast];refine q2f _ _ _ ?_ ?_
  ·have:=qoj a.num.natAbs b.den
   have:=ha.1;have:=hb.2;omega
  ·have:=qoj b.num.natAbs a.den
   have:=ha.2;have:=hb.1;omega
 ·have:=qoj a.den b.den
  have:=ha.2;have:=hb.2;omega
theorem q2g{a b:Rat}{m n:Nat}(ha:bd a m)(hb:bd b n):bd (a-b) (m+n+1):=by
 rw[Rat.sub_eq_add_neg];exact qne ha (q94 hb)
theorem qjb(m:Nat)(h:1≤m):bd 0 m:=
 (qew 0 (by omega) (by omega)).mono h
theorem qnf{a b:Rat}{m n:Nat}(ha:bd a m)(hb:bd b n):bd (a/b) (m+n+1):=by
 rw[Rat.div_def];by_cases h:b.num=0
 ·have eE:b=0:=Rat.num_eq_zero.1 h
  rw[eE,Rat.inv_zero,Rat.mul_zero];exact qjb _ (by omega)
 ·have hi:bd b⁻¹ n:=by
   obtain⟨h1,h2,_⟩:=qle b h;exact⟨by rw[h1];exact hb.2,by rw[h2];exact hb.1⟩
  exact(qe0 ha hi).mono (by omega)
theorem qxi{a:Rat}{m:Nat}(ha:bd a m)(hm:1≤m):bd (a.floor:Rat) (m+1):=by
 refine⟨?_,Nat.le_trans (qlj (by rw[qaj];show(1:Nat)<_;omega)) (by omega)⟩;show wl a.floor.natAbs≤m+1;have h1:wl 1≤m:=Nat.le_trans (qlj (by rw[qaj];omega)) hm;have h2:wl (a.num.natAbs/a.den)≤m:=Nat.le_trans (qdo (Nat.div_le_self _ _)) ha.1;by_cases h:a.num<0
 ·rw[(qom a h).1]
  refine q2f _ _ _ h2 ?_;split
  ·rw[qcx];omega
  ·exact h1
 ·rw[(qol a h).1]
  omega
theorem qin{l:List UInt8}(h:qah l=0):bd (qa9 l) 600:=by
 have ht:qj6 l=l:=by
  unfold qah at h;split at h
  ·cases h
  ·split at h
   ·cases h
   ·split at h
    ·cases h
    ·split at h
     ·assumption
     ·cases h
 have hl:l≠[]:=by
  rintro rfl;exact absurd h (by decide)
 have hf:qbr (qa9 l) 600=true:=by
  unfold qj6 at ht;split at ht
  ·assumption
  ·exact absurd ht.symm hl
 unfold qbr at hf;rw[Bool.and_eq_true,Bool.or_eq_true,decide_eq_true_iff,decide_eq_true_iff,decide_eq_true_iff] at hf;have hten:10≤B64:=by rw[qaj];omega
 have key:∀n,(qav n).length≤600→wl n≤600:=fun n hn=>by
  refine qgf ?_
  have h1:n<10^600:=by
   rcases Nat.lt_or_ge n (10^600) with h|h
   ·exact h
   ·have:=qqh h;omega
  exact Nat.lt_of_lt_of_le h1 (Nat.pow_le_pow_left hten 600)
 refine⟨key _ hf.1, ?_⟩;rcases hf.2 with h1|h1
 ·rw[h1]
  exact Nat.le_trans (qlj (by rw[qaj];omega)) (by omega)
 ·exact key _ h1
end Go.Proofs.YtmcfcpgglfimjaaGreatDoor
namespace Go.Proofs.YtmcfcpgglfimjaaGreatDoor
open Go.RowKit
set_option maxRecDepth 100000
set_option maxHeartbeats 1000000
def qmo(q:Rat)(w:World)(e:Ending)(w':World):Prop:=
 e = .returned (.tuple #[.string (if qbr q 600 then⟨(qa7 q).toArray⟩ else⟨#[]⟩),.int .i64 (if qbr q 600 then 0 else 4)])∧Below w.heap.size w w'
theorem q2h{q:Rat}{w w':World}{e:Ending}(h:qbr q 600=true):qmo q w e w'↔e = .returned (.tuple #[.string ⟨(qa7 q).toArray⟩,.int .i64 0])∧Below w.heap.size w w':=by
 unfold qmo;rw[h];rfl
theorem q5s{q:Rat}{w w':World}{e:Ending}(h:qbr q 600=false):qmo q w e w'↔e = .returned (.tuple #[.string ⟨#[]⟩,.int .i64 4])∧Below w.heap.size w w':=by
 unfold qmo;rw[h];rfl
theorem qjc(va:Value)(a:Rat)(w:World)(ha:qaw w va a)(hc:rs a≤Cap):
  Calls Tryz.prog 42 #[va] w (qmo a w):=by
 have HV:=hid ha;obtain⟨aH,aI,aJ,aM,aL,aN,rfl,dM,eO⟩:=ha.parts;have iV:=hid (fun(W:World) (hb:Below w.heap.size w W)=>qxc (ha.later hb) hc);have aO:=hid (qhe w (decide (a.num<0)) (.slice aH aI aJ) (.slice aM aL aN));clear ha dM eO hc;generalize decide (a.num<0)=na at *;cases h:qbr a 600
 ·have HF:=hid (fun(e:Ending) (w':World)=>(q5s (q:=a) (w:=w) (w':=w') (e:=e) h).2)
  rw[h] at iV;have pQ:Hid (∀W,Below w.heap.size w W→Calls Tryz.prog 86 #[.agg #[.bool na,.slice aH aI aJ,.slice aM aL aN],.int .i64 600] W fun e w'=>e = .returned (.tuple #[.string ⟨#[]⟩,.bool false])∧Below W.heap.size W w'):=iV;clear iV h;go_enter Tryz.func42,Tryz.ntmps42;go_wp2_with fail;refine(pQ.out _ aO.out.1).mono ?_;rintro e w1 ⟨rfl,hb⟩;have HB:Hid (Below w.heap.size w w1):=hid (aO.out.1.trans (hb.mono aO.out.1.size));clear hb pQ aO;go_wp2_with fail;go_ret2;exact HF.out _ _ ⟨rfl,HB.out⟩
 ·have HF:=hid (fun(e:Ending) (w':World)=>(q2h (q:=a) (w:=w) (w':=w') (e:=e) h).2)
  rw[h] at iV;have pQ:Hid (∀W,Below w.heap.size w W→Calls Tryz.prog 86 #[.agg #[.bool na,.slice aH aI aJ,.slice aM aL aN],.int .i64 600] W fun e w'=>e = .returned (.tuple #[.string ⟨(qa7 a).toArray⟩,.bool true])∧Below W.heap.size W w'):=iV;clear iV h;go_enter Tryz.func42,Tryz.ntmps42;go_wp2_with fail;refine(pQ.out _ aO.out.1).mono ?_;rintro e w1 ⟨rfl,hb⟩;have HB:Hid (Below w.heap.size w w1):=hid (aO.out.1.trans (hb.mono aO.out.1.size));clear hb pQ aO;go_wp2_with fail;go_ret2;exact HF.out _ _ ⟨rfl,HB.out⟩
def qru(w:World)(r:Nat)(D:List (BA × Value)):Prop:=
 ∃es clock,w.heap[r]? = some (.map es clock)∧es.toList.map (fun e=>(e.key,e.val))=D.map (fun p=>(Value.string p.1,p.2))
theorem qru.later{w w':World}{r:Nat}{D:List (BA × Value)}(h:qru w r D)(hb:Below w.heap.size w w'):qru w' r D:=by
 obtain⟨es,clock,h1,h2⟩:=h
 have hr:r<w.heap.size:=by
  rcases Nat.lt_or_ge r w.heap.size with h|h
  ·exact h
  ·rw[Array.getElem?_eq_none h] at h1;cases h1
 exact⟨es,clock,by rw[hb.block r hr];exact h1,h2⟩
def qlk(D:List (BA × Value))(k:BA):Option Value:=(D.find? (fun p=>k==p.1)).map (·.2)
theorem qgy(k:BA):∀(es:List MapEntry) (D:List (BA × Value)) (i:Nat),es.map (fun e=>(e.key,e.val))=D.map (fun p=>(Value.string p.1,p.2))→
  ∃r,Instr.findNow .string (.string k) es i=some r∧r.map (·.2)=qlk D k
 | [],[],i,_=>⟨none,rfl,rfl⟩
 | [],_::_,_,h=>by cases h
 | _::_,[],_,h=>by cases h
 | e::es,p::D,i,h=>by
  simp only[List.map_cons,List.cons.injEq,Prod.mk.injEq] at h;obtain⟨⟨h1,h2⟩,h3⟩:=h;unfold Instr.findNow;rw[h1];simp only[Instr.sameNow];by_cases hk:(k==p.1)=true
  ·rw[hk]
   refine⟨some (i,e.val),rfl, ?_⟩;unfold qlk;rw[List.find?_cons,hk];simp[h2]
  ·have hk':(k==p.1)=false:=by simpa using hk
   rw[hk'];obtain⟨r,h4,h5⟩:=qgy k es D (i+1) h3;refine⟨r,h4, ?_⟩;rw[h5];unfold qlk;rw[List.find?_cons,hk']
section
variable {P:Program}
theorem run_findKey(w:World)(kt:TypeId)(hk:P.underlying kt=some .string)(k:BA)(es:List MapEntry)(r:Option (Nat × Value))(h:Instr.findNow .string (.string k) es 0=some r):
  (Instr.findKey kt (.string k) es).run P w = .ok r w:=by
 unfold Instr.findKey;simp[run_underlying hk,Result.andThen,h,Sem.run_pure]
theorem run_checkKey(w:World)(kt:TypeId)(hk:P.underlying kt=some .string)(b:Bool)(k:BA):(Instr.checkKey b 10000 kt (.string k)).run P w = .ok () w:=by
 unfold Instr.checkKey;simp[run_underlying hk,Result.andThen,Sem.run_pure]
theorem qcs(w:World)(t kt et:TypeId)(ht:P.underlying t=some (.map kt et))(hk:P.underlying kt=some .string)(r:Nat)(D:List (BA × Value))(hm:qru w r D)(k:BA)(v:Value)(hv:qlk D k=some v):
  (Instr.lookup t (.map (some r)) (.string k) true).run P w = .ok (.tuple #[v,.bool true]) w∧(Instr.lookup t (.map (some r)) (.string k) false).run P w = .ok v w:=by
 obtain⟨es,clock,h1,h2⟩:=hm;obtain⟨x,h3,h4⟩:=qgy k es.toList D 0 h2;rw[hv] at h4
 obtain⟨⟨i,u⟩,rfl,rfl⟩:∃y,x=some y∧y.2=v:=by
  cases x
  ·cases h4
  ·rename_i y;exact⟨y,rfl,by simpa using h4⟩
 have hf:=run_findKey (P:=P) w kt hk k es.toList _ h3;have hc:=fun b=>run_checkKey (P:=P) w kt hk b k;unfold Instr.lookup;constructor<;>simp[run_underlying ht,getObj,Sem.run,h1,Result.andThen,hc,hf,Sem.run_pure,Sem.run_bind]
theorem qeb(w:World)(t kt et:TypeId)(ht:P.underlying t=some (.map kt et))(hk:P.underlying kt=some .string)(r:Nat)(D:List (BA × Value))(hm:qru w r D)(k:BA)(z:Value)(hz:(zeroValue et).run P w = .ok z w)(hv:qlk D k=none):
  (Instr.lookup t (.map (some r)) (.string k) true).run P w = .ok (.tuple #[z,.bool false]) w∧(Instr.lookup t (.map (some r)) (.string k) false).run P w = .ok z w:=by
 obtain⟨es,clock,h1,h2⟩:=hm;obtain⟨x,h3,h4⟩:=qgy k es.toList D 0 h2;rw[hv] at h4
 obtain rfl:x=none:=by
  cases x
  ·rfl
  ·cases h4
 have hf:=run_findKey (P:=P) w kt hk k es.toList _ h3;have hc:=fun b=>run_checkKey (P:=P) w kt hk b k;unfold Instr.lookup;constructor<;>simp[run_underlying ht,getObj,Sem.run,h1,Result.andThen,hc,hf,Sem.run_bind,hz]
theorem qnz(w:World)(t kt et:TypeId)(ht:P.underlying t=some (.map kt et))(hk:P.underlying kt=some .string)(r:Nat)(D:List (BA × Value))(hm:qru w r D)(k:BA)(v:Value)(hv:qlk D k=none):
  ∃w',(Instr.mapUpdate t (.map (some r)) (.string k) v).run P w = .ok () w'∧qru w' r (D++[(k,v)])∧Below r w w'∧w'.heap.size=w.heap.size:=by
 obtain⟨es,clock,h1,h2⟩:=hm;obtain⟨x,h3,h4⟩:=qgy k es.toList D 0 h2;rw[hv] at h4
 obtain rfl:x=none:=by
  cases x
  ·rfl
  ·cases h4
 have hf:=run_findKey (P:=P) w kt hk k es.toList _ h3;have hc:=fun b=>run_checkKey (P:=P) w kt hk b k;have hs:=MapKept.run_setObj_map (P:=P) (.map (es.push { key := .string k,val:=v,born:=clock }) (clock+1)) h1;refine⟨_,by unfold Instr.mapUpdate;simp[run_underlying ht,getObj,Sem.run,h1,Result.andThen,hc,hf,Sem.run_bind,hs];rfl,⟨es.push { key := .string k,val:=v,born:=clock },clock+1, ?_, ?_⟩, ?_, ?_⟩
 ·exact(MapKept.heap_set h1).1
 ·simp[h2]
 ·exact⟨rfl,rfl,rfl,by simp,fun j hj=>(MapKept.heap_set h1).2 j (by omega)⟩
 ·simp
end
def qp6(f:Nat):Value := .agg #[.func (.func f) #[] #[],.bool false,.slice none 0 0,.slice none 0 0]
def q2i:BA:=⟨#[100,111,119,110]⟩
def kUp:BA:=⟨#[117,112]⟩
def qo1:BA:=⟨#[104,97,108,102,45,117,112]⟩
def qjd:BA:=⟨#[104,97,108,102,45,101,118,101,110]⟩
def qd1:List (BA × Value):=[(q2i,qp6 137),(kUp,qp6 138),(qo1,qp6 139),(qjd,qp6 140)]
theorem qca(w:World):
  Calls Tryz.prog 88 #[] w fun e w'=>e = .returned (.map (some w.heap.size))∧qru w' w.heap.size qd1∧Below w.heap.size w w':=by
 have mC:qru (w.alloc (.map #[] 0)) w.heap.size []:=⟨#[],0,(MapKept.heap_alloc w _).1,by simp⟩;have eE:Below w.heap.size w (w.alloc (.map #[] 0)):=qad _ _;obtain⟨w1,r1,m1,b1,_⟩:=qnz (P:=Tryz.prog) _ 144 9 93 Tryz.underlying144 Tryz.underlying9 _ _ mC q2i (qp6 137) rfl;obtain⟨w2,r2,m2,b2,_⟩:=qnz (P:=Tryz.prog) _ 144 9 93 Tryz.underlying144 Tryz.underlying9 _ _ m1 kUp (qp6 138) (by decide);obtain⟨w3,r3,m3,b3,_⟩:=qnz (P:=Tryz.prog) _ 144 9 93 Tryz.underlying144 Tryz.underlying9 _ _ m2 qo1 (qp6 139) (by decide);obtain⟨w4,r4,m4,b4,_⟩:=qnz (P:=Tryz.prog) _ 144 9 93 Tryz.underlying144 Tryz.underlying9 _ _ m3 qjd (qp6 140) (by decide);have HM:Hid (qru w4 w.heap.size qd1):=hid m4;have HB:Hid (Below w.heap.size w w4):=hid (eE.trans (b1.trans (b2.trans (b3.trans b4))));clear mC eE m1 m2 m3 m4 b1 b2 b3 b4;unfold qp6 q2i kUp qo1 qjd at *;have hmm:=@run_makeMap Tryz.prog;go_enter Tryz.func88,Tryz.ntmps88;go_wp2_with fail;go_ret;exact⟨rfl,HM.out,HB.out⟩
def qll(f:Nat)(side:Int)(isOdd:Bool):Bool:=
 if f=137 then false else if f=138 then true else if f=139 then decide (0≤side) else decide (0<side)||(decide (side=0)&&isOdd)
theorem q8b(side:Int)(o:Bool)(w:World):Calls Tryz.prog 137 #[.int .i64 side,.bool o] w fun e w'=>e = .returned (.bool false)∧w'=w:=by
 go_enter Tryz.func137,Tryz.ntmps137;go_wp2_with fail;go_ret;exact⟨rfl,rfl⟩
theorem q8c(side:Int)(o:Bool)(w:World):Calls Tryz.prog 138 #[.int .i64 side,.bool o] w fun e w'=>e = .returned (.bool true)∧w'=w:=by
 go_enter Tryz.func138,Tryz.ntmps138;go_wp2_with fail;go_ret;exact⟨rfl,rfl⟩
theorem q8d(side:Int)(o:Bool)(w:World):Calls Tryz.prog 139 #[.int .i64 side,.bool o] w fun e w'=>e = .returned (.bool (decide (0≤side)))∧w'=w:=by
 go_enter Tryz.func139,Tryz.ntmps139;go_wp2_with fail;go_ret;exact⟨rfl,rfl⟩
theorem q8e(side:Int)(o:Bool)(w:World):Calls Tryz.prog 140 #[.int .i64 side,.bool o] w fun e w'=>e = .returned (.bool (decide (0<side)||(decide (side=0)&&o)))∧w'=w:=by
 rcases Int.lt_trichotomy side 0 with h|h|h
 ·have HE:Hid ((decide (0<side)||(decide (side=0)&&o))=false):=hid (by rw[qae (by omega),qae (by omega)];rfl)
  have b1:(side==0)=false:=qan (by omega);have b2:¬0<side:=by omega
  go_enter Tryz.func140,Tryz.ntmps140;go_wp2_with fail;go_ret;exact⟨qa8 HE.out.symm,rfl⟩
 ·subst h
  cases o
  all_goals
   go_enter Tryz.func140,Tryz.ntmps140;go_wp2_with fail;go_ret;exact⟨rfl,rfl⟩
 ·have HE:Hid ((decide (0<side)||(decide (side=0)&&o))=true):=hid (by rw[qag h];rfl)
  go_enter Tryz.func140,Tryz.ntmps140;go_wp2_with fail;go_ret;exact⟨qa8 HE.out.symm,rfl⟩
def qdq(k:BA):Option Nat:=
 if k==q2i then some 137 else if k==kUp then some 138 else if k==qo1 then some 139 else if k==qjd then some 140 else none
theorem qzi(k:BA)(f:Nat)(hf:qdq k=some f)(side:Int)(o:Bool)(w:World):
  Calls Tryz.prog f #[.int .i64 side,.bool o] w fun e w'=>e = .returned (.bool (qll f side o))∧w'=w:=by
 unfold qdq at hf;split at hf
 ·cases hf;exact q8b side o w
 split at hf
 ·cases hf;exact q8c side o w
 split at hf
 ·cases hf;exact q8d side o w
 split at hf
 ·cases hf;exact q8e side o w
 ·cases hf
theorem qh7(k:BA):qlk qd1 k=(qdq k).map qp6:=by
 unfold qlk qd1 qdq;simp only[List.find?_cons,List.find?_nil];cases h1:k==q2i
 ·cases h2:k==kUp
  ·cases h3:k==qo1
   ·cases h4:k==qjd
    ·rfl
    ·rfl
   ·rfl
  ·rfl
 ·rfl
end Go.Proofs.YtmcfcpgglfimjaaGreatDoor
