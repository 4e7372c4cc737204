/- Bounds of the sizes of rational numbers. -/
import Derived.Test.YtlkdlffhmakbgaaGreatDoorMCmpQ
import Derived.Test.YtlkdlffhmakbgaaGreatDoorMNumWalk
import Derived.Carry
set_option linter.all false
namespace Go.Proofs.YtlkdlffhmakbgaaGreatDoor
set_option maxRecDepth 100000
set_option maxHeartbeats 1000000
theorem qtd(n:Nat):n<B64^wl n:=qch B64 n qal
theorem q1h(m n k:Nat)(hm:wl m≤k)(hn:wl n≤k):wl (m+n)≤k+1:=by
 refine qgd ?_;have hB:2≤B64:=qal;have h1:=Nat.lt_of_lt_of_le (qtd m) (Nat.pow_le_pow_right (by omega:0<B64) hm);have h2:=Nat.lt_of_lt_of_le (qtd n) (Nat.pow_le_pow_right (by omega:0<B64) hn);have h3:B64^k*2≤B64^k*B64:=Nat.mul_le_mul_left _ hB;rw[Nat.pow_succ];omega
theorem qlh{n:Nat}(h:n<B64):wl n≤1:=qgd (by simpa using h)
def bd(q:Rat)(m:Nat):Prop:=wl q.num.natAbs≤m∧wl q.den≤m
theorem bd.mono{q:Rat}{m n:Nat}(h:bd q m)(hn:m≤n):bd q n:=⟨Nat.le_trans h.1 hn,Nat.le_trans h.2 hn⟩
theorem bd.rs{q:Rat}{m:Nat}(h:bd q m):rs q≤m+m:=by unfold Go.Proofs.YtlkdlffhmakbgaaGreatDoor.rs;have:=h.1;have:=h.2;omega
theorem qe2(z:Int)(h0 : -9223372036854775808≤z)(h1:z≤9223372036854775807):bd (z:Rat) 1:=by
 refine⟨?_, ?_⟩
 ·refine qlh ?_
  rw[qai];show z.natAbs<_;omega
 ·exact qlh (by rw[qai];show(1:Nat)<_;omega)
theorem q9k(z:Int)(d m:Nat)(hd:d≠0)(hz:wl z.natAbs≤m)(hw:wl d≤m):bd (mkRat z d) m:=by
 refine⟨?_, ?_⟩
 ·rw[Rat.num_mkRat,if_neg hd]
  exact Nat.le_trans (qdp (Int.natAbs_ediv_le_natAbs _ _)) hz
 ·rw[Rat.den_mkRat,if_neg hd]
  exact Nat.le_trans (qdp (Nat.div_le_self _ _)) hw
theorem qe3{a b:Rat}{m n:Nat}(ha:bd a m)(hb:bd b n):bd (a*b) (m+n):=by
 rw[Rat.mul_def,Rat.normalize_eq_mkRat];refine q9k _ _ _ (Nat.ne_of_gt (Nat.mul_pos a.den_pos b.den_pos)) ?_ ?_
 ·rw[Int.natAbs_mul]
  have:=qoo a.num.natAbs b.num.natAbs;have:=ha.1;have:=hb.1;omega
 ·have:=qoo a.den b.den
  have:=ha.2;have:=hb.2;omega
theorem q9l{a:Rat}{m:Nat}(ha:bd a m):bd (-a) m:=by
 refine⟨?_, ?_⟩
 ·rw[Rat.neg_num,Int.natAbs_neg];exact ha.1
 ·rw[Rat.neg_den];exact ha.2
theorem qnb{a b:Rat}{m n:Nat}(ha:bd a m)(hb:bd b n):bd (a+b) (m+n+1):=by
 rw[Rat.add_def,Rat.normalize_eq_mkRat];refine q9k _ _ _ (Nat.ne_of_gt (Nat.mul_pos a.den_pos b.den_pos)) ?_ ?_
 ·refine Nat.le_trans (qdp (Int.natAbs_add_le _ _)) ?_
  rw[Int.natAbs_mul,Int.natAbs_mul,Int.natAbs_natCast,Int.natAbs_natCast];refine q1h _ _ _ ?_ ?_
  ·have:=qoo a.num.natAbs b.den
   have:=ha.1;have:=hb.2;omega
  ·have:=qoo b.num.natAbs a.den
   have:=ha.2;have:=hb.1;omega
 ·have:=qoo a.den b.den
  have:=ha.2;have:=hb.2;omega
theorem q1i{a b:Rat}{m n:Nat}(ha:bd a m)(hb:bd b n):bd (a-b) (m+n+1):=by
 rw[Rat.sub_eq_add_neg];exact qnb ha (q9l hb)
theorem qi5(m:Nat)(h:1≤m):bd 0 m:=
 (qe2 0 (by omega) (by omega)).mono h
theorem qnc{a b:Rat}{m n:Nat}(ha:bd a m)(hb:bd b n):bd (a/b) (m+n+1):=by
 rw[Rat.div_def];by_cases h:b.num=0
 ·have dS:b=0:=Rat.num_eq_zero.1 h
  rw[dS,Rat.inv_zero,Rat.mul_zero];exact qi5 _ (by omega)
 ·have hi:bd b⁻¹ n:=by
   obtain⟨h1,h2,_⟩:=qld b h;exact⟨by rw[h1];exact hb.2,by rw[h2];exact hb.1⟩
  exact(qe3 ha hi).mono (by omega)
theorem qxa{a:Rat}{m:Nat}(ha:bd a m)(hm:1≤m):bd (a.floor:Rat) (m+1):=by
 refine⟨?_,Nat.le_trans (qlh (by rw[qai];show(1:Nat)<_;omega)) (by omega)⟩;show wl a.floor.natAbs≤m+1;have h1:wl 1≤m:=Nat.le_trans (qlh (by rw[qai];omega)) hm;have h2:wl (a.num.natAbs/a.den)≤m:=Nat.le_trans (qdp (Nat.div_le_self _ _)) ha.1;by_cases h:a.num<0
 ·rw[(qor a h).1]
  refine q1h _ _ _ h2 ?_;split
  ·rw[qcw];omega
  ·exact h1
 ·rw[(qoq a h).1]
  omega
theorem qim{l:List UInt8}(h:qah l=0):bd (qbc l) 600:=by
 have ht:qlg l=l:=by
  unfold qah at h;split at h
  ·cases h
  ·split at h
   ·cases h
   ·split at h
    ·cases h
    ·split at h
     ·assumption
     ·cases h
 have hl:l≠[]:=by
  rintro rfl;exact absurd h (by decide)
 have hf:qby (qbc l) 600=true:=by
  unfold qlg at ht;split at ht
  ·assumption
  ·exact absurd ht.symm hl
 unfold qby at hf;rw[Bool.and_eq_true,Bool.or_eq_true,decide_eq_true_iff,decide_eq_true_iff,decide_eq_true_iff] at hf;have hten:10≤B64:=by rw[qai];omega
 have key:∀n,(qax n).length≤600→wl n≤600:=fun n hn=>by
  refine qgd ?_
  have h1:n<10^600:=by
   rcases Nat.lt_or_ge n (10^600) with h|h
   ·exact h
   ·have:=qqn h;omega
  exact Nat.lt_of_lt_of_le h1 (Nat.pow_le_pow_left hten 600)
 refine⟨key _ hf.1, ?_⟩;rcases hf.2 with h1|h1
 ·rw[h1]
  exact Nat.le_trans (qlh (by rw[qai];omega)) (by omega)
 ·exact key _ h1
end Go.Proofs.YtlkdlffhmakbgaaGreatDoor
namespace Go.Proofs.YtlkdlffhmakbgaaGreatDoor
open Go.RowKit
set_option maxRecDepth 100000
set_option maxHeartbeats 1000000
def qmq(q:Rat)(w:World)(e:Ending)(w':World):Prop:=
 e = .returned (.tuple #[.string (if qby q 600 then⟨(qa2 q).toArray⟩ else⟨#[]⟩),.int .i64 (if qby q 600 then 0 else 4)])∧Below w.heap.size w w'
theorem q1j{q:Rat}{w w':World}{e:Ending}(h:qby q 600=true):qmq q w e w'↔e = .returned (.tuple #[.string ⟨(qa2 q).toArray⟩,.int .i64 0])∧Below w.heap.size w w':=by
 unfold qmq;rw[h];rfl
theorem q49{q:Rat}{w w':World}{e:Ending}(h:qby q 600=false):qmq q w e w'↔e = .returned (.tuple #[.string ⟨#[]⟩,.int .i64 4])∧Below w.heap.size w w':=by
 unfold qmq;rw[h];rfl
theorem qi6(va:Value)(a:Rat)(w:World)(ha:qau w va a)(hc:rs a≤Cap):
  Calls Tryz.prog 44 #[va] w (qmq a w):=by
 have HV:=hid ha;obtain⟨aH,aI,aJ,aN,aL,aO,rfl,dQ,eR⟩:=ha.parts;have iI:=hid (fun(W:World) (hb:Below w.heap.size w W)=>qw9 (ha.later hb) hc);have aM:=hid (qha w (decide (a.num<0)) (.slice aH aI aJ) (.slice aN aL aO));clear ha dQ eR hc;generalize decide (a.num<0)=na at *;cases h:qby a 600
 ·have HF:=hid (fun(e:Ending) (w':World)=>(q49 (q:=a) (w:=w) (w':=w') (e:=e) h).2)
  rw[h] at iI;have qM:Hid (∀W,Below w.heap.size w W→Calls Tryz.prog 95 #[.agg #[.bool na,.slice aH aI aJ,.slice aN aL aO],.int .i64 600] W fun e w'=>e = .returned (.tuple #[.string ⟨#[]⟩,.bool false])∧Below W.heap.size W w'):=iI;clear iI h;go_enter Tryz.func44,Tryz.ntmps44;go_wp2_with fail;refine(qM.out _ aM.out.1).mono ?_;rintro e w1 ⟨rfl,hb⟩;have HB:Hid (Below w.heap.size w w1):=hid (aM.out.1.trans (hb.mono aM.out.1.size));clear hb qM aM;go_wp2_with fail;go_ret2;exact HF.out _ _ ⟨rfl,HB.out⟩
 ·have HF:=hid (fun(e:Ending) (w':World)=>(q1j (q:=a) (w:=w) (w':=w') (e:=e) h).2)
  rw[h] at iI;have qM:Hid (∀W,Below w.heap.size w W→Calls Tryz.prog 95 #[.agg #[.bool na,.slice aH aI aJ,.slice aN aL aO],.int .i64 600] W fun e w'=>e = .returned (.tuple #[.string ⟨(qa2 a).toArray⟩,.bool true])∧Below W.heap.size W w'):=iI;clear iI h;go_enter Tryz.func44,Tryz.ntmps44;go_wp2_with fail;refine(qM.out _ aM.out.1).mono ?_;rintro e w1 ⟨rfl,hb⟩;have HB:Hid (Below w.heap.size w w1):=hid (aM.out.1.trans (hb.mono aM.out.1.size));clear hb qM aM;go_wp2_with fail;go_ret2;exact HF.out _ _ ⟨rfl,HB.out⟩
def qrm(w:World)(r:Nat)(D:List (BA × Value)):Prop:=
 ∃es clock,w.heap[r]? = some (.map es clock)∧es.toList.map (fun e=>(e.key,e.val))=D.map (fun p=>(Value.string p.1,p.2))
theorem qrm.later{w w':World}{r:Nat}{D:List (BA × Value)}(h:qrm w r D)(hb:Below w.heap.size w w'):qrm w' r D:=by
 obtain⟨es,clock,h1,h2⟩:=h
 have hr:r<w.heap.size:=by
  rcases Nat.lt_or_ge r w.heap.size with h|h
  ·exact h
  ·rw[Array.getElem?_eq_none h] at h1;cases h1
 exact⟨es,clock,by rw[hb.block r hr];exact h1,h2⟩
def qli(D:List (BA × Value))(k:BA):Option Value:=(D.find? (fun p=>k==p.1)).map (·.2)
theorem qgr(k:BA):∀(es:List MapEntry) (D:List (BA × Value)) (i:Nat),es.map (fun e=>(e.key,e.val))=D.map (fun p=>(Value.string p.1,p.2))→
  ∃r,Instr.findNow .string (.string k) es i=some r∧r.map (·.2)=qli D k
 | [],[],i,_=>⟨none,rfl,rfl⟩
 | [],_::_,_,h=>by cases h
 | _::_,[],_,h=>by cases h
 | e::es,p::D,i,h=>by
  simp only[List.map_cons,List.cons.injEq,Prod.mk.injEq] at h;obtain⟨⟨h1,h2⟩,h3⟩:=h;unfold Instr.findNow;rw[h1];simp only[Instr.sameNow];by_cases hk:(k==p.1)=true
  ·rw[hk]
   refine⟨some (i,e.val),rfl, ?_⟩;unfold qli;rw[List.find?_cons,hk];simp[h2]
  ·have hk':(k==p.1)=false:=by simpa using hk
   rw[hk'];obtain⟨r,h4,h5⟩:=qgr k es D (i+1) h3;refine⟨r,h4, ?_⟩;rw[h5];unfold qli;rw[List.find?_cons,hk']
section
variable {P:Program}
theorem run_findKey(w:World)(kt:TypeId)(hk:P.underlying kt=some .string)(k:BA)(es:List MapEntry)(r:Option (Nat × Value))(h:Instr.findNow .string (.string k) es 0=some r):
  (Instr.findKey kt (.string k) es).run P w = .ok r w:=by
 unfold Instr.findKey;simp[run_underlying hk,Result.andThen,h,Sem.run_pure]
theorem run_checkKey(w:World)(kt:TypeId)(hk:P.underlying kt=some .string)(b:Bool)(k:BA):(Instr.checkKey b 10000 kt (.string k)).run P w = .ok () w:=by
 unfold Instr.checkKey;simp[run_underlying hk,Result.andThen,Sem.run_pure]
theorem qct(w:World)(t kt et:TypeId)(ht:P.underlying t=some (.map kt et))(hk:P.underlying kt=some .string)(r:Nat)(D:List (BA × Value))(hm:qrm w r D)(k:BA)(v:Value)(hv:qli D k=some v):
  (Instr.lookup t (.map (some r)) (.string k) true).run P w = .ok (.tuple #[v,.bool true]) w∧(Instr.lookup t (.map (some r)) (.string k) false).run P w = .ok v w:=by
 obtain⟨es,clock,h1,h2⟩:=hm;obtain⟨x,h3,h4⟩:=qgr k es.toList D 0 h2;rw[hv] at h4
 obtain⟨⟨i,u⟩,rfl,rfl⟩:∃y,x=some y∧y.2=v:=by
  cases x
  ·cases h4
  ·rename_i y;exact⟨y,rfl,by simpa using h4⟩
 have hf:=run_findKey (P:=P) w kt hk k es.toList _ h3;have hc:=fun b=>run_checkKey (P:=P) w kt hk b k;unfold Instr.lookup;constructor<;>simp[run_underlying ht,getObj,Sem.run,h1,Result.andThen,hc,hf,Sem.run_pure,Sem.run_bind]
theorem qeg(w:World)(t kt et:TypeId)(ht:P.underlying t=some (.map kt et))(hk:P.underlying kt=some .string)(r:Nat)(D:List (BA × Value))(hm:qrm w r D)(k:BA)(z:Value)(hz:(zeroValue et).run P w = .ok z w)(hv:qli D k=none):
  (Instr.lookup t (.map (some r)) (.string k) true).run P w = .ok (.tuple #[z,.bool false]) w∧(Instr.lookup t (.map (some r)) (.string k) false).run P w = .ok z w:=by
 obtain⟨es,clock,h1,h2⟩:=hm;obtain⟨x,h3,h4⟩:=qgr k es.toList D 0 h2;rw[hv] at h4
 obtain rfl:x=none:=by
  cases x
  ·rfl
  ·cases h4
 have hf:=run_findKey (P:=P) w kt hk k es.toList _ h3;have hc:=fun b=>run_checkKey (P:=P) w kt hk b k;unfold Instr.lookup;constructor<;>simp[run_underlying ht,getObj,Sem.run,h1,Result.andThen,hc,hf,Sem.run_bind,hz]
theorem qn0(w:World)(t kt et:TypeId)(ht:P.underlying t=some (.map kt et))(hk:P.underlying kt=some .string)(r:Nat)(D:List (BA × Value))(hm:qrm w r D)(k:BA)(v:Value)(hv:qli D k=none):
  ∃w',(Instr.mapUpdate t (.map (some r)) (.string k) v).run P w = .ok () w'∧qrm w' r (D++[(k,v)])∧Below r w w'∧w'.heap.size=w.heap.size:=by
 obtain⟨es,clock,h1,h2⟩:=hm;obtain⟨x,h3,h4⟩:=qgr k es.toList D 0 h2;rw[hv] at h4
 obtain rfl:x=none:=by
  cases x
  ·rfl
  ·cases h4
 have hf:=run_findKey (P:=P) w kt hk k es.toList _ h3;have hc:=fun b=>run_checkKey (P:=P) w kt hk b k;have hs:=MapKept.run_setObj_map (P:=P) (.map (es.push { key := .string k,val:=v,born:=clock }) (clock+1)) h1;refine⟨_,by unfold Instr.mapUpdate;simp[run_underlying ht,getObj,Sem.run,h1,Result.andThen,hc,hf,Sem.run_bind,hs];rfl,⟨es.push { key := .string k,val:=v,born:=clock },clock+1, ?_, ?_⟩, ?_, ?_⟩
 ·exact(MapKept.heap_set h1).1
 ·simp[h2]
 ·exact⟨rfl,rfl,rfl,by simp,fun j hj=>(MapKept.heap_set h1).2 j (by omega)⟩
 ·simp
end
def qp3(f:Nat):Value := .agg #[.func (.func f) #[] #[],.bool false,.slice none 0 0,.slice none 0 0]
def q1k:BA:=⟨#[100,111,119,110]⟩
def kUp:BA:=⟨#[117,112]⟩
def qoy:BA:=⟨#[104,97,108,102,45,117,112]⟩
def qi7:BA:=⟨#[104,97,108,102,45,101,118,101,110]⟩
def qd2:List (BA × Value):=[(q1k,qp3 145),(kUp,qp3 146),(qoy,qp3 147),(qi7,qp3 148)]
theorem qb9(w:World):
  Calls Tryz.prog 97 #[] w fun e w'=>e = .returned (.map (some w.heap.size))∧qrm w' w.heap.size qd2∧Below w.heap.size w w':=by
 have mT:qrm (w.alloc (.map #[] 0)) w.heap.size []:=⟨#[],0,(MapKept.heap_alloc w _).1,by simp⟩;have dS:Below w.heap.size w (w.alloc (.map #[] 0)):=qad _ _;obtain⟨w1,r1,m1,b1,_⟩:=qn0 (P:=Tryz.prog) _ 149 9 95 Tryz.underlying149 Tryz.underlying9 _ _ mT q1k (qp3 145) rfl;obtain⟨w2,r2,m2,b2,_⟩:=qn0 (P:=Tryz.prog) _ 149 9 95 Tryz.underlying149 Tryz.underlying9 _ _ m1 kUp (qp3 146) (by decide);obtain⟨w3,r3,m3,b3,_⟩:=qn0 (P:=Tryz.prog) _ 149 9 95 Tryz.underlying149 Tryz.underlying9 _ _ m2 qoy (qp3 147) (by decide);obtain⟨w4,r4,m4,b4,_⟩:=qn0 (P:=Tryz.prog) _ 149 9 95 Tryz.underlying149 Tryz.underlying9 _ _ m3 qi7 (qp3 148) (by decide);have HM:Hid (qrm w4 w.heap.size qd2):=hid m4;have HB:Hid (Below w.heap.size w w4):=hid (dS.trans (b1.trans (b2.trans (b3.trans b4))));clear mT dS m1 m2 m3 m4 b1 b2 b3 b4;unfold qp3 q1k kUp qoy qi7 at *;have hmm:=@run_makeMap Tryz.prog;go_enter Tryz.func97,Tryz.ntmps97;go_wp2_with fail;go_ret;exact⟨rfl,HM.out,HB.out⟩
def qlj(f:Nat)(side:Int)(isOdd:Bool):Bool:=
 if f=145 then false else if f=146 then true else if f=147 then decide (0≤side) else decide (0<side)||(decide (side=0)&&isOdd)
theorem q7l(side:Int)(o:Bool)(w:World):Calls Tryz.prog 145 #[.int .i64 side,.bool o] w fun e w'=>e = .returned (.bool false)∧w'=w:=by
 go_enter Tryz.func145,Tryz.ntmps145;go_wp2_with fail;go_ret;exact⟨rfl,rfl⟩
theorem q7m(side:Int)(o:Bool)(w:World):Calls Tryz.prog 146 #[.int .i64 side,.bool o] w fun e w'=>e = .returned (.bool true)∧w'=w:=by
 go_enter Tryz.func146,Tryz.ntmps146;go_wp2_with fail;go_ret;exact⟨rfl,rfl⟩
theorem q7n(side:Int)(o:Bool)(w:World):Calls Tryz.prog 147 #[.int .i64 side,.bool o] w fun e w'=>e = .returned (.bool (decide (0≤side)))∧w'=w:=by
 go_enter Tryz.func147,Tryz.ntmps147;go_wp2_with fail;go_ret;exact⟨rfl,rfl⟩
theorem q7o(side:Int)(o:Bool)(w:World):Calls Tryz.prog 148 #[.int .i64 side,.bool o] w fun e w'=>e = .returned (.bool (decide (0<side)||(decide (side=0)&&o)))∧w'=w:=by
 rcases Int.lt_trichotomy side 0 with h|h|h
 ·have HE:Hid ((decide (0<side)||(decide (side=0)&&o))=false):=hid (by rw[qaf (by omega),qaf (by omega)];rfl)
  have b1:(side==0)=false:=qam (by omega);have b2:¬0<side:=by omega
  go_enter Tryz.func148,Tryz.ntmps148;go_wp2_with fail;go_ret;exact⟨qa9 HE.out.symm,rfl⟩
 ·subst h
  cases o
  all_goals
   go_enter Tryz.func148,Tryz.ntmps148;go_wp2_with fail;go_ret;exact⟨rfl,rfl⟩
 ·have HE:Hid ((decide (0<side)||(decide (side=0)&&o))=true):=hid (by rw[qag h];rfl)
  go_enter Tryz.func148,Tryz.ntmps148;go_wp2_with fail;go_ret;exact⟨qa9 HE.out.symm,rfl⟩
def qdr(k:BA):Option Nat:=
 if k==q1k then some 145 else if k==kUp then some 146 else if k==qoy then some 147 else if k==qi7 then some 148 else none
theorem qy7(k:BA)(f:Nat)(hf:qdr k=some f)(side:Int)(o:Bool)(w:World):
  Calls Tryz.prog f #[.int .i64 side,.bool o] w fun e w'=>e = .returned (.bool (qlj f side o))∧w'=w:=by
 unfold qdr at hf;split at hf
 ·cases hf;exact q7l side o w
 split at hf
 ·cases hf;exact q7m side o w
 split at hf
 ·cases hf;exact q7n side o w
 split at hf
 ·cases hf;exact q7o side o w
 ·cases hf
theorem qh1(k:BA):qli qd2 k=(qdr k).map qp3:=by
 unfold qli qd2 qdr;simp only[List.find?_cons,List.find?_nil];cases h1:k==q1k
 ·cases h2:k==kUp
  ·cases h3:k==qoy
   ·cases h4:k==qi7
    ·rfl
    ·rfl
   ·rfl
  ·rfl
 ·rfl
end Go.Proofs.YtlkdlffhmakbgaaGreatDoor
