/- Bounds of the sizes of rational numbers. -/
import Derived.Test.YthjagoogkkgelaaGreatDoorMCmpQ
import Derived.Test.YthjagoogkkgelaaGreatDoorMNumWalk
import Derived.Carry
set_option linter.all false
namespace Go.Proofs.YthjagoogkkgelaaGreatDoor
set_option maxRecDepth 100000
set_option maxHeartbeats 1000000
theorem qtv(n:Nat):n<B64^wl n:=qb8 B64 n qae
theorem q2a(m n k:Nat)(hm:wl m≤k)(hn:wl n≤k):wl (m+n)≤k+1:=by
 refine qgr ?_;have hB:2≤B64:=qae;have h1:=Nat.lt_of_lt_of_le (qtv m) (Nat.pow_le_pow_right (by omega:0<B64) hm);have h2:=Nat.lt_of_lt_of_le (qtv n) (Nat.pow_le_pow_right (by omega:0<B64) hn);have h3:B64^k*2≤B64^k*B64:=Nat.mul_le_mul_left _ hB;rw[Nat.pow_succ];omega
theorem qlv{n:Nat}(h:n<B64):wl n≤1:=qgr (by simpa using h)
def bd(q:Rat)(m:Nat):Prop:=wl q.num.natAbs≤m∧wl q.den≤m
theorem bd.mono{q:Rat}{m n:Nat}(h:bd q m)(hn:m≤n):bd q n:=⟨Nat.le_trans h.1 hn,Nat.le_trans h.2 hn⟩
theorem bd.rs{q:Rat}{m:Nat}(h:bd q m):rs q≤m+m:=by unfold Go.Proofs.YthjagoogkkgelaaGreatDoor.rs;have:=h.1;have:=h.2;omega
theorem qe2(z:Int)(h0 : -9223372036854775808≤z)(h1:z≤9223372036854775807):bd (z:Rat) 1:=by
 refine⟨?_, ?_⟩
 ·refine qlv ?_
  rw[qab];show z.natAbs<_;omega
 ·exact qlv (by rw[qab];show(1:Nat)<_;omega)
theorem zaz(z:Int)(d m:Nat)(hd:d≠0)(hz:wl z.natAbs≤m)(hw:wl d≤m):bd (mkRat z d) m:=by
 refine⟨?_, ?_⟩
 ·rw[Rat.num_mkRat,if_neg hd]
  exact Nat.le_trans (qdj (Int.natAbs_ediv_le_natAbs _ _)) hz
 ·rw[Rat.den_mkRat,if_neg hd]
  exact Nat.le_trans (qdj (Nat.div_le_self _ _)) hw
theorem qe8{a b:Rat}{m n:Nat}(ha:bd a m)(hb:bd b n):bd (a*b) (m+n):=by
 rw[Rat.mul_def,Rat.normalize_eq_mkRat];refine zaz _ _ _ (Nat.ne_of_gt (Nat.mul_pos a.den_pos b.den_pos)) ?_ ?_
 ·rw[Int.natAbs_mul]
  have:=qo4 a.num.natAbs b.num.natAbs;have:=ha.1;have:=hb.1;omega
 ·have:=qo4 a.den b.den
  have:=ha.2;have:=hb.2;omega
theorem za0{a:Rat}{m:Nat}(ha:bd a m):bd (-a) m:=by
 refine⟨?_, ?_⟩
 ·rw[Rat.neg_num,Int.natAbs_neg];exact ha.1
 ·rw[Rat.neg_den];exact ha.2
theorem qnr{a b:Rat}{m n:Nat}(ha:bd a m)(hb:bd b n):bd (a+b) (m+n+1):=by
 rw[Rat.add_def,Rat.normalize_eq_mkRat];refine zaz _ _ _ (Nat.ne_of_gt (Nat.mul_pos a.den_pos b.den_pos)) ?_ ?_
 ·refine Nat.le_trans (qdj (Int.natAbs_add_le _ _)) ?_
  rw[Int.natAbs_mul,Int.natAbs_mul,Int.natAbs_natCast,Int.natAbs_natCast];refine q2a _ _ _ ?_ ?_
  ·have:=qo4 a.num.natAbs b.den
   have:=ha.1;have:=hb.2;omega
  ·have:=qo4 b.num.natAbs a.den
   have:=ha.2;have:=hb.1;omega
 ·have:=qo4 a.den b.den
  have:=ha.2;have:=hb.2;omega
theorem q2b{a b:Rat}{m n:Nat}(ha:bd a m)(hb:bd b n):bd (a-b) (m+n+1):=by
 rw[Rat.sub_eq_add_neg];exact qnr ha (za0 hb)
theorem qjb(m:Nat)(h:1≤m):bd 0 m:=
 (qe2 0 (by omega) (by omega)).mono h
theorem qns{a b:Rat}{m n:Nat}(ha:bd a m)(hb:bd b n):bd (a/b) (m+n+1):=by
 rw[Rat.div_def];by_cases h:b.num=0
 ·have hb0:b=0:=Rat.num_eq_zero.1 h
  rw[hb0,Rat.inv_zero,Rat.mul_zero];exact qjb _ (by omega)
 ·have hi:bd b⁻¹ n:=by
   obtain⟨h1,h2,_⟩:=qlr b h;exact⟨by rw[h1];exact hb.2,by rw[h2];exact hb.1⟩
  exact(qe8 ha hi).mono (by omega)
theorem qx4{a:Rat}{m:Nat}(ha:bd a m)(hm:1≤m):bd (a.floor:Rat) (m+1):=by
 refine⟨?_,Nat.le_trans (qlv (by rw[qab];show(1:Nat)<_;omega)) (by omega)⟩;show wl a.floor.natAbs≤m+1;have h1:wl 1≤m:=Nat.le_trans (qlv (by rw[qab];omega)) hm;have h2:wl (a.num.natAbs/a.den)≤m:=Nat.le_trans (qdj (Nat.div_le_self _ _)) ha.1;by_cases h:a.num<0
 ·rw[(qo7 a h).1]
  refine q2a _ _ _ h2 ?_;split
  ·rw[qcp];omega
  ·exact h1
 ·rw[(qo6 a h).1]
  omega
theorem qiu{l:List UInt8}(h:qaa l=0):bd (qav l) 600:=by
 have ht:qlu l=l:=by
  unfold qaa at h;split at h
  ·cases h
  ·split at h
   ·cases h
   ·split at h
    ·cases h
    ·split at h
     ·assumption
     ·cases h
 have hl:l≠[]:=by
  rintro rfl;exact absurd h (by decide)
 have hf:qa4 (qav l) 600=true:=by
  unfold qlu at ht;split at ht
  ·assumption
  ·exact absurd ht.symm hl
 unfold qa4 at hf;rw[Bool.and_eq_true,Bool.or_eq_true,decide_eq_true_iff,decide_eq_true_iff,decide_eq_true_iff] at hf;have hten:10≤B64:=by rw[qab];omega
 have key:∀n,(qaw n).length≤600→wl n≤600:=fun n hn=>by
  refine qgr ?_
  have h1:n<10^600:=by
   rcases Nat.lt_or_ge n (10^600) with h|h
   ·exact h
   ·have:=qq9 h;omega
  exact Nat.lt_of_lt_of_le h1 (Nat.pow_le_pow_left hten 600)
 refine⟨key _ hf.1, ?_⟩;rcases hf.2 with h1|h1
 ·rw[h1]
  exact Nat.le_trans (qlv (by rw[qab];omega)) (by omega)
 ·exact key _ h1
end Go.Proofs.YthjagoogkkgelaaGreatDoor
namespace Go.Proofs.YthjagoogkkgelaaGreatDoor
open Go.RowKit
set_option maxRecDepth 100000
set_option maxHeartbeats 1000000
def qm2(q:Rat)(w:World)(e:Ending)(w':World):Prop:=
 e = .returned (.tuple #[.string (if qa4 q 600 then⟨(qat q).toArray⟩ else⟨#[]⟩),.int .i64 (if qa4 q 600 then 0 else 4)])∧Below w.heap.size w w'
theorem q2c{q:Rat}{w w':World}{e:Ending}(h:qa4 q 600=true):qm2 q w e w'↔e = .returned (.tuple #[.string ⟨(qat q).toArray⟩,.int .i64 0])∧Below w.heap.size w w':=by
 unfold qm2;rw[h];rfl
theorem q55{q:Rat}{w w':World}{e:Ending}(h:qa4 q 600=false):qm2 q w e w'↔e = .returned (.tuple #[.string ⟨#[]⟩,.int .i64 4])∧Below w.heap.size w w':=by
 unfold qm2;rw[h];rfl
theorem qjc(va:Value)(a:Rat)(w:World)(ha:qaj w va a)(hc:rs a≤Cap):
  Calls Tryz.prog 56 #[va] w (qm2 a w):=by
 have HV:=hid ha;obtain⟨pa1,ka1,ca1,pa2,ka2,ca2,rfl,ha1,ha2⟩:=ha.parts;have HTX:=hid (fun(W:World) (hb:Below w.heap.size w W)=>qx3 (ha.later hb) hc);have HW0:=hid (qht w (decide (a.num<0)) (.slice pa1 ka1 ca1) (.slice pa2 ka2 ca2));clear ha ha1 ha2 hc;generalize decide (a.num<0)=na at *;cases h:qa4 a 600
 ·have HF:=hid (fun(e:Ending) (w':World)=>(q55 (q:=a) (w:=w) (w':=w') (e:=e) h).2)
  rw[h] at HTX;have HTX2:Hid (∀W,Below w.heap.size w W→Calls Tryz.prog 97 #[.agg #[.bool na,.slice pa1 ka1 ca1,.slice pa2 ka2 ca2],.int .i64 600] W fun e w'=>e = .returned (.tuple #[.string ⟨#[]⟩,.bool false])∧Below W.heap.size W w'):=HTX;clear HTX h;go_enter Tryz.func56,Tryz.ntmps56;go_wp2_with fail;refine(HTX2.out _ HW0.out.1).mono ?_;rintro e w1 ⟨rfl,hb⟩;have HB:Hid (Below w.heap.size w w1):=hid (HW0.out.1.trans (hb.mono HW0.out.1.size));clear hb HTX2 HW0;go_wp2_with fail;go_ret2;exact HF.out _ _ ⟨rfl,HB.out⟩
 ·have HF:=hid (fun(e:Ending) (w':World)=>(q2c (q:=a) (w:=w) (w':=w') (e:=e) h).2)
  rw[h] at HTX;have HTX2:Hid (∀W,Below w.heap.size w W→Calls Tryz.prog 97 #[.agg #[.bool na,.slice pa1 ka1 ca1,.slice pa2 ka2 ca2],.int .i64 600] W fun e w'=>e = .returned (.tuple #[.string ⟨(qat a).toArray⟩,.bool true])∧Below W.heap.size W w'):=HTX;clear HTX h;go_enter Tryz.func56,Tryz.ntmps56;go_wp2_with fail;refine(HTX2.out _ HW0.out.1).mono ?_;rintro e w1 ⟨rfl,hb⟩;have HB:Hid (Below w.heap.size w w1):=hid (HW0.out.1.trans (hb.mono HW0.out.1.size));clear hb HTX2 HW0;go_wp2_with fail;go_ret2;exact HF.out _ _ ⟨rfl,HB.out⟩
def qr6(w:World)(r:Nat)(D:List (ByteArray × Value)):Prop:=
 ∃es clock,w.heap[r]? = some (.map es clock)∧es.toList.map (fun e=>(e.key,e.val))=D.map (fun p=>(Value.string p.1,p.2))
theorem qr6.later{w w':World}{r:Nat}{D:List (ByteArray × Value)}(h:qr6 w r D)(hb:Below w.heap.size w w'):qr6 w' r D:=by
 obtain⟨es,clock,h1,h2⟩:=h
 have hr:r<w.heap.size:=by
  rcases Nat.lt_or_ge r w.heap.size with h|h
  ·exact h
  ·rw[Array.getElem?_eq_none h] at h1;cases h1
 exact⟨es,clock,by rw[hb.block r hr];exact h1,h2⟩
def qlw(D:List (ByteArray × Value))(k:ByteArray):Option Value:=(D.find? (fun p=>k==p.1)).map (·.2)
theorem qg6(k:ByteArray):∀(es:List MapEntry) (D:List (ByteArray × Value)) (i:Nat),es.map (fun e=>(e.key,e.val))=D.map (fun p=>(Value.string p.1,p.2))→
  ∃r,Instr.findNow .string (.string k) es i=some r∧r.map (·.2)=qlw D k
 | [],[],i,_=>⟨none,rfl,rfl⟩
 | [],_::_,_,h=>by cases h
 | _::_,[],_,h=>by cases h
 | e::es,p::D,i,h=>by
  simp only[List.map_cons,List.cons.injEq,Prod.mk.injEq] at h;obtain⟨⟨h1,h2⟩,h3⟩:=h;unfold Instr.findNow;rw[h1];simp only[Instr.sameNow];by_cases hk:(k==p.1)=true
  ·rw[hk]
   refine⟨some (i,e.val),rfl, ?_⟩;unfold qlw;rw[List.find?_cons,hk];simp[h2]
  ·have hk':(k==p.1)=false:=by simpa using hk
   rw[hk'];obtain⟨r,h4,h5⟩:=qg6 k es D (i+1) h3;refine⟨r,h4, ?_⟩;rw[h5];unfold qlw;rw[List.find?_cons,hk']
section
variable {P:Program}
theorem run_findKey(w:World)(kt:TypeId)(hk:P.underlying kt=some .string)(k:ByteArray)(es:List MapEntry)(r:Option (Nat × Value))(h:Instr.findNow .string (.string k) es 0=some r):
  (Instr.findKey kt (.string k) es).run P w = .ok r w:=by
 unfold Instr.findKey;simp[run_underlying hk,Result.andThen,h,Sem.run_pure]
theorem run_checkKey(w:World)(kt:TypeId)(hk:P.underlying kt=some .string)(b:Bool)(k:ByteArray):(Instr.checkKey b 10000 kt (.string k)).run P w = .ok () w:=by
 unfold Instr.checkKey;simp[run_underlying hk,Result.andThen,Sem.run_pure]
theorem qcn(w:World)(t kt et:TypeId)(ht:P.underlying t=some (.map kt et))(hk:P.underlying kt=some .string)(r:Nat)(D:List (ByteArray × Value))(hm:qr6 w r D)(k:ByteArray)(v:Value)(hv:qlw D k=some v):
  (Instr.lookup t (.map (some r)) (.string k) true).run P w = .ok (.tuple #[v,.bool true]) w∧(Instr.lookup t (.map (some r)) (.string k) false).run P w = .ok v w:=by
 obtain⟨es,clock,h1,h2⟩:=hm;obtain⟨x,h3,h4⟩:=qg6 k es.toList D 0 h2;rw[hv] at h4
 obtain⟨⟨i,u⟩,rfl,rfl⟩:∃y,x=some y∧y.2=v:=by
  cases x
  ·cases h4
  ·rename_i y;exact⟨y,rfl,by simpa using h4⟩
 have hf:=run_findKey (P:=P) w kt hk k es.toList _ h3;have hc:=fun b=>run_checkKey (P:=P) w kt hk b k;unfold Instr.lookup;constructor<;>simp[run_underlying ht,getObj,Sem.run,h1,Result.andThen,hc,hf,Sem.run_pure,Sem.run_bind]
theorem qec(w:World)(t kt et:TypeId)(ht:P.underlying t=some (.map kt et))(hk:P.underlying kt=some .string)(r:Nat)(D:List (ByteArray × Value))(hm:qr6 w r D)(k:ByteArray)(z:Value)(hz:(zeroValue et).run P w = .ok z w)(hv:qlw D k=none):
  (Instr.lookup t (.map (some r)) (.string k) true).run P w = .ok (.tuple #[z,.bool false]) w∧(Instr.lookup t (.map (some r)) (.string k) false).run P w = .ok z w:=by
 obtain⟨es,clock,h1,h2⟩:=hm;obtain⟨x,h3,h4⟩:=qg6 k es.toList D 0 h2;rw[hv] at h4
 obtain rfl:x=none:=by
  cases x
  ·rfl
  ·cases h4
 have hf:=run_findKey (P:=P) w kt hk k es.toList _ h3;have hc:=fun b=>run_checkKey (P:=P) w kt hk b k;unfold Instr.lookup;constructor<;>simp[run_underlying ht,getObj,Sem.run,h1,Result.andThen,hc,hf,Sem.run_bind,hz]
theorem qof(w:World)(t kt et:TypeId)(ht:P.underlying t=some (.map kt et))(hk:P.underlying kt=some .string)(r:Nat)(D:List (ByteArray × Value))(hm:qr6 w r D)(k:ByteArray)(v:Value)(hv:qlw D k=none):
  ∃w',(Instr.mapUpdate t (.map (some r)) (.string k) v).run P w = .ok () w'∧qr6 w' r (D++[(k,v)])∧Below r w w'∧w'.heap.size=w.heap.size:=by
 obtain⟨es,clock,h1,h2⟩:=hm;obtain⟨x,h3,h4⟩:=qg6 k es.toList D 0 h2;rw[hv] at h4
 obtain rfl:x=none:=by
  cases x
  ·rfl
  ·cases h4
 have hf:=run_findKey (P:=P) w kt hk k es.toList _ h3;have hc:=fun b=>run_checkKey (P:=P) w kt hk b k;have hs:=MapKept.run_setObj_map (P:=P) (.map (es.push { key := .string k,val:=v,born:=clock }) (clock+1)) h1;refine⟨_,by unfold Instr.mapUpdate;simp[run_underlying ht,getObj,Sem.run,h1,Result.andThen,hc,hf,Sem.run_bind,hs];rfl,⟨es.push { key := .string k,val:=v,born:=clock },clock+1, ?_, ?_⟩, ?_, ?_⟩
 ·exact(MapKept.heap_set h1).1
 ·simp[h2]
 ·exact⟨rfl,rfl,rfl,by simp,fun j hj=>(MapKept.heap_set h1).2 j (by omega)⟩
 ·simp
end
def qqo(f:Nat):Value := .agg #[.func (.func f) #[] #[],.bool false,.slice none 0 0,.slice none 0 0]
def q2d:ByteArray:=⟨#[100,111,119,110]⟩
def kUp:ByteArray:=⟨#[117,112]⟩
def qpe:ByteArray:=⟨#[104,97,108,102,45,117,112]⟩
def qjd:ByteArray:=⟨#[104,97,108,102,45,101,118,101,110]⟩
def qdz:List (ByteArray × Value):=[(q2d,qqo 155),(kUp,qqo 156),(qpe,qqo 157),(qjd,qqo 158)]
theorem qby(w:World):
  Calls Tryz.prog 99 #[] w fun e w'=>e = .returned (.map (some w.heap.size))∧qr6 w' w.heap.size qdz∧Below w.heap.size w w':=by
 have hm0:qr6 (w.alloc (.map #[] 0)) w.heap.size []:=⟨#[],0,(MapKept.heap_alloc w _).1,by simp⟩;have hb0:Below w.heap.size w (w.alloc (.map #[] 0)):=(Below.refl _ _).alloc (Nat.le_refl _) _;obtain⟨w1,r1,m1,b1,_⟩:=qof (P:=Tryz.prog) _ 152 9 110 Tryz.underlying152 Tryz.underlying9 _ _ hm0 q2d (qqo 155) rfl;obtain⟨w2,r2,m2,b2,_⟩:=qof (P:=Tryz.prog) _ 152 9 110 Tryz.underlying152 Tryz.underlying9 _ _ m1 kUp (qqo 156) (by decide);obtain⟨w3,r3,m3,b3,_⟩:=qof (P:=Tryz.prog) _ 152 9 110 Tryz.underlying152 Tryz.underlying9 _ _ m2 qpe (qqo 157) (by decide);obtain⟨w4,r4,m4,b4,_⟩:=qof (P:=Tryz.prog) _ 152 9 110 Tryz.underlying152 Tryz.underlying9 _ _ m3 qjd (qqo 158) (by decide);have HM:Hid (qr6 w4 w.heap.size qdz):=hid m4;have HB:Hid (Below w.heap.size w w4):=hid (hb0.trans (b1.trans (b2.trans (b3.trans b4))));clear hm0 hb0 m1 m2 m3 m4 b1 b2 b3 b4;unfold qqo q2d kUp qpe qjd at *;have hmm:=@run_makeMap Tryz.prog;go_enter Tryz.func99,Tryz.ntmps99;go_wp2_with fail;go_ret;exact⟨rfl,HM.out,HB.out⟩
def qlx(f:Nat)(side:Int)(isOdd:Bool):Bool:=
 if f=155 then false else if f=156 then true else if f=157 then decide (0≤side) else decide (0<side)||(decide (side=0)&&isOdd)
theorem q82(side:Int)(o:Bool)(w:World):Calls Tryz.prog 155 #[.int .i64 side,.bool o] w fun e w'=>e = .returned (.bool false)∧w'=w:=by
 go_enter Tryz.func155,Tryz.ntmps155;go_wp2_with fail;go_ret;exact⟨rfl,rfl⟩
theorem q83(side:Int)(o:Bool)(w:World):Calls Tryz.prog 156 #[.int .i64 side,.bool o] w fun e w'=>e = .returned (.bool true)∧w'=w:=by
 go_enter Tryz.func156,Tryz.ntmps156;go_wp2_with fail;go_ret;exact⟨rfl,rfl⟩
theorem q84(side:Int)(o:Bool)(w:World):Calls Tryz.prog 157 #[.int .i64 side,.bool o] w fun e w'=>e = .returned (.bool (decide (0≤side)))∧w'=w:=by
 go_enter Tryz.func157,Tryz.ntmps157;go_wp2_with fail;go_ret;exact⟨rfl,rfl⟩
theorem q85(side:Int)(o:Bool)(w:World):Calls Tryz.prog 158 #[.int .i64 side,.bool o] w fun e w'=>e = .returned (.bool (decide (0<side)||(decide (side=0)&&o)))∧w'=w:=by
 rcases Int.lt_trichotomy side 0 with h|h|h
 ·have HE:Hid ((decide (0<side)||(decide (side=0)&&o))=false):=hid (by rw[decide_eq_false (by omega),decide_eq_false (by omega)];rfl)
  have b1:(side==0)=false:=beq_eq_false_iff_ne.2 (by omega);have b2:¬0<side:=by omega
  go_enter Tryz.func158,Tryz.ntmps158;go_wp2_with fail;go_ret;exact⟨qbc HE.out.symm,rfl⟩
 ·subst h
  cases o
  all_goals
   go_enter Tryz.func158,Tryz.ntmps158;go_wp2_with fail;go_ret;exact⟨rfl,rfl⟩
 ·have HE:Hid ((decide (0<side)||(decide (side=0)&&o))=true):=hid (by rw[decide_eq_true h];rfl)
  go_enter Tryz.func158,Tryz.ntmps158;go_wp2_with fail;go_ret;exact⟨qbc HE.out.symm,rfl⟩
def qdl(k:ByteArray):Option Nat:=
 if k==q2d then some 155 else if k==kUp then some 156 else if k==qpe then some 157 else if k==qjd then some 158 else none
theorem qzq(k:ByteArray)(f:Nat)(hf:qdl k=some f)(side:Int)(o:Bool)(w:World):
  Calls Tryz.prog f #[.int .i64 side,.bool o] w fun e w'=>e = .returned (.bool (qlx f side o))∧w'=w:=by
 unfold qdl at hf;split at hf
 ·cases hf;exact q82 side o w
 split at hf
 ·cases hf;exact q83 side o w
 split at hf
 ·cases hf;exact q84 side o w
 split at hf
 ·cases hf;exact q85 side o w
 ·cases hf
theorem qie(k:ByteArray):qlw qdz k=(qdl k).map qqo:=by
 unfold qlw qdz qdl;simp only[List.find?_cons,List.find?_nil];cases h1:k==q2d
 ·cases h2:k==kUp
  ·cases h3:k==qpe
   ·cases h4:k==qjd
    ·rfl
    ·rfl
   ·rfl
  ·rfl
 ·rfl
end Go.Proofs.YthjagoogkkgelaaGreatDoor
