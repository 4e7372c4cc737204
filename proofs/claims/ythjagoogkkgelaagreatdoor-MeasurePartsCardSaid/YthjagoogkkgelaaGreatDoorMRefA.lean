/- The reference's integers: digits to the base 10^9; trim, digit, compareDigits, addDigits, subDigits. -/
import Derived.Test.YthjagoogkkgelaaGreatDoorMGuess
import Derived.Test.YthjagoogkkgelaaGreatDoorMBase
import Derived.WalkKit
import Derived.Deep.AppendLies
import Derived.Laws.OwnMore
import Derived.Test.YthjagoogkkgelaaGreatDoorMApport
import Derived.Test.YthjagoogkkgelaaGreatDoorMMul
import Derived.Test.YthjagoogkkgelaaGreatDoorMMaths
import Derived.BigQuiet
import Derived.Deep.RegionHeld3
set_option linter.all false
namespace Go.Proofs.YthjagoogkkgelaaGreatDoor
open Go.RowKit
set_option maxRecDepth 100000
set_option maxHeartbeats 16000000
def D9:Nat:=1000000000
theorem qbp:D9=1000000000:=rfl
theorem qa3:2≤D9:=by decide
def dv(l:List Nat)(i:Nat):Value := .int .i64 ((l.getD i 0:Nat):Int)
def Dgs(w:World)(v:Value)(l:List Nat):Prop:=(∀d ∈ l,d<D9)∧qes w v l.length (dv l)
theorem Dgs.later{w w':World}{v:Value}{l:List Nat}(h:Dgs w v l)(hb:Below w.heap.size w w'):Dgs w' v l:=⟨h.1,h.2.later hb⟩
def DN(w:World)(v:Value)(n:Nat):Prop:=Dgs w v (qaf D9 n)
theorem DN.later{w w':World}{v:Value}{n:Nat}(h:DN w v n)(hb:Below w.heap.size w w'):DN w' v n:=Dgs.later h hb
def dl(n:Nat):Nat:=(qaf D9 n).length
theorem q0m(l:List Nat)(k:Nat)(hl:∀d ∈ l,d<D9)(hk:k≤l.length)(hv:val D9 l=low D9 l k)(hlast:k=0∨l.getD (k-1) 0≠0):qaf D9 (val D9 l)=l.take k:=by
 rw[hv];refine qld D9 qa3 _ (fun d hd=>hl d (List.mem_of_mem_take hd)) ?_;intro m d hm;rcases hlast with h0|h0
 ·subst h0;simp at hm
 ·have hlen:(l.take k).length=k:=by simp;omega
  have hd:(l.take k).getD (k-1) 0=d:=by
   have:m.length=k-1:=by rw[hm] at hlen;simp at hlen;omega
   rw[hm,←this];simp
  have hk0:0<k:=by
   rw[hm] at hlen;simp at hlen;omega
  rw[←hd]
  have:(l.take k).getD (k-1) 0=l.getD (k-1) 0:=by
   simp only[List.getD_eq_getElem?_getD];rw[List.getElem?_take_of_lt (by omega)]
  rw[this];exact h0
theorem q3l(w:World)(p:Option Addr)(c:Nat)(l:List Nat)(k:Nat)(hl:∀d ∈ l,d<D9)(hk:k≤l.length)(hc1:l.length≤c)(hc2:c≤maxLen)
  (hcells:l.length=0∨∃b o,p=some ⟨b,o,none⟩∧qmo w b o l.length (dv l)) (e:qaf D9 (val D9 l)=l.take k):DN w (.slice p k c) (val D9 l):=by
 have hlen:(l.take k).length=k:=by simp;omega
 unfold DN Dgs;rw[e];refine⟨fun d hd=>hl d (List.mem_of_mem_take hd),p,c,by rw[hlen],by omega,hc2, ?_⟩;rw[hlen];rcases hcells with h0|⟨b,o,hp,hrow⟩
 ·exact .inl (by omega)
 ·refine .inr ⟨b,o,hp,fun i hi => ?_⟩
  rw[hrow i (by omega)];unfold dv;simp only[List.getD_eq_getElem?_getD];rw[List.getElem?_take_of_lt hi]
theorem q75(v:Value)(l:List Nat)(w:World)(h:Dgs w v l):
  Calls Tryz.prog 208 #[v] w fun e w'=>(∃v',e = .returned v'∧∀W,Dgs W v l→DN W v' (val D9 l))∧w=w':=by
 have HH:=hid h;obtain⟨hl,p,c,rfl,hc1,hc2,hcells⟩:=h
 have FIN:Hid (∀k,k≤l.length→val D9 l=low D9 l k→(k=0∨l.getD (k-1) 0≠0)→∀W,Dgs W (.slice p l.length c) l→DN W (.slice p k c) (val D9 l)):=hid fun k hk h1 h2 W hW=>by
  obtain⟨_,p',c',he,_,_,hcells'⟩:=hW;cases he
  exact q3l W p c l k hl hk hc1 hc2 hcells' (q0m l k hl hk h1 h2)
 unfold maxLen at hc2;go_enter Tryz.func208,Tryz.ntmps208;go_wp2
 go_loop [0] (fun s=>∃k:Nat,k≤l.length∧s = .slice p k c∧Hid (val D9 l=low D9 l k)) qlf
 case atStart=>exact⟨_,Nat.le_refl _,rfl,hid (qa5 _ _ _ (Nat.le_refl _)).symm⟩
 case round=>
  obtain⟨k,hk,rfl,hv⟩:=hrel;by_cases hk0:k=0
  ·subst hk0
   go_wp2;go_ret;exact⟨⟨_,rfl,FIN.out 0 hk hv.out (.inl rfl)⟩,rfl⟩
  ·obtain⟨j,rfl⟩:∃j,k=j+1:=⟨k-1,by omega⟩
   rcases hcells with h0|⟨b,o,rfl,hrow⟩
   ·omega
   have hcell:=hrow j (by omega);unfold dv at hcell;have hs:=qap D9 l j;generalize hxx:l.getD j 0=x at *;have HX:=hid hxx;have HS:=hid hs;clear hxx hs hl hrow;by_cases hx0:x=0
   ·subst hx0
    have hb:(((0:Nat):Int)==0)=true:=rfl;go_wp2;exact⟨⟨j,by omega,rfl,hid (by rw[hv.out,HS.out];omega)⟩,by simp[qlf]⟩
   ·have hb:((x:Int)==0)=false:=by simp;omega
    go_wp2;go_ret;exact⟨⟨_,rfl,FIN.out _ hk hv.out (.inr (by show l.getD (j+1-1) 0≠0;rw[Nat.add_sub_cancel,HX.out];exact hx0))⟩,rfl⟩
theorem q0n(v:Value)(l:List Nat)(w:World)(h:Dgs w v l):
  Calls Tryz.prog 208 #[v] w fun e w'=>(∃v',e = .returned v'∧DN w v' (val D9 l))∧w=w':=
 (q75 v l w h).mono fun _ _ ⟨⟨v',he,hv⟩,hw⟩=>⟨⟨v',he,hv w h⟩,hw⟩
theorem q3m(v:Value)(l:List Nat)(i:Nat)(w:World)(h:Dgs w v l)(hi:i≤1048576):
  Calls Tryz.prog 210 #[v,.int .i64 i] w fun e w'=>e = .returned (.int .i64 (l.getD i 0:Nat))∧w'=w:=by
 obtain⟨_,p,c,rfl,hc1,hc2,hcells⟩:=h;unfold maxLen at hc2;by_cases hlt:i<l.length
 ·rcases hcells with h0|⟨b,o,rfl,hrow⟩
  ·omega
  have hcell:=hrow i hlt;unfold dv at hcell;clear hrow;generalize l.getD i 0=x at *;go_enter Tryz.func210,Tryz.ntmps210;go_wp2;go_ret;exact⟨rfl,rfl⟩
 ·have h0:l.getD i 0=0:=by rw[List.getD_eq_getElem?_getD,List.getElem?_eq_none (by omega)];rfl
  rw[h0];clear hcells h0;go_enter Tryz.func210,Tryz.ntmps210;go_wp2;go_ret;exact⟨rfl,rfl⟩
theorem qsn(va vb:Value)(m n:Nat)(w:World)(ha:DN w va m)(hb:DN w vb n):
  Calls Tryz.prog 187 #[va,vb] w fun e w'=>e = .returned (.int .i64 (qex m n))∧Below w.heap.size w w':=by
 obtain⟨hla,pa,ca,rfl,hca1,hca2,hcellsa⟩:=ha;obtain⟨hlb,pb,cb,rfl,hcb1,hcb2,hcellsb⟩:=hb;unfold maxLen at hca2 hcb2;by_cases hlen:(qaf D9 m).length=(qaf D9 n).length
 ·have hne:((((qaf D9 m).length:Nat):Int) != ((qaf D9 n).length:Nat))=false:=by simp;omega
  have FIN:Hid (∀j,j<(qaf D9 m).length→(qaf D9 m).drop (j+1)=(qaf D9 n).drop (j+1)→((qaf D9 m).getD j 0<(qaf D9 n).getD j 0→qex m n = -1)∧((qaf D9 n).getD j 0<(qaf D9 m).getD j 0→qex m n=1)):=by
   refine hid fun j hj ht => ?_;unfold qex;constructor
   ·intro h
    have:=qh5 qa3 hlen hla j hj ht h;rw[qah _ _ qa3,qah _ _ qa3] at this;exact qda (by omega)
   ·intro h
    have:=qh5 qa3 hlen.symm hlb j (by omega) ht.symm h;rw[qah _ _ qa3,qah _ _ qa3] at this;exact qcl (by omega)
  have EQ:Hid ((qaf D9 m).drop 0=(qaf D9 n).drop 0→qex m n=0):=hid fun h=>by
   have:=qrt qa3 (by simpa using h);subst this;exact qet rfl
  have STEP:Hid (∀j,j<(qaf D9 m).length→(qaf D9 m).drop (j+1)=(qaf D9 n).drop (j+1)→(qaf D9 m).getD j 0=(qaf D9 n).getD j 0→(qaf D9 m).drop j=(qaf D9 n).drop j):=hid fun j hj=>qtd hj hlen;have LEN:=hid hlen;clear hlen;generalize qaf D9 m=l at *;generalize qaf D9 n=r at *;go_enter Tryz.func187,Tryz.ntmps187;go_wp2_with fail
  go_loopw [5] (fun i wr=>∃k:Nat,k≤l.length∧i = .int .i64 ((k:Int)-1)∧Hid (l.drop k=r.drop k)∧Hid (Below w.heap.size w wr)) (fun i _=>(intOf i+1).toNat)
  case atStart=>exact⟨_,Nat.le_refl _,rfl,hid (by rw[List.drop_of_length_le (Nat.le_refl _),LEN.out,List.drop_of_length_le (Nat.le_refl _)]),hid (Below.refl _ _)⟩
  case round=>
   obtain⟨k,hk,rfl,ht,HBW⟩:=hrel;rcases k with _|j
   ·have HE:=hid (EQ.out ht.out)
    go_wp2;go_ret;exact⟨qa1 HE.out.symm,HBW.out⟩
   ·have e1:((j+1:Nat):Int)-1=(j:Int):=by omega
    simp only[e1];rcases hcellsa with h0|⟨b,o,rfl,hrow⟩
    ·omega
    rcases hcellsb with h0|⟨b',o',rfl,hrow'⟩
    ·have:=LEN.out;omega
    have hcell:∀W,Below w.heap.size w W→W.cell? ⟨b,o+j,none⟩=some (dv l j)∧W.cell? ⟨b',o'+j,none⟩=some (dv r j):=fun W hW=>by
     have h1:=hrow j (by omega);have h2:=hrow' j (by have:=LEN.out;omega);rw[hW.cell (p:=⟨b,o+j,none⟩) (World.block_lt_of_cell? w _ h1),hW.cell (p:=⟨b',o'+j,none⟩) (World.block_lt_of_cell? w _ h2)];exact⟨h1,h2⟩
    unfold dv at hcell;have HCE:=hid hcell;clear hcell;have FJ:=hid (FIN.out j (by omega) ht.out);have SJ:=hid (STEP.out j (by omega) ht.out);have h2:j<r.length:=by have:=LEN.out;omega
    clear hrow hrow';generalize l.getD j 0=x at *;generalize r.getD j 0=y at *;clear FIN STEP EQ;obtain⟨hc,hc'⟩:=HCE.out wr HBW.out;rcases Nat.lt_trichotomy x y with hxy|hxy|hxy
    ·have HE:=hid (FJ.out.1 hxy)
     go_wp2_with fail
     go_quiet (fail)
     go_wp2_with fail;go_ret;exact⟨qa1 HE.out.symm,below_drewN HBW.out _⟩
    ·have HS:=hid (SJ.out hxy)
     have hx1:¬x<y:=by omega
     have HXY:=hid hxy;clear hxy;go_wp2_with fail
     go_quiet (fail)
     go_wp2_with fail;clear hc hc' hx1;have HBW2:=hid (below_drewN HBW.out nq);obtain⟨hc,hc'⟩:=HCE.out _ HBW2.out;have hx2:¬y<x:=by have:=HXY.out;omega
     generalize wr.drewN nq=w2 at *
     go_quiet (fail)
     go_wp2_with fail;go_roundw
     case rel=>exact⟨j,by omega,by go_num,HS,hid (below_drewN HBW2.out _)⟩
     case measure=>simp[intOf]
    ·have HE:=hid (FJ.out.2 hxy)
     have hx1:¬x<y:=by omega
     have HXY:=hid hxy;clear hxy;go_wp2_with fail
     go_quiet (fail)
     go_wp2_with fail;clear hc hc' hx1;have HBW2:=hid (below_drewN HBW.out nq);obtain⟨hc,hc'⟩:=HCE.out _ HBW2.out;have hx2:y<x:=HXY.out;generalize wr.drewN nq=w2 at *
     go_quiet (fail)
     go_wp2_with fail;go_ret;exact⟨qa1 HE.out.symm,below_drewN HBW2.out _⟩
 ·have hne:((((qaf D9 m).length:Nat):Int) != ((qaf D9 n).length:Nat))=true:=by simp;omega
  rcases Nat.lt_or_ge (qaf D9 m).length (qaf D9 n).length with h|h
  ·have HE:Hid (qex m n = -1):=hid (qda (by have:=qea qa3 h;omega))
   have hb:decide ((((qaf D9 m).length:Nat):Int)<((qaf D9 n).length:Nat))=true:=decide_eq_true (by omega);clear hlen hcellsa hcellsb hla hlb;go_enter Tryz.func187,Tryz.ntmps187;go_wp2;go_ret;exact⟨qa1 HE.out.symm,Below.refl _ _⟩
  ·have h':(qaf D9 n).length<(qaf D9 m).length:=by omega
   have HE:Hid (qex m n=1):=hid (qcl (by have:=qea qa3 h';omega));have hb:decide ((((qaf D9 m).length:Nat):Int)<((qaf D9 n).length:Nat))=false:=decide_eq_false (by omega);clear hlen hcellsa hcellsb hla hlb;go_enter Tryz.func187,Tryz.ntmps187;go_wp2;go_ret;exact⟨qa1 HE.out.symm,Below.refl _ _⟩
def zi(l:List Nat):List Int:=List.map (fun(d:Nat)=>(d:Int)) l
theorem qik(l:List Nat)(d:Nat):zi (l++[d])=zi l++[(d:Int)]:=by simp[zi]
theorem qjk{W:World}{base k:Nat}{v:Value}{l:List Nat}(h:W.ownsRow base 3 1 v k ((zi l).map (Value.int .i64)))(hl:l.length=k)(hd:∀d ∈ l,d<D9):Dgs W v l:=by
 refine⟨hd, ?_⟩;have h0:=h;rcases h.2 with⟨rfl,hk⟩|⟨g,cap,cur,rfl,_,hheap,hn,hm,hs,ht⟩
 ·exact⟨none,0,by rw[hl,hk],by omega,by decide,.inl (by omega)⟩
 ·refine⟨some ⟨g,0,none⟩,cap,by rw[hl],by omega,hm,.inr ⟨g,0,rfl,fun i hi => ?_⟩⟩
  rw[Nat.zero_add,h0.cellAt i (by omega),List.getElem?_map];unfold zi dv;rw[List.getElem?_map,List.getD_eq_getElem?_getD,List.getElem?_eq_getElem hi];rfl
theorem ql8{W:World}{base k:Nat}{e:TypeId}{n:Nat}{v:Value}{xs:List Value}(h:W.ownsRow base e n v k xs)(q:Nat):(W.drewN q).ownsRow base e n v k xs:=h
theorem qul(l:List Nat)(i:Nat)(h:l.length≤i):l.getD i 0=0:=by rw[List.getD_eq_getElem?_getD,List.getElem?_eq_none h];rfl
theorem qge{P:Nat→Prop}{l:List Nat}{d:Nat}(h:∀x ∈ l,P x)(hd:P d):∀x ∈ l++[d],P x:=by
 intro x hx;rw[List.mem_append] at hx;rcases hx with hx|hx
 ·exact h x hx
 ·simp at hx;subst hx;exact hd
theorem q9y{lo:List Nat}{s k cc x y a b a' b':Nat}(hlo:lo.length=k)(h:val D9 lo+D9^k*cc=a+b)(hs:s=x+y+cc)(ha:a'=a+D9^k*x)(hb:b'=b+D9^k*y):
  val D9 (lo++[s % 1000000000])+D9^(k+1)*(s/1000000000)=a'+b':=by
 rw[qd9,hlo,ha,hb];have e1:D9^(k+1)*(s/1000000000)=D9^k*(1000000000*(s/1000000000)):=by rw[Nat.pow_succ,qbp,Nat.mul_assoc]
 rw[e1];generalize D9^k=P at *;have e2:P*(s % 1000000000)+P*(1000000000*(s/1000000000))=P*s:=by rw[←Nat.mul_add,Nat.mod_add_div]
 have e3:P*s=P*x+P*y+P*cc:=by rw[hs,Nat.mul_add,Nat.mul_add]
 omega
theorem zcn(va vb:Value)(l r:List Nat)(w:World)(ha:Dgs w va l)(hb:Dgs w vb r)(hl:l.length≤1000)(hr:r.length≤1000):
  Calls Tryz.prog 186 #[va,vb] w fun e w'=>(∃v' l',e = .returned v'∧Dgs w' v' l'∧val D9 l'=val D9 l+val D9 r∧l'.length≤1001)∧Below w.heap.size w w':=by
 have HA:=hid ha;have HB:=hid hb;obtain⟨hla,pa,ca,rfl,hca1,hca2,_⟩:=ha;obtain⟨hlb,pb,cb,rfl,hcb1,hcb2,_⟩:=hb;unfold maxLen at hca2 hcb2;have HLA:=hid hla;have HLB:=hid hlb;clear hla hlb;obtain⟨M,hM⟩:∃M,M=max l.length r.length:=⟨_,rfl⟩;have hM1:l.length≤M∧r.length≤M∧M≤1000∧(M=l.length∨M=r.length):=by omega
 clear hM;go_enter Tryz.func186,Tryz.ntmps186;go_wp2_with fail
 go_loopw [5,6,7] (fun v c i wr=>∃k cc:Nat,∃lo:List Nat,k≤M+1∧i = .int .i64 k∧c = .int .i64 cc∧cc≤1∧(k≤M∨cc=0)∧Hid (lo.length=k)∧Hid (∀d ∈ lo,d<D9)∧Hid (val D9 lo+D9^k*cc=low D9 l k+low D9 r k)∧Hid (wr.ownsRow w.heap.size 3 1 v k ((zi lo).map (Value.int .i64)))∧Hid (Below w.heap.size w wr)) (fun _ _ i _=>M+1-(intOf i).toNat)
 case atStart=>exact⟨0,0,[],by omega,rfl,rfl,by omega,.inr rfl,hid rfl,hid (by simp),hid (by simp),hid (World.ownsRow_nil _ _ _ _),hid (Below.refl _ _)⟩
 case round=>
  obtain⟨k,cc,lo,hk,rfl,rfl,hcc,hkc,HLO,HLD,HV,HOWN,HBW⟩:=hrel;by_cases hc:k<l.length∨k<r.length∨0<cc
  ·obtain⟨x,hx⟩:∃x,x=l.getD k 0:=⟨_,rfl⟩
   obtain⟨y,hy⟩:∃y,y=r.getD k 0:=⟨_,rfl⟩;have hxb:=qao (b:=D9) (by decide) HLA.out k;have hyb:=qao (b:=D9) (by decide) HLB.out k;rw[←hx,qbp] at hxb;rw[←hy,qbp] at hyb;have HDA:=hid (fun W (hW:Below w.heap.size w W)=>q3m _ l k W (HA.out.later hW) (by omega));have HDB:=hid (fun W (hW:Below w.heap.size w W)=>q3m _ r k W (HB.out.later hW) (by omega));rw[←hx] at HDA;rw[←hy] at HDB;obtain⟨s,hs⟩:∃s:Nat,s=x+y+cc:=⟨_,rfl⟩;have hsi:(x:Int)+(y:Int)+(cc:Int)=(s:Int):=by omega
   have hsm:(s:Int).tmod 1000000000=((s % 1000000000:Nat):Int):=by rw[Int.tmod_eq_emod_of_nonneg (by omega)];omega
   have hsq:(s:Int)/1000000000=((s/1000000000:Nat):Int):=by omega
   have hk1:k≤M:=by omega
   have hkn:k+1≤M∨s/1000000000=0:=by
    rcases Nat.lt_or_ge k M with h|h
    ·exact .inl h
    ·refine .inr ?_
     have h1:=qul l k (by omega);have h2:=qul r k (by omega);omega
   have hsq1:s/1000000000≤1:=by omega
   have hsl:s<4000000000:=by omega
   have HLO2:Hid ((lo++[s % 1000000000]).length=k+1):=hid (by rw[List.length_append,HLO.out];rfl);have HLD2:Hid (∀d ∈ lo++[s % 1000000000],d<D9):=hid (qge HLD.out (by rw[qbp];omega));have HV2:Hid (val D9 (lo++[s % 1000000000])+D9^(k+1)*(s/1000000000)=low D9 l (k+1)+low D9 r (k+1)):=hid (q9y HLO.out HV.out hs (by rw[qap,hx]) (by rw[qap,hy]));have HZ:Hid (zi (lo++[s % 1000000000])=zi lo++[((s % 1000000000:Nat):Int)]):=hid (qik _ _);clear hx hy hs hxb hyb;generalize s % 1000000000=d at *;generalize s/1000000000=c' at *;rcases(show k<l.length∨¬k<l.length∧k<r.length∨¬k<l.length∧¬k<r.length∧0<cc by omega) with h|⟨h,h'⟩|⟨h,h',h''⟩
   all_goals
    clear hc;go_wp2_with fail;refine(HDA.out _ HBW.out).mono ?_;rintro e w1 ⟨rfl,rfl⟩;go_wp2_with fail;refine(HDB.out _ HBW.out).mono ?_;rintro e w1 ⟨rfl,rfl⟩;go_wp2_with (at_builtin;refine qh8 rfl _ _ rfl w _ w.heap.size k _ (zi lo) _ (by rfl) HOWN.out HBW.out (Nat.le_refl _) (by rfl) (by omega) ?_);rintro v' w2 hown' hbw';have HOWN2:Hid (w2.ownsRow w.heap.size 3 1 v' (k+1) ((zi (lo++[d])).map (Value.int .i64))):=hid (by rw[HZ.out,List.map_append];exact hown');have HBW2:=hid hbw';clear hown' hbw' HOWN HBW HDA HDB;go_wp2_with fail;go_roundw
    case rel=>exact⟨k+1,c',_,by omega,by go_num,rfl,hsq1,hkn,HLO2,HLD2,HV2,HOWN2,HBW2⟩
    case measure=>simp[intOf];omega
  ·have hc0:cc=0:=by omega
   have HRES:Hid (Dgs wr u5 lo∧val D9 lo=val D9 l+val D9 r∧lo.length≤1001):=hid (by
    have h1:=HV.out;rw[hc0,qa5 _ _ _ (by omega),qa5 _ _ _ (by omega)] at h1
    exact⟨qjk HOWN.out HLO.out HLD.out,by omega,by rw[HLO.out];omega⟩)
   have h1:¬k<l.length:=by omega
   have h2:¬k<r.length:=by omega
   have h3:¬0<cc:=by omega
   go_wp2_with fail;go_ret;exact⟨⟨_,_,rfl,HRES.out⟩,HBW.out⟩
theorem q3n{lo:List Nat}{d k bo bo' x y a b a' b':Nat}(hlo:lo.length=k)(h:a+D9^k*bo=val D9 lo+b)(hd:d+y+bo=x+1000000000*bo')(ha:a'=a+D9^k*x)(hb:b'=b+D9^k*y):
  a'+D9^(k+1)*bo'=val D9 (lo++[d])+b':=by
 rw[qd9,hlo,ha,hb];have e1:D9^(k+1)*bo'=D9^k*(1000000000*bo'):=by rw[Nat.pow_succ,qbp,Nat.mul_assoc]
 rw[e1];generalize D9^k=P at *;have e2:=congrArg (P * ·) hd;simp only[Nat.mul_add] at e2;omega
theorem q9z{lo:List Nat}{a b bo P:Nat}(h:a+P*bo=val D9 lo+b)(hlo:val D9 lo<P)(hb:bo≤1)(hba:b≤a):val D9 lo=a-b:=by
 rcases(show bo=0∨bo=1 by omega) with rfl|rfl
 ·omega
 ·omega
theorem zcl(va vb:Value)(m n:Nat)(w:World)(ha:DN w va m)(hb:DN w vb n)(hnm:n≤m)(hl:dl m≤1000):
  Calls Tryz.prog 188 #[va,vb] w fun e w'=>(∃v',e = .returned v'∧DN w' v' (m-n))∧Below w.heap.size w w':=by
 have hrl:(qaf D9 n).length≤(qaf D9 m).length:=qad qa3 hnm;have HA:Hid (Dgs w va (qaf D9 m)):=hid ha;have HB:Hid (Dgs w vb (qaf D9 n)):=hid hb;obtain⟨hla,pa,ca,rfl,hca1,hca2,hcellsa⟩:=ha;obtain⟨hlb,pb,cb,rfl,hcb1,hcb2,_⟩:=hb;unfold maxLen at hca2 hcb2;unfold dl at hl;have HVA:Hid (val D9 (qaf D9 m)=m):=hid (qah _ _ qa3);have HVB:Hid (val D9 (qaf D9 n)=n):=hid (qah _ _ qa3);have HLA:=hid hla;have HLB:=hid hlb;have HCA:=hid hcellsa;have HNM:=hid hnm;clear hla hlb hcellsa hnm;generalize qaf D9 m=l at *;generalize qaf D9 n=r at *;go_enter Tryz.func188,Tryz.ntmps188;go_wp2_with fail
 go_loopw [5,6,7] (fun v c i wr=>∃k bo:Nat,∃lo:List Nat,k≤l.length∧i = .int .i64 k∧c = .int .i64 bo∧bo≤1∧Hid (lo.length=k)∧Hid (∀d ∈ lo,d<D9)∧Hid (low D9 l k+D9^k*bo=val D9 lo+low D9 r k)∧Hid (wr.ownsRow w.heap.size 3 1 v k ((zi lo).map (Value.int .i64)))∧Hid (Below w.heap.size w wr)) (fun _ _ i _=>l.length-(intOf i).toNat)
 case atStart=>exact⟨0,0,[],by omega,rfl,rfl,by omega,hid rfl,hid (by simp),hid (by simp),hid (World.ownsRow_nil _ _ _ _),hid (Below.refl _ _)⟩
 case round=>
  obtain⟨k,bo,lo,hk,rfl,rfl,hbo,HLO,HLD,HV,HOWN,HBW⟩:=hrel;by_cases hc:k<l.length
  ·rcases HCA.out with h0|⟨b,o,rfl,hrow⟩
   ·omega
   have e0:=hrow k hc
   have hcell:wr.cell? ⟨b,o+k,none⟩=some (dv l k):=by
    rw[HBW.out.cell (p:=⟨b,o+k,none⟩) (World.block_lt_of_cell? w _ e0)];exact e0
   unfold dv at hcell;clear hrow e0;obtain⟨x,hx⟩:∃x,x=l.getD k 0:=⟨_,rfl⟩;obtain⟨y,hy⟩:∃y,y=r.getD k 0:=⟨_,rfl⟩;have hxb:=qao (b:=D9) (by decide) HLA.out k;have hyb:=qao (b:=D9) (by decide) HLB.out k;rw[←hx] at hcell;rw[←hx,qbp] at hxb;rw[←hy,qbp] at hyb;have HDB:=hid (fun W (hW:Below w.heap.size w W)=>q3m _ r k W (HB.out.later hW) (by omega));rw[←hy] at HDB;by_cases hs:x<y+bo
   ·obtain⟨d,hd⟩:∃d:Nat,d=x+1000000000-y-bo:=⟨_,rfl⟩
    have hdi:(x:Int)-(y:Int)-(bo:Int)+1000000000=(d:Int):=by omega
    have hsn:(x:Int)-(y:Int)-(bo:Int)<0:=by omega
    have HLO2:Hid ((lo++[d]).length=k+1):=hid (by rw[List.length_append,HLO.out];rfl);have HLD2:Hid (∀d' ∈ lo++[d],d'<D9):=hid (qge HLD.out (by rw[qbp];omega));have HV2:Hid (low D9 l (k+1)+D9^(k+1)*1=val D9 (lo++[d])+low D9 r (k+1)):=hid (q3n (x:=x) (y:=y) HLO.out HV.out (by omega) (by rw[qap,hx]) (by rw[qap,hy]));have HZ:Hid (zi (lo++[d])=zi lo++[(d:Int)]):=hid (qik _ _);have hdb:d<1000000000:=by omega
    clear hx hy hd hs;have HQ:=hid (fun q=>HDB.out (wr.drewN q) (below_drewN HBW.out q));go_wp2_with fail
    go_quiet ((go_at_call 210;exact Calls.quiet_of_same (HQ.out _)))
    clear HQ;have HBW1:=hid (below_drewN HBW.out nq);have HOWN1:=hid (ql8 HOWN.out nq);clear HBW HOWN;generalize wr.drewN nq=wr at *;have HBW:=HBW1;have HOWN:=HOWN1;clear HBW1 HOWN1;go_wp2_with (at_builtin;refine qh8 rfl _ _ rfl w _ w.heap.size k _ (zi lo) _ (by rfl) HOWN.out HBW.out (Nat.le_refl _) (by rfl) (by omega) ?_);rintro v' w2 hown' hbw';have HOWN2:Hid (w2.ownsRow w.heap.size 3 1 v' (k+1) ((zi (lo++[d])).map (Value.int .i64))):=hid (by rw[HZ.out,List.map_append];exact hown');have HBW2:=hid hbw';clear hown' hbw' HOWN HBW HDB;go_wp2_with fail;go_roundw
    case rel=>exact⟨k+1,1,_,by omega,by go_num,rfl,by omega,HLO2,HLD2,HV2,HOWN2,HBW2⟩
    case measure=>simp[intOf];omega
   ·obtain⟨d,hd⟩:∃d:Nat,d=x-y-bo:=⟨_,rfl⟩
    have hdi:(x:Int)-(y:Int)-(bo:Int)=(d:Int):=by omega
    have HLO2:Hid ((lo++[d]).length=k+1):=hid (by rw[List.length_append,HLO.out];rfl);have HLD2:Hid (∀d' ∈ lo++[d],d'<D9):=hid (qge HLD.out (by rw[qbp];omega));have HV2:Hid (low D9 l (k+1)+D9^(k+1)*0=val D9 (lo++[d])+low D9 r (k+1)):=hid (q3n (x:=x) (y:=y) HLO.out HV.out (by omega) (by rw[qap,hx]) (by rw[qap,hy]));have HZ:Hid (zi (lo++[d])=zi lo++[(d:Int)]):=hid (qik _ _);have hdb:d<1000000000:=by omega
    clear hx hy hd hs;have HQ:=hid (fun q=>HDB.out (wr.drewN q) (below_drewN HBW.out q));go_wp2_with fail
    go_quiet ((go_at_call 210;exact Calls.quiet_of_same (HQ.out _)))
    clear HQ;have HBW1:=hid (below_drewN HBW.out nq);have HOWN1:=hid (ql8 HOWN.out nq);clear HBW HOWN;generalize wr.drewN nq=wr at *;have HBW:=HBW1;have HOWN:=HOWN1;clear HBW1 HOWN1;go_wp2_with (at_builtin;refine qh8 rfl _ _ rfl w _ w.heap.size k _ (zi lo) _ (by rfl) HOWN.out HBW.out (Nat.le_refl _) (by rfl) (by omega) ?_);rintro v' w2 hown' hbw';have HOWN2:Hid (w2.ownsRow w.heap.size 3 1 v' (k+1) ((zi (lo++[d])).map (Value.int .i64))):=hid (by rw[HZ.out,List.map_append];exact hown');have HBW2:=hid hbw';clear hown' hbw' HOWN HBW HDB;go_wp2_with fail;go_roundw
    case rel=>exact⟨k+1,0,_,by omega,by go_num,rfl,by omega,HLO2,HLD2,HV2,HOWN2,HBW2⟩
    case measure=>simp[intOf];omega
  ·obtain rfl:k=l.length:=by omega
   have HRES:Hid (Dgs wr u5 lo∧val D9 lo=m-n):=hid (by
    have h1:=HV.out;rw[qa5 _ _ _ (Nat.le_refl _),qa5 _ _ _ hrl,HVA.out,HVB.out] at h1;have h2:=qi1 D9 lo HLD.out;rw[HLO.out] at h2
    exact⟨qjk HOWN.out HLO.out HLD.out,q9z h1 h2 hbo HNM.out⟩)
   have HT:=hid (q0n u5 lo wr HRES.out.1);rw[HRES.out.2] at HT;go_wp2_with fail;refine HT.out.mono ?_;rintro e w1 ⟨⟨v',rfl,hv⟩,rfl⟩;have HVV:=hid hv;clear hv;go_wp2_with fail;go_ret;exact⟨⟨_,rfl,HVV.out⟩,HBW.out⟩
theorem Own.setDig{w:World}{g:Nat}{l:List Nat}(h:Own w g l.length (dv l))(i:Nat)(hi:i<l.length)(x:Nat):Own (w.setCell ⟨g,i,none⟩ (.int .i64 (x:Nat))) g (l.set i x).length (dv (l.set i x)):=by
 rw[List.length_set];refine(h.set i hi (.int .i64 (x:Nat))).congr fun k hk => ?_;unfold dv;by_cases e:k=i
 ·subst e;rw[if_pos rfl];simp[hk]
 ·rw[if_neg e];simp[Ne.symm e]
theorem qwo{w:World}{g c:Nat}{l:List Nat}(h:Own w g l.length (dv l))(hl:∀d ∈ l,d<D9)(hn:l.length≤c)(hc:c≤maxLen):Dgs w (.slice (some ⟨g,0,none⟩) l.length c) l:=⟨hl,h.sliceAt hn hc⟩
theorem qp1(w:World)(n:Nat):Own (w.alloc (qed n)) w.heap.size (List.replicate n 0).length (dv (List.replicate n 0)):=by
 have h:=qyd w n;rw[List.length_replicate];refine h.congr fun i hi => ?_;unfold iv dv;simp[hi]
theorem q3o{x y p cc s:Nat}(hx:x<1000000000)(hy:y<1000000000)(hp:p<1000000000)(hc:cc<1000000000)(hs:s=p+x*y+cc):s/1000000000<1000000000:=by
 have h4:x*y≤999999999*999999999:=Nat.mul_le_mul (by omega) (by omega);omega
theorem zce(va vb:Value)(l r:List Nat)(w:World)(ha:Dgs w va l)(hb:Dgs w vb r)(hl:l.length≤1000)(hr:r.length≤1000):
  Calls Tryz.prog 189 #[va,vb] w fun e w'=>(∃v',e = .returned v'∧DN w' v' (val D9 l*val D9 r))∧Below w.heap.size w w':=by
 obtain⟨hla,pa,ca,rfl,hca1,hca2,hcellsa⟩:=ha;obtain⟨hlb,pb,cb,rfl,hcb1,hcb2,hcellsb⟩:=hb;unfold maxLen at hca2 hcb2;have HLA:=hid hla;have HLB:=hid hlb;have HCA:=hid hcellsa;have HCB:=hid hcellsb;have hmk:=fun w=>qji (l.length+r.length) (by omega) w;rw[Int.natCast_add] at hmk;clear hla hlb hcellsa hcellsb;have HLEN:Hid ((List.replicate (l.length+r.length) 0).length=l.length+r.length):=hid (by simp);have HB0:Hid (Below w.heap.size w (w.alloc (qed (l.length+r.length)))):=hid ((Below.refl _ _).alloc (Nat.le_refl _) _);have HO0:=hid (qp1 w (l.length+r.length));have HS0:=hid (qb5 (b:=D9) (by decide) (l.length+r.length));have HV0:Hid (low D9 (List.replicate (l.length+r.length) 0) (0+r.length)=low D9 l 0*val D9 r):=hid (by simp[low,qg2])
 have HZ0:Hid (∀i,0+r.length≤i→(List.replicate (l.length+r.length) 0).getD i 0=0):=hid (fun i _=>by
  rw[List.getD_eq_getElem?_getD,List.getElem?_replicate]
  split<;>rfl)
 generalize List.replicate (l.length+r.length) 0=s0 at *;go_enter Tryz.func189,Tryz.ntmps189;go_wp2_with fail
 go_loopw [6] (fun i wr=>∃k:Nat,∃s:List Nat,k≤l.length∧i = .int .i64 k∧Hid (s.length=l.length+r.length)∧Hid (∀d ∈ s,d<D9)∧Hid (Own wr w.heap.size s.length (dv s))∧Hid (low D9 s (k+r.length)=low D9 l k*val D9 r)∧Hid (∀i,k+r.length≤i→s.getD i 0=0)∧Hid (Below w.heap.size w wr)) (fun i _=>l.length-(intOf i).toNat)
 case atStart=>exact⟨0,s0,Nat.zero_le _,rfl,HLEN,HS0,HO0,HV0,HZ0,HB0⟩
 case round=>
  obtain⟨k,s,hk,rfl,HSL,HSB,HO,HS,HZ,HB⟩:=hrel;clear HLEN HS0 HO0 HV0 HZ0 HB0;by_cases hkl:k<l.length
  ·rcases HCA.out with h0|⟨ba,oa,rfl,hrowa⟩
   ·omega
   have HROWA:=hid hrowa;have hxl:=qao (b:=D9) (by decide) HLA.out k
   have HXC:Hid (∀W,Below w.heap.size w W→W.cell? ⟨ba,oa+k,none⟩=some (.int .i64 (l.getD k 0:Nat))):=hid fun W hW=>by
    have h1:=hrowa k hkl;rw[hW.cell (p:=⟨ba,oa+k,none⟩) (World.block_lt_of_cell? w _ h1)];exact h1
   have HSLK:=hid (qap D9 l k);generalize l.getD k 0=x at *;rw[qbp] at hxl;clear hrowa;go_wp2_with fail
   go_loopw [7,8] (fun c i wr=>∃j cc:Nat,∃s':List Nat,j≤r.length∧i = .int .i64 j∧c = .int .i64 cc∧cc<1000000000∧Hid (s'.length=l.length+r.length)∧Hid (∀d ∈ s',d<D9)∧Hid (Own wr w.heap.size s'.length (dv s'))∧Hid (low D9 s' (k+j)+(D9^k*D9^j)*cc=low D9 s (k+j)+D9^k*x*low D9 r j)∧Hid (∀i,k+j≤i→s'.getD i 0=s.getD i 0)∧Hid (Below w.heap.size w wr)) (fun _ i _=>r.length-(intOf i).toNat)
   case atStart=>exact⟨0,0,s,Nat.zero_le _,rfl,rfl,by omega,HSL,HSB,HO,hid (by simp),hid (fun _ _=>rfl),HB⟩
   case round=>
    obtain⟨j,cc,s',hj,rfl,rfl,hcc,HSL',HSB',HO',HREL,HSAME,HB'⟩:=hrel;by_cases hjr:j<r.length
    ·rcases HCB.out with h0|⟨bb,ob,rfl,hrowb⟩
     ·omega
     have hkj:k+j<s'.length:=by rw[HSL'.out];omega
     have hyc:wr.cell? ⟨bb,ob+j,none⟩=some (dv r j):=by
      have h1:=hrowb j hjr;rw[HB'.out.cell (p:=⟨bb,ob+j,none⟩) (World.block_lt_of_cell? w _ h1)];exact h1
     unfold dv at hyc;have hxc:=HXC.out wr HB'.out;obtain⟨hg,hfz⟩:=HO'.out.2 (k+j) hkj;unfold dv at hg;have hyl:=qao (b:=D9) (by decide) HLB.out j;have hpl:=qao (b:=D9) (by decide) HSB'.out (k+j);have hsame:=HSAME.out (k+j) (Nat.le_refl _);have hsl0:=qap D9 s (k+j);have hslr:=qap D9 r j;rw[hsame] at hg hpl;rw[qbp] at hyl hpl;have HOset:Hid (∀v:Nat,Own (wr.setCell ⟨w.heap.size,k+j,none⟩ (.int .i64 (v:Nat))) w.heap.size (s'.set (k+j) v).length (dv (s'.set (k+j) v))):=hid fun v=>HO'.out.setDig (k+j) hkj v
     have HSAME2:Hid (∀v i,k+(j+1)≤i→(s'.set (k+j) v).getD i 0=s.getD i 0):=hid fun v i hi=>by
      rw[qar _ _ _ _ (by omega)];exact HSAME.out i (by omega)
     have hset:=fun v=>qbq D9 s' (k+j) v hkj;generalize r.getD j 0=y at *;generalize s.getD (k+j) 0=p at *;obtain⟨q,hq⟩:∃q:Nat,q=p+x*y+cc:=⟨_,rfl⟩;have hxy0:0≤(x:Int)*(y:Int):=by rw[←Int.natCast_mul];omega
     have hxyn:x*y≤999999999*999999999:=Nat.mul_le_mul (by omega) (by omega);have hxy1:(x:Int)*(y:Int)≤999999998000000001:=by rw[←Int.natCast_mul];omega
     have hqi:(p:Int)+(x:Int)*(y:Int)+(cc:Int)=(q:Int):=by rw[←Int.natCast_mul];omega
     have hqm:(q:Int).tmod 1000000000=((q % 1000000000:Nat):Int):=by rw[Int.tmod_eq_emod_of_nonneg (by omega)];omega
     have hqd:(q:Int)/1000000000=((q/1000000000:Nat):Int):=by omega
     have hc2:=q3o hxl hyl hpl hcc hq;have hqb:q<9223372036854775807:=by omega
     have HREL2:Hid (low D9 (s'.set (k+j) (q % 1000000000)) (k+(j+1))+(D9^k*D9^(j+1))*(q/1000000000)=low D9 s (k+(j+1))+D9^k*x*low D9 r (j+1)):=by
      refine hid ?_;rw[←Nat.add_assoc,hset,hsl0,hslr,Nat.pow_succ,←Nat.mul_assoc (D9^k)];exact qxs (p:=p) (y:=y) (sum:=q % 1000000000) HREL.out (by rw[qbp,Nat.mul_comm y x];omega) (by rw[Nat.pow_add]) (by rw[Nat.pow_add]) rfl
     have hm9:q % 1000000000<1000000000:=Nat.mod_lt _ (by omega);have HSET:Hid (∀d ∈ s'.set (k+j) (q % 1000000000),d<D9):=hid (qcs HSB'.out _ _ (by rw[qbp];exact hm9));have HLEN2:Hid ((s'.set (k+j) (q % 1000000000)).length=l.length+r.length):=hid (by rw[List.length_set];exact HSL'.out);have HB2:Hid (Below w.heap.size w (wr.setCell ⟨w.heap.size,k+j,none⟩ (.int .i64 ((q % 1000000000:Nat):Int)))):=hid (HB'.out.setCell (Nat.le_refl _) _);have hkj2:k+j<l.length+r.length:=by omega
     have HW:=hid (HOset.out (q % 1000000000));have HWS:=hid (HSAME2.out (q % 1000000000));clear hset hsl0 hslr hsame hyl hpl hrowb HREL HSAME HSL' HSB' HO' HB' hkj hq hxyn HOset HSAME2;generalize q % 1000000000=d at *;generalize q/1000000000=c' at *;go_wp2_with fail
     go_quiet (fail)
     go_wp2_with fail;go_roundw
     case rel=>exact⟨j+1,c',_,by omega,by go_num,rfl,hc2,HLEN2,HSET,hid (HW.out.later (below_drewN (Below.refl _ _) nq)),HREL2,HWS,hid (below_drewN HB2.out nq)⟩
     case measure=>simp[intOf];omega
    ·obtain rfl:j=r.length:=by omega
     have hkj:k+r.length<s'.length:=by rw[HSL'.out];omega
     obtain⟨hg,hfz⟩:=HO'.out.2 (k+r.length) hkj;unfold dv at hg;have hp0:s'.getD (k+r.length) 0=0:=by rw[HSAME.out _ (Nat.le_refl _),HZ.out _ (Nat.le_refl _)]
     have HOset:=hid (HO'.out.setDig (k+r.length) hkj cc)
     have HREL2:Hid (low D9 (s'.set (k+r.length) cc) (k+1+r.length)=low D9 l (k+1)*val D9 r):=by
      refine hid ?_;have h1:=HREL.out;rw[HS.out,qa5 D9 r r.length (Nat.le_refl _)] at h1;rw[show k+1+r.length=k+r.length+1 by omega,qbq D9 s' _ cc hkj,HSLK.out,Nat.add_mul,Nat.pow_add];exact h1
     have HSET:Hid (∀d ∈ s'.set (k+r.length) cc,d<D9):=hid (qcs HSB'.out _ _ (by rw[qbp];exact hcc));have HLEN2:Hid ((s'.set (k+r.length) cc).length=l.length+r.length):=hid (by rw[List.length_set];exact HSL'.out)
     have HZ2:Hid (∀i,k+1+r.length≤i→(s'.set (k+r.length) cc).getD i 0=0):=hid fun i hi=>by
      rw[qar _ _ _ _ (by omega),HSAME.out _ (by omega),HZ.out _ (by omega)]
     have HB2:Hid (Below w.heap.size w (wr.setCell ⟨w.heap.size,k+r.length,none⟩ (.int .i64 (cc:Int)))):=hid (HB'.out.setCell (Nat.le_refl _) _);have hkj2:k+r.length<l.length+r.length:=by omega
     clear HSL' HSB' HO' HSAME HREL HS HZ HSL HSB HO hkj;generalize s'.getD (k+r.length) 0=p at *;have hpc:(p:Int)+(cc:Int)=(cc:Int):=by omega
     clear hp0;go_wp2_with fail;go_roundw
     case rel=>exact⟨k+1,_,by omega,by go_num,HLEN2,HSET,HOset,HREL2,HZ2,HB2⟩
     case measure=>simp[intOf];omega
  ·obtain rfl:k=l.length:=by omega
   have HRES:Hid (Dgs wr (.slice (some ⟨w.heap.size,0,none⟩) (l.length+r.length) (l.length+r.length)) s∧val D9 s=val D9 l*val D9 r):=hid (by
    have h1:=HS.out;rw[qa5 D9 l l.length (Nat.le_refl _),qa5 D9 s _ (by rw[HSL.out];omega)] at h1;have h2:=qwo HO.out HSB.out (Nat.le_refl _) (by rw[HSL.out];unfold maxLen;omega);rw[HSL.out] at h2
    exact⟨h2,h1⟩)
   have HT:=hid (q0n _ s wr HRES.out.1);rw[HRES.out.2] at HT;go_wp2_with fail;refine HT.out.mono ?_;rintro e w1 ⟨⟨v',rfl,hv⟩,rfl⟩;have HVV:=hid hv;clear hv;go_wp2_with fail;go_ret;exact⟨⟨_,rfl,HVV.out⟩,HB.out⟩
theorem q0o{b H Hq rest x q r hs:Nat}(hb:0<b)(h1:H/b=Hq)(h2:H % b=rest)(hq:q=(rest*D9+x)/b)(hr:r=(rest*D9+x) % b)(hhs:hs=q+D9*Hq):
  (x+D9*H)/b=hs∧(x+D9*H) % b=r:=by
 have e:x+D9*H=(rest*D9+x)+b*(D9*Hq):=by
  have:=Nat.div_add_mod H b;rw[h1,h2] at this;rw[←this,Nat.mul_add,←Nat.mul_assoc b D9,Nat.mul_comm b D9,Nat.mul_assoc D9 b,Nat.mul_comm rest];omega
 rw[e,Nat.add_mul_div_left _ _ hb,Nat.add_mul_mod_self_left,hhs,hq,hr];exact⟨rfl,rfl⟩
theorem qum(l:List Nat)(k v:Nat)(hk:k<l.length):qa7 D9 (l.set k v) k=v+D9*qa7 D9 l (k+1):=by
 rw[qbj]
 congr 1
 ·simp[hk]
 ·congr 1
  unfold qa7;rw[List.drop_set_of_lt (by omega)]
theorem qun(v:Value)(l:List Nat)(d:Nat)(w:World)(h:Dgs w v l)(hl:l.length≤3000)(hd:0<d)(hd9:d<1000000000):
  Calls Tryz.prog 207 #[v,.int .i64 d] w fun e w'=>(∃v',e = .returned (.tuple #[v',.int .i64 (val D9 l % d:Nat)])∧DN w' v' (val D9 l/d))∧Below w.heap.size w w':=by
 obtain⟨hla,pa,ca,rfl,hca1,hca2,hcellsa⟩:=h;unfold maxLen at hca2;have HLA:=hid hla;have HCA:=hid hcellsa;have hmk:=fun w=>qji l.length (by omega) w;clear hla hcellsa;have hd0:((d:Int)==0)=false:=beq_eq_false_iff_ne.2 (by omega);have HLEN:Hid ((List.replicate l.length 0).length=l.length):=hid (by simp);have HB0:Hid (Below w.heap.size w (w.alloc (qed l.length))):=hid ((Below.refl _ _).alloc (Nat.le_refl _) _);have HO0:=hid (qp1 w l.length);have HS0:=hid (qb5 (b:=D9) (by decide) l.length);have HV0:Hid (qa7 D9 l l.length/d=qa7 D9 (List.replicate l.length 0) l.length):=hid (by rw[qdc _ _ _ (Nat.le_refl _),qdc _ _ _ (by simp),Nat.zero_div]);have HR0:Hid (qa7 D9 l l.length % d=0):=hid (by rw[qdc _ _ _ (Nat.le_refl _),Nat.zero_mod]);generalize List.replicate l.length 0=s0 at *;go_enter Tryz.func207,Tryz.ntmps207;go_wp2_with fail
 go_loopw [7,8] (fun r i wr=>∃k rest:Nat,∃s:List Nat,k≤l.length∧i = .int .i64 ((k:Int)-1)∧r = .int .i64 rest∧rest<d∧Hid (s.length=l.length)∧Hid (∀d ∈ s,d<D9)∧Hid (Own wr w.heap.size s.length (dv s))∧Hid (qa7 D9 l k/d=qa7 D9 s k)∧Hid (qa7 D9 l k % d=rest)∧Hid (Below w.heap.size w wr)) (fun _ i _=>(intOf i+1).toNat)
 case atStart=>exact⟨l.length,0,s0,Nat.le_refl _,rfl,rfl,hd,HLEN,HS0,HO0,HV0,HR0,HB0⟩
 case round=>
  obtain⟨k,rest,s,hk,rfl,rfl,hrest,HSL,HSB,HO,HQ,HR,HB⟩:=hrel;clear HLEN HS0 HO0 HV0 HR0 HB0;rcases k with _|k
  ·have HRES:Hid (Dgs wr (.slice (some ⟨w.heap.size,0,none⟩) l.length l.length) s∧val D9 s=val D9 l/d∧rest=val D9 l % d):=hid (by
    have h1:=HQ.out;have h3:=HR.out;rw[high_zero,high_zero] at h1;rw[high_zero] at h3;have h2:=qwo HO.out HSB.out (Nat.le_refl _) (by rw[HSL.out];unfold maxLen;omega);rw[HSL.out] at h2
    exact⟨h2,h1.symm,h3.symm⟩)
   have HT:=hid (q0n _ s wr HRES.out.1);rw[HRES.out.2.1] at HT;go_wp2_with fail;refine HT.out.mono ?_;rintro e w1 ⟨⟨v',rfl,hv⟩,rfl⟩;have HVV:=hid hv;clear hv;go_wp2_with fail;go_ret2;exact⟨⟨_,by rw[HRES.out.2.2];rfl,HVV.out⟩,HB.out⟩
  ·rcases HCA.out with h0|⟨b,o,rfl,hrow⟩
   ·omega
   have e0:=hrow k hk
   have hcell:wr.cell? ⟨b,o+k,none⟩=some (dv l k):=by
    rw[HB.out.cell (p:=⟨b,o+k,none⟩) (World.block_lt_of_cell? w _ e0)];exact e0
   unfold dv at hcell;have hx:=qao (b:=D9) (by decide) HLA.out k;have HHP:=hid (qbj D9 l k);have hks:k<s.length:=by rw[HSL.out];omega
   obtain⟨hg,hfz⟩:=HO.out.2 k hks;unfold dv at hg;clear hrow e0;generalize l.getD k 0=x at *;rw[qbp] at hx;obtain⟨q,hq⟩:∃q:Nat,q=rest*1000000000+x:=⟨_,rfl⟩;have hqi:(rest:Int)*1000000000+(x:Int)=(q:Int):=by omega
   have hqb:q<1000000000000000000:=by omega
   have hqd1:(q:Int)/(d:Int)=((q/d:Nat):Int):=(Int.natCast_ediv q d).symm;have hqd2:(q:Int).tdiv (d:Int)=((q/d:Nat):Int):=by rw[Int.tdiv_eq_ediv_of_nonneg (by omega)];exact hqd1
   have hqm1:(q:Int) % (d:Int)=((q % d:Nat):Int):=(Int.natCast_emod q d).symm;have hqm2:(q:Int).tmod (d:Int)=((q % d:Nat):Int):=by rw[Int.tmod_eq_emod_of_nonneg (by omega)];exact hqm1
   have hq9:q/d<1000000000:=by
    rw[Nat.div_lt_iff_lt_mul hd];have:=Nat.mul_le_mul_right 1000000000 (show rest+1≤d by omega);omega
   have hr9:q % d<d:=Nat.mod_lt _ hd;have HOset:=hid (HO.out.setDig k hks (q/d));have HST:Hid ((x+D9*qa7 D9 l (k+1))/d=qa7 D9 (s.set k (q/d)) k∧(x+D9*qa7 D9 l (k+1)) % d=q % d):=hid (q0o hd HQ.out HR.out (by rw[hq,qbp]) (by rw[hq,qbp]) (qum s k _ hks));have HSET:Hid (∀d' ∈ s.set k (q/d),d'<D9):=hid (qcs HSB.out _ _ (by rw[qbp];exact hq9));have HLEN2:Hid ((s.set k (q/d)).length=l.length):=hid (by rw[List.length_set];exact HSL.out);have HB2:Hid (Below w.heap.size w (wr.setCell ⟨w.heap.size,k,none⟩ (.int .i64 ((q/d:Nat):Int)))):=hid (HB.out.setCell (Nat.le_refl _) _);have hk1:((k+1:Nat):Int)-1=(k:Int):=by omega
   simp only[hk1];clear HSL HSB HO HQ HR HB hq hks hk1;generalize q/d=t at *;generalize q % d=r at *;go_wp2_with fail;go_roundw
   case rel=>exact⟨k,r,_,by omega,by go_num,rfl,hr9,HLEN2,HSET,HOset,hid (by rw[HHP.out];exact HST.out.1),hid (by rw[HHP.out];exact HST.out.2),HB2⟩
   case measure=>simp[intOf]
theorem qwp(w:World)(r:Nat)(hr:r<1000000000):Dgs (w.alloc (.cells #[.int .i64 (r:Int)] 3)) (.slice (some ⟨w.heap.size,0,none⟩) 1 1) [r]:=by
 refine⟨fun d hd=>by simp at hd;rw[qbp];omega,some ⟨w.heap.size,0,none⟩,1,rfl,by simp,by decide,.inr ⟨w.heap.size,0,rfl,fun i hi => ?_⟩⟩;obtain rfl:i=0:=by simp at hi;omega
 rw[World.cell?_alloc_at _ _ _ _ rfl];rfl
theorem qdo{n:Nat}(h:0<n)(h9:n<D9):qaf D9 n=[n]:=by
 rw[qf5 _ _ qa3 h,Nat.mod_eq_of_lt h9,Nat.div_eq_of_lt h9,qam]
theorem ql9{n:Nat}(h:dl n=1):0<n∧n<1000000000:=by
 unfold dl at h;constructor
 ·rcases Nat.eq_zero_or_pos n with e|e
  ·rw[e,qam] at h;simp at h
  ·exact e
 ·have:=qb8 D9 n qa3
  rw[h,qbp] at this;omega
theorem q90(w:World):DN w (.slice none 0 0) 0:=by
 unfold DN;rw[qam];exact⟨by simp,none,0,rfl,by simp,by decide,.inl rfl⟩
theorem qqw(va vb:Value)(m n:Nat)(w:World)(ha:DN w va m)(hb:DN w vb n)(hmn:m<n∨dl n=1)(hl:dl m≤3000):
  Calls Tryz.prog 177 #[va,vb] w fun e w'=>(∃vq vr,e = .returned (.tuple #[vq,vr])∧DN w' vq (m/n)∧DN w' vr (m % n))∧Below w.heap.size w w':=by
 have HA:=hid ha;have HB:=hid hb;have HC:=hid (qsn va vb m n w ha hb);by_cases hlt:m<n
 ·have hc:qex m n = -1:=qda (by omega)
  rw[hc] at HC;have HQ:Hid (m/n=0∧m % n=m):=hid ⟨Nat.div_eq_of_lt hlt,Nat.mod_eq_of_lt hlt⟩;clear ha hb hmn hlt hc;go_enter Tryz.func177,Tryz.ntmps177;go_wp2_with fail;refine HC.out.mono ?_;rintro e w1 ⟨rfl,hb1⟩;have HB1:=hid hb1;clear hb1 HC;go_wp2_with fail;go_ret2;exact⟨⟨_,_,rfl,by rw[HQ.out.1];exact q90 _,by rw[HQ.out.2];exact HA.out.later HB1.out⟩,HB1.out⟩
 ·have hn1:dl n=1:=by omega
  obtain⟨hn0,hn9⟩:=ql9 hn1;obtain⟨c,hc⟩:∃c,qex m n=c:=⟨_,rfl⟩
  have hcge:¬c<0:=by
   rcases(show m=n∨n<m by omega) with h|h
   ·have:=qet (x:=(m:Int)) (y:=n) (by omega);unfold qex at hc;omega
   ·have:=qcl (x:=(m:Int)) (y:=n) (by omega);unfold qex at hc;omega
  rw[hc] at HC;have hdn:=qdo hn0 (by rw[qbp];exact hn9);have hB:Dgs w vb [n]:=by unfold DN at hb;rw[hdn] at hb;exact hb
  obtain⟨_,pb,cb,rfl,hcb1,hcb2,hcells⟩:=hB;rcases hcells with h0|⟨b,o,rfl,hrow⟩
  ·simp at h0
  have e0:=hrow 0 (by simp)
  have HE0:Hid (w.cell? ⟨b,o,none⟩=some (.int .i64 (n:Nat))):=hid (by
   have:=e0;unfold dv at this;simpa using this)
  have HD:=hid (fun W (hW:Below w.heap.size w W)=>qun va (qaf D9 m) n W (HA.out.later hW) hl hn0 hn9);rw[qah _ _ qa3] at HD;have hr9:m % n<1000000000:=Nat.lt_trans (Nat.mod_lt _ hn0) hn9;simp only[List.length_cons,List.length_nil,Nat.zero_add] at *
  have HT:Hid (∀W:World,Calls Tryz.prog 208 #[.slice (some ⟨W.heap.size,0,none⟩) 1 1] (W.alloc (.cells #[.int .i64 ((m % n:Nat):Int)] 3)) fun e w'=>(∃v',e = .returned v'∧DN (W.alloc (.cells #[.int .i64 ((m % n:Nat):Int)] 3)) v' (m % n))∧W.alloc (.cells #[.int .i64 ((m % n:Nat):Int)] 3)=w'):=hid (fun W=>by
   have h1:=q0n _ [m % n] _ (qwp W _ hr9);have h2:val D9 [m % n]=m % n:=by simp[val]
   rw[h2] at h1
   exact h1)
  clear hb hmn hlt hc hdn hrow e0 hn1 hl ha;generalize m % n=r at *;go_enter Tryz.func177,Tryz.ntmps177;go_wp2_with fail;refine HC.out.mono ?_;rintro e w1 ⟨rfl,hb1⟩;have HB1:=hid hb1
  have hcell:w1.cell? ⟨b,o,none⟩=some (.int .i64 (n:Nat)):=by
   rw[HB1.out.cell (p:=⟨b,o,none⟩) (World.block_lt_of_cell? w _ HE0.out)];exact HE0.out
  clear hb1 HC HE0;go_wp2_with fail;refine(HD.out w1 HB1.out).mono ?_;rintro e w2 ⟨⟨vq,rfl,hq⟩,hb2⟩;have HQ:=hid hq;have HB2:Hid (Below w.heap.size w w2):=hid (HB1.out.trans (hb2.mono HB1.out.size));clear hq hb2 HD HB1 hcell;go_wp2_with fail;refine(HT.out w2).mono ?_;rintro e w3 ⟨⟨vr,rfl,hr⟩,rfl⟩;have HR:=hid hr;clear hr;go_wp2_with fail;go_ret2;have hal:Below w.heap.size w (w2.alloc (.cells #[.int .i64 (r:Int)] 3)):=HB2.out.alloc HB2.out.size _;exact⟨⟨_,_,rfl,HQ.out.later ((Below.refl _ _).alloc (Nat.le_refl _) _),HR.out⟩,hal⟩
def sg(R:List Nat)(o n:Nat):Nat:=low D9 (R.drop o) n
theorem qwq(R:List Nat)(o:Nat):sg R o 0=0:=by simp[sg]
theorem qhi(R:List Nat)(o n:Nat):sg R o (n+1)=sg R o n+D9^n*R.getD (o+n) 0:=by
 unfold sg;rw[qap];simp
theorem q3p(R:List Nat)(o n i x:Nat)(h:o+n≤i):sg (R.set i x) o n=sg R o n:=by
 induction n with
 | zero=>simp[sg]
 | succ n ih=>rw[qhi,qhi,ih (by omega),qar _ _ _ _ (by omega)]
theorem qil(R:List Nat)(o n x:Nat)(h:o+n<R.length):sg (R.set (o+n) x) o (n+1)=sg R o n+D9^n*x:=by
 rw[qhi,q3p _ _ _ _ _ (Nat.le_refl _),qcc _ _ _ h]
theorem q91(R:List Nat)(o n:Nat)(h:∀d ∈ R,d<D9):sg R o n<D9^n:=qnk _ _ _ (by decide) (fun d hd=>h d (List.mem_of_mem_drop hd))
theorem qwr(R:List Nat)(j n:Nat):qa7 D9 R j=sg R j n+D9^n*qa7 D9 R (j+n):=by
 induction n with
 | zero=>simp[qwq]
 | succ n ih=>
  rw[ih,qhi,qbj D9 R (j+n),Nat.pow_succ,Nat.mul_add,Nat.mul_assoc,←Nat.add_assoc j n 1];omega
theorem za9(w:World)(a b:Nat):(w.drewN a).drewN b=w.drewN (a+b):=by simp[World.drewN,Nat.add_assoc]
theorem qws{B p W u3 r Wl Y d1 d2 Yl q T:Nat}(hp:0<p)(hB:0<B)(hW:W=Wl+p*(u3+B*T))(hY:Y=Yl+p*(d2+B*d1))(hYl:Yl<p)(hinv:q*d1+r=T)(ht:q*d2≤r*B+u3)(hqB:q≤B)(hd1:0<d1):q≤W/Y+1:=by
 have hBd:=Nat.mul_pos hB hd1;have hpd:=Nat.mul_pos hp (show 0<d2+B*d1 by omega);have hY0:0<Y:=by omega
 rcases q with _|k
 ·exact Nat.zero_le _
 ·have h1:k*Y≤W:=by
   have a1:(k+1)*Yl≤(k+1)*p:=Nat.mul_le_mul_left _ (by omega);have a2:(k+1)*p≤B*p:=Nat.mul_le_mul_right _ hqB
   have a3:B*p≤p*(d2+B*d1):=by
    rw[Nat.mul_comm B p];refine Nat.mul_le_mul_left _ ?_;have:B*1≤B*d1:=Nat.mul_le_mul_left _ hd1;omega
   have a4:(k+1)*(p*(d2+B*d1))=p*((k+1)*d2+B*((k+1)*d1)):=by grind
   have a5:p*((k+1)*d2+B*((k+1)*d1))≤p*(u3+B*T):=by
    refine Nat.mul_le_mul_left _ ?_;rw[←hinv,Nat.mul_add,Nat.mul_comm B r];omega
   have a6:(k+1)*Y=k*Y+Y:=Nat.succ_mul _ _;have a7:(k+1)*Y=(k+1)*Yl+(k+1)*(p*(d2+B*d1)):=by rw[hY,Nat.mul_add]
   omega
  have:=(Nat.le_div_iff_mul_le hY0).2 h1;omega
theorem q3q{B p W u1 u2 u3 Wl Y d1 d2 Yl:Nat}(hW:W=Wl+p*(u3+B*(u1*B+u2)))(hY:Y=Yl+p*(d2+B*d1))(hYl:Yl<p)(hd2:d2<B)(hWY:W<B*Y):u1≤d1:=by
 rcases Nat.lt_or_ge d1 u1 with h|h
 ·exfalso
  have a1:Y≤p*(B*(d1+1)):=by
   have:p*(d2+B*d1+1)≤p*(B*(d1+1)):=Nat.mul_le_mul_left _ (by rw[Nat.mul_add];omega);rw[Nat.mul_add] at this;omega
  have a2:B*Y≤B*(p*(B*(d1+1))):=Nat.mul_le_mul_left _ a1;have a3:B*(p*(B*(d1+1)))≤B*(p*(B*u1)):=Nat.mul_le_mul_left _ (Nat.mul_le_mul_left _ (Nat.mul_le_mul_left _ h));have a4:B*(p*(B*u1))=p*(B*(u1*B)):=by grind
  have a5:p*(B*(u1*B))≤p*(u3+B*(u1*B+u2)):=Nat.mul_le_mul_left _ (by rw[Nat.mul_add];omega);omega
 ·exact h
theorem q67{B u1 u2 d1 q r:Nat}(hinv:q*d1+r=u1*B+u2)(h1:u1≤d1)(h2:u2<B)(hr:B≤r):q<B:=by
 have a1:u1*B≤d1*B:=Nat.mul_le_mul_right _ h1;have a2:q*d1<B*d1:=by rw[Nat.mul_comm B d1];omega
 exact Nat.lt_of_mul_lt_mul_right a2
theorem zba{p W t Wlow Dv dh Dl Q:Nat}(hW:W=Wlow+p*t)(hWl:Wlow<p)(hD:Dv=Dl+p*dh)(hdh:0<dh)(hQ:Q*Dv≤W):Q≤t/dh:=by
 rw[Nat.le_div_iff_mul_le hdh];have h1:Q*(p*dh)≤Q*Dv:=Nat.mul_le_mul_left _ (by omega)
 have h2:p*(Q*dh)<p*(t+1):=by
  rw[Nat.mul_add,Nat.mul_one];have:Q*(p*dh)=p*(Q*dh):=by grind
  omega
 have:=Nat.lt_of_mul_lt_mul_left h2;omega
theorem q68{B p W t w2 r Wlow Dv dh d2 Dl Q word:Nat}(hW:W=Wlow+p*(w2+B*t))(hWl:Wlow<p)(hD:Dv=Dl+p*(d2+B*dh))(hQ:Q*Dv≤W)(hQw:Q≤word)(hinv:word*dh+r=t)
  (h:r*B+w2<word*d2):Q≤word-1∧1≤word:=by
 have h1:1≤word:=by
  rcases Nat.eq_zero_or_pos word with e|e
  ·rw[e,Nat.zero_mul] at h;omega
  ·exact e
 refine⟨?_,h1⟩;rcases Nat.lt_or_ge Q word with h2|h2
 ·omega
 ·exfalso
  have e:Q=word:=Nat.le_antisymm hQw h2;subst e;have h3:Q*(p*(d2+B*dh))≤Q*Dv:=Nat.mul_le_mul_left _ (by omega)
  have h4:w2+B*t+1≤Q*(d2+B*dh):=by
   rw[←hinv,Nat.mul_add,Nat.mul_add,show Q*(B*dh)=B*(Q*dh) from by grind,show r*B=B*r from Nat.mul_comm _ _] at *;omega
  have h5:p*(w2+B*t+1)≤Q*(p*(d2+B*dh)):=by
   rw[show Q*(p*(d2+B*dh))=p*(Q*(d2+B*dh)) from by grind];exact Nat.mul_le_mul_left _ h4
  rw[Nat.mul_add p (w2+B*t) 1] at h5;omega
theorem qwt(bu ou cu U bv ov cv n j p1 p2 p3 n1 n2:Nat)(u1 u2 u3 d1 d2 Q T:Nat)(w:World)
  (_hU:U≤4000) (hn:n≤4000) (hcu:U≤cu∧cu≤9223372036854775807) (_hcv:n≤cv∧cv≤9223372036854775807) (hp:p1=j+n) (hp2:p1=p2+1) (hp3:p1=p3+2) (hn1:n=n1+1) (hn2:n=n2+2) (hj:p1<U)
  (c1:w.cell? ⟨bu,ou+p1,none⟩=some (.int .i64 u1)) (c2:w.cell? ⟨bu,ou+p2,none⟩=some (.int .i64 u2)) (c3:w.cell? ⟨bu,ou+p3,none⟩=some (.int .i64 u3))
  (c4:w.cell? ⟨bv,ov+n1,none⟩=some (.int .i64 d1)) (c5:w.cell? ⟨bv,ov+n2,none⟩=some (.int .i64 d2))
  (b1:u1<1000000000) (b2:u2<1000000000) (b3:u3<1000000000) (b4:d1<1000000000) (b5:d2<1000000000) (h0:0<d1) (hT:T=u1*1000000000+u2)
  (HQB:Hid (Q<D9)) (HFIRST:Hid (Q≤T/d1)) (HNEXT:Hid (∀q r,Q≤q→q*d1+r=T→r*D9+u3<q*d2→Q≤q-1∧1≤q))
  (HLT:Hid (∀q r,q*d1+r=T→D9≤r→q<D9)) (HTIGHT:Hid (∀q r,q<D9→q*d1+r=T→q*d2≤r*D9+u3→q≤Q+1)):
  Calls Tryz.prog 209 #[.slice (some ⟨bu,ou,none⟩) U cu,.slice (some ⟨bv,ov,none⟩) n cv,.int .i64 j] w fun e w'=>
   (∃q:Nat,e = .returned (.int .i64 q)∧q<D9∧Q≤q∧q≤Q+1)∧∃k,w'=w.drewN k:=by
 have e1:(j:Int)+(n:Int)=(p1:Int):=by omega
 have e2:(p1:Int)-1=(p2:Int):=by omega
 have e3:(p1:Int)-2=(p3:Int):=by omega
 have e4:(n:Int)-1=(n1:Int):=by omega
 have e5:(n:Int)-2=(n2:Int):=by omega
 have hTi:(u1:Int)*1000000000+(u2:Int)=(T:Int):=by omega
 have hTb:T<1000000000000000000:=by omega
 have hd0:((d1:Int)==0)=false:=beq_eq_false_iff_ne.2 (by omega);have t1:(T:Int)/(d1:Int)=((T/d1:Nat):Int):=(Int.natCast_ediv T d1).symm;have t2:(T:Int).tdiv (d1:Int)=((T/d1:Nat):Int):=by rw[Int.tdiv_eq_ediv_of_nonneg (by omega)];exact t1
 have t3:(T:Int) % (d1:Int)=((T % d1:Nat):Int):=(Int.natCast_emod T d1).symm;have t4:(T:Int).tmod (d1:Int)=((T % d1:Nat):Int):=by rw[Int.tmod_eq_emod_of_nonneg (by omega)];exact t3
 have HI:Hid (T/d1*d1+T % d1=T):=hid (by rw[Nat.mul_comm];exact Nat.div_add_mod _ _);have hr0:T % d1<1000000000:=Nat.lt_trans (Nat.mod_lt _ h0) b4;have hq0:T/d1≤T:=Nat.div_le_self _ _;generalize T/d1=q0 at *;generalize T % d1=r0 at *;have hj2:p2<U:=by omega
 have hj3:p3<U:=by omega
 have hm1:n1<n:=by omega
 have hm2:n2<n:=by omega
 clear hT hp hp2 hp3 hn1 hn2;go_enter Tryz.func209,Tryz.ntmps209;go_wp2_with fail
 go_quiet (fail)
 go_wp2_with fail
 go_quiet (fail)
 go_wp2_with fail
 have HBIG:Hid (∀q r,q<D9→D9≤r→q*d2≤r*D9+u3):=hid fun q r h1 h2=>by
  have a1:q*d2≤D9*D9:=Nat.mul_le_mul (by omega) (by rw[qbp];omega);have a2:D9*D9≤r*D9:=Nat.mul_le_mul_right _ h2;omega
 go_loopw [9,10] (fun a b wr=>∃q r:Nat,a = .int .i64 q∧b = .int .i64 r∧r<1000000000∧q≤T∧Hid (Q≤q)∧Hid (q*d1+r=T)∧Hid (∃k,wr=w.drewN k)) (fun a _ _=>(intOf a).toNat)
 case atStart=>exact⟨q0,r0,rfl,rfl,hr0,hq0,HFIRST,HI,hid ⟨_,by rw[za9]⟩⟩
 case round=>
  obtain⟨q,r,rfl,rfl,hr,hqT,HQ,HIN,HW⟩:=hrel;clear HFIRST HI hr0 hq0 t1 t2 t3 t4 hd0 hTi;obtain⟨kw,rfl⟩:=HW.out;by_cases hst:q<1000000000∧q*d2≤r*1000000000+u3
  ·obtain⟨hqB,hle⟩:=hst
   have HRES:=hid (HTIGHT.out q r (by rw[qbp];exact hqB) HIN.out (by rw[qbp];exact hle));obtain⟨P,hP⟩:∃P:Nat,P=q*d2:=⟨_,rfl⟩;obtain⟨Z,hZ⟩:∃Z:Nat,Z=r*1000000000+u3:=⟨_,rfl⟩;have hPi:(q:Int)*(d2:Int)=(P:Int):=by rw[hP,Int.natCast_mul]
   have hZi:(r:Int)*1000000000+(u3:Int)=(Z:Int):=by omega
   have hPb:(P:Int)<1000000000000000000:=by
    have:=Nat.mul_le_mul (show q≤999999999 by omega) (show d2≤999999999 by omega);omega
   have hZb:(Z:Int)<1000000000000000000:=by omega
   have hg1:decide ((1000000000:Int)≤(q:Int))=false:=decide_eq_false (by omega);have hg2:decide ((Z:Int)<(P:Int))=false:=decide_eq_false (by omega);have hg3:¬Z<P:=by omega
   have HQB1:Hid (q<D9):=hid (by rw[qbp];exact hqB);clear hP hZ hle hqB HTIGHT HNEXT HLT HBIG HIN;go_wp2_with fail
   go_quiet (fail)
   go_wp2_with fail;go_ret;exact⟨⟨q,rfl,HQB1.out,HQ.out,HRES.out⟩,_,by rw[World.drewN_drewN]⟩
  ·have hdec:Q≤q-1∧1≤q:=by
    rcases(show 1000000000≤q∨q<1000000000 by omega) with h|h
    ·have:=HQB.out
     rw[qbp] at this;have:=HQ.out;omega
    ·exact HNEXT.out q r HQ.out HIN.out (by rw[qbp];omega)
   obtain⟨v,rfl⟩:∃v,q=v+1:=⟨q-1,by omega⟩;have HQ2:Hid (Q≤v):=hid (by omega);have HI2:Hid (v*d1+(r+d1)=T):=hid (by have:=HIN.out;rw[Nat.succ_mul] at this;omega);obtain⟨P,hP⟩:∃P:Nat,P=(v+1)*d2:=⟨_,rfl⟩;obtain⟨Z,hZ⟩:∃Z:Nat,Z=r*1000000000+u3:=⟨_,rfl⟩;obtain⟨q,hq⟩:∃q:Nat,q=v+1:=⟨_,rfl⟩;rw[←hq] at hP hst hqT;have hPi:(q:Int)*(d2:Int)=(P:Int):=by rw[hP,Int.natCast_mul]
   have hZi:(r:Int)*1000000000+(u3:Int)=(Z:Int):=by omega
   have hZb:(Z:Int)<1000000000000000000:=by omega
   have hq1:(q:Int)-1=(v:Int):=by omega
   have hqi:(q:Int)=(v:Int)+1:=by omega
   have hg:decide ((1000000000:Int)≤(q:Int))=true∨(decide ((1000000000:Int)≤(q:Int))=false∧(P:Int)<1000000000000000000∧decide ((Z:Int)<(P:Int))=true∧Z<P):=by
    rcases(show 1000000000≤q∨q<1000000000 by omega) with h|h
    ·exact .inl (decide_eq_true (by omega))
    ·have:=Nat.mul_le_mul (show q≤999999999 by omega) (show d2≤999999999 by omega)
     exact .inr ⟨decide_eq_false (by omega),by omega,decide_eq_true (by omega),by omega⟩
   have hqs:((v+1:Nat):Int)=(q:Int):=by omega
   have hvT:v≤T:=by omega
   simp only[hqs];obtain⟨r2,hr2⟩:∃r2:Nat,r2=r+d1:=⟨_,rfl⟩;have hr2i:(r:Int)+(d1:Int)=(r2:Int):=by omega
   rw[←hr2] at HI2;have HVQ:Hid (v<q):=hid (by omega);have HVT:=hid hvT;have hvb:(v:Int)<1000000000000000000:=by omega
   clear hvT;clear hP hZ hst hdec HQ HIN hq hqi hqs HNEXT;by_cases hrb:r2<1000000000
   ·have hrn:decide ((1000000000:Int)≤(r2:Int))=false:=decide_eq_false (by omega)
    have HRB:=hid hrb;clear hr2 hrb;rcases hg with hg1|⟨hg1,hPb,hg2,hg3⟩
    ·obtain⟨gb,hgb⟩:∃gb,decide ((1000000000:Int)≤(q:Int))=gb:=⟨_,rfl⟩
     have hgt:gb=true:=hgb.symm.trans hg1;clear hg1 hPi hqT hZi hZb;go_wp2_with fail
     go_quiet (fail)
     go_wp2_with fail;go_roundw
     case rel=>exact⟨v,r2,rfl,rfl,HRB.out,HVT.out,HQ2,HI2,hid ⟨_,rfl⟩⟩
     case measure=>simp only[intOf];have:=HVQ.out;omega
    ·go_wp2_with fail
     go_quiet (fail)
     go_wp2_with fail;go_roundw
     case rel=>exact⟨v,r2,rfl,rfl,HRB.out,HVT.out,HQ2,HI2,hid ⟨_,rfl⟩⟩
     case measure=>simp only[intOf];have:=HVQ.out;omega
   ·have hrn:(1000000000:Int)≤(r2:Int):=by omega
    have HV9:=hid (HLT.out v r2 HI2.out (by rw[qbp];omega));have HRES:=hid (HTIGHT.out v r2 HV9.out HI2.out (HBIG.out v r2 HV9.out (by rw[qbp];omega)));clear hr2;rcases hg with hg1|⟨hg1,hPb,hg2,hg3⟩
    ·obtain⟨gb,hgb⟩:∃gb,decide ((1000000000:Int)≤(q:Int))=gb:=⟨_,rfl⟩
     have hgt:gb=true:=hgb.symm.trans hg1;clear hg1 hPi hqT hZi hZb;go_wp2_with fail
     go_quiet (fail)
     go_wp2_with fail;go_ret;exact⟨⟨v,rfl,HV9.out,HQ2.out,HRES.out⟩,_,rfl⟩
    ·go_wp2_with fail
     go_quiet (fail)
     go_wp2_with fail;go_ret;exact⟨⟨v,rfl,HV9.out,HQ2.out,HRES.out⟩,_,rfl⟩
theorem zbb(g cu:Nat)(vv:Value)(R V:List Nat)(j N:Nat)(w:World)(hR:∀d ∈ R,d<D9)(hu:Own w g R.length (dv R))(hv:Dgs w vv V)(hVN:V.length=N+2)(hj:j+(N+2)<R.length)(hRl:R.length≤4000)(hcu:R.length≤cu∧cu≤maxLen)
  (hW:sg R j (N+3)<D9*val D9 V) (hd:V.getD (N+1) 0≠0):
  Calls Tryz.prog 209 #[.slice (some ⟨g,0,none⟩) R.length cu,vv,.int .i64 j] w fun e w'=>
   (∃q:Nat,e = .returned (.int .i64 q)∧q<D9∧sg R j (N+3)/val D9 V≤q∧q≤sg R j (N+3)/val D9 V+1)∧∃k,w'=w.drewN k:=by
 obtain⟨hV,pv,cv,rfl,hcv1,hcv2,hcells⟩:=hv;rcases hcells with h0|⟨bv,ov,rfl,hrow⟩
 ·omega
 have c1:=(hu.2 (j+(N+2)) hj).1;have c2:=(hu.2 (j+(N+1)) (by omega)).1;have c3:=(hu.2 (j+N) (by omega)).1;have c4:=hrow (N+1) (by omega);have c5:=hrow N (by omega);unfold dv at c1 c2 c3 c4 c5;have b1:=qao (b:=D9) (by decide) hR (j+(N+2));have b2:=qao (b:=D9) (by decide) hR (j+(N+1));have b3:=qao (b:=D9) (by decide) hR (j+N);have b4:=qao (b:=D9) (by decide) hV (N+1);have b5:=qao (b:=D9) (by decide) hV N;have hw0:=q91 R j N hR
 have hw:sg R j (N+3)=sg R j N+D9^N*(R.getD (j+N) 0+D9*(R.getD (j+(N+2)) 0*D9+R.getD (j+(N+1)) 0)):=by
  rw[qhi,qhi,qhi,Nat.pow_succ,Nat.pow_succ]
  grind
 have hy0:low D9 V N<D9^N:=qnk _ _ _ (by decide) hV
 have hy:val D9 V=low D9 V N+D9^N*(V.getD N 0+D9*V.getD (N+1) 0):=by
  rw[←qa5 D9 V (N+2) (by omega),qap,qap,Nat.pow_succ]
  grind
 generalize sg R j (N+3)=W at *;generalize val D9 V=Y at *;generalize R.getD (j+(N+2)) 0=u1 at *;generalize R.getD (j+(N+1)) 0=u2 at *;generalize R.getD (j+N) 0=u3 at *;generalize V.getD (N+1) 0=d1 at *;generalize V.getD N 0=d2 at *;generalize sg R j N=Wl at *;generalize low D9 V N=Yl at *;have hp:0<D9^N:=Nat.pow_pos (by decide);have htop:=q3q hw hy hy0 b5 hW;have hQY:W/Y*Y≤W:=Nat.div_mul_le_self _ _
 have hY0:0<Y:=by
  have:=Nat.mul_pos hp (show 0<d2+D9*d1 by have:=Nat.mul_pos (show 0<D9 by decide) (Nat.pos_of_ne_zero hd);omega);omega
 have hQB:W/Y<D9:=by rw[Nat.div_lt_iff_lt_mul hY0];exact hW
 have e9:u1*1000000000+u2=u1*D9+u2:=by rw[qbp]
 refine qwt g 0 cu R.length bv ov cv V.length j (j+(N+2)) (j+(N+1)) (j+N) (N+1) N u1 u2 u3 d1 d2 (W/Y) (u1*D9+u2) w hRl (by omega) ⟨hcu.1,by have:=hcu.2;unfold maxLen at this;omega⟩ ⟨hcv1,by unfold maxLen at hcv2;omega⟩ (by omega) (by omega) (by omega) (by omega) (by omega) hj
  (by rw[Nat.zero_add];exact c1) (by rw[Nat.zero_add];exact c2) (by rw[Nat.zero_add];exact c3) c4 c5 (by rw[qbp] at b1;exact b1) (by rw[qbp] at b2;exact b2) (by rw[qbp] at b3;exact b3) (by rw[qbp] at b4;exact b4) (by rw[qbp] at b5;exact b5) (Nat.pos_of_ne_zero hd) e9.symm (hid hQB) (hid ?_) (hid ?_) (hid ?_) (hid ?_)
 ·refine zba (p:=D9^N*D9) (Wlow:=Wl+D9^N*u3) (Dl:=Yl+D9^N*d2) ?_ ?_ ?_ (Nat.pos_of_ne_zero hd) hQY
  ·rw[hw];grind
  ·have:D9^N*(u3+1)≤D9^N*D9:=Nat.mul_le_mul_left _ b3
   rw[Nat.mul_add] at this;omega
  ·rw[hy];grind
 ·intro q r h1 h2 h3
  exact q68 hw hw0 hy hQY h1 h2 h3
 ·intro q r h1 h2
  exact q67 h1 htop b2 h2
 ·intro q r h1 h2 h3
  exact qws hp (by decide) hw hy hy0 h2 h3 (by omega) (Nat.pos_of_ne_zero hd)
structure q76(R0 R Q:List Nat)(Y k:Nat):Prop where
 len:R.length=R0.length
 dig:∀d ∈ R,d<D9
 qdig:∀d ∈ Q,d<D9
 same:∀i,i<k→R.getD i 0=R0.getD i 0
 eq:qa7 D9 R0 k=Y*qa7 D9 Q k+qa7 D9 R k
 lt:qa7 D9 R k<Y
theorem qjl{R:List Nat}{j n:Nat}(h:qa7 D9 R j<D9^n):qa7 D9 R (j+n)=0:=by
 rw[qwr R j n] at h;rcases Nat.eq_zero_or_pos (qa7 D9 R (j+n)) with e|e
 ·exact e
 ·exfalso
  have:=Nat.mul_le_mul_left (D9^n) e;omega
theorem qyg{R0 R Q:List Nat}{Y j N:Nat}(h:q76 R0 R Q Y (j+1))(hY:Y<D9^(N+2)):qa7 D9 R (j+(N+3))=0∧qa7 D9 R j=sg R j (N+3):=by
 have h1:=qjl (R:=R) (j:=j+1) (n:=N+2) (Nat.lt_trans h.lt hY);rw[show j+1+(N+2)=j+(N+3) by omega] at h1;refine⟨h1, ?_⟩;rw[qwr R j (N+3),h1];omega
theorem qwu{R0 R Q:List Nat}{Y j N:Nat}(h:q76 R0 R Q Y (j+1))(hY:Y<D9^(N+2)):sg R j (N+3)<D9*Y:=by
 rw[←(qyg h hY).2,qbj];have h1:=qao (b:=D9) (by decide) h.dig j;have h2:D9*(qa7 D9 R (j+1)+1)≤D9*Y:=Nat.mul_le_mul_left _ h.lt;rw[Nat.mul_add] at h2;omega
theorem q0p{R S:List Nat}{j:Nat}(hlen:S.length=R.length)(h:∀i,j≤i→S.getD i 0=R.getD i 0):qa7 D9 S j=qa7 D9 R j:=by
 unfold qa7
 congr 1
 apply List.ext_getElem
 ·simp[hlen]
 ·intro i h1 h2
  have:=h (j+i) (by omega);simp at h1 h2
  simpa [h1,h2,(by omega:j+i<S.length),(by omega:j+i<R.length)] using this
theorem q3r{B Dv hq word W O H x V:Nat}(hO:O=Dv*hq+H)(hW:W=x+B*H)(hV:V+word*Dv=W):x+B*O=Dv*(word+B*hq)+V:=by
 rw[hO,Nat.mul_add,Nat.mul_add,show B*(Dv*hq)=Dv*(B*hq) from by grind,Nat.mul_comm Dv word];omega
theorem quo{R0 R R' Q:List Nat}{Y j N q:Nat}(h:q76 R0 R Q Y (j+1))(hY:Y<D9^(N+2))(hlen:R'.length=R.length)(hdig:∀d ∈ R',d<D9)
  (hsame:∀i,i<j∨j+(N+3)≤i→R'.getD i 0=R.getD i 0) (hw:sg R' j (N+3)+q*Y=sg R j (N+3)) (hlt:sg R' j (N+3)<Y) (hq:q<D9) (hQ:j<Q.length):q76 R0 R' (Q.set j q) Y j:=by
 obtain⟨t1,t2⟩:=qyg h hY;have e1:qa7 D9 R' (j+(N+3))=0:=by rw[q0p hlen (fun i hi=>hsame i (.inr hi))];exact t1
 have e2:qa7 D9 R' j=sg R' j (N+3):=by rw[qwr R' j (N+3),e1];omega
 refine⟨hlen.trans h.len,hdig,qcs h.qdig _ _ hq,fun i hi=>(hsame i (.inl hi)).trans (h.same i (by omega)), ?_,by rw[e2];exact hlt⟩;rw[qum _ _ _ hQ,qbj D9 R0 j,e2];refine q3r h.eq (W:=sg R j (N+3)) ?_ hw;rw[←t2,qbj D9 R j,h.same j (by omega)]
theorem q0q{B p S S0 L m m' x d f s:Nat}(h:S+f*L=S0+p*m)(hs:s+d*f+m=x+B*m'):S+p*s+f*(L+p*d)=S0+p*x+p*B*m':=by
 have:=congrArg (p * ·) hs;simp only[Nat.mul_add] at this;rw[Nat.mul_add,Nat.mul_assoc p B,show f*(p*d)=p*(d*f) from by grind];omega
theorem q0r{B p S S0 L c c' x d s:Nat}(h:S+p*c=S0+L)(hs:s+B*c'=x+d+c):S+p*s+p*B*c'=S0+p*x+(L+p*d):=by
 have:=congrArg (p * ·) hs;simp only[Nat.mul_add] at this;rw[Nat.mul_assoc p B];omega
theorem q92{q v bo u P:Nat}(hv:v<1000000000)(hbo:bo≤q)(hu:u<1000000000)(hP:P=q*v+bo):
  (u<P % 1000000000→u+1000000000-P % 1000000000<1000000000∧P/1000000000+1≤q∧u+1000000000-P % 1000000000+v*q+bo=u+1000000000*(P/1000000000+1))∧
  (P % 1000000000≤u→u-P % 1000000000<1000000000∧P/1000000000≤q∧u-P % 1000000000+v*q+bo=u+1000000000*(P/1000000000)):=by
 have h1:q*v+q≤q*1000000000:=by
  rw[←Nat.mul_succ];exact Nat.mul_le_mul_left _ hv
 have h2:=Nat.mod_add_div P 1000000000;rw[Nat.mul_comm v q];constructor
 ·intro h
  refine⟨by omega, ?_,by omega⟩;have:1000000000*(P/1000000000)<1000000000*q:=by rw[Nat.mul_comm 1000000000 q];omega
  have:=Nat.lt_of_mul_lt_mul_left this;omega
 ·intro h
  refine⟨by omega, ?_,by omega⟩;have:1000000000*(P/1000000000)≤1000000000*q:=by rw[Nat.mul_comm 1000000000 q];omega
  exact Nat.le_of_mul_le_mul_left this (by omega)
theorem q3s{S Sc P top bo q Y W:Nat}(hS:S+P*bo=Sc+q*Y)(hW:W=S+P*top)(hge:bo≤top)(hY:0<Y)(hQ:W/Y≤q):Sc+P*(top-bo)+q*Y=W∧Sc+P*(top-bo)<Y:=by
 obtain⟨d,rfl⟩:∃d,top=bo+d:=⟨top-bo,by omega⟩;rw[Nat.mul_add] at hW;rw[Nat.add_sub_cancel_left];have h:Sc+P*d+q*Y=W:=by omega
 refine⟨h, ?_⟩;have h1:q≤W/Y:=by rw[Nat.le_div_iff_mul_le hY];omega
 have h2:q=W/Y:=Nat.le_antisymm h1 hQ;have h3:=Nat.div_add_mod W Y;rw[←h2,Nat.mul_comm] at h3;have h4:=Nat.mod_lt W hY;omega
theorem q69{S Sc P top bo q Y W:Nat}(hS:S+P*bo=Sc+q*Y)(hW:W=S+P*top)(hlt:top<bo)(hY:0<Y)(hYP:Y<P)(hSc:Sc<P)(hQ:q≤W/Y+1):
  bo=top+1∧1≤q∧∀Sb c,Sb+P*c=Sc+Y→Sb<P→c≤1→c=1∧Sb+(q-1)*Y=W∧Sb<Y:=by
 obtain⟨d,rfl⟩:∃d,bo=top+1+d:=⟨bo-top-1,by omega⟩;rw[Nat.mul_add,Nat.mul_add,Nat.mul_one] at hS;have e:W+P+P*d=Sc+q*Y:=by omega
 have hq:W<q*Y:=by omega
 have hq2:W/Y<q:=(Nat.div_lt_iff_lt_mul hY).2 hq;obtain⟨k,rfl⟩:∃k,q=k+1:=⟨q-1,by have:=Nat.lt_of_le_of_lt (Nat.zero_le _) hq2;omega⟩;have hk:k=W/Y:=Nat.le_antisymm (Nat.le_of_succ_le_succ hQ) (Nat.le_of_lt_succ hq2);have h3:=Nat.div_add_mod W Y;have h4:=Nat.mod_lt W hY;rw[←hk,Nat.mul_comm] at h3;rw[Nat.succ_mul] at e
 have hd:d=0:=by
  rcases Nat.eq_zero_or_pos d with h|h
  ·exact h
  ·have:=Nat.mul_le_mul_left P h
   omega
 subst hd;refine⟨rfl,by omega,fun Sb c h1 h2 h5 => ?_⟩;rw[Nat.add_sub_cancel];rcases(show c=0∨c=1 by omega) with rfl|rfl
 ·omega
 ·refine⟨rfl, ?_, ?_⟩<;>omega
def dvm(l:List Nat)(p i:Nat):Value:=if i=p then .int .i64 (-1) else dv l i
theorem qnz(l:List Nat)(i k x:Nat)(h:k≠i):dv (l.set i x) k=dv l k:=by unfold dv;rw[qar _ _ _ _ h]
theorem qk8(l:List Nat)(i x:Nat)(h:i<l.length):dv (l.set i x) i = .int .i64 (x:Nat):=by unfold dv;rw[qcc _ _ _ h]
theorem Own.minus1{w:World}{g:Nat}{l:List Nat}(h:Own w g l.length (dv l))(p:Nat)(hp:p<l.length):Own (w.setCell ⟨g,p,none⟩ (.int .i64 (-1))) g l.length (dvm l p):=
 (h.set p hp _).congr fun _ _=>rfl
theorem Own.setDvm{w:World}{g p:Nat}{l:List Nat}(h:Own w g l.length (dvm l p))(i:Nat)(hi:i<l.length)(hip:i≠p)(x:Nat):Own (w.setCell ⟨g,i,none⟩ (.int .i64 (x:Nat))) g (l.set i x).length (dvm (l.set i x) p):=by
 rw[List.length_set];refine(h.set i hi _).congr fun k _ => ?_;by_cases e:k=i
 ·subst e;rw[if_pos rfl];unfold dvm;rw[if_neg hip,qk8 _ _ _ hi]
 ·rw[if_neg e];unfold dvm;rw[qnz _ _ _ _ e]
theorem Own.unminus{w:World}{g p:Nat}{l:List Nat}(h:Own w g l.length (dvm l p))(hp:p<l.length)(x:Nat):Own (w.setCell ⟨g,p,none⟩ (.int .i64 (x:Nat))) g (l.set p x).length (dv (l.set p x)):=by
 rw[List.length_set];refine(h.set p hp _).congr fun k _ => ?_;by_cases e:k=p
 ·subst e;rw[if_pos rfl,qk8 _ _ _ hp]
 ·rw[if_neg e];unfold dvm;rw[if_neg e,qnz _ _ _ _ e]
theorem qso{w w':World}{base:Nat}{e:TypeId}{s n:Nat}{v:Value}{xs:List Value}(h:w.ownsRow base e s v n xs)(hb:Below w.heap.size w w'):w'.ownsRow base e s v n xs:=by
 refine⟨h.1, ?_⟩;rcases h.2 with h1|⟨g,cap,cur,h1,h2,h3,h4⟩
 ·exact .inl h1
 ·exact .inr ⟨g,cap,cur,h1,h2,by rw[hb.block g (Array.getElem?_eq_some_iff.1 h3).1];exact h3,h4⟩
theorem qk9{W:World}{base k:Nat}{v:Value}{l:List Nat}(h:W.ownsRow base 3 1 v k ((zi l).map (Value.int .i64)))(hl:l.length=k)(hk:0<k):∃g cap,v = .slice (some ⟨g,0,none⟩) k cap∧base≤g∧k≤cap∧cap≤maxLen∧Own W g l.length (dv l):=by
 have h0:=h;rcases h.2 with⟨_,hk0⟩|⟨g,cap,cur,rfl,hg,hheap,hn,hm,_,_⟩
 ·omega
 ·refine⟨g,cap,rfl,hg,hn,hm,(Array.getElem?_eq_some_iff.1 hheap).1,fun i hi=>⟨?_,h0.frozenAt i⟩⟩
  rw[h0.cellAt i (by omega),List.getElem?_map];unfold zi dv;rw[List.getElem?_map,List.getD_eq_getElem?_getD,List.getElem?_eq_getElem hi];rfl
theorem q3t{n N:Nat}(h:dl n=N+2):(qaf D9 n).getD (N+1) 0≠0:=by
 unfold dl at h;have hne:qaf D9 n≠[]:=by intro e;rw[e] at h;simp at h
 have e1:=List.dropLast_concat_getLast hne;have h1:=qi3 qa3 e1.symm
 have:(qaf D9 n).getD (N+1) 0=(qaf D9 n).getLast hne:=by
  rw[List.getLast_eq_getElem,List.getD_eq_getElem?_getD,List.getElem?_eq_getElem (by omega)];simp[h]
 rw[this];exact h1
theorem q93{n N:Nat}(h:dl n=N+2):∃top t,(qaf D9 n).getD (N+1) 0=top∧0<top∧top<1000000000∧1000000000/(top+1)=t∧0<t∧t<1000000000∧dl (n*t)=N+2:=by
 have h0:=q3t h;have hb:=qao (b:=D9) (by decide) (qee D9 n qa3) (N+1);have hlow:=qap D9 (qaf D9 n) (N+1);unfold dl at h;rw[qa5 _ _ _ (by omega),qah _ _ qa3] at hlow;have hl:=qnk D9 (qaf D9 n) (N+1) (by decide) (qee D9 n qa3);generalize (qaf D9 n).getD (N+1) 0=top at *;generalize low D9 (qaf D9 n) (N+1)=lo at *;rw[qbp] at hb;have ht0:0<1000000000/(top+1):=Nat.div_pos (by omega) (by omega);have ht1:1000000000/(top+1)<1000000000:=Nat.div_lt_self (by omega) (by omega);have ht2:1000000000/(top+1)*(top+1)≤1000000000:=Nat.div_mul_le_self _ _;refine⟨top,_,rfl,by omega,hb,rfl,ht0,ht1, ?_⟩;generalize 1000000000/(top+1)=t at *
 have h1:n*t<D9^(N+2):=by
  have a1:n+1≤D9^(N+1)*(top+1):=by rw[Nat.mul_add,hlow];omega
  have a2:(n+1)*t≤D9^(N+1)*(top+1)*t:=Nat.mul_le_mul_right _ a1
  have a3:D9^(N+1)*(top+1)*t≤D9^(N+1)*D9:=by
   rw[Nat.mul_assoc];exact Nat.mul_le_mul_left _ (by rw[qbp,Nat.mul_comm];exact ht2)
  rw[Nat.pow_succ];rw[Nat.add_mul] at a2;omega
 have h2:n≤n*t:=Nat.le_mul_of_pos_right _ ht0;have h3:=qb4 qa3 h1;have h4:=qad qa3 h2;unfold dl;omega
theorem zbc{m t:Nat}(ht:t<D9):dl (m*t)≤dl m+1:=by
 refine qb4 qa3 ?_;have h1:=qb8 D9 m qa3;rw[Nat.pow_succ];unfold dl;rcases Nat.eq_zero_or_pos t with e|e
 ·subst e;rw[Nat.mul_zero];exact Nat.mul_pos (Nat.pow_pos (by decide)) (by decide)
 ·exact Nat.lt_of_lt_of_le (Nat.mul_lt_mul_of_pos_right h1 e) (Nat.mul_le_mul_left _ (by omega))
theorem q0s{m n t La N M:Nat}{R:List Nat}(hm:dl m=La)(hn:dl n=N+2)(hM:M+(N+2)=La+1)(ht:0<t)(hR:∀d ∈ R,d<D9)(hv:val D9 R=m*t)(hl:R.length=La+1):q76 R R (List.replicate M 0) (n*t) M:=by
 refine⟨rfl,hR,qb5 (b:=D9) (by decide) M,fun _ _=>rfl, ?_, ?_⟩
 ·rw[qdc D9 (List.replicate M 0) M (by simp)];omega
 ·have h1:=qfm D9 R M (by omega)
  rw[hv] at h1;rcases Nat.lt_or_ge (qa7 D9 R M) (n*t) with h|h
  ·exact h
  ·exfalso
   have a1:D9^M*(n*t)≤m*t:=Nat.le_trans (Nat.mul_le_mul_left _ h) (by omega);rw[←Nat.mul_assoc] at a1;have a2:D9^M*n≤m:=Nat.le_of_mul_le_mul_right a1 ht
   have hn0:0<n:=by
    rcases Nat.eq_zero_or_pos n with e|e
    ·subst e;unfold dl at hn;rw[qam] at hn;simp at hn
    ·exact e
   have a3:=qhe qa3 hn0;have a4:=qb8 D9 m qa3;unfold dl at hm hn;rw[hm] at a4;rw[hn,show N+2-1=N+1 from rfl] at a3;have a5:D9^M*D9^(N+1)≤D9^M*n:=Nat.mul_le_mul_left _ a3;rw[←Nat.pow_add,show M+(N+1)=La by omega] at a5;omega
def qhc(t:Nat):Obj := .cells #[.int .i64 (t:Int)] 3
theorem qsp(va vb:Value)(m n N:Nat)(w:World)(ha:DN w va m)(hb:DN w vb n)(hnm:n≤m)(hN:dl n=N+2)(hl:dl m≤900):
  Calls Tryz.prog 177 #[va,vb] w fun e w'=>(∃vq vr,e = .returned (.tuple #[vq,vr])∧DN w' vq (m/n)∧DN w' vr (m % n))∧Below w.heap.size w w':=by
 have HA:=hid ha;have HB:=hid hb;have HC:=hid (qsn va vb m n w ha hb);obtain⟨c,hc⟩:∃c,qex m n=c:=⟨_,rfl⟩
 have hcge:¬c<0:=by
  rcases(show m=n∨n<m by omega) with h|h
  ·have:=qet (x:=(m:Int)) (y:=n) (by omega);unfold qex at hc;omega
  ·have:=qcl (x:=(m:Int)) (y:=n) (by omega);unfold qex at hc;omega
 rw[hc] at HC;obtain⟨top,t,htop,htop0,htop9,ht,ht0,ht9,hvlen⟩:=q93 hN;have hmlen:=zbc (m:=m) (t:=t) (by rw[qbp];exact ht9);have hNm:N+2≤dl m:=by rw[←hN];exact qad qa3 hnm
 have hm0:0<m:=by
  rcases Nat.eq_zero_or_pos m with e|e
  ·subst e;unfold dl at hNm;rw[qam] at hNm;simp at hNm
  ·exact e
 obtain⟨hla,pa,ca,rfl,hca1,hca2,hcellsa⟩:=ha;obtain⟨hlb,pb,cb,rfl,hcb1,hcb2,hcellsb⟩:=hb;rcases hcellsb with h0|⟨bb,ob,rfl,hrowb⟩
 ·unfold dl at hN;omega
 have hcellT:=hrowb (N+1) (by unfold dl at hN;omega);unfold dv at hcellT;rw[htop] at hcellT;have HT:=hid hcellT
 have HM1:Hid (∀W:World,Below w.heap.size w W→Calls Tryz.prog 189 #[.slice (some ⟨bb,ob,none⟩) (qaf D9 n).length cb,.slice (some ⟨W.heap.size,0,none⟩) 1 1] (W.alloc (qhc t)) fun e w'=>
   (∃v',e = .returned v'∧DN w' v' (n*t))∧Below (W.alloc (qhc t)).heap.size (W.alloc (qhc t)) w'):=by
  refine hid fun W hW => ?_;have h1:=zce _ _ (qaf D9 n) [t] (W.alloc (qhc t)) (HB.out.later (hW.alloc hW.size _)) (qwp W t ht9) (by unfold dl at hN hNm hl;omega) (by simp);rw[qah _ _ qa3,show val D9 [t]=t by simp[val]] at h1;exact h1
 have HM2:Hid (∀W W':World,Below w.heap.size w W'→Below (W.alloc (qhc t)).heap.size (W.alloc (qhc t)) W'→Calls Tryz.prog 189 #[.slice pa (qaf D9 m).length ca,.slice (some ⟨W.heap.size,0,none⟩) 1 1] W' fun e w'=>
   (∃v',e = .returned v'∧DN w' v' (m*t))∧Below W'.heap.size W' w'):=by
  refine hid fun W W' hW hW' => ?_;have h1:=zce _ _ (qaf D9 m) [t] W' (HA.out.later hW) ((qwp W t ht9).later hW') (by unfold dl at hl;omega) (by simp);rw[qah _ _ qa3,show val D9 [t]=t by simp[val]] at h1;exact h1
 have HLV:Hid (dl (n*t)=N+2):=hid hvlen;have hNd:(qaf D9 n).length=N+2:=hN;have hmd:(qaf D9 m).length≤900:=hl;have hmd2:N+2≤(qaf D9 m).length:=hNm;have hmd3:dl (m*t)≤(qaf D9 m).length+1:=hmlen;have HNN:Hid (dl n=N+2):=hid hN;have HMM:Hid (dl m=(qaf D9 m).length):=hid rfl;clear hN hl hNm hmlen hvlen hla hcellsa hlb hrowb hcellT;generalize (qaf D9 n).length=Lb at *;generalize (qaf D9 m).length=La at *;have HLM:Hid (dl (m*t)≤La+1):=hid hmd3;have HNA:Hid (N+2≤La):=hid hmd2;have hLa9:La≤900:=hmd;have hLbN:Lb=N+2:=hNd;have e1:(Lb:Int)-1=((N+1:Nat):Int):=by omega
 have hne:((Lb:Int)==1)=false:=beq_eq_false_iff_ne.2 (by omega);have hb1:N+1<Lb:=by omega
 obtain⟨T1,hT1⟩:∃T1:Nat,T1=top+1:=⟨_,rfl⟩;have hT1i:(top:Int)+1=(T1:Int):=by omega
 have hT1z:((T1:Int)==0)=false:=beq_eq_false_iff_ne.2 (by omega);have hT1a:(1000000000:Int)/(T1:Int)=(t:Int):=by rw[←ht,hT1];rw[Int.natCast_ediv];rfl
 obtain⟨N1,hN1⟩:∃N1,N1=N+1:=⟨_,rfl⟩;rw[←hN1] at e1 hb1 HT;have hN1b:N1≤900:=by omega
 have hLbb:Lb≤900:=by omega
 have hTw:IntKind.i64.wrap (T1:Int)=(T1:Int):=by rw[IntKind.wrap_i64];omega
 have hTw2:IntKind.i64.wrap ((top:Int)+1)=(T1:Int):=by rw[IntKind.wrap_i64];omega
 have HTP:Hid (top<1000000000):=hid htop9;have HTB:Hid (t<1000000000):=hid ht9;clear htop htop9 ht hT1 hLbN hNd hmd hmd2 hmd3 hca1 hcb1 hc hnm ht9 hN1;unfold maxLen at hca2 hcb2;go_enter Tryz.func177,Tryz.ntmps177;go_wp2_with fail;refine HC.out.mono ?_;rintro e w1 ⟨rfl,hb1'⟩;have HB1:=hid hb1';clear hb1' HC
 have hcell:w1.cell? ⟨bb,ob+N1,none⟩=some (.int .i64 (top:Nat)):=by
  rw[HB1.out.cell (p:=⟨bb,ob+N1,none⟩) (World.block_lt_of_cell? w _ HT.out)];exact HT.out
 go_wp2_with fail;refine(HM1.out w1 HB1.out).mono ?_;rintro e w2 ⟨⟨vV,rfl,hV⟩,hb2⟩;have HBF:=hid hb2
 have HF0:Hid (∀W,Below w2.heap.size w2 W→W.cell? ⟨w1.heap.size,0,none⟩=some (.int .i64 (t:Nat))):=hid fun W hW=>by
  have h1:(w1.alloc (qhc t)).cell? ⟨w1.heap.size,0,none⟩=some (.int .i64 (t:Nat)):=by unfold qhc;rw[World.cell?_alloc_at _ _ _ _ rfl];rfl
  have h2:=hb2.cell (p:=⟨w1.heap.size,0,none⟩) (World.block_lt_of_cell? _ _ h1);have h3:=hW.cell (p:=⟨w1.heap.size,0,none⟩) (Nat.lt_of_lt_of_le (World.block_lt_of_cell? _ _ h1) hb2.size);rw[h3,h2,h1]
 have HB2:Hid (Below w.heap.size w w2):=hid ((HB1.out.alloc HB1.out.size _).trans (hb2.mono (by rw[World.size_alloc];have:=HB1.out.size;omega)));have HV:=hid hV;obtain⟨hVd,pv,cv,rfl,hcv1,hcv2,hcellsv⟩:=hV
 have HYB:Hid (n*t<D9^(N+2)∧0<n*t):=hid (by
  have h1:=qb8 D9 (n*t) qa3;have h2:(qaf D9 (n*t)).length=N+2:=HLV.out;rw[h2] at h1;refine⟨h1, ?_⟩;rcases Nat.eq_zero_or_pos (n*t) with e|e
  ·rw[e,qam] at h2;cases h2
  ·exact e)
 rcases hcellsv with h0|⟨bv,ov,rfl,hrowv⟩
 ·have h2:(qaf D9 (n*t)).length=N+2:=HLV.out
  omega
 have HRV:=hid hrowv;have HVD:=hid hVd
 have hLvb:(qaf D9 (n*t)).length≤900:=by
  have h1:=HLV.out;have h2:=HNA.out;unfold dl at h1;omega
 clear hb2 hVd HM1 hcell HT hrowv;have HVD9:Hid (∀i,(qaf D9 (n*t)).getD i 0<D9):=hid fun i=>qao (b:=D9) (by decide) HVD.out i;have HVL:Hid (∀i,low D9 (qaf D9 (n*t)) (i+1)=low D9 (qaf D9 (n*t)) i+D9^i*(qaf D9 (n*t)).getD i 0):=hid fun i=>qap _ _ _;have HVA:Hid (low D9 (qaf D9 (n*t)) (qaf D9 (n*t)).length=n*t):=hid (by rw[qa5 _ _ _ (Nat.le_refl _),qah _ _ qa3]);unfold maxLen at hcv2;have HLV2:Hid ((qaf D9 (n*t)).length=N+2):=HLV;generalize (qaf D9 (n*t)).length=Lv at *
 have HMN:Hid (qaf D9 (m*t)≠[]∧(qaf D9 (m*t)).length≤La+1∧val D9 (qaf D9 (m*t))=m*t∧∀d ∈ qaf D9 (m*t),d<D9):=hid ⟨fun e=>by
  have:=(qe9 qa3).1 e;have:=Nat.mul_pos hm0 ht0
  omega,HLM.out,qah _ _ qa3,qee _ _ qa3⟩
 obtain⟨i0,hi,hz0,hz1,hz2⟩:=info_parts (show(Tryz.prog.info? 3).map (fun i=>(i.zero,i.size,i.bytes))=some (some (.int .i64 0),1,8) by kernel_rfl);have HI:=hid hi;clear hi HLM;go_wp2_with fail;refine(HM2.out w1 _ (HB2.out.alloc HB2.out.size _) (HBF.out.alloc HBF.out.size _)).mono ?_;rintro e w3 ⟨⟨vM,rfl,hM⟩,hb3⟩;have HB3:Hid (Below w2.heap.size w2 w3):=hid (((Below.refl _ w2).alloc (Nat.le_refl _) _).trans (hb3.mono (by rw[World.size_alloc];omega)));have HR3:Hid (w3.ownsRow w2.heap.size 3 1 (.slice (some ⟨w2.heap.size,0,none⟩) 0 0) 0 ((zi []).map (Value.int .i64))):=hid (qso (World.ownsRow_made w2 #[] 0 (Nat.le_refl _) (Nat.zero_le _) rfl) hb3);obtain⟨_,pm,cm,rfl,hcm1,hcm2,hcellsm⟩:=hM;rcases hcellsm with h0|⟨bm,om,rfl,hrowm⟩
 ·exact absurd (List.length_eq_zero_iff.1 h0) HMN.out.1
 have HRM:=hid hrowm;clear hb3 HM2 HBF hrowm;generalize qaf D9 (m*t)=lm at *;obtain⟨Lm,HLM⟩:∃Lm,Hid (Lm=lm.length):=⟨_,hid rfl⟩;rw[←HLM.out] at hcm1 HRM ⊢;have hLmb:Lm≤901:=by have h1:=HMN.out.2.1;have h2:=HLM.out;omega
 go_wp2_with (at_builtin;refine wpList_append_own _ rfl _ _ 23 rfl w2.heap.size 3 i0 (.int .i64 0) 1 8 Tryz.underlying23 HI.out hz0 hz1 hz2 rfl (by decide) _ _ _ rfl HR3.out ⟨bm,om,none⟩ Lm cm ((zi lm).map (Value.int .i64)) rfl ?qc1 ?qc2 ?qc3 ?qc4 ?qc5 ?qc6 ?_)
 case qc1=>simp[zi];exact HLM.out.symm
 case qc2=>
  intro j u hj
  have hjn:j<lm.length:=by
   have:=(List.getElem?_eq_some_iff.1 hj).1
   simpa [zi] using this
  have h1:=HRM.out j (by rw[HLM.out];exact hjn);have e:((zi lm).map (Value.int .i64))[j]? = some (dv lm j):=by unfold zi dv;simp[hjn]
  rw[e] at hj;cases hj
  rw[Addr.add_lit];exact h1
 case qc3=>intro u hu;obtain⟨x,_,rfl⟩:=List.mem_map.1 hu;rfl
 case qc4=>unfold maxLen;omega
 case qc5=>omega
 case qc6=>exact HB3.out.size
 intro v4 w4 hown hgrow hnil;have HB4:Hid (Below w2.heap.size w2 w4):=hid (HB3.out.grown hgrow HB3.out.size (by intro k hk;simp[Value.ownBlock] at hk;omega));have HOWN:Hid (w4.ownsRow w2.heap.size 3 1 v4 Lm ((zi lm).map (Value.int .i64))):=hid hown;clear hown hgrow hnil HB3 HR3 HRM
 have hLm0:0<Lm:=by
  have h1:=HMN.out.1;have h2:=HLM.out;rcases Nat.eq_zero_or_pos Lm with e|e
  ·exact absurd (List.length_eq_zero_iff.1 (by omega)) h1
  ·exact e
 have hcm1:Lm≤La+1:=by have h1:=HMN.out.2.1;have h2:=HLM.out;omega
 obtain⟨g4,c4,rfl,hg4,hc4,hc4',_⟩:=qk9 HOWN.out HLM.out.symm hLm0;have HW4:Hid ((∀d ∈ lm,d<D9)∧val D9 lm=m*t):=hid ⟨HMN.out.2.2.2,HMN.out.2.2.1⟩;clear hg4 hc4 hc4' HMN;go_wp2_with fail
 go_loopw [11] (fun v wr=>∃k g cap:Nat,∃R:List Nat,0<k∧k≤La+1∧v = .slice (some ⟨g,0,none⟩) k cap∧Hid (R.length=k)∧Hid ((∀d ∈ R,d<D9)∧val D9 R=m*t)∧Hid (wr.ownsRow w2.heap.size 3 1 (.slice (some ⟨g,0,none⟩) k cap) k ((zi R).map (Value.int .i64)))∧Hid (Below w2.heap.size w2 wr)) (fun v _=>La+1-qlf v)
 case atStart=>exact⟨Lm,g4,c4,lm,hLm0,hcm1,rfl,hid HLM.out.symm,HW4,HOWN,HB4⟩
 case round=>
  obtain⟨k,g,cap,R,hk0,hk,rfl,HRL,HRD,HOWN,HB4⟩:=hrel;by_cases hkl:k<La+1
  ·have hki:(k:Int)<(La:Int)+1:=by omega
   go_wp2_with (at_builtin;refine qh8 rfl _ _ rfl w2 _ w2.heap.size k _ (zi R) _ (by rfl) HOWN.out HB4.out (Nat.le_refl _) (by rfl) (by omega) ?_);rintro v' w5 hown' hbw';have HOWN2:Hid (w5.ownsRow w2.heap.size 3 1 v' (k+1) ((zi (R++[0])).map (Value.int .i64))):=hid (by rw[qik,List.map_append];exact hown');have HRL2:Hid ((R++[0]).length=k+1):=hid (by rw[List.length_append,HRL.out];rfl);have HRD2:Hid ((∀d ∈ R++[0],d<D9)∧val D9 (R++[0])=m*t):=hid ⟨qge HRD.out.1 (by decide),by rw[qd9,HRD.out.2];omega⟩;have HBW2:=hid hbw';clear hown' hbw' HOWN HB4;obtain⟨g5,c5,rfl,_,_,_,_⟩:=qk9 HOWN2.out HRL2.out (by omega);go_wp2_with fail;go_roundw
   case rel=>exact⟨k+1,g5,c5,R++[0],by omega,by omega,by go_num,HRL2,HRD2,HOWN2,HBW2⟩
   case measure=>simp[qlf];omega
  ·obtain rfl:k=La+1:=by omega
   obtain⟨M,HM⟩:∃M,Hid (M+Lv=La+1∧M+(N+2)=La+1):=⟨La+1-Lv,hid (by have h1:=HLV2.out;have h2:=HNA.out;omega)⟩;have hMi:(La:Int)+1-(Lv:Int)=(M:Int):=by have:=HM.out.1;omega
   have hMb:M≤901:=by have:=HM.out.1;omega
   have hmk:=fun w=>qji M (by omega) w;obtain⟨g',cap',he,hgb,hcap1,hcap2,hor⟩:=qk9 HOWN.out HRL.out (by omega);cases he
   have HGB:=hid hgb;have HCAP:Hid (La+1≤cap∧cap≤maxLen):=hid ⟨hcap1,hcap2⟩;have HST:=hid (q0s HMM.out HNN.out HM.out.2 ht0 HRD.out.1 HRD.out.2 HRL.out);have HOR0:Hid (Own (wr.alloc (qed M)) g R.length (dv R)):=hid (hor.later (((Below.refl _ wr).alloc (Nat.le_refl _) _).mono (by have:=hor.1;omega)));have HOQ0:=hid (qp1 wr M);have HQL0:Hid ((List.replicate M 0).length=M):=hid (by simp);have HBW0:Hid (Below w2.heap.size w2 (wr.alloc (qed M))):=hid (HB4.out.alloc HB4.out.size _);have HNE:Hid (g≠wr.heap.size):=hid (by have:=hor.1;omega);have HGQ:Hid (w2.heap.size≤wr.heap.size):=hid HB4.out.size;generalize List.replicate M 0=Q0 at *;clear hgb hcap1 hcap2 hor HOWN HB4 hk hk0 hkl;go_wp2_with fail;generalize wr.alloc (qed M)=wq at *;generalize wr.heap.size=gq at *
   go_loopw [13] (fun i wr=>∃k:Nat,∃Rr Q:List Nat,k≤M∧i = .int .i64 ((k:Int)-1)∧Hid (Q.length=M)∧Hid (q76 R Rr Q (n*t) k)∧Hid (Own wr g Rr.length (dv Rr))∧Hid (Own wr gq Q.length (dv Q))∧Hid (Below w2.heap.size w2 wr)) (fun i _=>(intOf i+1).toNat)
   case atStart=>exact⟨M,R,Q0,Nat.le_refl _,by go_num,HQL0,HST,HOR0,HOQ0,HBW0⟩
   case round=>
    obtain⟨k,Rr,Q,hk,rfl,HQL,HDI,HOR,HOQ,HBW⟩:=hrel;clear HQL0 HST HOR0 HOQ0 HBW0;have RL:Hid (Rr.length=La+1):=hid (HDI.out.len.trans HRL.out);rcases k with _|j
    ·have HVALS:Hid (val D9 Q=m/n∧val D9 (Rr.take Lv)=m % n*t):=hid (by
      have h1:=HDI.out.eq;have h2:=HDI.out.lt;rw[high_zero,high_zero,high_zero,HRD.out.2] at h1;rw[high_zero] at h2;have hY0:=HYB.out.2
      have h3:m*t/(n*t)=val D9 Q∧m*t % (n*t)=val D9 Rr:=by
       rw[h1];exact⟨by rw[Nat.mul_add_div hY0,Nat.div_eq_of_lt h2,Nat.add_zero],by rw[Nat.mul_add_mod,Nat.mod_eq_of_lt h2]⟩
      rw[Nat.mul_div_mul_right _ _ ht0,Nat.mul_mod_mul_right] at h3;refine⟨h3.1.symm, ?_⟩;have h4:qa7 D9 Rr (0+(N+2))=0:=qjl (by rw[high_zero];exact Nat.lt_trans h2 HYB.out.1);have h5:=qfm D9 Rr (N+2) (by rw[RL.out];have:=HNA.out;omega);rw[Nat.zero_add] at h4;rw[h4,Nat.mul_zero,Nat.add_zero] at h5;rw[h3.2,h5,HLV2.out]
      rfl)
     have HPRE:Hid (∀W,Below (g+1) wr W→Dgs W (.slice (some ⟨g,0,none⟩) Lv cap) (Rr.take Lv)):=hid fun W hW=>by
      have h1:Lv≤Rr.length:=by rw[RL.out];have:=HM.out.1;omega
      have h2:=(HOR.out.later hW).row;refine⟨fun d hd=>HDI.out.dig d (List.mem_of_mem_take hd),some ⟨g,0,none⟩,cap,by rw[List.length_take,Nat.min_eq_left h1],by rw[List.length_take];have:=HCAP.out.1;have:=RL.out;omega,HCAP.out.2,.inr ⟨g,0,rfl,fun i hi => ?_⟩⟩;have hi2:i<Lv:=by rw[List.length_take] at hi;omega
      rw[h2 i (by omega)];unfold dv;simp only[List.getD_eq_getElem?_getD];rw[List.getElem?_take_of_lt hi2]
     have hdrew:Below wr.heap.size wr wr.drew:=(Below.refl _ _).drew;have HTR:=hid (q0n _ _ wr.drew (HPRE.out _ (hdrew.mono (by have:=HOR.out.1;omega))));rw[HVALS.out.2] at HTR
     have HTLen:Hid (dl (m % n*t)≤3000):=hid (by
      have h1:m % n*t≤n*t:=Nat.mul_le_mul_right _ (by
       rcases Nat.eq_zero_or_pos n with e|e
       ·have:=HYB.out.2;rw[e,Nat.zero_mul] at this;omega
       ·exact Nat.le_of_lt (Nat.mod_lt _ e))
      have h2:=qad qa3 h1;have h3:=HLV.out;have h4:=HNA.out;unfold dl at h3 ⊢
      omega)
     have HDD:Hid (∀v,DN wr.drew v (m % n*t)→Calls Tryz.prog 207 #[v,.int .i64 t] wr.drew fun e w'=>(∃v',e = .returned (.tuple #[v',.int .i64 ((m % n*t % t:Nat):Int)])∧DN w' v' (m % n))∧Below wr.heap.size wr w'):=hid fun v hv=>by
      have h1:=qun v (qaf D9 (m % n*t)) t wr.drew hv HTLen.out ht0 HTB.out;rw[qah _ _ qa3,Nat.mul_div_cancel _ ht0] at h1;refine h1.mono ?_;rintro e w' ⟨h2,h3⟩;exact⟨h2,hdrew.trans h3⟩
     have hcf:=HF0.out wr HBW.out;have hLi:(Lv:Int)≤(cap:Int):=by have h1:=HCAP.out.1;have h2:=HM.out.1;omega
     have hLn:Lv≤cap:=by omega
     have HQG:Hid (gq+1≤wr.heap.size):=hid HOQ.out.1;clear hdrew;go_wp2_with fail
     go_region_held3 (fun W=>W.cell? ⟨w1.heap.size,0,none⟩=some (.int .i64 (t:Nat))) (first|with_reducible exact HF0.out _ HB7.out|exact hcf)
      (first|(go_at_call 208;refine HTR.out.mono ?_;rintro e wT ⟨⟨vT,rfl,hT⟩,rfl⟩;have HTV:=hid hT;clear hT)|(go_at_call 207;refine(HDD.out _ HTV.out).mono ?_;rintro e wD ⟨⟨vD,rfl,hD⟩,hbD⟩;have HDV:=hid hD;have HBD:=hid hbD;have HB7:Hid (Below w2.heap.size w2 wD):=hid (HBW.out.trans (hbD.mono HBW.out.size));clear hD hbD))
     have HTQ:=hid (q0n _ Q wD (qwo (HOQ.out.later (HBD.out.mono HQG.out)) HDI.out.qdig (Nat.le_refl _) (by rw[HQL.out];unfold maxLen;omega)));rw[HVALS.out.1,HQL.out] at HTQ;go_wp2_with fail;refine HTQ.out.mono ?_;rintro e wE ⟨⟨vE,rfl,hE⟩,rfl⟩;have HEV:=hid hE;clear hE;go_wp2_with fail;go_ret2;exact⟨⟨_,_,rfl,HEV.out,HDV.out⟩,HB2.out.trans (HB7.out.mono HB2.out.size)⟩
    ·have hk1:((j+1:Nat):Int)-1=(j:Int):=by omega
     simp only[hk1];have HJ:Hid (j+(N+2)<La+1):=hid (by have:=HM.out.2;omega)
     have HG:Hid (Calls Tryz.prog 209 #[.slice (some ⟨g,0,none⟩) (La+1) cap,.slice (some ⟨bv,ov,none⟩) Lv cv,.int .i64 j] wr fun e w'=>(∃q:Nat,e = .returned (.int .i64 q)∧q<D9∧sg Rr j (N+3)/(n*t)≤q∧q≤sg Rr j (N+3)/(n*t)+1)∧∃k,w'=wr.drewN k):=hid (by
      have h1:=zbb g cap (.slice (some ⟨bv,ov,none⟩) Lv cv) Rr (qaf D9 (n*t)) j N wr HDI.out.dig HOR.out (HV.out.later HBW.out) HLV.out (by rw[RL.out];exact HJ.out) (by rw[RL.out];omega) ⟨by rw[RL.out];exact HCAP.out.1,HCAP.out.2⟩ (by rw[qah _ _ qa3];exact qwu HDI.out HYB.out.1) (q3t HLV.out);rw[qah _ _ qa3,RL.out] at h1
      exact h1)
     go_wp2_with fail;refine HG.out.mono ?_;rintro e w6 ⟨⟨q,rfl,hq9,hq1,hq2⟩,kw,hw6⟩;have HOR6:Hid (Own w6 g Rr.length (dv Rr)):=hid (by rw[hw6];exact HOR.out.later (below_drewN (Below.refl _ _) kw));have HOQ6:Hid (Own w6 gq Q.length (dv Q)):=hid (by rw[hw6];exact HOQ.out.later (below_drewN (Below.refl _ _) kw));have HB6:Hid (Below w2.heap.size w2 w6):=hid (by rw[hw6];exact below_drewN HBW.out kw);have HQ9:=hid hq9;have HQ1:=hid hq1;have HQ2:=hid hq2;have HQB:Hid (q<1000000000):=hid (by rw[qbp] at hq9;exact hq9);have hLvi:Lv≤900:=hLvb;have HLVV:Hid (N+2=Lv):=hid HLV2.out.symm;clear hw6 hq9 hq1 hq2 HG HOR HOQ HBW;go_wp2_with fail
     go_loopw [15,16] (fun b i wb=>∃x bo:Nat,∃Rc:List Nat,x≤Lv∧i = .int .i64 x∧b = .int .i64 bo∧Hid (bo≤q)∧Hid (Rc.length=La+1)∧Hid (∀d ∈ Rc,d<D9)∧Hid (Own wb g Rc.length (dv Rc))∧Hid (Own wb gq Q.length (dv Q))∧Hid (sg Rc j x+q*low D9 (qaf D9 (n*t)) x=sg Rr j x+D9^x*bo)∧Hid (∀y,y<j∨j+x≤y→Rc.getD y 0=Rr.getD y 0)∧Hid (Below w2.heap.size w2 wb)) (fun _ i _=>Lv-(intOf i).toNat)
     case atStart=>exact⟨0,0,Rr,Nat.zero_le _,rfl,rfl,hid (Nat.zero_le _),RL,hid HDI.out.dig,HOR6,HOQ6,hid (by simp[qwq,low]),hid (fun _ _=>rfl),HB6⟩
     case round=>
      obtain⟨x,bo,Rc,hx,rfl,rfl,HBO,HCL,HCD,HOC,HOQC,HEQ,HSM,HBC⟩:=hrel;clear HOR6 HOQ6 HB6;by_cases hxl:x<Lv
      ·have hjx:x+j<La+1:=by have:=HJ.out;have:=HLVV.out;omega
       have hjx2:x+j<Rc.length:=by rw[HCL.out];exact hjx
       obtain⟨hg,hfz⟩:=HOC.out.2 (x+j) hjx2;unfold dv at hg;have hcv:=HRV.out x hxl
       have hcell:wr.cell? ⟨bv,ov+x,none⟩=some (dv (qaf D9 (n*t)) x):=by
        rw[HBC.out.cell (p:=⟨bv,ov+x,none⟩) (World.block_lt_of_cell? w2 _ hcv)];exact hcv
       unfold dv at hcell;have hul:=qao (b:=D9) (by decide) HCD.out (x+j);have hyl:=HVD9.out x;have HSV:=hid (HVL.out x);have HSC:=hid (qhi Rr j x);have hsame:=HSM.out (x+j) (.inr (by omega));rw[Nat.add_comm j x,←hsame] at HSC;clear hcv hsame;generalize Rc.getD (x+j) 0=u at *;generalize (qaf D9 (n*t)).getD x 0=y at *;rw[qbp] at hul hyl;obtain⟨P,hP⟩:∃P:Nat,P=q*y+bo:=⟨_,rfl⟩;obtain⟨bNeg,bPos⟩:=q92 hyl HBO.out hul hP;have hxy0:0≤(q:Int)*(y:Int):=by rw[←Int.natCast_mul];omega
       have hxyn:q*y≤999999999*999999999:=Nat.mul_le_mul (by have:=HQB.out;omega) (by omega);have hxy1:(q:Int)*(y:Int)≤999999998000000001:=by rw[←Int.natCast_mul];omega
       have hqi:(q:Int)*(y:Int)+(bo:Int)=(P:Int):=by rw[←Int.natCast_mul];omega
       have hPm:(P:Int).tmod 1000000000=((P % 1000000000:Nat):Int):=by rw[Int.tmod_eq_emod_of_nonneg (by omega)];omega
       have hPd:(P:Int)/1000000000=((P/1000000000:Nat):Int):=by omega
       have hPb:P<9223372036854775807:=by have h1:=HBO.out;have h2:=HQB.out;omega
       have hPq:P/1000000000≤9223372036:=by omega
       have hPr:P % 1000000000<1000000000:=Nat.mod_lt _ (by omega)
       have HSET:Hid (∀d,d<1000000000→Hid ((Rc.set (x+j) d).length=La+1)∧Hid (∀e ∈ Rc.set (x+j) d,e<D9)∧Hid (Own (wr.setCell ⟨g,x+j,none⟩ (.int .i64 (d:Nat))) g (Rc.set (x+j) d).length (dv (Rc.set (x+j) d)))∧Hid (Own (wr.setCell ⟨g,x+j,none⟩ (.int .i64 (d:Nat))) gq Q.length (dv Q))∧Hid (sg (Rc.set (x+j) d) j (x+1)=sg Rc j x+D9^x*d)∧Hid (∀y,y<j∨j+(x+1)≤y→(Rc.set (x+j) d).getD y 0=Rr.getD y 0)∧Hid (Below w2.heap.size w2 (wr.setCell ⟨g,x+j,none⟩ (.int .i64 (d:Nat))))):=by
        refine hid fun d hd=>⟨hid (by rw[List.length_set];exact HCL.out),hid (qcs HCD.out _ _ (by rw[qbp];exact hd)),hid (HOC.out.setDig _ hjx2 d),hid (HOQC.out.setOther HNE.out _ _),hid ?_,hid fun z hz => ?_,hid (HBC.out.setCell (p:=⟨g,x+j,none⟩) HGB.out _)⟩
        ·rw[Nat.add_comm x j];exact qil Rc j x d (by omega)
        ·rw[qar _ _ _ _ (by omega)];exact HSM.out z (by omega)
       have HSTEP:Hid (∀d bo',d+y*q+bo=u+1000000000*bo'→sg Rc j x+D9^x*d+q*low D9 (qaf D9 (n*t)) (x+1)=sg Rr j (x+1)+D9^(x+1)*bo'):=hid fun d bo' h=>by
        rw[HSV.out,HSC.out,Nat.pow_succ];exact q0q HEQ.out (by rw[qbp];exact h)
       clear hP hxyn hul hyl hjx2 HSV HSC HEQ HSM HOC HOQC HCL HCD HBC HBO;generalize P % 1000000000=pm at *;generalize P/1000000000=pq at *;by_cases hneg:u<pm
       ·obtain⟨r1,r2,r3⟩:=bNeg hneg
        obtain⟨d,hd⟩:∃d,d=u+1000000000-pm:=⟨_,rfl⟩;rw[←hd] at r1 r3;have hs1:(u:Int)-(pm:Int)<0:=by omega
        have hs2:(u:Int)-(pm:Int)+1000000000=(d:Int):=by omega
        obtain⟨c1,c2,c3,c4,c5,c6,c7⟩:=HSET.out d r1;have HE2:=hid (HSTEP.out d (pq+1) r3);rw[←c5.out] at HE2;have HBO2:=hid r2;have hdb:d≤999999999:=by omega
        clear bNeg bPos hd r1 r2 r3 c5 HSET HSTEP hneg;go_wp2_with fail;go_roundw
        case rel=>exact⟨x+1,pq+1,_,by omega,by go_num,by go_num,HBO2,c1,c2,c3,c4,HE2,c6,c7⟩
        case measure=>simp[intOf];omega
       ·have hpos:pm≤u:=by omega
        obtain⟨r1,r2,r3⟩:=bPos hpos;obtain⟨d,hd⟩:∃d,d=u-pm:=⟨_,rfl⟩;rw[←hd] at r1 r3;have hs2:(u:Int)-(pm:Int)=(d:Int):=by omega
        obtain⟨c1,c2,c3,c4,c5,c6,c7⟩:=HSET.out d r1;have HE2:=hid (HSTEP.out d pq r3);rw[←c5.out] at HE2;have HBO2:=hid r2;have hdb:d≤999999999:=by omega
        clear bNeg bPos hd r1 r2 r3 c5 HSET HSTEP hneg hpos;go_wp2_with fail;go_roundw
        case rel=>exact⟨x+1,pq,_,by omega,by go_num,by go_num,HBO2,c1,c2,c3,c4,HE2,c6,c7⟩
        case measure=>simp[intOf];omega
      ·have hxe:x=Lv:=by omega
       subst x;obtain⟨p,HP⟩:∃p,Hid (p=j+(N+2)):=⟨_,hid rfl⟩;have hpi:(j:Int)+(Lv:Int)=(p:Int):=by have h1:=HP.out;have h2:=HLVV.out;omega
       have hpl:p<La+1:=by have h1:=HP.out;have h2:=HJ.out;omega
       have hpc:p<Rc.length:=by rw[HCL.out];exact hpl
       obtain⟨hg,hfz⟩:=HOC.out.2 p hpc;unfold dv at hg;have hjM:j<M:=by omega
       have hjQ:j<Q.length:=by rw[HQL.out];exact hjM
       obtain⟨hgq,hfq⟩:=HOQC.out.2 j hjQ;have htpl:=qao (b:=D9) (by decide) HCD.out p;have HSP:=hid (HSM.out p (.inr (by have h1:=HP.out;have h2:=HLVV.out;omega)))
       have HWW:Hid (sg Rr j (N+3)=sg Rr j (N+2)+D9^(N+2)*Rc.getD p 0):=hid (by
        rw[HSP.out,HP.out];exact qhi Rr j (N+2))
       have HEQ2:Hid (sg Rr j (N+2)+D9^(N+2)*bo=sg Rc j (N+2)+q*(n*t)):=hid (by
        have h1:=HEQ.out;rw[HVA.out,←HLVV.out] at h1
        exact h1.symm)
       rw[qbp] at htpl;have hbob:bo<1000000000:=by have h1:=HBO.out;have h2:=HQB.out;omega
       have HRCp:Hid (∀d,sg (Rc.set p d) j (N+3)=sg Rc j (N+2)+D9^(N+2)*d):=hid fun d=>by
        rw[HP.out];exact qil Rc j (N+2) d (by rw[←HP.out];exact hpc)
       have HM1:=hid (HOC.out.minus1 p hpc);have HSD:=hid (fun d=>HOC.out.setDig p hpc d);have HSC:=hid (q91 Rc j (N+2) HCD.out);generalize htp:Rc.getD p 0=tp at *;clear htp;by_cases hge:bo≤tp
       ·obtain⟨d,hd⟩:∃d,d=tp-bo:=⟨_,rfl⟩
        have hdi:(tp:Int)-(bo:Int)=(d:Int):=by omega
        obtain⟨f1,f2⟩:=q3s HEQ2.out HWW.out hge HYB.out.2 HQ1.out;rw[←hd,←HRCp.out] at f1 f2;have hdl:d<1000000000:=by omega
        have HNEW:Hid (q76 R (Rc.set p d) (Q.set j q) (n*t) j):=hid (quo HDI.out HYB.out.1 (by rw[List.length_set,HCL.out,RL.out]) (qcs HCD.out _ _ (by rw[qbp];exact hdl))
         (fun y hy=>by rw[qar _ _ _ _ (by have h1:=HP.out;omega)];exact HSM.out y (by have h2:=HLVV.out;omega)) f1 f2 HQ9.out hjQ)
        have HO1:Hid (Own (wr.setCell ⟨g,p,none⟩ (.int .i64 (d:Nat))) g (Rc.set p d).length (dv (Rc.set p d))):=hid (HSD.out d);have HO2:Hid (Own (wr.setCell ⟨g,p,none⟩ (.int .i64 (d:Nat))) gq Q.length (dv Q)):=hid (HOQC.out.setOther HNE.out _ _);have HB8:Hid (Below w2.heap.size w2 (wr.setCell ⟨g,p,none⟩ (.int .i64 (d:Nat)))):=hid (HBC.out.setCell (p:=⟨g,p,none⟩) HGB.out _);have HO3:=hid (HO1.out.setOther (Ne.symm HNE.out) j (.int .i64 (q:Nat)));have HO4:=hid (HO2.out.setDig j hjQ q);have HB9:=hid (HB8.out.setCell (p:=⟨gq,j,none⟩) HGQ.out (.int .i64 (q:Nat)));obtain⟨k1,_⟩:=HO1.out.2 p (by rw[List.length_set];exact hpc);obtain⟨k2,k3⟩:=HO2.out.2 j hjQ;rw[qk8 _ _ _ hpc] at k1;have hdn:¬(d:Int)<0:=by omega
        have HQL2:Hid ((Q.set j q).length=M):=hid (by rw[List.length_set];exact HQL.out);clear hd hge f1 f2 hbob htpl hpc hjQ;go_wp2_with fail;go_roundw
        case rel=>exact⟨j,_,_,by omega,by go_num,HQL2,HNEW,HO3,HO4,HB9⟩
        case measure=>simp[intOf]
       ·have hlt:tp<bo:=by omega
        obtain⟨f1,f2,f3⟩:=q69 HEQ2.out HWW.out hlt HYB.out.2 HYB.out.1 HSC.out HQ2.out;have F3:=hid f3;have hdi:(tp:Int)-(bo:Int) = -1:=by omega
        obtain⟨q',hq'⟩:∃q':Nat,q=q'+1:=⟨q-1,by omega⟩;have hqi:(q:Int)-1=(q':Int):=by omega
        have HQ':Hid (q'=q-1):=hid (by omega);have HQ9':Hid (q'<D9):=hid (by have:=HQ9.out;omega);have hqb:(q:Int)≤1000000000:=by have:=HQB.out;omega
        have HO2:Hid (Own (wr.setCell ⟨g,p,none⟩ (.int .i64 (-1))) gq Q.length (dv Q)):=hid (HOQC.out.setOther HNE.out _ _);have HB8:Hid (Below w2.heap.size w2 (wr.setCell ⟨g,p,none⟩ (.int .i64 (-1)))):=hid (HBC.out.setCell (p:=⟨g,p,none⟩) HGB.out _);obtain⟨k1,_⟩:=HM1.out.2 p hpc;unfold dvm at k1;rw[if_pos rfl] at k1;clear hlt f1 f2 f3 hbob htpl hjQ hq' hgq hfq hge;go_wp2_with fail;generalize wr.setCell ⟨g,p,none⟩ (.int .i64 (-1))=wn at *
        go_loopw [19,20] (fun c i wz=>∃x cc:Nat,∃Rb:List Nat,x≤Lv∧i = .int .i64 x∧c = .int .i64 cc∧cc≤1∧Hid (Rb.length=La+1)∧Hid (∀d ∈ Rb,d<D9)∧Hid (Own wz g Rb.length (dvm Rb p))∧Hid (Own wz gq Q.length (dv Q))∧Hid (sg Rb j x+D9^x*cc=sg Rc j x+low D9 (qaf D9 (n*t)) x)∧Hid (∀y,y<j∨j+x≤y→Rb.getD y 0=Rc.getD y 0)∧Hid (Below w2.heap.size w2 wz)) (fun _ i _=>Lv-(intOf i).toNat)
        case atStart=>exact⟨0,0,Rc,Nat.zero_le _,rfl,rfl,by omega,HCL,HCD,hid HM1.out,HO2,hid (by simp[qwq,low]),hid (fun _ _=>rfl),HB8⟩
        case round=>
         obtain⟨x,cc,Rb,hx,rfl,rfl,hcc,HBL,HBD,HOB,HOQB,HEQB,HSMB,HBB⟩:=hrel;by_cases hxl:x<Lv
         ·have hjx:x+j<La+1:=by have:=HJ.out;have:=HLVV.out;omega
          have hjx2:x+j<Rb.length:=by rw[HBL.out];exact hjx
          have hne':x+j≠p:=by have h1:=HP.out;have h2:=HLVV.out;omega
          obtain⟨hg,hfz⟩:=HOB.out.2 (x+j) hjx2;unfold dvm at hg;rw[if_neg hne'] at hg;unfold dv at hg;have hcv:=HRV.out x hxl
          have hcell:wr.cell? ⟨bv,ov+x,none⟩=some (dv (qaf D9 (n*t)) x):=by
           rw[HBB.out.cell (p:=⟨bv,ov+x,none⟩) (World.block_lt_of_cell? w2 _ hcv)];exact hcv
          unfold dv at hcell;have hul:=qao (b:=D9) (by decide) HBD.out (x+j);have hyl:=HVD9.out x;have HSV:=hid (HVL.out x);have HSCC:=hid (qhi Rc j x);have hsame:=HSMB.out (x+j) (.inr (by omega));rw[Nat.add_comm j x,←hsame] at HSCC;clear hcv hsame;generalize Rb.getD (x+j) 0=u at *;generalize (qaf D9 (n*t)).getD x 0=y at *;rw[qbp] at hul hyl;obtain⟨sm,hsm⟩:∃sm:Nat,sm=u+y+cc:=⟨_,rfl⟩;have hsi:(u:Int)+(y:Int)+(cc:Int)=(sm:Int):=by omega
          have hsm1:(sm:Int).tmod 1000000000=((sm % 1000000000:Nat):Int):=by rw[Int.tmod_eq_emod_of_nonneg (by omega)];omega
          have hsm2:(sm:Int)/1000000000=((sm/1000000000:Nat):Int):=by omega
          have hsm3:sm/1000000000≤1:=by omega
          have hsb:sm≤2000000000:=by omega
          have hd9:sm % 1000000000<1000000000:=Nat.mod_lt _ (by omega)
          have hE2:sg Rb j x+D9^x*(sm % 1000000000)+D9^(x+1)*(sm/1000000000)=sg Rc j (x+1)+low D9 (qaf D9 (n*t)) (x+1):=by
           rw[HSV.out,HSCC.out,Nat.pow_succ];refine q0r HEQB.out ?_;rw[qbp];have:=Nat.mod_add_div sm 1000000000;omega
          have hsg:∀d,sg (Rb.set (x+j) d) j (x+1)=sg Rb j x+D9^x*d:=fun d=>by
           rw[Nat.add_comm x j];exact qil Rb j x d (by omega)
          rw[←hsg] at hE2;have HE2:=hid hE2;have C1:Hid ((Rb.set (x+j) (sm % 1000000000)).length=La+1):=hid (by rw[List.length_set];exact HBL.out);have C2:Hid (∀e ∈ Rb.set (x+j) (sm % 1000000000),e<D9):=hid (qcs HBD.out _ _ (by rw[qbp];exact hd9));have C3:=hid (HOB.out.setDvm (x+j) hjx2 hne' (sm % 1000000000));have C4:=hid (HOQB.out.setOther HNE.out (x+j) (.int .i64 ((sm % 1000000000:Nat):Int)))
          have C6:Hid (∀z,z<j∨j+(x+1)≤z→(Rb.set (x+j) (sm % 1000000000)).getD z 0=Rc.getD z 0):=hid fun z hz=>by
           rw[qar _ _ _ _ (by omega)];exact HSMB.out z (by omega)
          have C7:=hid (HBB.out.setCell (p:=⟨g,x+j,none⟩) HGB.out (.int .i64 ((sm % 1000000000:Nat):Int)));clear hsm hul hyl hjx2 hne' HSV HSCC hE2 hsg HBL HBD HOB HOQB HEQB HSMB HBB hd9;generalize sm % 1000000000=d at *;generalize sm/1000000000=cn at *;go_wp2_with fail
          go_quiet (fail)
          go_wp2_with fail;go_roundw
          case rel=>exact⟨x+1,cn,_,by omega,by go_num,by go_num,hsm3,C1,C2,hid (C3.out.later (below_drewN (Below.refl _ _) nq)),hid (C4.out.later (below_drewN (Below.refl _ _) nq)),HE2,C6,hid (below_drewN C7.out nq)⟩
          case measure=>simp[intOf];omega
         ·have hxe:x=Lv:=by omega
          subst x;have hpb:p<Rb.length:=by rw[HBL.out];exact hpl
          obtain⟨hg,hfz⟩:=HOB.out.2 p hpb;unfold dvm at hg;rw[if_pos rfl] at hg;have hE:=HEQB.out;rw[HVA.out,←HLVV.out] at hE;obtain⟨hc1,f1,f2⟩:=F3.out _ cc hE (q91 Rb j (N+2) HBD.out) hcc;rw[←HQ'.out] at f1;obtain⟨z,hz⟩:∃z:Nat,z=0:=⟨_,rfl⟩;have hzi:(-1:Int)+(cc:Int)=(z:Int):=by omega
          have hsz:sg (Rb.set p z) j (N+3)=sg Rb j (N+2):=by
           rw[HP.out,qil Rb j (N+2) z (by rw[←HP.out];exact hpb),hz];omega
          rw[←hsz] at f1 f2;have hjQ:j<Q.length:=by rw[HQL.out];exact hjM
          have HNEW:Hid (q76 R (Rb.set p z) (Q.set j q') (n*t) j):=hid (quo HDI.out HYB.out.1 (by rw[List.length_set,HBL.out,RL.out]) (qcs HBD.out _ _ (by rw[hz];decide))
           (fun y hy=>by rw[qar _ _ _ _ (by have h1:=HP.out;omega),HSMB.out y (by have h2:=HLVV.out;omega)];exact HSM.out y (by have h2:=HLVV.out;omega)) f1 f2 HQ9'.out hjQ)
          have HO5:Hid (Own (wr.setCell ⟨g,p,none⟩ (.int .i64 (z:Nat))) g (Rb.set p z).length (dv (Rb.set p z))):=hid (HOB.out.unminus hpb z);have HO6:Hid (Own (wr.setCell ⟨g,p,none⟩ (.int .i64 (z:Nat))) gq Q.length (dv Q)):=hid (HOQB.out.setOther HNE.out _ _);have HB8':Hid (Below w2.heap.size w2 (wr.setCell ⟨g,p,none⟩ (.int .i64 (z:Nat)))):=hid (HBB.out.setCell (p:=⟨g,p,none⟩) HGB.out _);have HO3:=hid (HO5.out.setOther (Ne.symm HNE.out) j (.int .i64 (q':Nat)));have HO4:=hid (HO6.out.setDig j hjQ q');have HB9:=hid (HB8'.out.setCell (p:=⟨gq,j,none⟩) HGQ.out (.int .i64 (q':Nat)));obtain⟨k2,k3⟩:=HO6.out.2 j hjQ;have HQL2:Hid ((Q.set j q').length=M):=hid (by rw[List.length_set];exact HQL.out);clear hE hc1 f1 f2 hz hsz hjQ hpb;go_wp2_with fail;go_roundw
          case rel=>exact⟨j,_,_,by omega,by go_num,HQL2,HNEW,HO3,HO4,HB9⟩
          case measure=>simp[intOf]
end Go.Proofs.YthjagoogkkgelaaGreatDoor
