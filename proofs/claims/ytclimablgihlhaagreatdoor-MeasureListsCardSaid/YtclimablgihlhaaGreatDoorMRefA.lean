/- The reference's integers: digits to the base 10^9; trim, digit, compareDigits, addDigits, subDigits. -/
import Derived.Test.YtclimablgihlhaaGreatDoorMGuess
import Derived.Test.YtclimablgihlhaaGreatDoorMBase
import Derived.WalkKit
import Derived.Deep.AppendLies
import Derived.Laws.OwnMore
import Derived.Test.YtclimablgihlhaaGreatDoorMApport
import Derived.Test.YtclimablgihlhaaGreatDoorMMul
import Derived.Test.YtclimablgihlhaaGreatDoorMMaths
import Derived.BigQuiet
import Derived.Deep.RegionHeld3
set_option linter.all false
namespace Go.Proofs.YtclimablgihlhaaGreatDoor
open Go.RowKit
set_option maxRecDepth 100000
set_option maxHeartbeats 16000000
def D9:Nat:=1000000000
theorem qbo:D9=1000000000:=rfl
theorem qa2:2≤D9:=by decide
def dv(l:List Nat)(i:Nat):Value := .int .i64 ((l.getD i 0:Nat):Int)
def Dgs(w:World)(v:Value)(l:List Nat):Prop:=(∀d ∈ l,d<D9)∧qeh w v l.length (dv l)
theorem Dgs.later{w w':World}{v:Value}{l:List Nat}(h:Dgs w v l)(hb:Below w.heap.size w w'):Dgs w' v l:=⟨h.1,h.2.later hb⟩
def DN(w:World)(v:Value)(n:Nat):Prop:=Dgs w v (qaf D9 n)
theorem DN.later{w w':World}{v:Value}{n:Nat}(h:DN w v n)(hb:Below w.heap.size w w'):DN w' v n:=Dgs.later h hb
def dl(n:Nat):Nat:=(qaf D9 n).length
theorem qyh(l:List Nat)(k:Nat)(hl:∀d ∈ l,d<D9)(hk:k≤l.length)(hv:val D9 l=low D9 l k)(wO:k=0∨l.getD (k-1) 0≠0):qaf D9 (val D9 l)=l.take k:=by
 rw[hv];refine qkr D9 qa2 _ (fun d hd=>hl d (List.mem_of_mem_take hd)) ?_;intro m d hm;rcases wO with h0|h0
 ·subst h0;simp at hm
 ·have aF:(l.take k).length=k:=by simp;omega
  have hd:(l.take k).getD (k-1) 0=d:=by
   have:m.length=k-1:=by rw[hm] at aF;simp at aF;omega
   rw[hm,←this];simp
  have oG:0<k:=by
   rw[hm] at aF;simp at aF;omega
  rw[←hd]
  have:(l.take k).getD (k-1) 0=l.getD (k-1) 0:=by
   simp only[zaw];rw[List.getElem?_take_of_lt (by omega)]
  rw[this];exact h0
theorem q0z(w:World)(p:Option Addr)(c:Nat)(l:List Nat)(k:Nat)(hl:∀d ∈ l,d<D9)(hk:k≤l.length)(bP:l.length≤c)(bK:c≤maxLen)
  (aA:l.length=0∨∃b o,p=some ⟨b,o,none⟩∧qlx w b o l.length (dv l)) (e:qaf D9 (val D9 l)=l.take k):DN w (.slice p k c) (val D9 l):=by
 have aF:(l.take k).length=k:=by simp;omega
 unfold DN Dgs;rw[e];refine⟨fun d hd=>hl d (List.mem_of_mem_take hd),p,c,by rw[aF],by omega,bK, ?_⟩;rw[aF];rcases aA with h0|⟨b,o,hp,aB⟩
 ·exact .inl (by omega)
 ·refine .inr ⟨b,o,hp,fun i hi => ?_⟩
  rw[aB i (by omega)];unfold dv;simp only[zaw];rw[List.getElem?_take_of_lt hi]
theorem q6c(v:Value)(l:List Nat)(w:World)(h:Dgs w v l):
  Calls Tryz.prog 205 #[v] w fun e w'=>(∃v',e = .returned v'∧∀W,Dgs W v l→DN W v' (val D9 l))∧w=w':=by
 have HH:=hid h;obtain⟨hl,p,c,rfl,bP,bK,aA⟩:=h
 have FIN:Hid (∀k,k≤l.length→val D9 l=low D9 l k→(k=0∨l.getD (k-1) 0≠0)→∀W,Dgs W (.slice p l.length c) l→DN W (.slice p k c) (val D9 l)):=hid fun k hk h1 h2 W hW=>by
  obtain⟨_,p',c',he,_,_,hcells'⟩:=hW;cases he
  exact q0z W p c l k hl hk bP bK hcells' (qyh l k hl hk h1 h2)
 unfold maxLen at bK;go_enter Tryz.func205,Tryz.ntmps205;go_wp2
 go_loop [0] (fun s=>∃k:Nat,k≤l.length∧s = .slice p k c∧Hid (val D9 l=low D9 l k)) qku
 case atStart=>exact⟨_,zap _,rfl,hid (qa4 _ _ _ (zap _)).symm⟩
 case round=>
  obtain⟨k,hk,rfl,hv⟩:=hrel;by_cases oG:k=0
  ·subst oG
   go_wp2;go_ret;exact⟨⟨_,rfl,FIN.out 0 hk hv.out (.inl rfl)⟩,rfl⟩
  ·obtain⟨j,rfl⟩:∃j,k=j+1:=⟨k-1,by omega⟩
   rcases aA with h0|⟨b,o,rfl,aB⟩
   ·omega
   have aC:=aB j (by omega);unfold dv at aC;have hs:=qao D9 l j;generalize Pa:l.getD j 0=x at *;have HX:=hid Pa;have HS:=hid hs;clear Pa hs hl aB;by_cases oH:x=0
   ·subst oH
    have hb:(((0:Nat):Int)==0)=true:=rfl;go_wp2;exact⟨⟨j,by omega,rfl,hid (by rw[hv.out,HS.out];omega)⟩,by simp[qku]⟩
   ·have hb:((x:Int)==0)=false:=by simp;omega
    go_wp2;go_ret;exact⟨⟨_,rfl,FIN.out _ hk hv.out (.inr (by show l.getD (j+1-1) 0≠0;rw[Nat.add_sub_cancel,HX.out];exact oH))⟩,rfl⟩
theorem qyi(v:Value)(l:List Nat)(w:World)(h:Dgs w v l):
  Calls Tryz.prog 205 #[v] w fun e w'=>(∃v',e = .returned v'∧DN w v' (val D9 l))∧w=w':=
 (q6c v l w h).mono fun _ _ ⟨⟨v',he,hv⟩,hw⟩=>⟨⟨v',he,hv w h⟩,hw⟩
theorem q00(v:Value)(l:List Nat)(i:Nat)(w:World)(h:Dgs w v l)(hi:i≤1048576):
  Calls Tryz.prog 207 #[v,.int .i64 i] w fun e w'=>e = .returned (.int .i64 (l.getD i 0:Nat))∧w'=w:=by
 obtain⟨_,p,c,rfl,bP,bK,aA⟩:=h;unfold maxLen at bK;by_cases bI:i<l.length
 ·rcases aA with h0|⟨b,o,rfl,aB⟩
  ·omega
  have aC:=aB i bI;unfold dv at aC;clear aB;generalize l.getD i 0=x at *;go_enter Tryz.func207,Tryz.ntmps207;go_wp2;go_ret;exact⟨rfl,rfl⟩
 ·have h0:l.getD i 0=0:=by rw[zaw,List.getElem?_eq_none (by omega)];rfl
  rw[h0];clear aA h0;go_enter Tryz.func207,Tryz.ntmps207;go_wp2;go_ret;exact⟨rfl,rfl⟩
theorem qri(va vb:Value)(m n:Nat)(w:World)(ha:DN w va m)(hb:DN w vb n):
  Calls Tryz.prog 184 #[va,vb] w fun e w'=>e = .returned (.int .i64 (qen m n))∧Below w.heap.size w w':=by
 obtain⟨dJ,pa,ca,rfl,kW,fP,hcellsa⟩:=ha;obtain⟨dG,pb,cb,rfl,kE,fZ,hcellsb⟩:=hb;unfold maxLen at fP fZ;by_cases aF:(qaf D9 m).length=(qaf D9 n).length
 ·have hne:((((qaf D9 m).length:Nat):Int) != ((qaf D9 n).length:Nat))=false:=by simp;omega
  have FIN:Hid (∀j,j<(qaf D9 m).length→(qaf D9 m).drop (j+1)=(qaf D9 n).drop (j+1)→((qaf D9 m).getD j 0<(qaf D9 n).getD j 0→qen m n = -1)∧((qaf D9 n).getD j 0<(qaf D9 m).getD j 0→qen m n=1)):=by
   refine hid fun j hj ht => ?_;unfold qen;constructor
   ·intro h
    have:=qho qa2 aF dJ j hj ht h;rw[qah _ _ qa2,qah _ _ qa2] at this;exact qcy (by omega)
   ·intro h
    have:=qho qa2 aF.symm dG j (by omega) ht.symm h;rw[qah _ _ qa2,qah _ _ qa2] at this;exact qch (by omega)
  have EQ:Hid ((qaf D9 m).drop 0=(qaf D9 n).drop 0→qen m n=0):=hid fun h=>by
   have:=qqu qa2 (by simpa using h);subst this;exact qei rfl
  have STEP:Hid (∀j,j<(qaf D9 m).length→(qaf D9 m).drop (j+1)=(qaf D9 n).drop (j+1)→(qaf D9 m).getD j 0=(qaf D9 n).getD j 0→(qaf D9 m).drop j=(qaf D9 n).drop j):=hid fun j hj=>qsg hj aF;have LEN:=hid aF;clear aF;generalize qaf D9 m=l at *;generalize qaf D9 n=r at *;go_enter Tryz.func184,Tryz.ntmps184;go_wp2_with fail
  go_loopw [5] (fun i wr=>∃k:Nat,k≤l.length∧i = .int .i64 ((k:Int)-1)∧Hid (l.drop k=r.drop k)∧Hid (Below w.heap.size w wr)) (fun i _=>(intOf i+1).toNat)
  case atStart=>exact⟨_,zap _,rfl,hid (by rw[List.drop_of_length_le (zap _),LEN.out,List.drop_of_length_le (zap _)]),hid (zan _ _)⟩
  case round=>
   obtain⟨k,hk,rfl,ht,bR⟩:=hrel;rcases k with _|j
   ·have HE:=hid (EQ.out ht.out)
    go_wp2;go_ret;exact⟨qa0 HE.out.symm,bR.out⟩
   ·have e1:((j+1:Nat):Int)-1=(j:Int):=by omega
    simp only[e1];rcases hcellsa with h0|⟨b,o,rfl,aB⟩
    ·omega
    rcases hcellsb with h0|⟨b',o',rfl,hrow'⟩
    ·have:=LEN.out;omega
    have aC:∀W,Below w.heap.size w W→W.cell? ⟨b,o+j,none⟩=some (dv l j)∧W.cell? ⟨b',o'+j,none⟩=some (dv r j):=fun W hW=>by
     have h1:=aB j (by omega);have h2:=hrow' j (by have:=LEN.out;omega);rw[hW.cell (p:=⟨b,o+j,none⟩) (zaq w _ h1),hW.cell (p:=⟨b',o'+j,none⟩) (zaq w _ h2)];exact⟨h1,h2⟩
    unfold dv at aC;have HCE:=hid aC;clear aC;have FJ:=hid (FIN.out j (by omega) ht.out);have SJ:=hid (STEP.out j (by omega) ht.out);have h2:j<r.length:=by have:=LEN.out;omega
    clear aB hrow';generalize l.getD j 0=x at *;generalize r.getD j 0=y at *;clear FIN STEP EQ;obtain⟨hc,hc'⟩:=HCE.out wr bR.out;rcases Nat.lt_trichotomy x y with xF|xF|xF
    ·have HE:=hid (FJ.out.1 xF)
     go_wp2_with fail
     go_quiet (fail)
     go_wp2_with fail;go_ret;exact⟨qa0 HE.out.symm,below_drewN bR.out _⟩
    ·have HS:=hid (SJ.out xF)
     have pL:¬x<y:=by omega
     have sG:=hid xF;clear xF;go_wp2_with fail
     go_quiet (fail)
     go_wp2_with fail;clear hc hc' pL;have dP:=hid (below_drewN bR.out nq);obtain⟨hc,hc'⟩:=HCE.out _ dP.out;have rE:¬y<x:=by have:=sG.out;omega
     generalize wr.drewN nq=w2 at *
     go_quiet (fail)
     go_wp2_with fail;go_roundw
     case rel=>exact⟨j,by omega,by go_num,HS,hid (below_drewN dP.out _)⟩
     case measure=>simp[intOf]
    ·have HE:=hid (FJ.out.2 xF)
     have pL:¬x<y:=by omega
     have sG:=hid xF;clear xF;go_wp2_with fail
     go_quiet (fail)
     go_wp2_with fail;clear hc hc' pL;have dP:=hid (below_drewN bR.out nq);obtain⟨hc,hc'⟩:=HCE.out _ dP.out;have rE:y<x:=sG.out;generalize wr.drewN nq=w2 at *
     go_quiet (fail)
     go_wp2_with fail;go_ret;exact⟨qa0 HE.out.symm,below_drewN dP.out _⟩
 ·have hne:((((qaf D9 m).length:Nat):Int) != ((qaf D9 n).length:Nat))=true:=by simp;omega
  rcases Nat.lt_or_ge (qaf D9 m).length (qaf D9 n).length with h|h
  ·have HE:Hid (qen m n = -1):=hid (qcy (by have:=qd3 qa2 h;omega))
   have hb:decide ((((qaf D9 m).length:Nat):Int)<((qaf D9 n).length:Nat))=true:=zas (by omega);clear aF hcellsa hcellsb dJ dG;go_enter Tryz.func184,Tryz.ntmps184;go_wp2;go_ret;exact⟨qa0 HE.out.symm,zan _ _⟩
  ·have h':(qaf D9 n).length<(qaf D9 m).length:=by omega
   have HE:Hid (qen m n=1):=hid (qch (by have:=qd3 qa2 h';omega));have hb:decide ((((qaf D9 m).length:Nat):Int)<((qaf D9 n).length:Nat))=false:=zar (by omega);clear aF hcellsa hcellsb dJ dG;go_enter Tryz.func184,Tryz.ntmps184;go_wp2;go_ret;exact⟨qa0 HE.out.symm,zan _ _⟩
def zi(l:List Nat):List Int:=List.map (fun(d:Nat)=>(d:Int)) l
theorem qh0(l:List Nat)(d:Nat):zi (l++[d])=zi l++[(d:Int)]:=by simp[zi]
theorem qi0{W:World}{base k:Nat}{v:Value}{l:List Nat}(h:W.ownsRow base 3 1 v k ((zi l).map (Value.int .i64)))(hl:l.length=k)(hd:∀d ∈ l,d<D9):Dgs W v l:=by
 refine⟨hd, ?_⟩;have h0:=h;rcases h.2 with⟨rfl,hk⟩|⟨g,cap,cur,rfl,_,sB,hn,hm,hs,ht⟩
 ·exact⟨none,0,by rw[hl,hk],by omega,by decide,.inl (by omega)⟩
 ·refine⟨some ⟨g,0,none⟩,cap,by rw[hl],by omega,hm,.inr ⟨g,0,rfl,fun i hi => ?_⟩⟩
  rw[Nat.zero_add,h0.cellAt i (by omega),List.getElem?_map];unfold zi dv;rw[List.getElem?_map,zaw,zau hi];rfl
theorem qlc{W:World}{base k:Nat}{e:TypeId}{n:Nat}{v:Value}{xs:List Value}(h:W.ownsRow base e n v k xs)(q:Nat):(W.drewN q).ownsRow base e n v k xs:=h
theorem qs6(l:List Nat)(i:Nat)(h:l.length≤i):l.getD i 0=0:=by rw[zaw,List.getElem?_eq_none h];rfl
theorem qf0{P:Nat→Prop}{l:List Nat}{d:Nat}(h:∀x ∈ l,P x)(hd:P d):∀x ∈ l++[d],P x:=by
 intro x hx;rw[List.mem_append] at hx;rcases hx with hx|hx
 ·exact h x hx
 ·simp at hx;subst hx;exact hd
theorem q7k{lo:List Nat}{s k cc x y a b a' b':Nat}(fW:lo.length=k)(h:val D9 lo+D9^k*cc=a+b)(hs:s=x+y+cc)(ha:a'=a+D9^k*x)(hb:b'=b+D9^k*y):
  val D9 (lo++[s % 1000000000])+D9^(k+1)*(s/1000000000)=a'+b':=by
 rw[qd2,fW,ha,hb];have e1:D9^(k+1)*(s/1000000000)=D9^k*(1000000000*(s/1000000000)):=by rw[Nat.pow_succ,qbo,Nat.mul_assoc]
 rw[e1];generalize D9^k=P at *;have e2:P*(s % 1000000000)+P*(1000000000*(s/1000000000))=P*s:=by rw[←Nat.mul_add,Nat.mod_add_div]
 have e3:P*s=P*x+P*y+P*cc:=by rw[hs,Nat.mul_add,Nat.mul_add]
 omega
theorem zak(va vb:Value)(l r:List Nat)(w:World)(ha:Dgs w va l)(hb:Dgs w vb r)(hl:l.length≤1000)(hr:r.length≤1000):
  Calls Tryz.prog 183 #[va,vb] w fun e w'=>(∃v' l',e = .returned v'∧Dgs w' v' l'∧val D9 l'=val D9 l+val D9 r∧l'.length≤1001)∧Below w.heap.size w w':=by
 have HA:=hid ha;have HB:=hid hb;obtain⟨dJ,pa,ca,rfl,kW,fP,_⟩:=ha;obtain⟨dG,pb,cb,rfl,kE,fZ,_⟩:=hb;unfold maxLen at fP fZ;have kP:=hid dJ;have jE:=hid dG;clear dJ dG;obtain⟨M,hM⟩:∃M,M=max l.length r.length:=⟨_,rfl⟩;have hM1:l.length≤M∧r.length≤M∧M≤1000∧(M=l.length∨M=r.length):=by omega
 clear hM;go_enter Tryz.func183,Tryz.ntmps183;go_wp2_with fail
 go_loopw [5,6,7] (fun v c i wr=>∃k cc:Nat,∃lo:List Nat,k≤M+1∧i = .int .i64 k∧c = .int .i64 cc∧cc≤1∧(k≤M∨cc=0)∧Hid (lo.length=k)∧Hid (∀d ∈ lo,d<D9)∧Hid (val D9 lo+D9^k*cc=low D9 l k+low D9 r k)∧Hid (wr.ownsRow w.heap.size 3 1 v k ((zi lo).map (Value.int .i64)))∧Hid (Below w.heap.size w wr)) (fun _ _ i _=>M+1-(intOf i).toNat)
 case atStart=>exact⟨0,0,[],by omega,rfl,rfl,by omega,.inr rfl,hid rfl,hid (by simp),hid (by simp),hid (World.ownsRow_nil _ _ _ _),hid (zan _ _)⟩
 case round=>
  obtain⟨k,cc,lo,hk,rfl,rfl,gA,hkc,rI,mK,HV,bL,bR⟩:=hrel;by_cases hc:k<l.length∨k<r.length∨0<cc
  ·obtain⟨x,hx⟩:∃x,x=l.getD k 0:=⟨_,rfl⟩
   obtain⟨y,hy⟩:∃y,y=r.getD k 0:=⟨_,rfl⟩;have Oe:=qan (b:=D9) (by decide) kP.out k;have Jo:=qan (b:=D9) (by decide) jE.out k;rw[←hx,qbo] at Oe;rw[←hy,qbo] at Jo;have gR:=hid (fun W (hW:Below w.heap.size w W)=>q00 _ l k W (HA.out.later hW) (by omega));have gH:=hid (fun W (hW:Below w.heap.size w W)=>q00 _ r k W (HB.out.later hW) (by omega));rw[←hx] at gR;rw[←hy] at gH;obtain⟨s,hs⟩:∃s:Nat,s=x+y+cc:=⟨_,rfl⟩;have hsi:(x:Int)+(y:Int)+(cc:Int)=(s:Int):=by omega
   have jL:(s:Int).tmod 1000000000=((s % 1000000000:Nat):Int):=by rw[Int.tmod_eq_emod_of_nonneg (by omega)];omega
   have Hm:(s:Int)/1000000000=((s/1000000000:Nat):Int):=by omega
   have kA:k≤M:=by omega
   have jG:k+1≤M∨s/1000000000=0:=by
    rcases Nat.lt_or_ge k M with h|h
    ·exact .inl h
    ·refine .inr ?_
     have h1:=qs6 l k (by omega);have h2:=qs6 r k (by omega);omega
   have hsq1:s/1000000000≤1:=by omega
   have iD:s<4000000000:=by omega
   have Bm:Hid ((lo++[s % 1000000000]).length=k+1):=hid (by rw[List.length_append,rI.out];rfl);have jV:Hid (∀d ∈ lo++[s % 1000000000],d<D9):=hid (qf0 mK.out (by rw[qbo];omega));have cO:Hid (val D9 (lo++[s % 1000000000])+D9^(k+1)*(s/1000000000)=low D9 l (k+1)+low D9 r (k+1)):=hid (q7k rI.out HV.out hs (by rw[qao,hx]) (by rw[qao,hy]));have HZ:Hid (zi (lo++[s % 1000000000])=zi lo++[((s % 1000000000:Nat):Int)]):=hid (qh0 _ _);clear hx hy hs Oe Jo;generalize s % 1000000000=d at *;generalize s/1000000000=c' at *;rcases(show k<l.length∨¬k<l.length∧k<r.length∨¬k<l.length∧¬k<r.length∧0<cc by omega) with h|⟨h,h'⟩|⟨h,h',h''⟩
   all_goals
    clear hc;go_wp2_with fail;refine(gR.out _ bR.out).mono ?_;rintro e w1 ⟨rfl,rfl⟩;go_wp2_with fail;refine(gH.out _ bR.out).mono ?_;rintro e w1 ⟨rfl,rfl⟩;go_wp2_with (at_builtin;refine qhr rfl _ _ rfl w _ w.heap.size k _ (zi lo) _ (by rfl) bL.out bR.out (zap _) (by rfl) (by omega) ?_);rintro v' w2 hown' hbw';have fN:Hid (w2.ownsRow w.heap.size 3 1 v' (k+1) ((zi (lo++[d])).map (Value.int .i64))):=hid (by rw[HZ.out,List.map_append];exact hown');have dP:=hid hbw';clear hown' hbw' bL bR gR gH;go_wp2_with fail;go_roundw
    case rel=>exact⟨k+1,c',_,by omega,by go_num,rfl,hsq1,jG,Bm,jV,cO,fN,dP⟩
    case measure=>simp[intOf];omega
  ·have fC:cc=0:=by omega
   have aS:Hid (Dgs wr u5 lo∧val D9 lo=val D9 l+val D9 r∧lo.length≤1001):=hid (by
    have h1:=HV.out;rw[fC,qa4 _ _ _ (by omega),qa4 _ _ _ (by omega)] at h1
    exact⟨qi0 bL.out rI.out mK.out,by omega,by rw[rI.out];omega⟩)
   have h1:¬k<l.length:=by omega
   have h2:¬k<r.length:=by omega
   have h3:¬0<cc:=by omega
   go_wp2_with fail;go_ret;exact⟨⟨_,_,rfl,aS.out⟩,bR.out⟩
theorem q01{lo:List Nat}{d k bo bo' x y a b a' b':Nat}(fW:lo.length=k)(h:a+D9^k*bo=val D9 lo+b)(hd:d+y+bo=x+1000000000*bo')(ha:a'=a+D9^k*x)(hb:b'=b+D9^k*y):
  a'+D9^(k+1)*bo'=val D9 (lo++[d])+b':=by
 rw[qd2,fW,ha,hb];have e1:D9^(k+1)*bo'=D9^k*(1000000000*bo'):=by rw[Nat.pow_succ,qbo,Nat.mul_assoc]
 rw[e1];generalize D9^k=P at *;have e2:=congrArg (P * ·) hd;simp only[Nat.mul_add] at e2;omega
theorem q7l{lo:List Nat}{a b bo P:Nat}(h:a+P*bo=val D9 lo+b)(fW:val D9 lo<P)(hb:bo≤1)(hba:b≤a):val D9 lo=a-b:=by
 rcases(show bo=0∨bo=1 by omega) with rfl|rfl
 ·omega
 ·omega
theorem zaj(va vb:Value)(m n:Nat)(w:World)(ha:DN w va m)(hb:DN w vb n)(sH:n≤m)(hl:dl m≤1000):
  Calls Tryz.prog 185 #[va,vb] w fun e w'=>(∃v',e = .returned v'∧DN w' v' (m-n))∧Below w.heap.size w w':=by
 have Iv:(qaf D9 n).length≤(qaf D9 m).length:=qad qa2 sH;have HA:Hid (Dgs w va (qaf D9 m)):=hid ha;have HB:Hid (Dgs w vb (qaf D9 n)):=hid hb;obtain⟨dJ,pa,ca,rfl,kW,fP,hcellsa⟩:=ha;obtain⟨dG,pb,cb,rfl,kE,fZ,_⟩:=hb;unfold maxLen at fP fZ;unfold dl at hl;have mN:Hid (val D9 (qaf D9 m)=m):=hid (qah _ _ qa2);have rL:Hid (val D9 (qaf D9 n)=n):=hid (qah _ _ qa2);have kP:=hid dJ;have jE:=hid dG;have sA:=hid hcellsa;have xL:=hid sH;clear dJ dG hcellsa sH;generalize qaf D9 m=l at *;generalize qaf D9 n=r at *;go_enter Tryz.func185,Tryz.ntmps185;go_wp2_with fail
 go_loopw [5,6,7] (fun v c i wr=>∃k bo:Nat,∃lo:List Nat,k≤l.length∧i = .int .i64 k∧c = .int .i64 bo∧bo≤1∧Hid (lo.length=k)∧Hid (∀d ∈ lo,d<D9)∧Hid (low D9 l k+D9^k*bo=val D9 lo+low D9 r k)∧Hid (wr.ownsRow w.heap.size 3 1 v k ((zi lo).map (Value.int .i64)))∧Hid (Below w.heap.size w wr)) (fun _ _ i _=>l.length-(intOf i).toNat)
 case atStart=>exact⟨0,0,[],by omega,rfl,rfl,by omega,hid rfl,hid (by simp),hid (by simp),hid (World.ownsRow_nil _ _ _ _),hid (zan _ _)⟩
 case round=>
  obtain⟨k,bo,lo,hk,rfl,rfl,hbo,rI,mK,HV,bL,bR⟩:=hrel;by_cases hc:k<l.length
  ·rcases sA.out with h0|⟨b,o,rfl,aB⟩
   ·omega
   have e0:=aB k hc
   have aC:wr.cell? ⟨b,o+k,none⟩=some (dv l k):=by
    rw[bR.out.cell (p:=⟨b,o+k,none⟩) (zaq w _ e0)];exact e0
   unfold dv at aC;clear aB e0;obtain⟨x,hx⟩:∃x,x=l.getD k 0:=⟨_,rfl⟩;obtain⟨y,hy⟩:∃y,y=r.getD k 0:=⟨_,rfl⟩;have Oe:=qan (b:=D9) (by decide) kP.out k;have Jo:=qan (b:=D9) (by decide) jE.out k;rw[←hx] at aC;rw[←hx,qbo] at Oe;rw[←hy,qbo] at Jo;have gH:=hid (fun W (hW:Below w.heap.size w W)=>q00 _ r k W (HB.out.later hW) (by omega));rw[←hy] at gH;by_cases hs:x<y+bo
   ·obtain⟨d,hd⟩:∃d:Nat,d=x+1000000000-y-bo:=⟨_,rfl⟩
    have Nv:(x:Int)-(y:Int)-(bo:Int)+1000000000=(d:Int):=by omega
    have Sr:(x:Int)-(y:Int)-(bo:Int)<0:=by omega
    have Bm:Hid ((lo++[d]).length=k+1):=hid (by rw[List.length_append,rI.out];rfl);have jV:Hid (∀d' ∈ lo++[d],d'<D9):=hid (qf0 mK.out (by rw[qbo];omega));have cO:Hid (low D9 l (k+1)+D9^(k+1)*1=val D9 (lo++[d])+low D9 r (k+1)):=hid (q01 (x:=x) (y:=y) rI.out HV.out (by omega) (by rw[qao,hx]) (by rw[qao,hy]));have HZ:Hid (zi (lo++[d])=zi lo++[(d:Int)]):=hid (qh0 _ _);have gV:d<1000000000:=by omega
    clear hx hy hd hs;have HQ:=hid (fun q=>gH.out (wr.drewN q) (below_drewN bR.out q));go_wp2_with fail
    go_quiet ((go_at_call 207;exact Calls.quiet_of_same (HQ.out _)))
    clear HQ;have sO:=hid (below_drewN bR.out nq);have sP:=hid (qlc bL.out nq);clear bR bL;generalize wr.drewN nq=wr at *;have bR:=sO;have bL:=sP;clear sO sP;go_wp2_with (at_builtin;refine qhr rfl _ _ rfl w _ w.heap.size k _ (zi lo) _ (by rfl) bL.out bR.out (zap _) (by rfl) (by omega) ?_);rintro v' w2 hown' hbw';have fN:Hid (w2.ownsRow w.heap.size 3 1 v' (k+1) ((zi (lo++[d])).map (Value.int .i64))):=hid (by rw[HZ.out,List.map_append];exact hown');have dP:=hid hbw';clear hown' hbw' bL bR gH;go_wp2_with fail;go_roundw
    case rel=>exact⟨k+1,1,_,by omega,by go_num,rfl,by omega,Bm,jV,cO,fN,dP⟩
    case measure=>simp[intOf];omega
   ·obtain⟨d,hd⟩:∃d:Nat,d=x-y-bo:=⟨_,rfl⟩
    have Nv:(x:Int)-(y:Int)-(bo:Int)=(d:Int):=by omega
    have Bm:Hid ((lo++[d]).length=k+1):=hid (by rw[List.length_append,rI.out];rfl);have jV:Hid (∀d' ∈ lo++[d],d'<D9):=hid (qf0 mK.out (by rw[qbo];omega));have cO:Hid (low D9 l (k+1)+D9^(k+1)*0=val D9 (lo++[d])+low D9 r (k+1)):=hid (q01 (x:=x) (y:=y) rI.out HV.out (by omega) (by rw[qao,hx]) (by rw[qao,hy]));have HZ:Hid (zi (lo++[d])=zi lo++[(d:Int)]):=hid (qh0 _ _);have gV:d<1000000000:=by omega
    clear hx hy hd hs;have HQ:=hid (fun q=>gH.out (wr.drewN q) (below_drewN bR.out q));go_wp2_with fail
    go_quiet ((go_at_call 207;exact Calls.quiet_of_same (HQ.out _)))
    clear HQ;have sO:=hid (below_drewN bR.out nq);have sP:=hid (qlc bL.out nq);clear bR bL;generalize wr.drewN nq=wr at *;have bR:=sO;have bL:=sP;clear sO sP;go_wp2_with (at_builtin;refine qhr rfl _ _ rfl w _ w.heap.size k _ (zi lo) _ (by rfl) bL.out bR.out (zap _) (by rfl) (by omega) ?_);rintro v' w2 hown' hbw';have fN:Hid (w2.ownsRow w.heap.size 3 1 v' (k+1) ((zi (lo++[d])).map (Value.int .i64))):=hid (by rw[HZ.out,List.map_append];exact hown');have dP:=hid hbw';clear hown' hbw' bL bR gH;go_wp2_with fail;go_roundw
    case rel=>exact⟨k+1,0,_,by omega,by go_num,rfl,by omega,Bm,jV,cO,fN,dP⟩
    case measure=>simp[intOf];omega
  ·obtain rfl:k=l.length:=by omega
   have aS:Hid (Dgs wr u5 lo∧val D9 lo=m-n):=hid (by
    have h1:=HV.out;rw[qa4 _ _ _ (zap _),qa4 _ _ _ Iv,mN.out,rL.out] at h1;have h2:=qij D9 lo mK.out;rw[rI.out] at h2
    exact⟨qi0 bL.out rI.out mK.out,q7l h1 h2 hbo xL.out⟩)
   have HT:=hid (qyi u5 lo wr aS.out.1);rw[aS.out.2] at HT;go_wp2_with fail;refine HT.out.mono ?_;rintro e w1 ⟨⟨v',rfl,hv⟩,rfl⟩;have tL:=hid hv;clear hv;go_wp2_with fail;go_ret;exact⟨⟨_,rfl,tL.out⟩,bR.out⟩
theorem Own.setDig{w:World}{g:Nat}{l:List Nat}(h:Own w g l.length (dv l))(i:Nat)(hi:i<l.length)(x:Nat):Own (w.setCell ⟨g,i,none⟩ (.int .i64 (x:Nat))) g (l.set i x).length (dv (l.set i x)):=by
 rw[List.length_set];refine(h.set i hi (.int .i64 (x:Nat))).congr fun k hk => ?_;unfold dv;by_cases e:k=i
 ·subst e;rw[if_pos rfl];simp[hk]
 ·rw[if_neg e];simp[Ne.symm e]
theorem qu7{w:World}{g c:Nat}{l:List Nat}(h:Own w g l.length (dv l))(hl:∀d ∈ l,d<D9)(hn:l.length≤c)(hc:c≤maxLen):Dgs w (.slice (some ⟨g,0,none⟩) l.length c) l:=⟨hl,h.sliceAt hn hc⟩
theorem qov(w:World)(n:Nat):Own (w.alloc (qe8 n)) w.heap.size (List.replicate n 0).length (dv (List.replicate n 0)):=by
 have h:=q4p w n;rw[List.length_replicate];refine h.congr fun i hi => ?_;unfold iv dv;simp[hi]
theorem q02{x y p cc s:Nat}(hx:x<1000000000)(hy:y<1000000000)(hp:p<1000000000)(hc:cc<1000000000)(hs:s=p+x*y+cc):s/1000000000<1000000000:=by
 have h4:x*y≤999999999*999999999:=Nat.mul_le_mul (by omega) (by omega);omega
theorem q99(va vb:Value)(l r:List Nat)(w:World)(ha:Dgs w va l)(hb:Dgs w vb r)(hl:l.length≤1000)(hr:r.length≤1000):
  Calls Tryz.prog 186 #[va,vb] w fun e w'=>(∃v',e = .returned v'∧DN w' v' (val D9 l*val D9 r))∧Below w.heap.size w w':=by
 obtain⟨dJ,pa,ca,rfl,kW,fP,hcellsa⟩:=ha;obtain⟨dG,pb,cb,rfl,kE,fZ,hcellsb⟩:=hb;unfold maxLen at fP fZ;have kP:=hid dJ;have jE:=hid dG;have sA:=hid hcellsa;have tW:=hid hcellsb;have lS:=fun w=>qlb (l.length+r.length) (by omega) w;rw[Int.natCast_add] at lS;clear dJ dG hcellsa hcellsb;have aU:Hid ((List.replicate (l.length+r.length) 0).length=l.length+r.length):=hid (by simp);have eY:Hid (Below w.heap.size w (w.alloc (qe8 (l.length+r.length)))):=hid (zam _ _);have oR:=hid (qov w (l.length+r.length));have Da:=hid (qb3 (b:=D9) (by decide) (l.length+r.length));have uE:Hid (low D9 (List.replicate (l.length+r.length) 0) (0+r.length)=low D9 l 0*val D9 r):=hid (by simp[low,qgn])
 have Gz:Hid (∀i,0+r.length≤i→(List.replicate (l.length+r.length) 0).getD i 0=0):=hid (fun i _=>by
  rw[zaw,List.getElem?_replicate]
  split<;>rfl)
 generalize List.replicate (l.length+r.length) 0=s0 at *;go_enter Tryz.func186,Tryz.ntmps186;go_wp2_with fail
 go_loopw [6] (fun i wr=>∃k:Nat,∃s:List Nat,k≤l.length∧i = .int .i64 k∧Hid (s.length=l.length+r.length)∧Hid (∀d ∈ s,d<D9)∧Hid (Own wr w.heap.size s.length (dv s))∧Hid (low D9 s (k+r.length)=low D9 l k*val D9 r)∧Hid (∀i,k+r.length≤i→s.getD i 0=0)∧Hid (Below w.heap.size w wr)) (fun i _=>l.length-(intOf i).toNat)
 case atStart=>exact⟨0,s0,Nat.zero_le _,rfl,aU,Da,oR,uE,Gz,eY⟩
 case round=>
  obtain⟨k,s,hk,rfl,bH,cQ,HO,HS,HZ,HB⟩:=hrel;clear aU Da oR uE Gz eY;by_cases cV:k<l.length
  ·rcases sA.out with h0|⟨ba,oa,rfl,fH⟩
   ·omega
   have HROWA:=hid fH;have fI:=qan (b:=D9) (by decide) kP.out k
   have HXC:Hid (∀W,Below w.heap.size w W→W.cell? ⟨ba,oa+k,none⟩=some (.int .i64 (l.getD k 0:Nat))):=hid fun W hW=>by
    have h1:=fH k cV;rw[hW.cell (p:=⟨ba,oa+k,none⟩) (zaq w _ h1)];exact h1
   have Iw:=hid (qao D9 l k);generalize l.getD k 0=x at *;rw[qbo] at fI;clear fH;go_wp2_with fail
   go_loopw [7,8] (fun c i wr=>∃j cc:Nat,∃s':List Nat,j≤r.length∧i = .int .i64 j∧c = .int .i64 cc∧cc<1000000000∧Hid (s'.length=l.length+r.length)∧Hid (∀d ∈ s',d<D9)∧Hid (Own wr w.heap.size s'.length (dv s'))∧Hid (low D9 s' (k+j)+(D9^k*D9^j)*cc=low D9 s (k+j)+D9^k*x*low D9 r j)∧Hid (∀i,k+j≤i→s'.getD i 0=s.getD i 0)∧Hid (Below w.heap.size w wr)) (fun _ i _=>r.length-(intOf i).toNat)
   case atStart=>exact⟨0,0,s,Nat.zero_le _,rfl,rfl,by omega,bH,cQ,HO,hid (by simp),hid (fun _ _=>rfl),HB⟩
   case round=>
    obtain⟨j,cc,s',hj,rfl,rfl,gA,HSL',HSB',HO',cL,aW,HB'⟩:=hrel;by_cases hjr:j<r.length
    ·rcases tW.out with h0|⟨bb,ob,rfl,dS⟩
     ·omega
     have qH:k+j<s'.length:=by rw[HSL'.out];omega
     have hyc:wr.cell? ⟨bb,ob+j,none⟩=some (dv r j):=by
      have h1:=dS j hjr;rw[HB'.out.cell (p:=⟨bb,ob+j,none⟩) (zaq w _ h1)];exact h1
     unfold dv at hyc;have hxc:=HXC.out wr HB'.out;obtain⟨hg,oI⟩:=HO'.out.2 (k+j) qH;unfold dv at hg;have lE:=qan (b:=D9) (by decide) jE.out j;have oJ:=qan (b:=D9) (by decide) HSB'.out (k+j);have bU:=aW.out (k+j) (zap _);have Ac:=qao D9 s (k+j);have Ad:=qao D9 r j;rw[bU] at hg oJ;rw[qbo] at lE oJ;have lG:Hid (∀v:Nat,Own (wr.setCell ⟨w.heap.size,k+j,none⟩ (.int .i64 (v:Nat))) w.heap.size (s'.set (k+j) v).length (dv (s'.set (k+j) v))):=hid fun v=>HO'.out.setDig (k+j) qH v
     have cI:Hid (∀v i,k+(j+1)≤i→(s'.set (k+j) v).getD i 0=s.getD i 0):=hid fun v i hi=>by
      rw[qaq _ _ _ _ (by omega)];exact aW.out i (by omega)
     have eT:=fun v=>qbp D9 s' (k+j) v qH;generalize r.getD j 0=y at *;generalize s.getD (k+j) 0=p at *;obtain⟨q,hq⟩:∃q:Nat,q=p+x*y+cc:=⟨_,rfl⟩;have hxy0:0≤(x:Int)*(y:Int):=by rw[←Int.natCast_mul];omega
     have Kw:x*y≤999999999*999999999:=Nat.mul_le_mul (by omega) (by omega);have hxy1:(x:Int)*(y:Int)≤999999998000000001:=by rw[←Int.natCast_mul];omega
     have Ss:(p:Int)+(x:Int)*(y:Int)+(cc:Int)=(q:Int):=by rw[←Int.natCast_mul];omega
     have hqm:(q:Int).tmod 1000000000=((q % 1000000000:Nat):Int):=by rw[Int.tmod_eq_emod_of_nonneg (by omega)];omega
     have hqd:(q:Int)/1000000000=((q/1000000000:Nat):Int):=by omega
     have bK:=q02 fI lE oJ gA hq;have hqb:q<9223372036854775807:=by omega
     have eG:Hid (low D9 (s'.set (k+j) (q % 1000000000)) (k+(j+1))+(D9^k*D9^(j+1))*(q/1000000000)=low D9 s (k+(j+1))+D9^k*x*low D9 r (j+1)):=by
      refine hid ?_;rw[←Nat.add_assoc,eT,Ac,Ad,Nat.pow_succ,←Nat.mul_assoc (D9^k)];exact qwf (p:=p) (y:=y) (sum:=q % 1000000000) cL.out (by rw[qbo,Nat.mul_comm y x];omega) (by rw[Nat.pow_add]) (by rw[Nat.pow_add]) rfl
     have hm9:q % 1000000000<1000000000:=Nat.mod_lt _ (by omega);have cJ:Hid (∀d ∈ s'.set (k+j) (q % 1000000000),d<D9):=hid (qco HSB'.out _ _ (by rw[qbo];exact hm9));have cF:Hid ((s'.set (k+j) (q % 1000000000)).length=l.length+r.length):=hid (by rw[List.length_set];exact HSL'.out);have aR:Hid (Below w.heap.size w (wr.setCell ⟨w.heap.size,k+j,none⟩ (.int .i64 ((q % 1000000000:Nat):Int)))):=hid (HB'.out.setCell (zap _) _);have Ix:k+j<l.length+r.length:=by omega
     have HW:=hid (lG.out (q % 1000000000));have yG:=hid (cI.out (q % 1000000000));clear eT Ac Ad bU lE oJ dS cL aW HSL' HSB' HO' HB' qH hq Kw lG cI;generalize q % 1000000000=d at *;generalize q/1000000000=c' at *;go_wp2_with fail
     go_quiet (fail)
     go_wp2_with fail;go_roundw
     case rel=>exact⟨j+1,c',_,by omega,by go_num,rfl,bK,cF,cJ,hid (HW.out.later (below_drewN (zan _ _) nq)),eG,yG,hid (below_drewN aR.out nq)⟩
     case measure=>simp[intOf];omega
    ·obtain rfl:j=r.length:=by omega
     have qH:k+r.length<s'.length:=by rw[HSL'.out];omega
     obtain⟨hg,oI⟩:=HO'.out.2 (k+r.length) qH;unfold dv at hg;have St:s'.getD (k+r.length) 0=0:=by rw[aW.out _ (zap _),HZ.out _ (zap _)]
     have lG:=hid (HO'.out.setDig (k+r.length) qH cc)
     have eG:Hid (low D9 (s'.set (k+r.length) cc) (k+1+r.length)=low D9 l (k+1)*val D9 r):=by
      refine hid ?_;have h1:=cL.out;rw[HS.out,qa4 D9 r r.length (zap _)] at h1;rw[show k+1+r.length=k+r.length+1 by omega,qbp D9 s' _ cc qH,Iw.out,Nat.add_mul,Nat.pow_add];exact h1
     have cJ:Hid (∀d ∈ s'.set (k+r.length) cc,d<D9):=hid (qco HSB'.out _ _ (by rw[qbo];exact gA));have cF:Hid ((s'.set (k+r.length) cc).length=l.length+r.length):=hid (by rw[List.length_set];exact HSL'.out)
     have fY:Hid (∀i,k+1+r.length≤i→(s'.set (k+r.length) cc).getD i 0=0):=hid fun i hi=>by
      rw[qaq _ _ _ _ (by omega),aW.out _ (by omega),HZ.out _ (by omega)]
     have aR:Hid (Below w.heap.size w (wr.setCell ⟨w.heap.size,k+r.length,none⟩ (.int .i64 (cc:Int)))):=hid (HB'.out.setCell (zap _) _);have Ix:k+r.length<l.length+r.length:=by omega
     clear HSL' HSB' HO' aW cL HS HZ bH cQ HO qH;generalize s'.getD (k+r.length) 0=p at *;have zV:(p:Int)+(cc:Int)=(cc:Int):=by omega
     clear St;go_wp2_with fail;go_roundw
     case rel=>exact⟨k+1,_,by omega,by go_num,cF,cJ,lG,eG,fY,aR⟩
     case measure=>simp[intOf];omega
  ·obtain rfl:k=l.length:=by omega
   have aS:Hid (Dgs wr (.slice (some ⟨w.heap.size,0,none⟩) (l.length+r.length) (l.length+r.length)) s∧val D9 s=val D9 l*val D9 r):=hid (by
    have h1:=HS.out;rw[qa4 D9 l l.length (zap _),qa4 D9 s _ (by rw[bH.out];omega)] at h1;have h2:=qu7 HO.out cQ.out (zap _) (by rw[bH.out];unfold maxLen;omega);rw[bH.out] at h2
    exact⟨h2,h1⟩)
   have HT:=hid (qyi _ s wr aS.out.1);rw[aS.out.2] at HT;go_wp2_with fail;refine HT.out.mono ?_;rintro e w1 ⟨⟨v',rfl,hv⟩,rfl⟩;have tL:=hid hv;clear hv;go_wp2_with fail;go_ret;exact⟨⟨_,rfl,tL.out⟩,HB.out⟩
theorem qyj{b H Hq rest x q r hs:Nat}(hb:0<b)(h1:H/b=Hq)(h2:H % b=rest)(hq:q=(rest*D9+x)/b)(hr:r=(rest*D9+x) % b)(zI:hs=q+D9*Hq):
  (x+D9*H)/b=hs∧(x+D9*H) % b=r:=by
 have e:x+D9*H=(rest*D9+x)+b*(D9*Hq):=by
  have:=Nat.div_add_mod H b;rw[h1,h2] at this;rw[←this,Nat.mul_add,←Nat.mul_assoc b D9,Nat.mul_comm b D9,Nat.mul_assoc D9 b,Nat.mul_comm rest];omega
 rw[e,Nat.add_mul_div_left _ _ hb,Nat.add_mul_mod_self_left,zI,hq,hr];exact⟨rfl,rfl⟩
theorem qs7(l:List Nat)(k v:Nat)(hk:k<l.length):qa6 D9 (l.set k v) k=v+D9*qa6 D9 l (k+1):=by
 rw[qbj]
 congr 1
 ·simp[hk]
 ·congr 1
  unfold qa6;rw[List.drop_set_of_lt (by omega)]
theorem qs8(v:Value)(l:List Nat)(d:Nat)(w:World)(h:Dgs w v l)(hl:l.length≤3000)(hd:0<d)(oC:d<1000000000):
  Calls Tryz.prog 204 #[v,.int .i64 d] w fun e w'=>(∃v',e = .returned (.tuple #[v',.int .i64 (val D9 l % d:Nat)])∧DN w' v' (val D9 l/d))∧Below w.heap.size w w':=by
 obtain⟨dJ,pa,ca,rfl,kW,fP,hcellsa⟩:=h;unfold maxLen at fP;have kP:=hid dJ;have sA:=hid hcellsa;have lS:=fun w=>qlb l.length (by omega) w;clear dJ hcellsa;have Fr:((d:Int)==0)=false:=zat (by omega);have aU:Hid ((List.replicate l.length 0).length=l.length):=hid (by simp);have eY:Hid (Below w.heap.size w (w.alloc (qe8 l.length))):=hid (zam _ _);have oR:=hid (qov w l.length);have Da:=hid (qb3 (b:=D9) (by decide) l.length);have uE:Hid (qa6 D9 l l.length/d=qa6 D9 (List.replicate l.length 0) l.length):=hid (by rw[qc7 _ _ _ (zap _),qc7 _ _ _ (by simp),Nat.zero_div]);have tE:Hid (qa6 D9 l l.length % d=0):=hid (by rw[qc7 _ _ _ (zap _),Nat.zero_mod]);generalize List.replicate l.length 0=s0 at *;go_enter Tryz.func204,Tryz.ntmps204;go_wp2_with fail
 go_loopw [7,8] (fun r i wr=>∃k rest:Nat,∃s:List Nat,k≤l.length∧i = .int .i64 ((k:Int)-1)∧r = .int .i64 rest∧rest<d∧Hid (s.length=l.length)∧Hid (∀d ∈ s,d<D9)∧Hid (Own wr w.heap.size s.length (dv s))∧Hid (qa6 D9 l k/d=qa6 D9 s k)∧Hid (qa6 D9 l k % d=rest)∧Hid (Below w.heap.size w wr)) (fun _ i _=>(intOf i+1).toNat)
 case atStart=>exact⟨l.length,0,s0,zap _,rfl,rfl,hd,aU,Da,oR,uE,tE,eY⟩
 case round=>
  obtain⟨k,rest,s,hk,rfl,rfl,hrest,bH,cQ,HO,HQ,HR,HB⟩:=hrel;clear aU Da oR uE tE eY;rcases k with _|k
  ·have aS:Hid (Dgs wr (.slice (some ⟨w.heap.size,0,none⟩) l.length l.length) s∧val D9 s=val D9 l/d∧rest=val D9 l % d):=hid (by
    have h1:=HQ.out;have h3:=HR.out;rw[high_zero,high_zero] at h1;rw[high_zero] at h3;have h2:=qu7 HO.out cQ.out (zap _) (by rw[bH.out];unfold maxLen;omega);rw[bH.out] at h2
    exact⟨h2,h1.symm,h3.symm⟩)
   have HT:=hid (qyi _ s wr aS.out.1);rw[aS.out.2.1] at HT;go_wp2_with fail;refine HT.out.mono ?_;rintro e w1 ⟨⟨v',rfl,hv⟩,rfl⟩;have tL:=hid hv;clear hv;go_wp2_with fail;go_ret2;exact⟨⟨_,by rw[aS.out.2.2];rfl,tL.out⟩,HB.out⟩
  ·rcases sA.out with h0|⟨b,o,rfl,aB⟩
   ·omega
   have e0:=aB k hk
   have aC:wr.cell? ⟨b,o+k,none⟩=some (dv l k):=by
    rw[HB.out.cell (p:=⟨b,o+k,none⟩) (zaq w _ e0)];exact e0
   unfold dv at aC;have hx:=qan (b:=D9) (by decide) kP.out k;have Su:=hid (qbj D9 l k);have sN:k<s.length:=by rw[bH.out];omega
   obtain⟨hg,oI⟩:=HO.out.2 k sN;unfold dv at hg;clear aB e0;generalize l.getD k 0=x at *;rw[qbo] at hx;obtain⟨q,hq⟩:∃q:Nat,q=rest*1000000000+x:=⟨_,rfl⟩;have Ss:(rest:Int)*1000000000+(x:Int)=(q:Int):=by omega
   have hqb:q<1000000000000000000:=by omega
   have Kx:(q:Int)/(d:Int)=((q/d:Nat):Int):=(Int.natCast_ediv q d).symm;have hqd2:(q:Int).tdiv (d:Int)=((q/d:Nat):Int):=by rw[Int.tdiv_eq_ediv_of_nonneg (by omega)];exact Kx
   have hqm1:(q:Int) % (d:Int)=((q % d:Nat):Int):=(Int.natCast_emod q d).symm;have hqm2:(q:Int).tmod (d:Int)=((q % d:Nat):Int):=by rw[Int.tmod_eq_emod_of_nonneg (by omega)];exact hqm1
   have Of:q/d<1000000000:=by
    rw[Nat.div_lt_iff_lt_mul hd];have:=Nat.mul_le_mul_right 1000000000 (show rest+1≤d by omega);omega
   have hr9:q % d<d:=Nat.mod_lt _ hd;have lG:=hid (HO.out.setDig k sN (q/d));have nY:Hid ((x+D9*qa6 D9 l (k+1))/d=qa6 D9 (s.set k (q/d)) k∧(x+D9*qa6 D9 l (k+1)) % d=q % d):=hid (qyj hd HQ.out HR.out (by rw[hq,qbo]) (by rw[hq,qbo]) (qs7 s k _ sN));have cJ:Hid (∀d' ∈ s.set k (q/d),d'<D9):=hid (qco cQ.out _ _ (by rw[qbo];exact Of));have cF:Hid ((s.set k (q/d)).length=l.length):=hid (by rw[List.length_set];exact bH.out);have aR:Hid (Below w.heap.size w (wr.setCell ⟨w.heap.size,k,none⟩ (.int .i64 ((q/d:Nat):Int)))):=hid (HB.out.setCell (zap _) _);have kA:((k+1:Nat):Int)-1=(k:Int):=by omega
   simp only[kA];clear bH cQ HO HQ HR HB hq sN kA;generalize q/d=t at *;generalize q % d=r at *;go_wp2_with fail;go_roundw
   case rel=>exact⟨k,r,_,by omega,by go_num,rfl,hr9,cF,cJ,lG,hid (by rw[Su.out];exact nY.out.1),hid (by rw[Su.out];exact nY.out.2),aR⟩
   case measure=>simp[intOf]
theorem qu8(w:World)(r:Nat)(hr:r<1000000000):Dgs (w.alloc (.cells #[.int .i64 (r:Int)] 3)) (.slice (some ⟨w.heap.size,0,none⟩) 1 1) [r]:=by
 refine⟨fun d hd=>by simp at hd;rw[qbo];omega,some ⟨w.heap.size,0,none⟩,1,rfl,by simp,by decide,.inr ⟨w.heap.size,0,rfl,fun i hi => ?_⟩⟩;obtain rfl:i=0:=by simp at hi;omega
 rw[World.cell?_alloc_at _ _ _ _ rfl];rfl
theorem qdh{n:Nat}(h:0<n)(h9:n<D9):qaf D9 n=[n]:=by
 rw[qfs _ _ qa2 h,Nat.mod_eq_of_lt h9,Nat.div_eq_of_lt h9,qal]
theorem qld{n:Nat}(h:dl n=1):0<n∧n<1000000000:=by
 unfold dl at h;constructor
 ·rcases zav n with e|e
  ·rw[e,qal] at h;simp at h
  ·exact e
 ·have:=qb6 D9 n qa2
  rw[h,qbo] at this;omega
theorem q7m(w:World):DN w (.slice none 0 0) 0:=by
 unfold DN;rw[qal];exact⟨by simp,none,0,rfl,by simp,by decide,.inl rfl⟩
theorem qpv(va vb:Value)(m n:Nat)(w:World)(ha:DN w va m)(hb:DN w vb n)(Fv:m<n∨dl n=1)(hl:dl m≤3000):
  Calls Tryz.prog 174 #[va,vb] w fun e w'=>(∃vq vr,e = .returned (.tuple #[vq,vr])∧DN w' vq (m/n)∧DN w' vr (m % n))∧Below w.heap.size w w':=by
 have HA:=hid ha;have HB:=hid hb;have HC:=hid (qri va vb m n w ha hb);by_cases bI:m<n
 ·have hc:qen m n = -1:=qcy (by omega)
  rw[hc] at HC;have HQ:Hid (m/n=0∧m % n=m):=hid ⟨Nat.div_eq_of_lt bI,Nat.mod_eq_of_lt bI⟩;clear ha hb Fv bI hc;go_enter Tryz.func174,Tryz.ntmps174;go_wp2_with fail;refine HC.out.mono ?_;rintro e w1 ⟨rfl,bB⟩;have aQ:=hid bB;clear bB HC;go_wp2_with fail;go_ret2;exact⟨⟨_,_,rfl,by rw[HQ.out.1];exact q7m _,by rw[HQ.out.2];exact HA.out.later aQ.out⟩,aQ.out⟩
 ·have dR:dl n=1:=by omega
  obtain⟨tS,hn9⟩:=qld dR;obtain⟨c,hc⟩:∃c,qen m n=c:=⟨_,rfl⟩
  have hcge:¬c<0:=by
   rcases(show m=n∨n<m by omega) with h|h
   ·have:=qei (x:=(m:Int)) (y:=n) (by omega);unfold qen at hc;omega
   ·have:=qch (x:=(m:Int)) (y:=n) (by omega);unfold qen at hc;omega
  rw[hc] at HC;have qU:=qdh tS (by rw[qbo];exact hn9);have hB:Dgs w vb [n]:=by unfold DN at hb;rw[qU] at hb;exact hb
  obtain⟨_,pb,cb,rfl,kE,fZ,aA⟩:=hB;rcases aA with h0|⟨b,o,rfl,aB⟩
  ·simp at h0
  have e0:=aB 0 (by simp)
  have HE0:Hid (w.cell? ⟨b,o,none⟩=some (.int .i64 (n:Nat))):=hid (by
   have:=e0;unfold dv at this;simpa using this)
  have HD:=hid (fun W (hW:Below w.heap.size w W)=>qs8 va (qaf D9 m) n W (HA.out.later hW) hl tS hn9);rw[qah _ _ qa2] at HD;have hr9:m % n<1000000000:=Nat.lt_trans (Nat.mod_lt _ tS) hn9;simp only[List.length_cons,List.length_nil,Nat.zero_add] at *
  have HT:Hid (∀W:World,Calls Tryz.prog 205 #[.slice (some ⟨W.heap.size,0,none⟩) 1 1] (W.alloc (.cells #[.int .i64 ((m % n:Nat):Int)] 3)) fun e w'=>(∃v',e = .returned v'∧DN (W.alloc (.cells #[.int .i64 ((m % n:Nat):Int)] 3)) v' (m % n))∧W.alloc (.cells #[.int .i64 ((m % n:Nat):Int)] 3)=w'):=hid (fun W=>by
   have h1:=qyi _ [m % n] _ (qu8 W _ hr9);have h2:val D9 [m % n]=m % n:=by simp[val]
   rw[h2] at h1
   exact h1)
  clear hb Fv bI hc qU aB e0 dR hl ha;generalize m % n=r at *;go_enter Tryz.func174,Tryz.ntmps174;go_wp2_with fail;refine HC.out.mono ?_;rintro e w1 ⟨rfl,bB⟩;have aQ:=hid bB
  have aC:w1.cell? ⟨b,o,none⟩=some (.int .i64 (n:Nat)):=by
   rw[aQ.out.cell (p:=⟨b,o,none⟩) (zaq w _ HE0.out)];exact HE0.out
  clear bB HC HE0;go_wp2_with fail;refine(HD.out w1 aQ.out).mono ?_;rintro e w2 ⟨⟨vq,rfl,hq⟩,aT⟩;have HQ:=hid hq;have aR:Hid (Below w.heap.size w w2):=hid (aQ.out.trans (aT.mono aQ.out.size));clear hq aT HD aQ aC;go_wp2_with fail;refine(HT.out w2).mono ?_;rintro e w3 ⟨⟨vr,rfl,hr⟩,rfl⟩;have HR:=hid hr;clear hr;go_wp2_with fail;go_ret2;have aD:Below w.heap.size w (w2.alloc (.cells #[.int .i64 (r:Int)] 3)):=aR.out.alloc aR.out.size _;exact⟨⟨_,_,rfl,HQ.out.later (zam _ _),HR.out⟩,aD⟩
def sg(R:List Nat)(o n:Nat):Nat:=low D9 (R.drop o) n
theorem qu9(R:List Nat)(o:Nat):sg R o 0=0:=by simp[sg]
theorem qg0(R:List Nat)(o n:Nat):sg R o (n+1)=sg R o n+D9^n*R.getD (o+n) 0:=by
 unfold sg;rw[qao];simp
theorem q03(R:List Nat)(o n i x:Nat)(h:o+n≤i):sg (R.set i x) o n=sg R o n:=by
 induction n with
 | zero=>simp[sg]
 | succ n ih=>rw[qg0,qg0,ih (by omega),qaq _ _ _ _ (by omega)]
theorem qh1(R:List Nat)(o n x:Nat)(h:o+n<R.length):sg (R.set (o+n) x) o (n+1)=sg R o n+D9^n*x:=by
 rw[qg0,q03 _ _ _ _ _ (zap _),qb9 _ _ _ h]
theorem q7n(R:List Nat)(o n:Nat)(h:∀d ∈ R,d<D9):sg R o n<D9^n:=qmr _ _ _ (by decide) (fun d hd=>h d (List.mem_of_mem_drop hd))
theorem qva(R:List Nat)(j n:Nat):qa6 D9 R j=sg R j n+D9^n*qa6 D9 R (j+n):=by
 induction n with
 | zero=>simp[qu9]
 | succ n ih=>
  rw[ih,qg0,qbj D9 R (j+n),Nat.pow_succ,Nat.mul_add,Nat.mul_assoc,←Nat.add_assoc j n 1];omega
theorem q86(w:World)(a b:Nat):(w.drewN a).drewN b=w.drewN (a+b):=by simp[World.drewN,Nat.add_assoc]
theorem qvb{B p W u3 r Wl Y d1 d2 Yl q T:Nat}(hp:0<p)(hB:0<B)(hW:W=Wl+p*(u3+B*T))(hY:Y=Yl+p*(d2+B*d1))(hYl:Yl<p)(gU:q*d1+r=T)(ht:q*d2≤r*B+u3)(Sv:q≤B)(qV:0<d1):q≤W/Y+1:=by
 have hBd:=Nat.mul_pos hB qV;have hpd:=Nat.mul_pos hp (show 0<d2+B*d1 by omega);have tB:0<Y:=by omega
 rcases q with _|k
 ·exact Nat.zero_le _
 ·have h1:k*Y≤W:=by
   have a1:(k+1)*Yl≤(k+1)*p:=Nat.mul_le_mul_left _ (by omega);have a2:(k+1)*p≤B*p:=Nat.mul_le_mul_right _ Sv
   have a3:B*p≤p*(d2+B*d1):=by
    rw[Nat.mul_comm B p];refine Nat.mul_le_mul_left _ ?_;have:B*1≤B*d1:=Nat.mul_le_mul_left _ qV;omega
   have a4:(k+1)*(p*(d2+B*d1))=p*((k+1)*d2+B*((k+1)*d1)):=by grind
   have a5:p*((k+1)*d2+B*((k+1)*d1))≤p*(u3+B*T):=by
    refine Nat.mul_le_mul_left _ ?_;rw[←gU,Nat.mul_add,Nat.mul_comm B r];omega
   have a6:(k+1)*Y=k*Y+Y:=Nat.succ_mul _ _;have a7:(k+1)*Y=(k+1)*Yl+(k+1)*(p*(d2+B*d1)):=by rw[hY,Nat.mul_add]
   omega
  have:=(Nat.le_div_iff_mul_le tB).2 h1;omega
theorem q04{B p W u1 u2 u3 Wl Y d1 d2 Yl:Nat}(hW:W=Wl+p*(u3+B*(u1*B+u2)))(hY:Y=Yl+p*(d2+B*d1))(hYl:Yl<p)(zW:d2<B)(hWY:W<B*Y):u1≤d1:=by
 rcases Nat.lt_or_ge d1 u1 with h|h
 ·exfalso
  have a1:Y≤p*(B*(d1+1)):=by
   have:p*(d2+B*d1+1)≤p*(B*(d1+1)):=Nat.mul_le_mul_left _ (by rw[Nat.mul_add];omega);rw[Nat.mul_add] at this;omega
  have a2:B*Y≤B*(p*(B*(d1+1))):=Nat.mul_le_mul_left _ a1;have a3:B*(p*(B*(d1+1)))≤B*(p*(B*u1)):=Nat.mul_le_mul_left _ (Nat.mul_le_mul_left _ (Nat.mul_le_mul_left _ h));have a4:B*(p*(B*u1))=p*(B*(u1*B)):=by grind
  have a5:p*(B*(u1*B))≤p*(u3+B*(u1*B+u2)):=Nat.mul_le_mul_left _ (by rw[Nat.mul_add];omega);omega
 ·exact h
theorem q4t{B u1 u2 d1 q r:Nat}(gU:q*d1+r=u1*B+u2)(h1:u1≤d1)(h2:u2<B)(hr:B≤r):q<B:=by
 have a1:u1*B≤d1*B:=Nat.mul_le_mul_right _ h1;have a2:q*d1<B*d1:=by rw[Nat.mul_comm B d1];omega
 exact Nat.lt_of_mul_lt_mul_right a2
theorem q87{p W t Wlow Dv dh Dl Q:Nat}(hW:W=Wlow+p*t)(hWl:Wlow<p)(hD:Dv=Dl+p*dh)(Nh:0<dh)(hQ:Q*Dv≤W):Q≤t/dh:=by
 rw[Nat.le_div_iff_mul_le Nh];have h1:Q*(p*dh)≤Q*Dv:=Nat.mul_le_mul_left _ (by omega)
 have h2:p*(Q*dh)<p*(t+1):=by
  rw[Nat.mul_add,Nat.mul_one];have:Q*(p*dh)=p*(Q*dh):=by grind
  omega
 have:=Nat.lt_of_mul_lt_mul_left h2;omega
theorem q4u{B p W t w2 r Wlow Dv dh d2 Dl Q word:Nat}(hW:W=Wlow+p*(w2+B*t))(hWl:Wlow<p)(hD:Dv=Dl+p*(d2+B*dh))(hQ:Q*Dv≤W)(hQw:Q≤word)(gU:word*dh+r=t)
  (h:r*B+w2<word*d2):Q≤word-1∧1≤word:=by
 have h1:1≤word:=by
  rcases zav word with e|e
  ·rw[e,Nat.zero_mul] at h;omega
  ·exact e
 refine⟨?_,h1⟩;rcases Nat.lt_or_ge Q word with h2|h2
 ·omega
 ·exfalso
  have e:Q=word:=Nat.le_antisymm hQw h2;subst e;have h3:Q*(p*(d2+B*dh))≤Q*Dv:=Nat.mul_le_mul_left _ (by omega)
  have h4:w2+B*t+1≤Q*(d2+B*dh):=by
   rw[←gU,Nat.mul_add,Nat.mul_add,show Q*(B*dh)=B*(Q*dh) from by grind,show r*B=B*r from Nat.mul_comm _ _] at *;omega
  have h5:p*(w2+B*t+1)≤Q*(p*(d2+B*dh)):=by
   rw[show Q*(p*(d2+B*dh))=p*(Q*(d2+B*dh)) from by grind];exact Nat.mul_le_mul_left _ h4
  rw[Nat.mul_add p (w2+B*t) 1] at h5;omega
theorem qvc(bu ou cu U bv ov cv n j p1 p2 p3 n1 n2:Nat)(u1 u2 u3 d1 d2 Q T:Nat)(w:World)
  (_hU:U≤4000) (hn:n≤4000) (hcu:U≤cu∧cu≤9223372036854775807) (_hcv:n≤cv∧cv≤9223372036854775807) (hp:p1=j+n) (dZ:p1=p2+1) (hp3:p1=p3+2) (dR:n=n1+1) (jC:n=n2+2) (hj:p1<U)
  (c1:w.cell? ⟨bu,ou+p1,none⟩=some (.int .i64 u1)) (c2:w.cell? ⟨bu,ou+p2,none⟩=some (.int .i64 u2)) (c3:w.cell? ⟨bu,ou+p3,none⟩=some (.int .i64 u3))
  (c4:w.cell? ⟨bv,ov+n1,none⟩=some (.int .i64 d1)) (c5:w.cell? ⟨bv,ov+n2,none⟩=some (.int .i64 d2))
  (b1:u1<1000000000) (b2:u2<1000000000) (b3:u3<1000000000) (b4:d1<1000000000) (b5:d2<1000000000) (h0:0<d1) (hT:T=u1*1000000000+u2)
  (oK:Hid (Q<D9)) (mZ:Hid (Q≤T/d1)) (lI:Hid (∀q r,Q≤q→q*d1+r=T→r*D9+u3<q*d2→Q≤q-1∧1≤q))
  (lV:Hid (∀q r,q*d1+r=T→D9≤r→q<D9)) (uU:Hid (∀q r,q<D9→q*d1+r=T→q*d2≤r*D9+u3→q≤Q+1)):
  Calls Tryz.prog 206 #[.slice (some ⟨bu,ou,none⟩) U cu,.slice (some ⟨bv,ov,none⟩) n cv,.int .i64 j] w fun e w'=>
   (∃q:Nat,e = .returned (.int .i64 q)∧q<D9∧Q≤q∧q≤Q+1)∧∃k,w'=w.drewN k:=by
 have e1:(j:Int)+(n:Int)=(p1:Int):=by omega
 have e2:(p1:Int)-1=(p2:Int):=by omega
 have e3:(p1:Int)-2=(p3:Int):=by omega
 have e4:(n:Int)-1=(n1:Int):=by omega
 have e5:(n:Int)-2=(n2:Int):=by omega
 have hTi:(u1:Int)*1000000000+(u2:Int)=(T:Int):=by omega
 have hTb:T<1000000000000000000:=by omega
 have Fr:((d1:Int)==0)=false:=zat (by omega);have t1:(T:Int)/(d1:Int)=((T/d1:Nat):Int):=(Int.natCast_ediv T d1).symm;have t2:(T:Int).tdiv (d1:Int)=((T/d1:Nat):Int):=by rw[Int.tdiv_eq_ediv_of_nonneg (by omega)];exact t1
 have t3:(T:Int) % (d1:Int)=((T % d1:Nat):Int):=(Int.natCast_emod T d1).symm;have t4:(T:Int).tmod (d1:Int)=((T % d1:Nat):Int):=by rw[Int.tmod_eq_emod_of_nonneg (by omega)];exact t3
 have HI:Hid (T/d1*d1+T % d1=T):=hid (by rw[Nat.mul_comm];exact Nat.div_add_mod _ _);have rX:T % d1<1000000000:=Nat.lt_trans (Nat.mod_lt _ h0) b4;have iC:T/d1≤T:=Nat.div_le_self _ _;generalize T/d1=q0 at *;generalize T % d1=r0 at *;have Ky:p2<U:=by omega
 have hj3:p3<U:=by omega
 have gI:n1<n:=by omega
 have hU:n2<n:=by omega
 clear hT hp dZ hp3 dR jC;go_enter Tryz.func206,Tryz.ntmps206;go_wp2_with fail
 go_quiet (fail)
 go_wp2_with fail
 go_quiet (fail)
 go_wp2_with fail
 have Sw:Hid (∀q r,q<D9→D9≤r→q*d2≤r*D9+u3):=hid fun q r h1 h2=>by
  have a1:q*d2≤D9*D9:=Nat.mul_le_mul (by omega) (by rw[qbo];omega);have a2:D9*D9≤r*D9:=Nat.mul_le_mul_right _ h2;omega
 go_loopw [9,10] (fun a b wr=>∃q r:Nat,a = .int .i64 q∧b = .int .i64 r∧r<1000000000∧q≤T∧Hid (Q≤q)∧Hid (q*d1+r=T)∧Hid (∃k,wr=w.drewN k)) (fun a _ _=>(intOf a).toNat)
 case atStart=>exact⟨q0,r0,rfl,rfl,rX,iC,mZ,HI,hid ⟨_,by rw[q86]⟩⟩
 case round=>
  obtain⟨q,r,rfl,rfl,hr,hqT,HQ,lW,HW⟩:=hrel;clear mZ HI rX iC t1 t2 t3 t4 Fr hTi;obtain⟨kw,rfl⟩:=HW.out;by_cases kO:q<1000000000∧q*d2≤r*1000000000+u3
  ·obtain⟨Sv,dF⟩:=kO
   have aS:=hid (uU.out q r (by rw[qbo];exact Sv) lW.out (by rw[qbo];exact dF));obtain⟨P,hP⟩:∃P:Nat,P=q*d2:=⟨_,rfl⟩;obtain⟨Z,hZ⟩:∃Z:Nat,Z=r*1000000000+u3:=⟨_,rfl⟩;have hPi:(q:Int)*(d2:Int)=(P:Int):=by rw[hP,Int.natCast_mul]
   have hZi:(r:Int)*1000000000+(u3:Int)=(Z:Int):=by omega
   have hPb:(P:Int)<1000000000000000000:=by
    have:=Nat.mul_le_mul (show q≤999999999 by omega) (show d2≤999999999 by omega);omega
   have hZb:(Z:Int)<1000000000000000000:=by omega
   have lR:decide ((1000000000:Int)≤(q:Int))=false:=zar (by omega);have vW:decide ((Z:Int)<(P:Int))=false:=zar (by omega);have hg3:¬Z<P:=by omega
   have Iz:Hid (q<D9):=hid (by rw[qbo];exact Sv);clear hP hZ dF Sv uU lI lV Sw lW;go_wp2_with fail
   go_quiet (fail)
   go_wp2_with fail;go_ret;exact⟨⟨q,rfl,Iz.out,HQ.out,aS.out⟩,_,by rw[World.drewN_drewN]⟩
  ·have uP:Q≤q-1∧1≤q:=by
    rcases(show 1000000000≤q∨q<1000000000 by omega) with h|h
    ·have:=oK.out
     rw[qbo] at this;have:=HQ.out;omega
    ·exact lI.out q r HQ.out lW.out (by rw[qbo];omega)
   obtain⟨v,rfl⟩:∃v,q=v+1:=⟨q-1,by omega⟩;have pN:Hid (Q≤v):=hid (by omega);have kI:Hid (v*d1+(r+d1)=T):=hid (by have:=lW.out;rw[Nat.succ_mul] at this;omega);obtain⟨P,hP⟩:∃P:Nat,P=(v+1)*d2:=⟨_,rfl⟩;obtain⟨Z,hZ⟩:∃Z:Nat,Z=r*1000000000+u3:=⟨_,rfl⟩;obtain⟨q,hq⟩:∃q:Nat,q=v+1:=⟨_,rfl⟩;rw[←hq] at hP kO hqT;have hPi:(q:Int)*(d2:Int)=(P:Int):=by rw[hP,Int.natCast_mul]
   have hZi:(r:Int)*1000000000+(u3:Int)=(Z:Int):=by omega
   have hZb:(Z:Int)<1000000000000000000:=by omega
   have xZ:(q:Int)-1=(v:Int):=by omega
   have Ss:(q:Int)=(v:Int)+1:=by omega
   have hg:decide ((1000000000:Int)≤(q:Int))=true∨(decide ((1000000000:Int)≤(q:Int))=false∧(P:Int)<1000000000000000000∧decide ((Z:Int)<(P:Int))=true∧Z<P):=by
    rcases(show 1000000000≤q∨q<1000000000 by omega) with h|h
    ·exact .inl (zas (by omega))
    ·have:=Nat.mul_le_mul (show q≤999999999 by omega) (show d2≤999999999 by omega)
     exact .inr ⟨zar (by omega),by omega,zas (by omega),by omega⟩
   have jQ:((v+1:Nat):Int)=(q:Int):=by omega
   have hvT:v≤T:=by omega
   simp only[jQ];obtain⟨r2,hr2⟩:∃r2:Nat,r2=r+d1:=⟨_,rfl⟩;have hr2i:(r:Int)+(d1:Int)=(r2:Int):=by omega
   rw[←hr2] at kI;have Nx:Hid (v<q):=hid (by omega);have HVT:=hid hvT;have uV:(v:Int)<1000000000000000000:=by omega
   clear hvT;clear hP hZ kO uP HQ lW hq Ss jQ lI;by_cases Hh:r2<1000000000
   ·have hrn:decide ((1000000000:Int)≤(r2:Int))=false:=zar (by omega)
    have qP:=hid Hh;clear hr2 Hh;rcases hg with lR|⟨lR,hPb,vW,hg3⟩
    ·obtain⟨gb,yB⟩:∃gb,decide ((1000000000:Int)≤(q:Int))=gb:=⟨_,rfl⟩
     have Kz:gb=true:=yB.symm.trans lR;clear lR hPi hqT hZi hZb;go_wp2_with fail
     go_quiet (fail)
     go_wp2_with fail;go_roundw
     case rel=>exact⟨v,r2,rfl,rfl,qP.out,HVT.out,pN,kI,hid ⟨_,rfl⟩⟩
     case measure=>simp only[intOf];have:=Nx.out;omega
    ·go_wp2_with fail
     go_quiet (fail)
     go_wp2_with fail;go_roundw
     case rel=>exact⟨v,r2,rfl,rfl,qP.out,HVT.out,pN,kI,hid ⟨_,rfl⟩⟩
     case measure=>simp only[intOf];have:=Nx.out;omega
   ·have hrn:(1000000000:Int)≤(r2:Int):=by omega
    have HV9:=hid (lV.out v r2 kI.out (by rw[qbo];omega));have aS:=hid (uU.out v r2 HV9.out kI.out (Sw.out v r2 HV9.out (by rw[qbo];omega)));clear hr2;rcases hg with lR|⟨lR,hPb,vW,hg3⟩
    ·obtain⟨gb,yB⟩:∃gb,decide ((1000000000:Int)≤(q:Int))=gb:=⟨_,rfl⟩
     have Kz:gb=true:=yB.symm.trans lR;clear lR hPi hqT hZi hZb;go_wp2_with fail
     go_quiet (fail)
     go_wp2_with fail;go_ret;exact⟨⟨v,rfl,HV9.out,pN.out,aS.out⟩,_,rfl⟩
    ·go_wp2_with fail
     go_quiet (fail)
     go_wp2_with fail;go_ret;exact⟨⟨v,rfl,HV9.out,pN.out,aS.out⟩,_,rfl⟩
theorem q88(g cu:Nat)(vv:Value)(R V:List Nat)(j N:Nat)(w:World)(hR:∀d ∈ R,d<D9)(hu:Own w g R.length (dv R))(hv:Dgs w vv V)(hVN:V.length=N+2)(hj:j+(N+2)<R.length)(hRl:R.length≤4000)(hcu:R.length≤cu∧cu≤maxLen)
  (hW:sg R j (N+3)<D9*val D9 V) (hd:V.getD (N+1) 0≠0):
  Calls Tryz.prog 206 #[.slice (some ⟨g,0,none⟩) R.length cu,vv,.int .i64 j] w fun e w'=>
   (∃q:Nat,e = .returned (.int .i64 q)∧q<D9∧sg R j (N+3)/val D9 V≤q∧q≤sg R j (N+3)/val D9 V+1)∧∃k,w'=w.drewN k:=by
 obtain⟨hV,pv,cv,rfl,Sx,Lc,aA⟩:=hv;rcases aA with h0|⟨bv,ov,rfl,aB⟩
 ·omega
 have c1:=(hu.2 (j+(N+2)) hj).1;have c2:=(hu.2 (j+(N+1)) (by omega)).1;have c3:=(hu.2 (j+N) (by omega)).1;have c4:=aB (N+1) (by omega);have c5:=aB N (by omega);unfold dv at c1 c2 c3 c4 c5;have b1:=qan (b:=D9) (by decide) hR (j+(N+2));have b2:=qan (b:=D9) (by decide) hR (j+(N+1));have b3:=qan (b:=D9) (by decide) hR (j+N);have b4:=qan (b:=D9) (by decide) hV (N+1);have b5:=qan (b:=D9) (by decide) hV N;have qE:=q7n R j N hR
 have hw:sg R j (N+3)=sg R j N+D9^N*(R.getD (j+N) 0+D9*(R.getD (j+(N+2)) 0*D9+R.getD (j+(N+1)) 0)):=by
  rw[qg0,qg0,qg0,Nat.pow_succ,Nat.pow_succ]
  grind
 have Ov:low D9 V N<D9^N:=qmr _ _ _ (by decide) hV
 have hy:val D9 V=low D9 V N+D9^N*(V.getD N 0+D9*V.getD (N+1) 0):=by
  rw[←qa4 D9 V (N+2) (by omega),qao,qao,Nat.pow_succ]
  grind
 generalize sg R j (N+3)=W at *;generalize val D9 V=Y at *;generalize R.getD (j+(N+2)) 0=u1 at *;generalize R.getD (j+(N+1)) 0=u2 at *;generalize R.getD (j+N) 0=u3 at *;generalize V.getD (N+1) 0=d1 at *;generalize V.getD N 0=d2 at *;generalize sg R j N=Wl at *;generalize low D9 V N=Yl at *;have hp:0<D9^N:=Nat.pow_pos (by decide);have kD:=q04 hw hy Ov b5 hW;have hQY:W/Y*Y≤W:=Nat.div_mul_le_self _ _
 have tB:0<Y:=by
  have:=Nat.mul_pos hp (show 0<d2+D9*d1 by have:=Nat.mul_pos (show 0<D9 by decide) (Nat.pos_of_ne_zero hd);omega);omega
 have hQB:W/Y<D9:=by rw[Nat.div_lt_iff_lt_mul tB];exact hW
 have e9:u1*1000000000+u2=u1*D9+u2:=by rw[qbo]
 refine qvc g 0 cu R.length bv ov cv V.length j (j+(N+2)) (j+(N+1)) (j+N) (N+1) N u1 u2 u3 d1 d2 (W/Y) (u1*D9+u2) w hRl (by omega) ⟨hcu.1,by have:=hcu.2;unfold maxLen at this;omega⟩ ⟨Sx,by unfold maxLen at Lc;omega⟩ (by omega) (by omega) (by omega) (by omega) (by omega) hj
  (by rw[Nat.zero_add];exact c1) (by rw[Nat.zero_add];exact c2) (by rw[Nat.zero_add];exact c3) c4 c5 (by rw[qbo] at b1;exact b1) (by rw[qbo] at b2;exact b2) (by rw[qbo] at b3;exact b3) (by rw[qbo] at b4;exact b4) (by rw[qbo] at b5;exact b5) (Nat.pos_of_ne_zero hd) e9.symm (hid hQB) (hid ?_) (hid ?_) (hid ?_) (hid ?_)
 ·refine q87 (p:=D9^N*D9) (Wlow:=Wl+D9^N*u3) (Dl:=Yl+D9^N*d2) ?_ ?_ ?_ (Nat.pos_of_ne_zero hd) hQY
  ·rw[hw];grind
  ·have:D9^N*(u3+1)≤D9^N*D9:=Nat.mul_le_mul_left _ b3
   rw[Nat.mul_add] at this;omega
  ·rw[hy];grind
 ·intro q r h1 h2 h3
  exact q4u hw qE hy hQY h1 h2 h3
 ·intro q r h1 h2
  exact q4t h1 kD b2 h2
 ·intro q r h1 h2 h3
  exact qvb hp (by decide) hw hy Ov h2 h3 (by omega) (Nat.pos_of_ne_zero hd)
structure q6d(R0 R Q:List Nat)(Y k:Nat):Prop where
 len:R.length=R0.length
 dig:∀d ∈ R,d<D9
 qdig:∀d ∈ Q,d<D9
 same:∀i,i<k→R.getD i 0=R0.getD i 0
 eq:qa6 D9 R0 k=Y*qa6 D9 Q k+qa6 D9 R k
 lt:qa6 D9 R k<Y
theorem qi1{R:List Nat}{j n:Nat}(h:qa6 D9 R j<D9^n):qa6 D9 R (j+n)=0:=by
 rw[qva R j n] at h;rcases zav (qa6 D9 R (j+n)) with e|e
 ·exact e
 ·exfalso
  have:=Nat.mul_le_mul_left (D9^n) e;omega
theorem qwx{R0 R Q:List Nat}{Y j N:Nat}(h:q6d R0 R Q Y (j+1))(hY:Y<D9^(N+2)):qa6 D9 R (j+(N+3))=0∧qa6 D9 R j=sg R j (N+3):=by
 have h1:=qi1 (R:=R) (j:=j+1) (n:=N+2) (Nat.lt_trans h.lt hY);rw[show j+1+(N+2)=j+(N+3) by omega] at h1;refine⟨h1, ?_⟩;rw[qva R j (N+3),h1];omega
theorem qvd{R0 R Q:List Nat}{Y j N:Nat}(h:q6d R0 R Q Y (j+1))(hY:Y<D9^(N+2)):sg R j (N+3)<D9*Y:=by
 rw[←(qwx h hY).2,qbj];have h1:=qan (b:=D9) (by decide) h.dig j;have h2:D9*(qa6 D9 R (j+1)+1)≤D9*Y:=Nat.mul_le_mul_left _ h.lt;rw[Nat.mul_add] at h2;omega
theorem qyk{R S:List Nat}{j:Nat}(aF:S.length=R.length)(h:∀i,j≤i→S.getD i 0=R.getD i 0):qa6 D9 S j=qa6 D9 R j:=by
 unfold qa6
 congr 1
 apply List.ext_getElem
 ·simp[aF]
 ·intro i h1 h2
  have:=h (j+i) (by omega);simp at h1 h2
  simpa [h1,h2,(by omega:j+i<S.length),(by omega:j+i<R.length)] using this
theorem q05{B Dv hq word W O H x V:Nat}(hO:O=Dv*hq+H)(hW:W=x+B*H)(hV:V+word*Dv=W):x+B*O=Dv*(word+B*hq)+V:=by
 rw[hO,Nat.mul_add,Nat.mul_add,show B*(Dv*hq)=Dv*(B*hq) from by grind,Nat.mul_comm Dv word];omega
theorem qs9{R0 R R' Q:List Nat}{Y j N q:Nat}(h:q6d R0 R Q Y (j+1))(hY:Y<D9^(N+2))(aF:R'.length=R.length)(hdig:∀d ∈ R',d<D9)
  (bU:∀i,i<j∨j+(N+3)≤i→R'.getD i 0=R.getD i 0) (hw:sg R' j (N+3)+q*Y=sg R j (N+3)) (bI:sg R' j (N+3)<Y) (hq:q<D9) (hQ:j<Q.length):q6d R0 R' (Q.set j q) Y j:=by
 obtain⟨t1,t2⟩:=qwx h hY;have e1:qa6 D9 R' (j+(N+3))=0:=by rw[qyk aF (fun i hi=>bU i (.inr hi))];exact t1
 have e2:qa6 D9 R' j=sg R' j (N+3):=by rw[qva R' j (N+3),e1];omega
 refine⟨aF.trans h.len,hdig,qco h.qdig _ _ hq,fun i hi=>(bU i (.inl hi)).trans (h.same i (by omega)), ?_,by rw[e2];exact bI⟩;rw[qs7 _ _ _ hQ,qbj D9 R0 j,e2];refine q05 h.eq (W:=sg R j (N+3)) ?_ hw;rw[←t2,qbj D9 R j,h.same j (by omega)]
theorem qyl{B p S S0 L m m' x d f s:Nat}(h:S+f*L=S0+p*m)(hs:s+d*f+m=x+B*m'):S+p*s+f*(L+p*d)=S0+p*x+p*B*m':=by
 have:=congrArg (p * ·) hs;simp only[Nat.mul_add] at this;rw[Nat.mul_add,Nat.mul_assoc p B,show f*(p*d)=p*(d*f) from by grind];omega
theorem qym{B p S S0 L c c' x d s:Nat}(h:S+p*c=S0+L)(hs:s+B*c'=x+d+c):S+p*s+p*B*c'=S0+p*x+(L+p*d):=by
 have:=congrArg (p * ·) hs;simp only[Nat.mul_add] at this;rw[Nat.mul_assoc p B];omega
theorem q7o{q v bo u P:Nat}(hv:v<1000000000)(hbo:bo≤q)(hu:u<1000000000)(hP:P=q*v+bo):
  (u<P % 1000000000→u+1000000000-P % 1000000000<1000000000∧P/1000000000+1≤q∧u+1000000000-P % 1000000000+v*q+bo=u+1000000000*(P/1000000000+1))∧
  (P % 1000000000≤u→u-P % 1000000000<1000000000∧P/1000000000≤q∧u-P % 1000000000+v*q+bo=u+1000000000*(P/1000000000)):=by
 have h1:q*v+q≤q*1000000000:=by
  rw[←Nat.mul_succ];exact Nat.mul_le_mul_left _ hv
 have h2:=Nat.mod_add_div P 1000000000;rw[Nat.mul_comm v q];constructor
 ·intro h
  refine⟨by omega, ?_,by omega⟩;have:1000000000*(P/1000000000)<1000000000*q:=by rw[Nat.mul_comm 1000000000 q];omega
  have:=Nat.lt_of_mul_lt_mul_left this;omega
 ·intro h
  refine⟨by omega, ?_,by omega⟩;have:1000000000*(P/1000000000)≤1000000000*q:=by rw[Nat.mul_comm 1000000000 q];omega
  exact Nat.le_of_mul_le_mul_left this (by omega)
theorem q06{S Sc P top bo q Y W:Nat}(hS:S+P*bo=Sc+q*Y)(hW:W=S+P*top)(xE:bo≤top)(hY:0<Y)(hQ:W/Y≤q):Sc+P*(top-bo)+q*Y=W∧Sc+P*(top-bo)<Y:=by
 obtain⟨d,rfl⟩:∃d,top=bo+d:=⟨top-bo,by omega⟩;rw[Nat.mul_add] at hW;rw[Nat.add_sub_cancel_left];have h:Sc+P*d+q*Y=W:=by omega
 refine⟨h, ?_⟩;have h1:q≤W/Y:=by rw[Nat.le_div_iff_mul_le hY];omega
 have h2:q=W/Y:=Nat.le_antisymm h1 hQ;have h3:=Nat.div_add_mod W Y;rw[←h2,Nat.mul_comm] at h3;have h4:=Nat.mod_lt W hY;omega
theorem q4v{S Sc P top bo q Y W:Nat}(hS:S+P*bo=Sc+q*Y)(hW:W=S+P*top)(bI:top<bo)(hY:0<Y)(hYP:Y<P)(hSc:Sc<P)(hQ:q≤W/Y+1):
  bo=top+1∧1≤q∧∀Sb c,Sb+P*c=Sc+Y→Sb<P→c≤1→c=1∧Sb+(q-1)*Y=W∧Sb<Y:=by
 obtain⟨d,rfl⟩:∃d,bo=top+1+d:=⟨bo-top-1,by omega⟩;rw[Nat.mul_add,Nat.mul_add,Nat.mul_one] at hS;have e:W+P+P*d=Sc+q*Y:=by omega
 have hq:W<q*Y:=by omega
 have qJ:W/Y<q:=(Nat.div_lt_iff_lt_mul hY).2 hq;obtain⟨k,rfl⟩:∃k,q=k+1:=⟨q-1,by have:=Nat.lt_of_le_of_lt (Nat.zero_le _) qJ;omega⟩;have hk:k=W/Y:=Nat.le_antisymm (Nat.le_of_succ_le_succ hQ) (Nat.le_of_lt_succ qJ);have h3:=Nat.div_add_mod W Y;have h4:=Nat.mod_lt W hY;rw[←hk,Nat.mul_comm] at h3;rw[Nat.succ_mul] at e
 have hd:d=0:=by
  rcases zav d with h|h
  ·exact h
  ·have:=Nat.mul_le_mul_left P h
   omega
 subst hd;refine⟨rfl,by omega,fun Sb c h1 h2 h5 => ?_⟩;rw[Nat.add_sub_cancel];rcases(show c=0∨c=1 by omega) with rfl|rfl
 ·omega
 ·refine⟨rfl, ?_, ?_⟩<;>omega
def dvm(l:List Nat)(p i:Nat):Value:=if i=p then .int .i64 (-1) else dv l i
theorem qm1(l:List Nat)(i k x:Nat)(h:k≠i):dv (l.set i x) k=dv l k:=by unfold dv;rw[qaq _ _ _ _ h]
theorem qke(l:List Nat)(i x:Nat)(h:i<l.length):dv (l.set i x) i = .int .i64 (x:Nat):=by unfold dv;rw[qb9 _ _ _ h]
theorem Own.minus1{w:World}{g:Nat}{l:List Nat}(h:Own w g l.length (dv l))(p:Nat)(hp:p<l.length):Own (w.setCell ⟨g,p,none⟩ (.int .i64 (-1))) g l.length (dvm l p):=
 (h.set p hp _).congr fun _ _=>rfl
theorem Own.setDvm{w:World}{g p:Nat}{l:List Nat}(h:Own w g l.length (dvm l p))(i:Nat)(hi:i<l.length)(hip:i≠p)(x:Nat):Own (w.setCell ⟨g,i,none⟩ (.int .i64 (x:Nat))) g (l.set i x).length (dvm (l.set i x) p):=by
 rw[List.length_set];refine(h.set i hi _).congr fun k _ => ?_;by_cases e:k=i
 ·subst e;rw[if_pos rfl];unfold dvm;rw[if_neg hip,qke _ _ _ hi]
 ·rw[if_neg e];unfold dvm;rw[qm1 _ _ _ _ e]
theorem Own.unminus{w:World}{g p:Nat}{l:List Nat}(h:Own w g l.length (dvm l p))(hp:p<l.length)(x:Nat):Own (w.setCell ⟨g,p,none⟩ (.int .i64 (x:Nat))) g (l.set p x).length (dv (l.set p x)):=by
 rw[List.length_set];refine(h.set p hp _).congr fun k _ => ?_;by_cases e:k=p
 ·subst e;rw[if_pos rfl,qke _ _ _ hp]
 ·rw[if_neg e];unfold dvm;rw[if_neg e,qm1 _ _ _ _ e]
theorem qrj{w w':World}{base:Nat}{e:TypeId}{s n:Nat}{v:Value}{xs:List Value}(h:w.ownsRow base e s v n xs)(hb:Below w.heap.size w w'):w'.ownsRow base e s v n xs:=by
 refine⟨h.1, ?_⟩;rcases h.2 with h1|⟨g,cap,cur,h1,h2,h3,h4⟩
 ·exact .inl h1
 ·exact .inr ⟨g,cap,cur,h1,h2,by rw[hb.block g (Array.getElem?_eq_some_iff.1 h3).1];exact h3,h4⟩
theorem qkf{W:World}{base k:Nat}{v:Value}{l:List Nat}(h:W.ownsRow base 3 1 v k ((zi l).map (Value.int .i64)))(hl:l.length=k)(hk:0<k):∃g cap,v = .slice (some ⟨g,0,none⟩) k cap∧base≤g∧k≤cap∧cap≤maxLen∧Own W g l.length (dv l):=by
 have h0:=h;rcases h.2 with⟨_,oG⟩|⟨g,cap,cur,rfl,hg,sB,hn,hm,_,_⟩
 ·omega
 ·refine⟨g,cap,rfl,hg,hn,hm,(Array.getElem?_eq_some_iff.1 sB).1,fun i hi=>⟨?_,h0.frozenAt i⟩⟩
  rw[h0.cellAt i (by omega),List.getElem?_map];unfold zi dv;rw[List.getElem?_map,zaw,zau hi];rfl
theorem q07{n N:Nat}(h:dl n=N+2):(qaf D9 n).getD (N+1) 0≠0:=by
 unfold dl at h;have hne:qaf D9 n≠[]:=by intro e;rw[e] at h;simp at h
 have e1:=List.dropLast_concat_getLast hne;have h1:=qil qa2 e1.symm
 have:(qaf D9 n).getD (N+1) 0=(qaf D9 n).getLast hne:=by
  rw[List.getLast_eq_getElem,zaw,zau (by omega)];simp[h]
 rw[this];exact h1
theorem q7p{n N:Nat}(h:dl n=N+2):∃top t,(qaf D9 n).getD (N+1) 0=top∧0<top∧top<1000000000∧1000000000/(top+1)=t∧0<t∧t<1000000000∧dl (n*t)=N+2:=by
 have h0:=q07 h;have hb:=qan (b:=D9) (by decide) (qd6 D9 n qa2) (N+1);have mS:=qao D9 (qaf D9 n) (N+1);unfold dl at h;rw[qa4 _ _ _ (by omega),qah _ _ qa2] at mS;have hl:=qmr D9 (qaf D9 n) (N+1) (by decide) (qd6 D9 n qa2);generalize (qaf D9 n).getD (N+1) 0=top at *;generalize low D9 (qaf D9 n) (N+1)=lo at *;rw[qbo] at hb;have kB:0<1000000000/(top+1):=Nat.div_pos (by omega) (by omega);have fB:1000000000/(top+1)<1000000000:=Nat.div_lt_self (by omega) (by omega);have iS:1000000000/(top+1)*(top+1)≤1000000000:=Nat.div_mul_le_self _ _;refine⟨top,_,rfl,by omega,hb,rfl,kB,fB, ?_⟩;generalize 1000000000/(top+1)=t at *
 have h1:n*t<D9^(N+2):=by
  have a1:n+1≤D9^(N+1)*(top+1):=by rw[Nat.mul_add,mS];omega
  have a2:(n+1)*t≤D9^(N+1)*(top+1)*t:=Nat.mul_le_mul_right _ a1
  have a3:D9^(N+1)*(top+1)*t≤D9^(N+1)*D9:=by
   rw[Nat.mul_assoc];exact Nat.mul_le_mul_left _ (by rw[qbo,Nat.mul_comm];exact iS)
  rw[Nat.pow_succ];rw[Nat.add_mul] at a2;omega
 have h2:n≤n*t:=Nat.le_mul_of_pos_right _ kB;have h3:=qb2 qa2 h1;have h4:=qad qa2 h2;unfold dl;omega
theorem q89{m t:Nat}(ht:t<D9):dl (m*t)≤dl m+1:=by
 refine qb2 qa2 ?_;have h1:=qb6 D9 m qa2;rw[Nat.pow_succ];unfold dl;rcases zav t with e|e
 ·subst e;rw[Nat.mul_zero];exact Nat.mul_pos (Nat.pow_pos (by decide)) (by decide)
 ·exact Nat.lt_of_lt_of_le (Nat.mul_lt_mul_of_pos_right h1 e) (Nat.mul_le_mul_left _ (by omega))
theorem qyn{m n t La N M:Nat}{R:List Nat}(hm:dl m=La)(hn:dl n=N+2)(hM:M+(N+2)=La+1)(ht:0<t)(hR:∀d ∈ R,d<D9)(hv:val D9 R=m*t)(hl:R.length=La+1):q6d R R (List.replicate M 0) (n*t) M:=by
 refine⟨rfl,hR,qb3 (b:=D9) (by decide) M,fun _ _=>rfl, ?_, ?_⟩
 ·rw[qc7 D9 (List.replicate M 0) M (by simp)];omega
 ·have h1:=qfc D9 R M (by omega)
  rw[hv] at h1;rcases Nat.lt_or_ge (qa6 D9 R M) (n*t) with h|h
  ·exact h
  ·exfalso
   have a1:D9^M*(n*t)≤m*t:=Nat.le_trans (Nat.mul_le_mul_left _ h) (by omega);rw[←Nat.mul_assoc] at a1;have a2:D9^M*n≤m:=Nat.le_of_mul_le_mul_right a1 ht
   have tS:0<n:=by
    rcases zav n with e|e
    ·subst e;unfold dl at hn;rw[qal] at hn;simp at hn
    ·exact e
   have a3:=qgx qa2 tS;have a4:=qb6 D9 m qa2;unfold dl at hm hn;rw[hm] at a4;rw[hn,show N+2-1=N+1 from rfl] at a3;have a5:D9^M*D9^(N+1)≤D9^M*n:=Nat.mul_le_mul_left _ a3;rw[←Nat.pow_add,show M+(N+1)=La by omega] at a5;omega
def qgr(t:Nat):Obj := .cells #[.int .i64 (t:Int)] 3
theorem qrk(va vb:Value)(m n N:Nat)(w:World)(ha:DN w va m)(hb:DN w vb n)(sH:n≤m)(hN:dl n=N+2)(hl:dl m≤900):
  Calls Tryz.prog 174 #[va,vb] w fun e w'=>(∃vq vr,e = .returned (.tuple #[vq,vr])∧DN w' vq (m/n)∧DN w' vr (m % n))∧Below w.heap.size w w':=by
 have HA:=hid ha;have HB:=hid hb;have HC:=hid (qri va vb m n w ha hb);obtain⟨c,hc⟩:∃c,qen m n=c:=⟨_,rfl⟩
 have hcge:¬c<0:=by
  rcases(show m=n∨n<m by omega) with h|h
  ·have:=qei (x:=(m:Int)) (y:=n) (by omega);unfold qen at hc;omega
  ·have:=qch (x:=(m:Int)) (y:=n) (by omega);unfold qen at hc;omega
 rw[hc] at HC;obtain⟨top,t,kD,htop0,Hn,ht,kB,Sy,Ho⟩:=q7p hN;have Hp:=q89 (m:=m) (t:=t) (by rw[qbo];exact Sy);have hNm:N+2≤dl m:=by rw[←hN];exact qad qa2 sH
 have pU:0<m:=by
  rcases zav m with e|e
  ·subst e;unfold dl at hNm;rw[qal] at hNm;simp at hNm
  ·exact e
 obtain⟨dJ,pa,ca,rfl,kW,fP,hcellsa⟩:=ha;obtain⟨dG,pb,cb,rfl,kE,fZ,hcellsb⟩:=hb;rcases hcellsb with h0|⟨bb,ob,rfl,dS⟩
 ·unfold dl at hN;omega
 have hcellT:=dS (N+1) (by unfold dl at hN;omega);unfold dv at hcellT;rw[kD] at hcellT;have HT:=hid hcellT
 have hJ:Hid (∀W:World,Below w.heap.size w W→Calls Tryz.prog 186 #[.slice (some ⟨bb,ob,none⟩) (qaf D9 n).length cb,.slice (some ⟨W.heap.size,0,none⟩) 1 1] (W.alloc (qgr t)) fun e w'=>
   (∃v',e = .returned v'∧DN w' v' (n*t))∧Below (W.alloc (qgr t)).heap.size (W.alloc (qgr t)) w'):=by
  refine hid fun W hW => ?_;have h1:=q99 _ _ (qaf D9 n) [t] (W.alloc (qgr t)) (HB.out.later (hW.alloc hW.size _)) (qu8 W t Sy) (by unfold dl at hN hNm hl;omega) (by simp);rw[qah _ _ qa2,show val D9 [t]=t by simp[val]] at h1;exact h1
 have fE:Hid (∀W W':World,Below w.heap.size w W'→Below (W.alloc (qgr t)).heap.size (W.alloc (qgr t)) W'→Calls Tryz.prog 186 #[.slice pa (qaf D9 m).length ca,.slice (some ⟨W.heap.size,0,none⟩) 1 1] W' fun e w'=>
   (∃v',e = .returned v'∧DN w' v' (m*t))∧Below W'.heap.size W' w'):=by
  refine hid fun W W' hW hW' => ?_;have h1:=q99 _ _ (qaf D9 m) [t] W' (HA.out.later hW) ((qu8 W t Sy).later hW') (by unfold dl at hl;omega) (by simp);rw[qah _ _ qa2,show val D9 [t]=t by simp[val]] at h1;exact h1
 have Ld:Hid (dl (n*t)=N+2):=hid Ho;have hNd:(qaf D9 n).length=N+2:=hN;have Gc:(qaf D9 m).length≤900:=hl;have Sz:N+2≤(qaf D9 m).length:=hNm;have Ta:dl (m*t)≤(qaf D9 m).length+1:=Hp;have Tb:Hid (dl n=N+2):=hid hN;have Og:Hid (dl m=(qaf D9 m).length):=hid rfl;clear hN hl hNm Hp Ho dJ hcellsa dG dS hcellT;generalize (qaf D9 n).length=Lb at *;generalize (qaf D9 m).length=La at *;have Bn:Hid (dl (m*t)≤La+1):=hid Ta;have gC:Hid (N+2≤La):=hid Sz;have hLa9:La≤900:=Gc;have hLbN:Lb=N+2:=hNd;have e1:(Lb:Int)-1=((N+1:Nat):Int):=by omega
 have hne:((Lb:Int)==1)=false:=zat (by omega);have bB:N+1<Lb:=by omega
 obtain⟨T1,zX⟩:∃T1:Nat,T1=top+1:=⟨_,rfl⟩;have hT1i:(top:Int)+1=(T1:Int):=by omega
 have hT1z:((T1:Int)==0)=false:=zat (by omega);have hT1a:(1000000000:Int)/(T1:Int)=(t:Int):=by rw[←ht,zX];rw[Int.natCast_ediv];rfl
 obtain⟨N1,hN1⟩:∃N1,N1=N+1:=⟨_,rfl⟩;rw[←hN1] at e1 bB HT;have hN1b:N1≤900:=by omega
 have hLbb:Lb≤900:=by omega
 have hTw:IntKind.i64.wrap (T1:Int)=(T1:Int):=by rw[IntKind.wrap_i64];omega
 have hTw2:IntKind.i64.wrap ((top:Int)+1)=(T1:Int):=by rw[IntKind.wrap_i64];omega
 have fL:Hid (top<1000000000):=hid Hn;have pT:Hid (t<1000000000):=hid Sy;clear kD Hn ht zX hLbN hNd Gc Sz Ta kW kE hc sH Sy hN1;unfold maxLen at fP fZ;go_enter Tryz.func174,Tryz.ntmps174;go_wp2_with fail;refine HC.out.mono ?_;rintro e w1 ⟨rfl,hb1'⟩;have aQ:=hid hb1';clear hb1' HC
 have aC:w1.cell? ⟨bb,ob+N1,none⟩=some (.int .i64 (top:Nat)):=by
  rw[aQ.out.cell (p:=⟨bb,ob+N1,none⟩) (zaq w _ HT.out)];exact HT.out
 go_wp2_with fail;refine(hJ.out w1 aQ.out).mono ?_;rintro e w2 ⟨⟨vV,rfl,hV⟩,aT⟩;have fT:=hid aT
 have Tc:Hid (∀W,Below w2.heap.size w2 W→W.cell? ⟨w1.heap.size,0,none⟩=some (.int .i64 (t:Nat))):=hid fun W hW=>by
  have h1:(w1.alloc (qgr t)).cell? ⟨w1.heap.size,0,none⟩=some (.int .i64 (t:Nat)):=by unfold qgr;rw[World.cell?_alloc_at _ _ _ _ rfl];rfl
  have h2:=aT.cell (p:=⟨w1.heap.size,0,none⟩) (zaq _ _ h1);have h3:=hW.cell (p:=⟨w1.heap.size,0,none⟩) (Nat.lt_of_lt_of_le (zaq _ _ h1) aT.size);rw[h3,h2,h1]
 have aR:Hid (Below w.heap.size w w2):=hid ((aQ.out.alloc aQ.out.size _).trans (aT.mono (by rw[zao];have:=aQ.out.size;omega)));have HV:=hid hV;obtain⟨hVd,pv,cv,rfl,Sx,Lc,hcellsv⟩:=hV
 have wS:Hid (n*t<D9^(N+2)∧0<n*t):=hid (by
  have h1:=qb6 D9 (n*t) qa2;have h2:(qaf D9 (n*t)).length=N+2:=Ld.out;rw[h2] at h1;refine⟨h1, ?_⟩;rcases zav (n*t) with e|e
  ·rw[e,qal] at h2;cases h2
  ·exact e)
 rcases hcellsv with h0|⟨bv,ov,rfl,Hs⟩
 ·have h2:(qaf D9 (n*t)).length=N+2:=Ld.out
  omega
 have Iy:=hid Hs;have Kh:=hid hVd
 have hLvb:(qaf D9 (n*t)).length≤900:=by
  have h1:=Ld.out;have h2:=gC.out;unfold dl at h1;omega
 clear aT hVd hJ aC HT Hs;have Td:Hid (∀i,(qaf D9 (n*t)).getD i 0<D9):=hid fun i=>qan (b:=D9) (by decide) Kh.out i;have jO:Hid (∀i,low D9 (qaf D9 (n*t)) (i+1)=low D9 (qaf D9 (n*t)) i+D9^i*(qaf D9 (n*t)).getD i 0):=hid fun i=>qao _ _ _;have mN:Hid (low D9 (qaf D9 (n*t)) (qaf D9 (n*t)).length=n*t):=hid (by rw[qa4 _ _ _ (zap _),qah _ _ qa2]);unfold maxLen at Lc;have Le:Hid ((qaf D9 (n*t)).length=N+2):=Ld;generalize (qaf D9 (n*t)).length=Lv at *
 have qW:Hid (qaf D9 (m*t)≠[]∧(qaf D9 (m*t)).length≤La+1∧val D9 (qaf D9 (m*t))=m*t∧∀d ∈ qaf D9 (m*t),d<D9):=hid ⟨fun e=>by
  have:=(qey qa2).1 e;have:=Nat.mul_pos pU kB
  omega,Bn.out,qah _ _ qa2,qd6 _ _ qa2⟩
 obtain⟨i0,hi,cT,dT,dU⟩:=info_parts (show(Tryz.prog.info? 3).map (fun i=>(i.zero,i.size,i.bytes))=some (some (.int .i64 0),1,8) by kernel_rfl);have HI:=hid hi;clear hi Bn;go_wp2_with fail;refine(fE.out w1 _ (aR.out.alloc aR.out.size _) (fT.out.alloc fT.out.size _)).mono ?_;rintro e w3 ⟨⟨vM,rfl,hM⟩,cW⟩;have bY:Hid (Below w2.heap.size w2 w3):=hid (((zan _ w2).alloc (zap _) _).trans (cW.mono (by rw[zao];omega)));have iI:Hid (w3.ownsRow w2.heap.size 3 1 (.slice (some ⟨w2.heap.size,0,none⟩) 0 0) 0 ((zi []).map (Value.int .i64))):=hid (qrj (World.ownsRow_made w2 #[] 0 (zap _) (Nat.zero_le _) rfl) cW);obtain⟨_,pm,cm,rfl,Lf,hcm2,hcellsm⟩:=hM;rcases hcellsm with h0|⟨bm,om,rfl,Ht⟩
 ·exact absurd (List.length_eq_zero_iff.1 h0) qW.out.1
 have zM:=hid Ht;clear cW fE fT Ht;generalize qaf D9 (m*t)=lm at *;obtain⟨Lm,Bn⟩:∃Lm,Hid (Lm=lm.length):=⟨_,hid rfl⟩;rw[←Bn.out] at Lf zM ⊢;have hLmb:Lm≤901:=by have h1:=qW.out.2.1;have h2:=Bn.out;omega
 go_wp2_with (at_builtin;refine wpList_append_own _ rfl _ _ 23 rfl w2.heap.size 3 i0 (.int .i64 0) 1 8 Tryz.underlying23 HI.out cT dT dU rfl (by decide) _ _ _ rfl iI.out ⟨bm,om,none⟩ Lm cm ((zi lm).map (Value.int .i64)) rfl ?mT ?Dx ?Dy ?Dz ?Ea ?Eb ?_)
 case mT=>simp[zi];exact Bn.out.symm
 case Dx=>
  intro j u hj
  have pM:j<lm.length:=by
   have:=(List.getElem?_eq_some_iff.1 hj).1
   simpa [zi] using this
  have h1:=zM.out j (by rw[Bn.out];exact pM);have e:((zi lm).map (Value.int .i64))[j]? = some (dv lm j):=by unfold zi dv;simp[pM]
  rw[e] at hj;cases hj
  rw[Addr.add_lit];exact h1
 case Dy=>intro u hu;obtain⟨x,_,rfl⟩:=List.mem_map.1 hu;rfl
 case Dz=>unfold maxLen;omega
 case Ea=>omega
 case Eb=>exact bY.out.size
 intro v4 w4 bG bW sC;have fA:Hid (Below w2.heap.size w2 w4):=hid (bY.out.grown bW bY.out.size (by intro k hk;simp[Value.ownBlock] at hk;omega));have bL:Hid (w4.ownsRow w2.heap.size 3 1 v4 Lm ((zi lm).map (Value.int .i64))):=hid bG;clear bG bW sC bY iI zM
 have Te:0<Lm:=by
  have h1:=qW.out.1;have h2:=Bn.out;rcases zav Lm with e|e
  ·exact absurd (List.length_eq_zero_iff.1 (by omega)) h1
  ·exact e
 have Lf:Lm≤La+1:=by have h1:=qW.out.2.1;have h2:=Bn.out;omega
 obtain⟨g4,c4,rfl,hg4,Jt,hc4',_⟩:=qkf bL.out Bn.out.symm Te;have HW4:Hid ((∀d ∈ lm,d<D9)∧val D9 lm=m*t):=hid ⟨qW.out.2.2.2,qW.out.2.2.1⟩;clear hg4 Jt hc4' qW;go_wp2_with fail
 go_loopw [11] (fun v wr=>∃k g cap:Nat,∃R:List Nat,0<k∧k≤La+1∧v = .slice (some ⟨g,0,none⟩) k cap∧Hid (R.length=k)∧Hid ((∀d ∈ R,d<D9)∧val D9 R=m*t)∧Hid (wr.ownsRow w2.heap.size 3 1 (.slice (some ⟨g,0,none⟩) k cap) k ((zi R).map (Value.int .i64)))∧Hid (Below w2.heap.size w2 wr)) (fun v _=>La+1-qku v)
 case atStart=>exact⟨Lm,g4,c4,lm,Te,Lf,rfl,hid Bn.out.symm,HW4,bL,fA⟩
 case round=>
  obtain⟨k,g,cap,R,oG,hk,rfl,mG,cM,bL,fA⟩:=hrel;by_cases cV:k<La+1
  ·have hki:(k:Int)<(La:Int)+1:=by omega
   go_wp2_with (at_builtin;refine qhr rfl _ _ rfl w2 _ w2.heap.size k _ (zi R) _ (by rfl) bL.out fA.out (zap _) (by rfl) (by omega) ?_);rintro v' w5 hown' hbw';have fN:Hid (w5.ownsRow w2.heap.size 3 1 v' (k+1) ((zi (R++[0])).map (Value.int .i64))):=hid (by rw[qh0,List.map_append];exact hown');have An:Hid ((R++[0]).length=k+1):=hid (by rw[List.length_append,mG.out];rfl);have fG:Hid ((∀d ∈ R++[0],d<D9)∧val D9 (R++[0])=m*t):=hid ⟨qf0 cM.out.1 (by decide),by rw[qd2,cM.out.2];omega⟩;have dP:=hid hbw';clear hown' hbw' bL fA;obtain⟨g5,c5,rfl,_,_,_,_⟩:=qkf fN.out An.out (by omega);go_wp2_with fail;go_roundw
   case rel=>exact⟨k+1,g5,c5,R++[0],by omega,by omega,by go_num,An,fG,fN,dP⟩
   case measure=>simp[qku];omega
  ·obtain rfl:k=La+1:=by omega
   obtain⟨M,HM⟩:∃M,Hid (M+Lv=La+1∧M+(N+2)=La+1):=⟨La+1-Lv,hid (by have h1:=Le.out;have h2:=gC.out;omega)⟩;have hMi:(La:Int)+1-(Lv:Int)=(M:Int):=by have:=HM.out.1;omega
   have hMb:M≤901:=by have:=HM.out.1;omega
   have lS:=fun w=>qlb M (by omega) w;obtain⟨g',cap',he,yB,Hu,jJ,Ag⟩:=qkf bL.out mG.out (by omega);cases he
   have qL:=hid yB;have cS:Hid (La+1≤cap∧cap≤maxLen):=hid ⟨Hu,jJ⟩;have nY:=hid (qyn Og.out Tb.out HM.out.2 kB cM.out.1 cM.out.2 mG.out);have Tf:Hid (Own (wr.alloc (qe8 M)) g R.length (dv R)):=hid (Ag.later (((zan _ wr).alloc (zap _) _).mono (by have:=Ag.1;omega)));have Tg:=hid (qov wr M);have Th:Hid ((List.replicate M 0).length=M):=hid (by simp);have Ti:Hid (Below w2.heap.size w2 (wr.alloc (qe8 M))):=hid (fA.out.alloc fA.out.size _);have jW:Hid (g≠wr.heap.size):=hid (by have:=Ag.1;omega);have HGQ:Hid (w2.heap.size≤wr.heap.size):=hid fA.out.size;generalize List.replicate M 0=Q0 at *;clear yB Hu jJ Ag bL fA hk oG cV;go_wp2_with fail;generalize wr.alloc (qe8 M)=wq at *;generalize wr.heap.size=gq at *
   go_loopw [13] (fun i wr=>∃k:Nat,∃Rr Q:List Nat,k≤M∧i = .int .i64 ((k:Int)-1)∧Hid (Q.length=M)∧Hid (q6d R Rr Q (n*t) k)∧Hid (Own wr g Rr.length (dv Rr))∧Hid (Own wr gq Q.length (dv Q))∧Hid (Below w2.heap.size w2 wr)) (fun i _=>(intOf i+1).toNat)
   case atStart=>exact⟨M,R,Q0,zap _,by go_num,Th,nY,Tf,Tg,Ti⟩
   case round=>
    obtain⟨k,Rr,Q,hk,rfl,kS,Dm,uD,HOQ,bR⟩:=hrel;clear Th nY Tf Tg Ti;have RL:Hid (Rr.length=La+1):=hid (Dm.out.len.trans mG.out);rcases k with _|j
    ·have Hv:Hid (val D9 Q=m/n∧val D9 (Rr.take Lv)=m % n*t):=hid (by
      have h1:=Dm.out.eq;have h2:=Dm.out.lt;rw[high_zero,high_zero,high_zero,cM.out.2] at h1;rw[high_zero] at h2;have tB:=wS.out.2
      have h3:m*t/(n*t)=val D9 Q∧m*t % (n*t)=val D9 Rr:=by
       rw[h1];exact⟨by rw[Nat.mul_add_div tB,Nat.div_eq_of_lt h2,Nat.add_zero],by rw[Nat.mul_add_mod,Nat.mod_eq_of_lt h2]⟩
      rw[Nat.mul_div_mul_right _ _ kB,Nat.mul_mod_mul_right] at h3;refine⟨h3.1.symm, ?_⟩;have h4:qa6 D9 Rr (0+(N+2))=0:=qi1 (by rw[high_zero];exact Nat.lt_trans h2 wS.out.1);have h5:=qfc D9 Rr (N+2) (by rw[RL.out];have:=gC.out;omega);rw[Nat.zero_add] at h4;rw[h4,Nat.mul_zero,Nat.add_zero] at h5;rw[h3.2,h5,Le.out]
      rfl)
     have HPRE:Hid (∀W,Below (g+1) wr W→Dgs W (.slice (some ⟨g,0,none⟩) Lv cap) (Rr.take Lv)):=hid fun W hW=>by
      have h1:Lv≤Rr.length:=by rw[RL.out];have:=HM.out.1;omega
      have h2:=(uD.out.later hW).row;refine⟨fun d hd=>Dm.out.dig d (List.mem_of_mem_take hd),some ⟨g,0,none⟩,cap,by rw[List.length_take,Nat.min_eq_left h1],by rw[List.length_take];have:=cS.out.1;have:=RL.out;omega,cS.out.2,.inr ⟨g,0,rfl,fun i hi => ?_⟩⟩;have hi2:i<Lv:=by rw[List.length_take] at hi;omega
      rw[h2 i (by omega)];unfold dv;simp only[zaw];rw[List.getElem?_take_of_lt hi2]
     have bX:Below wr.heap.size wr wr.drew:=(zan _ _).drew;have Ko:=hid (qyi _ _ wr.drew (HPRE.out _ (bX.mono (by have:=uD.out.1;omega))));rw[Hv.out.2] at Ko
     have Tj:Hid (dl (m % n*t)≤3000):=hid (by
      have h1:m % n*t≤n*t:=Nat.mul_le_mul_right _ (by
       rcases zav n with e|e
       ·have:=wS.out.2;rw[e,Nat.zero_mul] at this;omega
       ·exact Nat.le_of_lt (Nat.mod_lt _ e))
      have h2:=qad qa2 h1;have h3:=Ld.out;have h4:=gC.out;unfold dl at h3 ⊢
      omega)
     have rN:Hid (∀v,DN wr.drew v (m % n*t)→Calls Tryz.prog 204 #[v,.int .i64 t] wr.drew fun e w'=>(∃v',e = .returned (.tuple #[v',.int .i64 ((m % n*t % t:Nat):Int)])∧DN w' v' (m % n))∧Below wr.heap.size wr w'):=hid fun v hv=>by
      have h1:=qs8 v (qaf D9 (m % n*t)) t wr.drew hv Tj.out kB pT.out;rw[qah _ _ qa2,Nat.mul_div_cancel _ kB] at h1;refine h1.mono ?_;rintro e w' ⟨h2,h3⟩;exact⟨h2,bX.trans h3⟩
     have hcf:=Tc.out wr bR.out;have hLi:(Lv:Int)≤(cap:Int):=by have h1:=cS.out.1;have h2:=HM.out.1;omega
     have hLn:Lv≤cap:=by omega
     have HQG:Hid (gq+1≤wr.heap.size):=hid HOQ.out.1;clear bX;go_wp2_with fail
     go_region_held3 (fun W=>W.cell? ⟨w1.heap.size,0,none⟩=some (.int .i64 (t:Nat))) (first|with_reducible exact Tc.out _ kX.out|exact hcf)
      (first|(go_at_call 205;refine Ko.out.mono ?_;rintro e wT ⟨⟨vT,rfl,hT⟩,rfl⟩;have As:=hid hT;clear hT)|(go_at_call 204;refine(rN.out _ As.out).mono ?_;rintro e wD ⟨⟨vD,rfl,hD⟩,hbD⟩;have HDV:=hid hD;have eE:=hid hbD;have kX:Hid (Below w2.heap.size w2 wD):=hid (bR.out.trans (hbD.mono bR.out.size));clear hD hbD))
     have Ar:=hid (qyi _ Q wD (qu7 (HOQ.out.later (eE.out.mono HQG.out)) Dm.out.qdig (zap _) (by rw[kS.out];unfold maxLen;omega)));rw[Hv.out.1,kS.out] at Ar;go_wp2_with fail;refine Ar.out.mono ?_;rintro e wE ⟨⟨vE,rfl,hE⟩,rfl⟩;have HEV:=hid hE;clear hE;go_wp2_with fail;go_ret2;exact⟨⟨_,_,rfl,HEV.out,HDV.out⟩,aR.out.trans (kX.out.mono aR.out.size)⟩
    ·have kA:((j+1:Nat):Int)-1=(j:Int):=by omega
     simp only[kA];have HJ:Hid (j+(N+2)<La+1):=hid (by have:=HM.out.2;omega)
     have HG:Hid (Calls Tryz.prog 206 #[.slice (some ⟨g,0,none⟩) (La+1) cap,.slice (some ⟨bv,ov,none⟩) Lv cv,.int .i64 j] wr fun e w'=>(∃q:Nat,e = .returned (.int .i64 q)∧q<D9∧sg Rr j (N+3)/(n*t)≤q∧q≤sg Rr j (N+3)/(n*t)+1)∧∃k,w'=wr.drewN k):=hid (by
      have h1:=q88 g cap (.slice (some ⟨bv,ov,none⟩) Lv cv) Rr (qaf D9 (n*t)) j N wr Dm.out.dig uD.out (HV.out.later bR.out) Ld.out (by rw[RL.out];exact HJ.out) (by rw[RL.out];omega) ⟨by rw[RL.out];exact cS.out.1,cS.out.2⟩ (by rw[qah _ _ qa2];exact qvd Dm.out wS.out.1) (q07 Ld.out);rw[qah _ _ qa2,RL.out] at h1
      exact h1)
     go_wp2_with fail;refine HG.out.mono ?_;rintro e w6 ⟨⟨q,rfl,Of,xZ,qJ⟩,kw,hw6⟩;have Tk:Hid (Own w6 g Rr.length (dv Rr)):=hid (by rw[hw6];exact uD.out.later (below_drewN (zan _ _) kw));have Tl:Hid (Own w6 gq Q.length (dv Q)):=hid (by rw[hw6];exact HOQ.out.later (below_drewN (zan _ _) kw));have lK:Hid (Below w2.heap.size w2 w6):=hid (by rw[hw6];exact below_drewN bR.out kw);have HQ9:=hid Of;have tF:=hid xZ;have pN:=hid qJ;have oK:Hid (q<1000000000):=hid (by rw[qbo] at Of;exact Of);have hLvi:Lv≤900:=hLvb;have pJ:Hid (N+2=Lv):=hid Le.out.symm;clear hw6 Of xZ qJ HG uD HOQ bR;go_wp2_with fail
     go_loopw [15,16] (fun b i wb=>∃x bo:Nat,∃Rc:List Nat,x≤Lv∧i = .int .i64 x∧b = .int .i64 bo∧Hid (bo≤q)∧Hid (Rc.length=La+1)∧Hid (∀d ∈ Rc,d<D9)∧Hid (Own wb g Rc.length (dv Rc))∧Hid (Own wb gq Q.length (dv Q))∧Hid (sg Rc j x+q*low D9 (qaf D9 (n*t)) x=sg Rr j x+D9^x*bo)∧Hid (∀y,y<j∨j+x≤y→Rc.getD y 0=Rr.getD y 0)∧Hid (Below w2.heap.size w2 wb)) (fun _ i _=>Lv-(intOf i).toNat)
     case atStart=>exact⟨0,0,Rr,Nat.zero_le _,rfl,rfl,hid (Nat.zero_le _),RL,hid Dm.out.dig,Tk,Tl,hid (by simp[qu9,low]),hid (fun _ _=>rfl),lK⟩
     case round=>
      obtain⟨x,bo,Rc,hx,rfl,rfl,HBO,fX,Lg,tG,Bo,xM,xN,dY⟩:=hrel;clear Tk Tl lK;by_cases fI:x<Lv
      ·have hjx:x+j<La+1:=by have:=HJ.out;have:=pJ.out;omega
       have uW:x+j<Rc.length:=by rw[fX.out];exact hjx
       obtain⟨hg,oI⟩:=tG.out.2 (x+j) uW;unfold dv at hg;have rJ:=Iy.out x fI
       have aC:wr.cell? ⟨bv,ov+x,none⟩=some (dv (qaf D9 (n*t)) x):=by
        rw[dY.out.cell (p:=⟨bv,ov+x,none⟩) (zaq w2 _ rJ)];exact rJ
       unfold dv at aC;have Oh:=qan (b:=D9) (by decide) Lg.out (x+j);have lE:=Td.out x;have Tm:=hid (jO.out x);have uB:=hid (qg0 Rr j x);have bU:=xN.out (x+j) (.inr (by omega));rw[Nat.add_comm j x,←bU] at uB;clear rJ bU;generalize Rc.getD (x+j) 0=u at *;generalize (qaf D9 (n*t)).getD x 0=y at *;rw[qbo] at Oh lE;obtain⟨P,hP⟩:∃P:Nat,P=q*y+bo:=⟨_,rfl⟩;obtain⟨bNeg,bPos⟩:=q7o lE HBO.out Oh hP;have hxy0:0≤(q:Int)*(y:Int):=by rw[←Int.natCast_mul];omega
       have Kw:q*y≤999999999*999999999:=Nat.mul_le_mul (by have:=oK.out;omega) (by omega);have hxy1:(q:Int)*(y:Int)≤999999998000000001:=by rw[←Int.natCast_mul];omega
       have Ss:(q:Int)*(y:Int)+(bo:Int)=(P:Int):=by rw[←Int.natCast_mul];omega
       have hPm:(P:Int).tmod 1000000000=((P % 1000000000:Nat):Int):=by rw[Int.tmod_eq_emod_of_nonneg (by omega)];omega
       have hPd:(P:Int)/1000000000=((P/1000000000:Nat):Int):=by omega
       have hPb:P<9223372036854775807:=by have h1:=HBO.out;have h2:=oK.out;omega
       have hPq:P/1000000000≤9223372036:=by omega
       have hPr:P % 1000000000<1000000000:=Nat.mod_lt _ (by omega)
       have cJ:Hid (∀d,d<1000000000→Hid ((Rc.set (x+j) d).length=La+1)∧Hid (∀e ∈ Rc.set (x+j) d,e<D9)∧Hid (Own (wr.setCell ⟨g,x+j,none⟩ (.int .i64 (d:Nat))) g (Rc.set (x+j) d).length (dv (Rc.set (x+j) d)))∧Hid (Own (wr.setCell ⟨g,x+j,none⟩ (.int .i64 (d:Nat))) gq Q.length (dv Q))∧Hid (sg (Rc.set (x+j) d) j (x+1)=sg Rc j x+D9^x*d)∧Hid (∀y,y<j∨j+(x+1)≤y→(Rc.set (x+j) d).getD y 0=Rr.getD y 0)∧Hid (Below w2.heap.size w2 (wr.setCell ⟨g,x+j,none⟩ (.int .i64 (d:Nat))))):=by
        refine hid fun d hd=>⟨hid (by rw[List.length_set];exact fX.out),hid (qco Lg.out _ _ (by rw[qbo];exact hd)),hid (tG.out.setDig _ uW d),hid (Bo.out.setOther jW.out _ _),hid ?_,hid fun z hz => ?_,hid (dY.out.setCell (p:=⟨g,x+j,none⟩) qL.out _)⟩
        ·rw[Nat.add_comm x j];exact qh1 Rc j x d (by omega)
        ·rw[qaq _ _ _ _ (by omega)];exact xN.out z (by omega)
       have jK:Hid (∀d bo',d+y*q+bo=u+1000000000*bo'→sg Rc j x+D9^x*d+q*low D9 (qaf D9 (n*t)) (x+1)=sg Rr j (x+1)+D9^(x+1)*bo'):=hid fun d bo' h=>by
        rw[Tm.out,uB.out,Nat.pow_succ];exact qyl xM.out (by rw[qbo];exact h)
       clear hP Kw Oh lE uW Tm uB xM xN tG Bo fX Lg dY HBO;generalize P % 1000000000=pm at *;generalize P/1000000000=pq at *;by_cases uN:u<pm
       ·obtain⟨r1,r2,r3⟩:=bNeg uN
        obtain⟨d,hd⟩:∃d,d=u+1000000000-pm:=⟨_,rfl⟩;rw[←hd] at r1 r3;have eW:(u:Int)-(pm:Int)<0:=by omega
        have jF:(u:Int)-(pm:Int)+1000000000=(d:Int):=by omega
        obtain⟨c1,c2,c3,c4,c5,c6,c7⟩:=cJ.out d r1;have jR:=hid (jK.out d (pq+1) r3);rw[←c5.out] at jR;have Fb:=hid r2;have gV:d≤999999999:=by omega
        clear bNeg bPos hd r1 r2 r3 c5 cJ jK uN;go_wp2_with fail;go_roundw
        case rel=>exact⟨x+1,pq+1,_,by omega,by go_num,by go_num,Fb,c1,c2,c3,c4,jR,c6,c7⟩
        case measure=>simp[intOf];omega
       ·have jM:pm≤u:=by omega
        obtain⟨r1,r2,r3⟩:=bPos jM;obtain⟨d,hd⟩:∃d,d=u-pm:=⟨_,rfl⟩;rw[←hd] at r1 r3;have jF:(u:Int)-(pm:Int)=(d:Int):=by omega
        obtain⟨c1,c2,c3,c4,c5,c6,c7⟩:=cJ.out d r1;have jR:=hid (jK.out d pq r3);rw[←c5.out] at jR;have Fb:=hid r2;have gV:d≤999999999:=by omega
        clear bNeg bPos hd r1 r2 r3 c5 cJ jK uN jM;go_wp2_with fail;go_roundw
        case rel=>exact⟨x+1,pq,_,by omega,by go_num,by go_num,Fb,c1,c2,c3,c4,jR,c6,c7⟩
        case measure=>simp[intOf];omega
      ·have hxe:x=Lv:=by omega
       subst x;obtain⟨p,HP⟩:∃p,Hid (p=j+(N+2)):=⟨_,hid rfl⟩;have hpi:(j:Int)+(Lv:Int)=(p:Int):=by have h1:=HP.out;have h2:=pJ.out;omega
       have oJ:p<La+1:=by have h1:=HP.out;have h2:=HJ.out;omega
       have zV:p<Rc.length:=by rw[fX.out];exact oJ
       obtain⟨hg,oI⟩:=tG.out.2 p zV;unfold dv at hg;have hjM:j<M:=by omega
       have tI:j<Q.length:=by rw[kS.out];exact hjM
       obtain⟨hgq,hfq⟩:=Bo.out.2 j tI;have Lh:=qan (b:=D9) (by decide) Lg.out p;have fU:=hid (xN.out p (.inr (by have h1:=HP.out;have h2:=pJ.out;omega)))
       have HWW:Hid (sg Rr j (N+3)=sg Rr j (N+2)+D9^(N+2)*Rc.getD p 0):=hid (by
        rw[fU.out,HP.out];exact qg0 Rr j (N+2))
       have Et:Hid (sg Rr j (N+2)+D9^(N+2)*bo=sg Rc j (N+2)+q*(n*t)):=hid (by
        have h1:=xM.out;rw[mN.out,←pJ.out] at h1
        exact h1.symm)
       rw[qbo] at Lh;have Tn:bo<1000000000:=by have h1:=HBO.out;have h2:=oK.out;omega
       have HRCp:Hid (∀d,sg (Rc.set p d) j (N+3)=sg Rc j (N+2)+D9^(N+2)*d):=hid fun d=>by
        rw[HP.out];exact qh1 Rc j (N+2) d (by rw[←HP.out];exact zV)
       have hJ:=hid (tG.out.minus1 p zV);have HSD:=hid (fun d=>tG.out.setDig p zV d);have uB:=hid (q7n Rc j (N+2) Lg.out);generalize htp:Rc.getD p 0=tp at *;clear htp;by_cases xE:bo≤tp
       ·obtain⟨d,hd⟩:∃d,d=tp-bo:=⟨_,rfl⟩
        have Nv:(tp:Int)-(bo:Int)=(d:Int):=by omega
        obtain⟨f1,f2⟩:=q06 Et.out HWW.out xE wS.out.2 tF.out;rw[←hd,←HRCp.out] at f1 f2;have xD:d<1000000000:=by omega
        have cH:Hid (q6d R (Rc.set p d) (Q.set j q) (n*t) j):=hid (qs9 Dm.out wS.out.1 (by rw[List.length_set,fX.out,RL.out]) (qco Lg.out _ _ (by rw[qbo];exact xD))
         (fun y hy=>by rw[qaq _ _ _ _ (by have h1:=HP.out;omega)];exact xN.out y (by have h2:=pJ.out;omega)) f1 f2 HQ9.out tI)
        have jS:Hid (Own (wr.setCell ⟨g,p,none⟩ (.int .i64 (d:Nat))) g (Rc.set p d).length (dv (Rc.set p d))):=hid (HSD.out d);have kQ:Hid (Own (wr.setCell ⟨g,p,none⟩ (.int .i64 (d:Nat))) gq Q.length (dv Q)):=hid (Bo.out.setOther jW.out _ _);have rO:Hid (Below w2.heap.size w2 (wr.setCell ⟨g,p,none⟩ (.int .i64 (d:Nat)))):=hid (dY.out.setCell (p:=⟨g,p,none⟩) qL.out _);have mJ:=hid (jS.out.setOther (Ne.symm jW.out) j (.int .i64 (q:Nat)));have HO4:=hid (kQ.out.setDig j tI q);have oT:=hid (rO.out.setCell (p:=⟨gq,j,none⟩) HGQ.out (.int .i64 (q:Nat)));obtain⟨k1,_⟩:=jS.out.2 p (by rw[List.length_set];exact zV);obtain⟨k2,k3⟩:=kQ.out.2 j tI;rw[qke _ _ _ zV] at k1;have qU:¬(d:Int)<0:=by omega
        have sK:Hid ((Q.set j q).length=M):=hid (by rw[List.length_set];exact kS.out);clear hd xE f1 f2 Tn Lh zV tI;go_wp2_with fail;go_roundw
        case rel=>exact⟨j,_,_,by omega,by go_num,sK,cH,mJ,HO4,oT⟩
        case measure=>simp[intOf]
       ·have bI:tp<bo:=by omega
        obtain⟨f1,f2,f3⟩:=q4v Et.out HWW.out bI wS.out.2 wS.out.1 uB.out pN.out;have F3:=hid f3;have Nv:(tp:Int)-(bo:Int) = -1:=by omega
        obtain⟨q',hq'⟩:∃q':Nat,q=q'+1:=⟨q-1,by omega⟩;have Ss:(q:Int)-1=(q':Int):=by omega
        have HQ':Hid (q'=q-1):=hid (by omega);have HQ9':Hid (q'<D9):=hid (by have:=HQ9.out;omega);have hqb:(q:Int)≤1000000000:=by have:=oK.out;omega
        have kQ:Hid (Own (wr.setCell ⟨g,p,none⟩ (.int .i64 (-1))) gq Q.length (dv Q)):=hid (Bo.out.setOther jW.out _ _);have rO:Hid (Below w2.heap.size w2 (wr.setCell ⟨g,p,none⟩ (.int .i64 (-1)))):=hid (dY.out.setCell (p:=⟨g,p,none⟩) qL.out _);obtain⟨k1,_⟩:=hJ.out.2 p zV;unfold dvm at k1;rw[if_pos rfl] at k1;clear bI f1 f2 f3 Tn Lh tI hq' hgq hfq xE;go_wp2_with fail;generalize wr.setCell ⟨g,p,none⟩ (.int .i64 (-1))=wn at *
        go_loopw [19,20] (fun c i wz=>∃x cc:Nat,∃Rb:List Nat,x≤Lv∧i = .int .i64 x∧c = .int .i64 cc∧cc≤1∧Hid (Rb.length=La+1)∧Hid (∀d ∈ Rb,d<D9)∧Hid (Own wz g Rb.length (dvm Rb p))∧Hid (Own wz gq Q.length (dv Q))∧Hid (sg Rb j x+D9^x*cc=sg Rc j x+low D9 (qaf D9 (n*t)) x)∧Hid (∀y,y<j∨j+x≤y→Rb.getD y 0=Rc.getD y 0)∧Hid (Below w2.heap.size w2 wz)) (fun _ i _=>Lv-(intOf i).toNat)
        case atStart=>exact⟨0,0,Rc,Nat.zero_le _,rfl,rfl,by omega,fX,Lg,hid hJ.out,kQ,hid (by simp[qu9,low]),hid (fun _ _=>rfl),rO⟩
        case round=>
         obtain⟨x,cc,Rb,hx,rfl,rfl,gA,dV,eE,yI,Li,Lj,Fc,aX⟩:=hrel;by_cases fI:x<Lv
         ·have hjx:x+j<La+1:=by have:=HJ.out;have:=pJ.out;omega
          have uW:x+j<Rb.length:=by rw[dV.out];exact hjx
          have hne':x+j≠p:=by have h1:=HP.out;have h2:=pJ.out;omega
          obtain⟨hg,oI⟩:=yI.out.2 (x+j) uW;unfold dvm at hg;rw[if_neg hne'] at hg;unfold dv at hg;have rJ:=Iy.out x fI
          have aC:wr.cell? ⟨bv,ov+x,none⟩=some (dv (qaf D9 (n*t)) x):=by
           rw[aX.out.cell (p:=⟨bv,ov+x,none⟩) (zaq w2 _ rJ)];exact rJ
          unfold dv at aC;have Oh:=qan (b:=D9) (by decide) eE.out (x+j);have lE:=Td.out x;have Tm:=hid (jO.out x);have Lk:=hid (qg0 Rc j x);have bU:=Fc.out (x+j) (.inr (by omega));rw[Nat.add_comm j x,←bU] at Lk;clear rJ bU;generalize Rb.getD (x+j) 0=u at *;generalize (qaf D9 (n*t)).getD x 0=y at *;rw[qbo] at Oh lE;obtain⟨sm,jL⟩:∃sm:Nat,sm=u+y+cc:=⟨_,rfl⟩;have hsi:(u:Int)+(y:Int)+(cc:Int)=(sm:Int):=by omega
          have hsm1:(sm:Int).tmod 1000000000=((sm % 1000000000:Nat):Int):=by rw[Int.tmod_eq_emod_of_nonneg (by omega)];omega
          have hsm2:(sm:Int)/1000000000=((sm/1000000000:Nat):Int):=by omega
          have hsm3:sm/1000000000≤1:=by omega
          have hsb:sm≤2000000000:=by omega
          have oC:sm % 1000000000<1000000000:=Nat.mod_lt _ (by omega)
          have hE2:sg Rb j x+D9^x*(sm % 1000000000)+D9^(x+1)*(sm/1000000000)=sg Rc j (x+1)+low D9 (qaf D9 (n*t)) (x+1):=by
           rw[Tm.out,Lk.out,Nat.pow_succ];refine qym Lj.out ?_;rw[qbo];have:=Nat.mod_add_div sm 1000000000;omega
          have mE:∀d,sg (Rb.set (x+j) d) j (x+1)=sg Rb j x+D9^x*d:=fun d=>by
           rw[Nat.add_comm x j];exact qh1 Rb j x d (by omega)
          rw[←mE] at hE2;have jR:=hid hE2;have C1:Hid ((Rb.set (x+j) (sm % 1000000000)).length=La+1):=hid (by rw[List.length_set];exact dV.out);have C2:Hid (∀e ∈ Rb.set (x+j) (sm % 1000000000),e<D9):=hid (qco eE.out _ _ (by rw[qbo];exact oC));have C3:=hid (yI.out.setDvm (x+j) uW hne' (sm % 1000000000));have C4:=hid (Li.out.setOther jW.out (x+j) (.int .i64 ((sm % 1000000000:Nat):Int)))
          have C6:Hid (∀z,z<j∨j+(x+1)≤z→(Rb.set (x+j) (sm % 1000000000)).getD z 0=Rc.getD z 0):=hid fun z hz=>by
           rw[qaq _ _ _ _ (by omega)];exact Fc.out z (by omega)
          have C7:=hid (aX.out.setCell (p:=⟨g,x+j,none⟩) qL.out (.int .i64 ((sm % 1000000000:Nat):Int)));clear jL Oh lE uW hne' Tm Lk hE2 mE dV eE yI Li Lj Fc aX oC;generalize sm % 1000000000=d at *;generalize sm/1000000000=cn at *;go_wp2_with fail
          go_quiet (fail)
          go_wp2_with fail;go_roundw
          case rel=>exact⟨x+1,cn,_,by omega,by go_num,by go_num,hsm3,C1,C2,hid (C3.out.later (below_drewN (zan _ _) nq)),hid (C4.out.later (below_drewN (zan _ _) nq)),jR,C6,hid (below_drewN C7.out nq)⟩
          case measure=>simp[intOf];omega
         ·have hxe:x=Lv:=by omega
          subst x;have rF:p<Rb.length:=by rw[dV.out];exact oJ
          obtain⟨hg,oI⟩:=yI.out.2 p rF;unfold dvm at hg;rw[if_pos rfl] at hg;have hE:=Lj.out;rw[mN.out,←pJ.out] at hE;obtain⟨bP,f1,f2⟩:=F3.out _ cc hE (q7n Rb j (N+2) eE.out) gA;rw[←HQ'.out] at f1;obtain⟨z,hz⟩:∃z:Nat,z=0:=⟨_,rfl⟩;have hzi:(-1:Int)+(cc:Int)=(z:Int):=by omega
          have dM:sg (Rb.set p z) j (N+3)=sg Rb j (N+2):=by
           rw[HP.out,qh1 Rb j (N+2) z (by rw[←HP.out];exact rF),hz];omega
          rw[←dM] at f1 f2;have tI:j<Q.length:=by rw[kS.out];exact hjM
          have cH:Hid (q6d R (Rb.set p z) (Q.set j q') (n*t) j):=hid (qs9 Dm.out wS.out.1 (by rw[List.length_set,dV.out,RL.out]) (qco eE.out _ _ (by rw[hz];decide))
           (fun y hy=>by rw[qaq _ _ _ _ (by have h1:=HP.out;omega),Fc.out y (by have h2:=pJ.out;omega)];exact xN.out y (by have h2:=pJ.out;omega)) f1 f2 HQ9'.out tI)
          have Bk:Hid (Own (wr.setCell ⟨g,p,none⟩ (.int .i64 (z:Nat))) g (Rb.set p z).length (dv (Rb.set p z))):=hid (yI.out.unminus rF z);have HO6:Hid (Own (wr.setCell ⟨g,p,none⟩ (.int .i64 (z:Nat))) gq Q.length (dv Q)):=hid (Li.out.setOther jW.out _ _);have HB8':Hid (Below w2.heap.size w2 (wr.setCell ⟨g,p,none⟩ (.int .i64 (z:Nat)))):=hid (aX.out.setCell (p:=⟨g,p,none⟩) qL.out _);have mJ:=hid (Bk.out.setOther (Ne.symm jW.out) j (.int .i64 (q':Nat)));have HO4:=hid (HO6.out.setDig j tI q');have oT:=hid (HB8'.out.setCell (p:=⟨gq,j,none⟩) HGQ.out (.int .i64 (q':Nat)));obtain⟨k2,k3⟩:=HO6.out.2 j tI;have sK:Hid ((Q.set j q').length=M):=hid (by rw[List.length_set];exact kS.out);clear hE bP f1 f2 hz dM tI rF;go_wp2_with fail;go_roundw
          case rel=>exact⟨j,_,_,by omega,by go_num,sK,cH,mJ,HO4,oT⟩
          case measure=>simp[intOf]
end Go.Proofs.YtclimablgihlhaaGreatDoor
