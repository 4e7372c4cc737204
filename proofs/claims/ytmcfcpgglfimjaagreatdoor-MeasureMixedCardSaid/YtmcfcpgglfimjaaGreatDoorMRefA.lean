/- The reference's integers: digits to the base 10^9; trim, digit, compareDigits, addDigits, subDigits. -/
import Derived.Test.YtmcfcpgglfimjaaGreatDoorMGuess
import Derived.Test.YtmcfcpgglfimjaaGreatDoorMBase
import Derived.WalkKit
import Derived.Deep.AppendLies
import Derived.Laws.OwnMore
import Derived.Test.YtmcfcpgglfimjaaGreatDoorMApport
import Derived.Test.YtmcfcpgglfimjaaGreatDoorMMul
import Derived.Test.YtmcfcpgglfimjaaGreatDoorMMaths
import Derived.BigQuiet
import Derived.Deep.RegionHeld3
set_option linter.all false
namespace Go.Proofs.YtmcfcpgglfimjaaGreatDoor
open Go.RowKit
set_option maxRecDepth 100000
set_option maxHeartbeats 16000000
def D9:Nat:=1000000000
theorem qb4:D9=1000000000:=rfl
theorem qbe:2≤D9:=by decide
def dv(l:List Nat)(i:Nat):Value := .int .i64 ((l.getD i 0:Nat):Int)
def Dgs(w:World)(v:Value)(l:List Nat):Prop:=(∀d ∈ l,d<D9)∧qel w v l.length (dv l)
theorem Dgs.later{w w':World}{v:Value}{l:List Nat}(h:Dgs w v l)(hb:Below w.heap.size w w'):Dgs w' v l:=⟨h.1,h.2.later hb⟩
def DN(w:World)(v:Value)(n:Nat):Prop:=Dgs w v (qao D9 n)
theorem DN.later{w w':World}{v:Value}{n:Nat}(h:DN w v n)(hb:Below w.heap.size w w'):DN w' v n:=Dgs.later h hb
def dl(n:Nat):Nat:=(qao D9 n).length
theorem qy8(l:List Nat)(k:Nat)(hl:∀d ∈ l,d<D9)(hk:k≤l.length)(hv:val D9 l=low D9 l k)(tJ:k=0∨l.getD (k-1) 0≠0):qao D9 (val D9 l)=l.take k:=by
 rw[hv];refine qkz D9 qbe _ (fun d hd=>hl d (List.mem_of_mem_take hd)) ?_;intro m d hm;rcases tJ with h0|h0
 ·subst h0;simp at hm
 ·have aE:(l.take k).length=k:=by simp;omega
  have hd:(l.take k).getD (k-1) 0=d:=by
   have:m.length=k-1:=by rw[hm] at aE;simp at aE;omega
   rw[hm,←this];simp
  have kF:0<k:=by
   rw[hm] at aE;simp at aE;omega
  rw[←hd]
  have:(l.take k).getD (k-1) 0=l.getD (k-1) 0:=by
   simp only[qba];rw[List.getElem?_take_of_lt (by omega)]
  rw[this];exact h0
theorem q1o(w:World)(p:Option Addr)(c:Nat)(l:List Nat)(k:Nat)(hl:∀d ∈ l,d<D9)(hk:k≤l.length)(bO:l.length≤c)(bJ:c≤maxLen)
  (aA:l.length=0∨∃b o,p=some ⟨b,o,none⟩∧ql5 w b o l.length (dv l)) (e:qao D9 (val D9 l)=l.take k):DN w (.slice p k c) (val D9 l):=by
 have aE:(l.take k).length=k:=by simp;omega
 unfold DN Dgs;rw[e];refine⟨fun d hd=>hl d (List.mem_of_mem_take hd),p,c,by rw[aE],by omega,bJ, ?_⟩;rw[aE];rcases aA with h0|⟨b,o,hp,aB⟩
 ·exact .inl (by omega)
 ·refine .inr ⟨b,o,hp,fun i hi => ?_⟩
  rw[aB i (by omega)];unfold dv;simp only[qba];rw[List.getElem?_take_of_lt hi]
theorem q62(v:Value)(l:List Nat)(w:World)(h:Dgs w v l):
  Calls Tryz.prog 161 #[v] w fun e w'=>(∃v',e = .returned v'∧∀W,Dgs W v l→DN W v' (val D9 l))∧w=w':=by
 have HH:=hid h;obtain⟨hl,p,c,rfl,bO,bJ,aA⟩:=h
 have FIN:Hid (∀k,k≤l.length→val D9 l=low D9 l k→(k=0∨l.getD (k-1) 0≠0)→∀W,Dgs W (.slice p l.length c) l→DN W (.slice p k c) (val D9 l)):=hid fun k hk h1 h2 W hW=>by
  obtain⟨_,p',c',he,_,_,hcells'⟩:=hW;cases he
  exact q1o W p c l k hl hk bO bJ hcells' (qy8 l k hl hk h1 h2)
 unfold maxLen at bJ;go_enter Tryz.func161,Tryz.ntmps161;go_wp2
 go_loop [0] (fun s=>∃k:Nat,k≤l.length∧s = .slice p k c∧Hid (val D9 l=low D9 l k)) qk2
 case atStart=>exact⟨_,qac _,rfl,hid (qbf _ _ _ (qac _)).symm⟩
 case round=>
  obtain⟨k,hk,rfl,hv⟩:=hrel;by_cases kF:k=0
  ·subst kF
   go_wp2;go_ret;exact⟨⟨_,rfl,FIN.out 0 hk hv.out (.inl rfl)⟩,rfl⟩
  ·obtain⟨j,rfl⟩:∃j,k=j+1:=⟨k-1,by omega⟩
   rcases aA with h0|⟨b,o,rfl,aB⟩
   ·omega
   have aC:=aB j (by omega);unfold dv at aC;have hs:=qa0 D9 l j;generalize Lr:l.getD j 0=x at *;have HX:=hid Lr;have HS:=hid hs;clear Lr hs hl aB;by_cases oZ:x=0
   ·subst oZ
    have hb:(((0:Nat):Int)==0)=true:=rfl;go_wp2;exact⟨⟨j,by omega,rfl,hid (by rw[hv.out,HS.out];omega)⟩,by simp[qk2]⟩
   ·have hb:((x:Int)==0)=false:=by simp;omega
    go_wp2;go_ret;exact⟨⟨_,rfl,FIN.out _ hk hv.out (.inr (by show l.getD (j+1-1) 0≠0;rw[Nat.add_sub_cancel,HX.out];exact oZ))⟩,rfl⟩
theorem qy9(v:Value)(l:List Nat)(w:World)(h:Dgs w v l):
  Calls Tryz.prog 161 #[v] w fun e w'=>(∃v',e = .returned v'∧DN w v' (val D9 l))∧w=w':=
 (q62 v l w h).mono fun _ _ ⟨⟨v',he,hv⟩,hw⟩=>⟨⟨v',he,hv w h⟩,hw⟩
theorem q1p(v:Value)(l:List Nat)(i:Nat)(w:World)(h:Dgs w v l)(hi:i≤1048576):
  Calls Tryz.prog 199 #[v,.int .i64 i] w fun e w'=>e = .returned (.int .i64 (l.getD i 0:Nat))∧w'=w:=by
 obtain⟨_,p,c,rfl,bO,bJ,aA⟩:=h;unfold maxLen at bJ;by_cases bC:i<l.length
 ·rcases aA with h0|⟨b,o,rfl,aB⟩
  ·omega
  have aC:=aB i bC;unfold dv at aC;clear aB;generalize l.getD i 0=x at *;go_enter Tryz.func199,Tryz.ntmps199;go_wp2;go_ret;exact⟨rfl,rfl⟩
 ·have h0:l.getD i 0=0:=by rw[qba,List.getElem?_eq_none (by omega)];rfl
  rw[h0];clear aA h0;go_enter Tryz.func199,Tryz.ntmps199;go_wp2;go_ret;exact⟨rfl,rfl⟩
theorem qrm(va vb:Value)(m n:Nat)(w:World)(ha:DN w va m)(hb:DN w vb n):
  Calls Tryz.prog 159 #[va,vb] w fun e w'=>e = .returned (.int .i64 (qer m n))∧Below w.heap.size w w':=by
 obtain⟨cX,pa,ca,rfl,jQ,fC,hcellsa⟩:=ha;obtain⟨cS,pb,cb,rfl,jA,fK,hcellsb⟩:=hb;unfold maxLen at fC fK;by_cases aE:(qao D9 m).length=(qao D9 n).length
 ·have hne:((((qao D9 m).length:Nat):Int) != ((qao D9 n).length:Nat))=false:=by simp;omega
  have FIN:Hid (∀j,j<(qao D9 m).length→(qao D9 m).drop (j+1)=(qao D9 n).drop (j+1)→((qao D9 m).getD j 0<(qao D9 n).getD j 0→qer m n = -1)∧((qao D9 n).getD j 0<(qao D9 m).getD j 0→qer m n=1)):=by
   refine hid fun j hj ht => ?_;unfold qer;constructor
   ·intro h
    have:=qhr qbe aE cX j hj ht h;rw[qar _ _ qbe,qar _ _ qbe] at this;exact qde (by omega)
   ·intro h
    have:=qhr qbe aE.symm cS j (by omega) ht.symm h;rw[qar _ _ qbe,qar _ _ qbe] at this;exact qcq (by omega)
  have EQ:Hid ((qao D9 m).drop 0=(qao D9 n).drop 0→qer m n=0):=hid fun h=>by
   have:=qq4 qbe (by simpa using h);subst this;exact qem rfl
  have STEP:Hid (∀j,j<(qao D9 m).length→(qao D9 m).drop (j+1)=(qao D9 n).drop (j+1)→(qao D9 m).getD j 0=(qao D9 n).getD j 0→(qao D9 m).drop j=(qao D9 n).drop j):=hid fun j hj=>qs0 hj aE;have LEN:=hid aE;clear aE;generalize qao D9 m=l at *;generalize qao D9 n=r at *;go_enter Tryz.func159,Tryz.ntmps159;go_wp2_with fail
  go_loopw [5] (fun i wr=>∃k:Nat,k≤l.length∧i = .int .i64 ((k:Int)-1)∧Hid (l.drop k=r.drop k)∧Hid (Below w.heap.size w wr)) (fun i _=>(intOf i+1).toNat)
  case atStart=>exact⟨_,qac _,rfl,hid (by rw[List.drop_of_length_le (qac _),LEN.out,List.drop_of_length_le (qac _)]),hid (qaa _ _)⟩
  case round=>
   obtain⟨k,hk,rfl,ht,bU⟩:=hrel;rcases k with _|j
   ·have HE:=hid (EQ.out ht.out)
    go_wp2;go_ret;exact⟨qa6 HE.out.symm,bU.out⟩
   ·have e1:((j+1:Nat):Int)-1=(j:Int):=by omega
    simp only[e1];rcases hcellsa with h0|⟨b,o,rfl,aB⟩
    ·omega
    rcases hcellsb with h0|⟨b',o',rfl,hrow'⟩
    ·have:=LEN.out;omega
    have aC:∀W,Below w.heap.size w W→W.cell? ⟨b,o+j,none⟩=some (dv l j)∧W.cell? ⟨b',o'+j,none⟩=some (dv r j):=fun W hW=>by
     have h1:=aB j (by omega);have h2:=hrow' j (by have:=LEN.out;omega);rw[hW.cell (p:=⟨b,o+j,none⟩) (qaf w _ h1),hW.cell (p:=⟨b',o'+j,none⟩) (qaf w _ h2)];exact⟨h1,h2⟩
    unfold dv at aC;have HCE:=hid aC;clear aC;have FJ:=hid (FIN.out j (by omega) ht.out);have SJ:=hid (STEP.out j (by omega) ht.out);have h2:j<r.length:=by have:=LEN.out;omega
    clear aB hrow';generalize l.getD j 0=x at *;generalize r.getD j 0=y at *;clear FIN STEP EQ;obtain⟨hc,hc'⟩:=HCE.out wr bU.out;rcases Nat.lt_trichotomy x y with tQ|tQ|tQ
    ·have HE:=hid (FJ.out.1 tQ)
     go_wp2_with fail
     go_quiet (fail)
     go_wp2_with fail;go_ret;exact⟨qa6 HE.out.symm,below_drewN bU.out _⟩
    ·have HS:=hid (SJ.out tQ)
     have oY:¬x<y:=by omega
     have yE:=hid tQ;clear tQ;go_wp2_with fail
     go_quiet (fail)
     go_wp2_with fail;clear hc hc' oY;have cZ:=hid (below_drewN bU.out nq);obtain⟨hc,hc'⟩:=HCE.out _ cZ.out;have pU:¬y<x:=by have:=yE.out;omega
     generalize wr.drewN nq=w2 at *
     go_quiet (fail)
     go_wp2_with fail;go_roundw
     case rel=>exact⟨j,by omega,by go_num,HS,hid (below_drewN cZ.out _)⟩
     case measure=>simp[intOf]
    ·have HE:=hid (FJ.out.2 tQ)
     have oY:¬x<y:=by omega
     have yE:=hid tQ;clear tQ;go_wp2_with fail
     go_quiet (fail)
     go_wp2_with fail;clear hc hc' oY;have cZ:=hid (below_drewN bU.out nq);obtain⟨hc,hc'⟩:=HCE.out _ cZ.out;have pU:y<x:=yE.out;generalize wr.drewN nq=w2 at *
     go_quiet (fail)
     go_wp2_with fail;go_ret;exact⟨qa6 HE.out.symm,below_drewN cZ.out _⟩
 ·have hne:((((qao D9 m).length:Nat):Int) != ((qao D9 n).length:Nat))=true:=by simp;omega
  rcases Nat.lt_or_ge (qao D9 m).length (qao D9 n).length with h|h
  ·have HE:Hid (qer m n = -1):=hid (qde (by have:=qd9 qbe h;omega))
   have hb:decide ((((qao D9 m).length:Nat):Int)<((qao D9 n).length:Nat))=true:=qag (by omega);clear aE hcellsa hcellsb cX cS;go_enter Tryz.func159,Tryz.ntmps159;go_wp2;go_ret;exact⟨qa6 HE.out.symm,qaa _ _⟩
  ·have h':(qao D9 n).length<(qao D9 m).length:=by omega
   have HE:Hid (qer m n=1):=hid (qcq (by have:=qd9 qbe h';omega));have hb:decide ((((qao D9 m).length:Nat):Int)<((qao D9 n).length:Nat))=false:=qae (by omega);clear aE hcellsa hcellsb cX cS;go_enter Tryz.func159,Tryz.ntmps159;go_wp2;go_ret;exact⟨qa6 HE.out.symm,qaa _ _⟩
def zi(l:List Nat):List Int:=List.map (fun(d:Nat)=>(d:Int)) l
theorem qh2(l:List Nat)(d:Nat):zi (l++[d])=zi l++[(d:Int)]:=by simp[zi]
theorem qi6{W:World}{base k:Nat}{v:Value}{l:List Nat}(h:W.ownsRow base 3 1 v k ((zi l).map (Value.int .i64)))(hl:l.length=k)(hd:∀d ∈ l,d<D9):Dgs W v l:=by
 refine⟨hd, ?_⟩;have h0:=h;rcases h.2 with⟨rfl,hk⟩|⟨g,cap,cur,rfl,_,qP,hn,hm,hs,ht⟩
 ·exact⟨none,0,by rw[hl,hk],by omega,by decide,.inl (by omega)⟩
 ·refine⟨some ⟨g,0,none⟩,cap,by rw[hl],by omega,hm,.inr ⟨g,0,rfl,fun i hi => ?_⟩⟩
  rw[Nat.zero_add,h0.cellAt i (by omega),List.getElem?_map];unfold zi dv;rw[List.getElem?_map,qba,qat hi];rfl
theorem qlg{W:World}{base k:Nat}{e:TypeId}{n:Nat}{v:Value}{xs:List Value}(h:W.ownsRow base e n v k xs)(q:Nat):(W.drewN q).ownsRow base e n v k xs:=h
theorem qtd(l:List Nat)(i:Nat)(h:l.length≤i):l.getD i 0=0:=by rw[qba,List.getElem?_eq_none h];rfl
theorem qf3{P:Nat→Prop}{l:List Nat}{d:Nat}(h:∀x ∈ l,P x)(hd:P d):∀x ∈ l++[d],P x:=by
 intro x hx;rw[List.mem_append] at hx;rcases hx with hx|hx
 ·exact h x hx
 ·simp at hx;subst hx;exact hd
theorem q7w{lo:List Nat}{s k cc x y a b a' b':Nat}(fH:lo.length=k)(h:val D9 lo+D9^k*cc=a+b)(hs:s=x+y+cc)(ha:a'=a+D9^k*x)(hb:b'=b+D9^k*y):
  val D9 (lo++[s % 1000000000])+D9^(k+1)*(s/1000000000)=a'+b':=by
 rw[qd8,fH,ha,hb];have e1:D9^(k+1)*(s/1000000000)=D9^k*(1000000000*(s/1000000000)):=by rw[Nat.pow_succ,qb4,Nat.mul_assoc]
 rw[e1];generalize D9^k=P at *;have e2:P*(s % 1000000000)+P*(1000000000*(s/1000000000))=P*s:=by rw[←Nat.mul_add,Nat.mod_add_div]
 have e3:P*s=P*x+P*y+P*cc:=by rw[hs,Nat.mul_add,Nat.mul_add]
 omega
theorem zbd(va vb:Value)(l r:List Nat)(w:World)(ha:Dgs w va l)(hb:Dgs w vb r)(hl:l.length≤1000)(hr:r.length≤1000):
  Calls Tryz.prog 167 #[va,vb] w fun e w'=>(∃v' l',e = .returned v'∧Dgs w' v' l'∧val D9 l'=val D9 l+val D9 r∧l'.length≤1001)∧Below w.heap.size w w':=by
 have HA:=hid ha;have HB:=hid hb;obtain⟨cX,pa,ca,rfl,jQ,fC,_⟩:=ha;obtain⟨cS,pb,cb,rfl,jA,fK,_⟩:=hb;unfold maxLen at fC fK;have kL:=hid cX;have iQ:=hid cS;clear cX cS;obtain⟨M,hM⟩:∃M,M=max l.length r.length:=⟨_,rfl⟩;have hM1:l.length≤M∧r.length≤M∧M≤1000∧(M=l.length∨M=r.length):=by omega
 clear hM;go_enter Tryz.func167,Tryz.ntmps167;go_wp2_with fail
 go_loopw [5,6,7] (fun v c i wr=>∃k cc:Nat,∃lo:List Nat,k≤M+1∧i = .int .i64 k∧c = .int .i64 cc∧cc≤1∧(k≤M∨cc=0)∧Hid (lo.length=k)∧Hid (∀d ∈ lo,d<D9)∧Hid (val D9 lo+D9^k*cc=low D9 l k+low D9 r k)∧Hid (wr.ownsRow w.heap.size 3 1 v k ((zi lo).map (Value.int .i64)))∧Hid (Below w.heap.size w wr)) (fun _ _ i _=>M+1-(intOf i).toNat)
 case atStart=>exact⟨0,0,[],by omega,rfl,rfl,by omega,.inr rfl,hid rfl,hid (by simp),hid (by simp),hid (World.ownsRow_nil _ _ _ _),hid (qaa _ _)⟩
 case round=>
  obtain⟨k,cc,lo,hk,rfl,rfl,fL,hkc,qA,kQ,HV,bE,bU⟩:=hrel;by_cases hc:k<l.length∨k<r.length∨0<cc
  ·obtain⟨x,hx⟩:∃x,x=l.getD k 0:=⟨_,rfl⟩
   obtain⟨y,hy⟩:∃y,y=r.getD k 0:=⟨_,rfl⟩;have Kr:=qaz (b:=D9) (by decide) kL.out k;have Gs:=qaz (b:=D9) (by decide) iQ.out k;rw[←hx,qb4] at Kr;rw[←hy,qb4] at Gs;have gD:=hid (fun W (hW:Below w.heap.size w W)=>q1p _ l k W (HA.out.later hW) (by omega));have fQ:=hid (fun W (hW:Below w.heap.size w W)=>q1p _ r k W (HB.out.later hW) (by omega));rw[←hx] at gD;rw[←hy] at fQ;obtain⟨s,hs⟩:∃s:Nat,s=x+y+cc:=⟨_,rfl⟩;have hsi:(x:Int)+(y:Int)+(cc:Int)=(s:Int):=by omega
   have Aj:(s:Int).tmod 1000000000=((s % 1000000000:Nat):Int):=by rw[Int.tmod_eq_emod_of_nonneg (by omega)];omega
   have hsq:(s:Int)/1000000000=((s/1000000000:Nat):Int):=by omega
   have lA:k≤M:=by omega
   have kT:k+1≤M∨s/1000000000=0:=by
    rcases Nat.lt_or_ge k M with h|h
    ·exact .inl h
    ·refine .inr ?_
     have h1:=qtd l k (by omega);have h2:=qtd r k (by omega);omega
   have hsq1:s/1000000000≤1:=by omega
   have eQ:s<4000000000:=by omega
   have yZ:Hid ((lo++[s % 1000000000]).length=k+1):=hid (by rw[List.length_append,qA.out];rfl);have iM:Hid (∀d ∈ lo++[s % 1000000000],d<D9):=hid (qf3 kQ.out (by rw[qb4];omega));have cK:Hid (val D9 (lo++[s % 1000000000])+D9^(k+1)*(s/1000000000)=low D9 l (k+1)+low D9 r (k+1)):=hid (q7w qA.out HV.out hs (by rw[qa0,hx]) (by rw[qa0,hy]));have HZ:Hid (zi (lo++[s % 1000000000])=zi lo++[((s % 1000000000:Nat):Int)]):=hid (qh2 _ _);clear hx hy hs Kr Gs;generalize s % 1000000000=d at *;generalize s/1000000000=c' at *;rcases(show k<l.length∨¬k<l.length∧k<r.length∨¬k<l.length∧¬k<r.length∧0<cc by omega) with h|⟨h,h'⟩|⟨h,h',h''⟩
   all_goals
    clear hc;go_wp2_with fail;refine(gD.out _ bU.out).mono ?_;rintro e w1 ⟨rfl,rfl⟩;go_wp2_with fail;refine(fQ.out _ bU.out).mono ?_;rintro e w1 ⟨rfl,rfl⟩;go_wp2_with (at_builtin;refine qhv rfl _ _ rfl w _ w.heap.size k _ (zi lo) _ (by rfl) bE.out bU.out (qac _) (by rfl) (by omega) ?_);rintro v' w2 hown' hbw';have eX:Hid (w2.ownsRow w.heap.size 3 1 v' (k+1) ((zi (lo++[d])).map (Value.int .i64))):=hid (by rw[HZ.out,List.map_append];exact hown');have cZ:=hid hbw';clear hown' hbw' bE bU gD fQ;go_wp2_with fail;go_roundw
    case rel=>exact⟨k+1,c',_,by omega,by go_num,rfl,hsq1,kT,yZ,iM,cK,eX,cZ⟩
    case measure=>simp[intOf];omega
  ·have fA:cc=0:=by omega
   have aX:Hid (Dgs wr u5 lo∧val D9 lo=val D9 l+val D9 r∧lo.length≤1001):=hid (by
    have h1:=HV.out;rw[fA,qbf _ _ _ (by omega),qbf _ _ _ (by omega)] at h1
    exact⟨qi6 bE.out qA.out kQ.out,by omega,by rw[qA.out];omega⟩)
   have h1:¬k<l.length:=by omega
   have h2:¬k<r.length:=by omega
   have h3:¬0<cc:=by omega
   go_wp2_with fail;go_ret;exact⟨⟨_,_,rfl,aX.out⟩,bU.out⟩
theorem q1q{lo:List Nat}{d k bo bo' x y a b a' b':Nat}(fH:lo.length=k)(h:a+D9^k*bo=val D9 lo+b)(hd:d+y+bo=x+1000000000*bo')(ha:a'=a+D9^k*x)(hb:b'=b+D9^k*y):
  a'+D9^(k+1)*bo'=val D9 (lo++[d])+b':=by
 rw[qd8,fH,ha,hb];have e1:D9^(k+1)*bo'=D9^k*(1000000000*bo'):=by rw[Nat.pow_succ,qb4,Nat.mul_assoc]
 rw[e1];generalize D9^k=P at *;have e2:=congrArg (P * ·) hd;simp only[Nat.mul_add] at e2;omega
theorem q7x{lo:List Nat}{a b bo P:Nat}(h:a+P*bo=val D9 lo+b)(fH:val D9 lo<P)(hb:bo≤1)(hba:b≤a):val D9 lo=a-b:=by
 rcases(show bo=0∨bo=1 by omega) with rfl|rfl
 ·omega
 ·omega
theorem zbc(va vb:Value)(m n:Nat)(w:World)(ha:DN w va m)(hb:DN w vb n)(qW:n≤m)(hl:dl m≤1000):
  Calls Tryz.prog 168 #[va,vb] w fun e w'=>(∃v',e = .returned v'∧DN w' v' (m-n))∧Below w.heap.size w w':=by
 have Fr:(qao D9 n).length≤(qao D9 m).length:=qal qbe qW;have HA:Hid (Dgs w va (qao D9 m)):=hid ha;have HB:Hid (Dgs w vb (qao D9 n)):=hid hb;obtain⟨cX,pa,ca,rfl,jQ,fC,hcellsa⟩:=ha;obtain⟨cS,pb,cb,rfl,jA,fK,_⟩:=hb;unfold maxLen at fC fK;unfold dl at hl;have lJ:Hid (val D9 (qao D9 m)=m):=hid (qar _ _ qbe);have qD:Hid (val D9 (qao D9 n)=n):=hid (qar _ _ qbe);have kL:=hid cX;have iQ:=hid cS;have qO:=hid hcellsa;have tW:=hid qW;clear cX cS hcellsa qW;generalize qao D9 m=l at *;generalize qao D9 n=r at *;go_enter Tryz.func168,Tryz.ntmps168;go_wp2_with fail
 go_loopw [5,6,7] (fun v c i wr=>∃k bo:Nat,∃lo:List Nat,k≤l.length∧i = .int .i64 k∧c = .int .i64 bo∧bo≤1∧Hid (lo.length=k)∧Hid (∀d ∈ lo,d<D9)∧Hid (low D9 l k+D9^k*bo=val D9 lo+low D9 r k)∧Hid (wr.ownsRow w.heap.size 3 1 v k ((zi lo).map (Value.int .i64)))∧Hid (Below w.heap.size w wr)) (fun _ _ i _=>l.length-(intOf i).toNat)
 case atStart=>exact⟨0,0,[],by omega,rfl,rfl,by omega,hid rfl,hid (by simp),hid (by simp),hid (World.ownsRow_nil _ _ _ _),hid (qaa _ _)⟩
 case round=>
  obtain⟨k,bo,lo,hk,rfl,rfl,hbo,qA,kQ,HV,bE,bU⟩:=hrel;by_cases hc:k<l.length
  ·rcases qO.out with h0|⟨b,o,rfl,aB⟩
   ·omega
   have e0:=aB k hc
   have aC:wr.cell? ⟨b,o+k,none⟩=some (dv l k):=by
    rw[bU.out.cell (p:=⟨b,o+k,none⟩) (qaf w _ e0)];exact e0
   unfold dv at aC;clear aB e0;obtain⟨x,hx⟩:∃x,x=l.getD k 0:=⟨_,rfl⟩;obtain⟨y,hy⟩:∃y,y=r.getD k 0:=⟨_,rfl⟩;have Kr:=qaz (b:=D9) (by decide) kL.out k;have Gs:=qaz (b:=D9) (by decide) iQ.out k;rw[←hx] at aC;rw[←hx,qb4] at Kr;rw[←hy,qb4] at Gs;have fQ:=hid (fun W (hW:Below w.heap.size w W)=>q1p _ r k W (HB.out.later hW) (by omega));rw[←hy] at fQ;by_cases hs:x<y+bo
   ·obtain⟨d,hd⟩:∃d:Nat,d=x+1000000000-y-bo:=⟨_,rfl⟩
    have Eh:(x:Int)-(y:Int)-(bo:Int)+1000000000=(d:Int):=by omega
    have hsn:(x:Int)-(y:Int)-(bo:Int)<0:=by omega
    have yZ:Hid ((lo++[d]).length=k+1):=hid (by rw[List.length_append,qA.out];rfl);have iM:Hid (∀d' ∈ lo++[d],d'<D9):=hid (qf3 kQ.out (by rw[qb4];omega));have cK:Hid (low D9 l (k+1)+D9^(k+1)*1=val D9 (lo++[d])+low D9 r (k+1)):=hid (q1q (x:=x) (y:=y) qA.out HV.out (by omega) (by rw[qa0,hx]) (by rw[qa0,hy]));have HZ:Hid (zi (lo++[d])=zi lo++[(d:Int)]):=hid (qh2 _ _);have gH:d<1000000000:=by omega
    clear hx hy hd hs;have HQ:=hid (fun q=>fQ.out (wr.drewN q) (below_drewN bU.out q));go_wp2_with fail
    go_quiet ((go_at_call 199;exact Calls.quiet_of_same (HQ.out _)))
    clear HQ;have rF:=hid (below_drewN bU.out nq);have rG:=hid (qlg bE.out nq);clear bU bE;generalize wr.drewN nq=wr at *;have bU:=rF;have bE:=rG;clear rF rG;go_wp2_with (at_builtin;refine qhv rfl _ _ rfl w _ w.heap.size k _ (zi lo) _ (by rfl) bE.out bU.out (qac _) (by rfl) (by omega) ?_);rintro v' w2 hown' hbw';have eX:Hid (w2.ownsRow w.heap.size 3 1 v' (k+1) ((zi (lo++[d])).map (Value.int .i64))):=hid (by rw[HZ.out,List.map_append];exact hown');have cZ:=hid hbw';clear hown' hbw' bE bU fQ;go_wp2_with fail;go_roundw
    case rel=>exact⟨k+1,1,_,by omega,by go_num,rfl,by omega,yZ,iM,cK,eX,cZ⟩
    case measure=>simp[intOf];omega
   ·obtain⟨d,hd⟩:∃d:Nat,d=x-y-bo:=⟨_,rfl⟩
    have Eh:(x:Int)-(y:Int)-(bo:Int)=(d:Int):=by omega
    have yZ:Hid ((lo++[d]).length=k+1):=hid (by rw[List.length_append,qA.out];rfl);have iM:Hid (∀d' ∈ lo++[d],d'<D9):=hid (qf3 kQ.out (by rw[qb4];omega));have cK:Hid (low D9 l (k+1)+D9^(k+1)*0=val D9 (lo++[d])+low D9 r (k+1)):=hid (q1q (x:=x) (y:=y) qA.out HV.out (by omega) (by rw[qa0,hx]) (by rw[qa0,hy]));have HZ:Hid (zi (lo++[d])=zi lo++[(d:Int)]):=hid (qh2 _ _);have gH:d<1000000000:=by omega
    clear hx hy hd hs;have HQ:=hid (fun q=>fQ.out (wr.drewN q) (below_drewN bU.out q));go_wp2_with fail
    go_quiet ((go_at_call 199;exact Calls.quiet_of_same (HQ.out _)))
    clear HQ;have rF:=hid (below_drewN bU.out nq);have rG:=hid (qlg bE.out nq);clear bU bE;generalize wr.drewN nq=wr at *;have bU:=rF;have bE:=rG;clear rF rG;go_wp2_with (at_builtin;refine qhv rfl _ _ rfl w _ w.heap.size k _ (zi lo) _ (by rfl) bE.out bU.out (qac _) (by rfl) (by omega) ?_);rintro v' w2 hown' hbw';have eX:Hid (w2.ownsRow w.heap.size 3 1 v' (k+1) ((zi (lo++[d])).map (Value.int .i64))):=hid (by rw[HZ.out,List.map_append];exact hown');have cZ:=hid hbw';clear hown' hbw' bE bU fQ;go_wp2_with fail;go_roundw
    case rel=>exact⟨k+1,0,_,by omega,by go_num,rfl,by omega,yZ,iM,cK,eX,cZ⟩
    case measure=>simp[intOf];omega
  ·obtain rfl:k=l.length:=by omega
   have aX:Hid (Dgs wr u5 lo∧val D9 lo=m-n):=hid (by
    have h1:=HV.out;rw[qbf _ _ _ (qac _),qbf _ _ _ Fr,lJ.out,qD.out] at h1;have h2:=qiv D9 lo kQ.out;rw[qA.out] at h2
    exact⟨qi6 bE.out qA.out kQ.out,q7x h1 h2 hbo tW.out⟩)
   have HT:=hid (qy9 u5 lo wr aX.out.1);rw[aX.out.2] at HT;go_wp2_with fail;refine HT.out.mono ?_;rintro e w1 ⟨⟨v',rfl,hv⟩,rfl⟩;have rU:=hid hv;clear hv;go_wp2_with fail;go_ret;exact⟨⟨_,rfl,rU.out⟩,bU.out⟩
theorem Own.setDig{w:World}{g:Nat}{l:List Nat}(h:Own w g l.length (dv l))(i:Nat)(hi:i<l.length)(x:Nat):Own (w.setCell ⟨g,i,none⟩ (.int .i64 (x:Nat))) g (l.set i x).length (dv (l.set i x)):=by
 rw[List.length_set];refine(h.set i hi (.int .i64 (x:Nat))).congr fun k hk => ?_;unfold dv;by_cases e:k=i
 ·subst e;rw[if_pos rfl];simp[hk]
 ·rw[if_neg e];simp[Ne.symm e]
theorem qvb{w:World}{g c:Nat}{l:List Nat}(h:Own w g l.length (dv l))(hl:∀d ∈ l,d<D9)(hn:l.length≤c)(hc:c≤maxLen):Dgs w (.slice (some ⟨g,0,none⟩) l.length c) l:=⟨hl,h.sliceAt hn hc⟩
theorem qou(w:World)(n:Nat):Own (w.alloc (qff n)) w.heap.size (List.replicate n 0).length (dv (List.replicate n 0)):=by
 have h:=q5j w n;rw[List.length_replicate];refine h.congr fun i hi => ?_;unfold iv dv;simp[hi]
theorem q1r{x y p cc s:Nat}(hx:x<1000000000)(hy:y<1000000000)(hp:p<1000000000)(hc:cc<1000000000)(hs:s=p+x*y+cc):s/1000000000<1000000000:=by
 have h4:x*y≤999999999*999999999:=Nat.mul_le_mul (by omega) (by omega);omega
theorem zau(va vb:Value)(l r:List Nat)(w:World)(ha:Dgs w va l)(hb:Dgs w vb r)(hl:l.length≤1000)(hr:r.length≤1000):
  Calls Tryz.prog 123 #[va,vb] w fun e w'=>(∃v',e = .returned v'∧DN w' v' (val D9 l*val D9 r))∧Below w.heap.size w w':=by
 obtain⟨cX,pa,ca,rfl,jQ,fC,hcellsa⟩:=ha;obtain⟨cS,pb,cb,rfl,jA,fK,hcellsb⟩:=hb;unfold maxLen at fC fK;have kL:=hid cX;have iQ:=hid cS;have qO:=hid hcellsa;have wK:=hid hcellsb;have kX:=fun w=>qlf (l.length+r.length) (by omega) w;rw[Int.natCast_add] at kX;clear cX cS hcellsa hcellsb;have aW:Hid ((List.replicate (l.length+r.length) 0).length=l.length+r.length):=hid (by simp);have dU:Hid (Below w.heap.size w (w.alloc (qff (l.length+r.length)))):=hid (qad _ _);have qZ:=hid (qou w (l.length+r.length));have Af:=hid (qcg (b:=D9) (by decide) (l.length+r.length));have sM:Hid (low D9 (List.replicate (l.length+r.length) 0) (0+r.length)=low D9 l 0*val D9 r):=hid (by simp[low,qgr])
 have Df:Hid (∀i,0+r.length≤i→(List.replicate (l.length+r.length) 0).getD i 0=0):=hid (fun i _=>by
  rw[qba,List.getElem?_replicate]
  split<;>rfl)
 generalize List.replicate (l.length+r.length) 0=s0 at *;go_enter Tryz.func123,Tryz.ntmps123;go_wp2_with fail
 go_loopw [6] (fun i wr=>∃k:Nat,∃s:List Nat,k≤l.length∧i = .int .i64 k∧Hid (s.length=l.length+r.length)∧Hid (∀d ∈ s,d<D9)∧Hid (Own wr w.heap.size s.length (dv s))∧Hid (low D9 s (k+r.length)=low D9 l k*val D9 r)∧Hid (∀i,k+r.length≤i→s.getD i 0=0)∧Hid (Below w.heap.size w wr)) (fun i _=>l.length-(intOf i).toNat)
 case atStart=>exact⟨0,s0,Nat.zero_le _,rfl,aW,Af,qZ,sM,Df,dU⟩
 case round=>
  obtain⟨k,s,hk,rfl,aU,cL,HO,HS,HZ,HB⟩:=hrel;clear aW Af qZ sM Df dU;by_cases cQ:k<l.length
  ·rcases qO.out with h0|⟨ba,oa,rfl,eT⟩
   ·omega
   have HROWA:=hid eT;have eP:=qaz (b:=D9) (by decide) kL.out k
   have Ht:Hid (∀W,Below w.heap.size w W→W.cell? ⟨ba,oa+k,none⟩=some (.int .i64 (l.getD k 0:Nat))):=hid fun W hW=>by
    have h1:=eT k cQ;rw[hW.cell (p:=⟨ba,oa+k,none⟩) (qaf w _ h1)];exact h1
   have Fs:=hid (qa0 D9 l k);generalize l.getD k 0=x at *;rw[qb4] at eP;clear eT;go_wp2_with fail
   go_loopw [7,8] (fun c i wr=>∃j cc:Nat,∃s':List Nat,j≤r.length∧i = .int .i64 j∧c = .int .i64 cc∧cc<1000000000∧Hid (s'.length=l.length+r.length)∧Hid (∀d ∈ s',d<D9)∧Hid (Own wr w.heap.size s'.length (dv s'))∧Hid (low D9 s' (k+j)+(D9^k*D9^j)*cc=low D9 s (k+j)+D9^k*x*low D9 r j)∧Hid (∀i,k+j≤i→s'.getD i 0=s.getD i 0)∧Hid (Below w.heap.size w wr)) (fun _ i _=>r.length-(intOf i).toNat)
   case atStart=>exact⟨0,0,s,Nat.zero_le _,rfl,rfl,by omega,aU,cL,HO,hid (by simp),hid (fun _ _=>rfl),HB⟩
   case round=>
    obtain⟨j,cc,s',hj,rfl,rfl,fL,HSL',HSB',HO',cG,aS,HB'⟩:=hrel;by_cases hjr:j<r.length
    ·rcases wK.out with h0|⟨bb,ob,rfl,dH⟩
     ·omega
     have pE:k+j<s'.length:=by rw[HSL'.out];omega
     have hyc:wr.cell? ⟨bb,ob+j,none⟩=some (dv r j):=by
      have h1:=dH j hjr;rw[HB'.out.cell (p:=⟨bb,ob+j,none⟩) (qaf w _ h1)];exact h1
     unfold dv at hyc;have hxc:=Ht.out wr HB'.out;obtain⟨hg,lO⟩:=HO'.out.2 (k+j) pE;unfold dv at hg;have kI:=qaz (b:=D9) (by decide) iQ.out j;have nG:=qaz (b:=D9) (by decide) HSB'.out (k+j);have bN:=aS.out (k+j) (qac _);have xQ:=qa0 D9 s (k+j);have xR:=qa0 D9 r j;rw[bN] at hg nG;rw[qb4] at kI nG;have kM:Hid (∀v:Nat,Own (wr.setCell ⟨w.heap.size,k+j,none⟩ (.int .i64 (v:Nat))) w.heap.size (s'.set (k+j) v).length (dv (s'.set (k+j) v))):=hid fun v=>HO'.out.setDig (k+j) pE v
     have bW:Hid (∀v i,k+(j+1)≤i→(s'.set (k+j) v).getD i 0=s.getD i 0):=hid fun v i hi=>by
      rw[qa3 _ _ _ _ (by omega)];exact aS.out i (by omega)
     have eN:=fun v=>qb2 D9 s' (k+j) v pE;generalize r.getD j 0=y at *;generalize s.getD (k+j) 0=p at *;obtain⟨q,hq⟩:∃q:Nat,q=p+x*y+cc:=⟨_,rfl⟩;have hxy0:0≤(x:Int)*(y:Int):=by rw[←Int.natCast_mul];omega
     have Hu:x*y≤999999999*999999999:=Nat.mul_le_mul (by omega) (by omega);have hxy1:(x:Int)*(y:Int)≤999999998000000001:=by rw[←Int.natCast_mul];omega
     have Ox:(p:Int)+(x:Int)*(y:Int)+(cc:Int)=(q:Int):=by rw[←Int.natCast_mul];omega
     have hqm:(q:Int).tmod 1000000000=((q % 1000000000:Nat):Int):=by rw[Int.tmod_eq_emod_of_nonneg (by omega)];omega
     have hqd:(q:Int)/1000000000=((q/1000000000:Nat):Int):=by omega
     have bJ:=q1r eP kI nG fL hq;have hqb:q<9223372036854775807:=by omega
     have dP:Hid (low D9 (s'.set (k+j) (q % 1000000000)) (k+(j+1))+(D9^k*D9^(j+1))*(q/1000000000)=low D9 s (k+(j+1))+D9^k*x*low D9 r (j+1)):=by
      refine hid ?_;rw[←Nat.add_assoc,eN,xQ,xR,Nat.pow_succ,←Nat.mul_assoc (D9^k)];exact qw1 (p:=p) (y:=y) (sum:=q % 1000000000) cG.out (by rw[qb4,Nat.mul_comm y x];omega) (by rw[Nat.pow_add]) (by rw[Nat.pow_add]) rfl
     have hm9:q % 1000000000<1000000000:=Nat.mod_lt _ (by omega);have bY:Hid (∀d ∈ s'.set (k+j) (q % 1000000000),d<D9):=hid (qc7 HSB'.out _ _ (by rw[qb4];exact hm9));have cE:Hid ((s'.set (k+j) (q % 1000000000)).length=l.length+r.length):=hid (by rw[List.length_set];exact HSL'.out);have aK:Hid (Below w.heap.size w (wr.setCell ⟨w.heap.size,k+j,none⟩ (.int .i64 ((q % 1000000000:Nat):Int)))):=hid (HB'.out.setCell (qac _) _);have Fu:k+j<l.length+r.length:=by omega
     have HW:=hid (kM.out (q % 1000000000));have uR:=hid (bW.out (q % 1000000000));clear eN xQ xR bN kI nG dH cG aS HSL' HSB' HO' HB' pE hq Hu kM bW;generalize q % 1000000000=d at *;generalize q/1000000000=c' at *;go_wp2_with fail
     go_quiet (fail)
     go_wp2_with fail;go_roundw
     case rel=>exact⟨j+1,c',_,by omega,by go_num,rfl,bJ,cE,bY,hid (HW.out.later (below_drewN (qaa _ _) nq)),dP,uR,hid (below_drewN aK.out nq)⟩
     case measure=>simp[intOf];omega
    ·obtain rfl:j=r.length:=by omega
     have pE:k+r.length<s'.length:=by rw[HSL'.out];omega
     obtain⟨hg,lO⟩:=HO'.out.2 (k+r.length) pE;unfold dv at hg;have Oy:s'.getD (k+r.length) 0=0:=by rw[aS.out _ (qac _),HZ.out _ (qac _)]
     have kM:=hid (HO'.out.setDig (k+r.length) pE cc)
     have dP:Hid (low D9 (s'.set (k+r.length) cc) (k+1+r.length)=low D9 l (k+1)*val D9 r):=by
      refine hid ?_;have h1:=cG.out;rw[HS.out,qbf D9 r r.length (qac _)] at h1;rw[show k+1+r.length=k+r.length+1 by omega,qb2 D9 s' _ cc pE,Fs.out,Nat.add_mul,Nat.pow_add];exact h1
     have bY:Hid (∀d ∈ s'.set (k+r.length) cc,d<D9):=hid (qc7 HSB'.out _ _ (by rw[qb4];exact fL));have cE:Hid ((s'.set (k+r.length) cc).length=l.length+r.length):=hid (by rw[List.length_set];exact HSL'.out)
     have kG:Hid (∀i,k+1+r.length≤i→(s'.set (k+r.length) cc).getD i 0=0):=hid fun i hi=>by
      rw[qa3 _ _ _ _ (by omega),aS.out _ (by omega),HZ.out _ (by omega)]
     have aK:Hid (Below w.heap.size w (wr.setCell ⟨w.heap.size,k+r.length,none⟩ (.int .i64 (cc:Int)))):=hid (HB'.out.setCell (qac _) _);have Fu:k+r.length<l.length+r.length:=by omega
     clear HSL' HSB' HO' aS cG HS HZ aU cL HO pE;generalize s'.getD (k+r.length) 0=p at *;have xH:(p:Int)+(cc:Int)=(cc:Int):=by omega
     clear Oy;go_wp2_with fail;go_roundw
     case rel=>exact⟨k+1,_,by omega,by go_num,cE,bY,kM,dP,kG,aK⟩
     case measure=>simp[intOf];omega
  ·obtain rfl:k=l.length:=by omega
   have aX:Hid (Dgs wr (.slice (some ⟨w.heap.size,0,none⟩) (l.length+r.length) (l.length+r.length)) s∧val D9 s=val D9 l*val D9 r):=hid (by
    have h1:=HS.out;rw[qbf D9 l l.length (qac _),qbf D9 s _ (by rw[aU.out];omega)] at h1;have h2:=qvb HO.out cL.out (qac _) (by rw[aU.out];unfold maxLen;omega);rw[aU.out] at h2
    exact⟨h2,h1⟩)
   have HT:=hid (qy9 _ s wr aX.out.1);rw[aX.out.2] at HT;go_wp2_with fail;refine HT.out.mono ?_;rintro e w1 ⟨⟨v',rfl,hv⟩,rfl⟩;have rU:=hid hv;clear hv;go_wp2_with fail;go_ret;exact⟨⟨_,rfl,rU.out⟩,HB.out⟩
theorem qza{b H Hq rest x q r hs:Nat}(hb:0<b)(h1:H/b=Hq)(h2:H % b=rest)(hq:q=(rest*D9+x)/b)(hr:r=(rest*D9+x) % b)(wO:hs=q+D9*Hq):
  (x+D9*H)/b=hs∧(x+D9*H) % b=r:=by
 have e:x+D9*H=(rest*D9+x)+b*(D9*Hq):=by
  have:=Nat.div_add_mod H b;rw[h1,h2] at this;rw[←this,Nat.mul_add,←Nat.mul_assoc b D9,Nat.mul_comm b D9,Nat.mul_assoc D9 b,Nat.mul_comm rest];omega
 rw[e,Nat.add_mul_div_left _ _ hb,Nat.add_mul_mod_self_left,wO,hq,hr];exact⟨rfl,rfl⟩
theorem qte(l:List Nat)(k v:Nat)(hk:k<l.length):qbi D9 (l.set k v) k=v+D9*qbi D9 l (k+1):=by
 rw[qbv]
 congr 1
 ·simp[hk]
 ·congr 1
  unfold qbi;rw[List.drop_set_of_lt (by omega)]
theorem qtf(v:Value)(l:List Nat)(d:Nat)(w:World)(h:Dgs w v l)(hl:l.length≤3000)(hd:0<d)(nA:d<1000000000):
  Calls Tryz.prog 160 #[v,.int .i64 d] w fun e w'=>(∃v',e = .returned (.tuple #[v',.int .i64 (val D9 l % d:Nat)])∧DN w' v' (val D9 l/d))∧Below w.heap.size w w':=by
 obtain⟨cX,pa,ca,rfl,jQ,fC,hcellsa⟩:=h;unfold maxLen at fC;have kL:=hid cX;have qO:=hid hcellsa;have kX:=fun w=>qlf l.length (by omega) w;clear cX hcellsa;have Ct:((d:Int)==0)=false:=qan (by omega);have aW:Hid ((List.replicate l.length 0).length=l.length):=hid (by simp);have dU:Hid (Below w.heap.size w (w.alloc (qff l.length))):=hid (qad _ _);have qZ:=hid (qou w l.length);have Af:=hid (qcg (b:=D9) (by decide) l.length);have sM:Hid (qbi D9 l l.length/d=qbi D9 (List.replicate l.length 0) l.length):=hid (by rw[qdg _ _ _ (qac _),qdg _ _ _ (by simp),Nat.zero_div]);have rN:Hid (qbi D9 l l.length % d=0):=hid (by rw[qdg _ _ _ (qac _),Nat.zero_mod]);generalize List.replicate l.length 0=s0 at *;go_enter Tryz.func160,Tryz.ntmps160;go_wp2_with fail
 go_loopw [7,8] (fun r i wr=>∃k rest:Nat,∃s:List Nat,k≤l.length∧i = .int .i64 ((k:Int)-1)∧r = .int .i64 rest∧rest<d∧Hid (s.length=l.length)∧Hid (∀d ∈ s,d<D9)∧Hid (Own wr w.heap.size s.length (dv s))∧Hid (qbi D9 l k/d=qbi D9 s k)∧Hid (qbi D9 l k % d=rest)∧Hid (Below w.heap.size w wr)) (fun _ i _=>(intOf i+1).toNat)
 case atStart=>exact⟨l.length,0,s0,qac _,rfl,rfl,hd,aW,Af,qZ,sM,rN,dU⟩
 case round=>
  obtain⟨k,rest,s,hk,rfl,rfl,hrest,aU,cL,HO,HQ,HR,HB⟩:=hrel;clear aW Af qZ sM rN dU;rcases k with _|k
  ·have aX:Hid (Dgs wr (.slice (some ⟨w.heap.size,0,none⟩) l.length l.length) s∧val D9 s=val D9 l/d∧rest=val D9 l % d):=hid (by
    have h1:=HQ.out;have h3:=HR.out;rw[high_zero,high_zero] at h1;rw[high_zero] at h3;have h2:=qvb HO.out cL.out (qac _) (by rw[aU.out];unfold maxLen;omega);rw[aU.out] at h2
    exact⟨h2,h1.symm,h3.symm⟩)
   have HT:=hid (qy9 _ s wr aX.out.1);rw[aX.out.2.1] at HT;go_wp2_with fail;refine HT.out.mono ?_;rintro e w1 ⟨⟨v',rfl,hv⟩,rfl⟩;have rU:=hid hv;clear hv;go_wp2_with fail;go_ret2;exact⟨⟨_,by rw[aX.out.2.2];rfl,rU.out⟩,HB.out⟩
  ·rcases qO.out with h0|⟨b,o,rfl,aB⟩
   ·omega
   have e0:=aB k hk
   have aC:wr.cell? ⟨b,o+k,none⟩=some (dv l k):=by
    rw[HB.out.cell (p:=⟨b,o+k,none⟩) (qaf w _ e0)];exact e0
   unfold dv at aC;have hx:=qaz (b:=D9) (by decide) kL.out k;have Oz:=hid (qbv D9 l k);have oT:k<s.length:=by rw[aU.out];omega
   obtain⟨hg,lO⟩:=HO.out.2 k oT;unfold dv at hg;clear aB e0;generalize l.getD k 0=x at *;rw[qb4] at hx;obtain⟨q,hq⟩:∃q:Nat,q=rest*1000000000+x:=⟨_,rfl⟩;have Ox:(rest:Int)*1000000000+(x:Int)=(q:Int):=by omega
   have hqb:q<1000000000000000000:=by omega
   have Hv:(q:Int)/(d:Int)=((q/d:Nat):Int):=(Int.natCast_ediv q d).symm;have hqd2:(q:Int).tdiv (d:Int)=((q/d:Nat):Int):=by rw[Int.tdiv_eq_ediv_of_nonneg (by omega)];exact Hv
   have hqm1:(q:Int) % (d:Int)=((q % d:Nat):Int):=(Int.natCast_emod q d).symm;have hqm2:(q:Int).tmod (d:Int)=((q % d:Nat):Int):=by rw[Int.tmod_eq_emod_of_nonneg (by omega)];exact hqm1
   have Ks:q/d<1000000000:=by
    rw[Nat.div_lt_iff_lt_mul hd];have:=Nat.mul_le_mul_right 1000000000 (show rest+1≤d by omega);omega
   have hr9:q % d<d:=Nat.mod_lt _ hd;have kM:=hid (HO.out.setDig k oT (q/d));have mW:Hid ((x+D9*qbi D9 l (k+1))/d=qbi D9 (s.set k (q/d)) k∧(x+D9*qbi D9 l (k+1)) % d=q % d):=hid (qza hd HQ.out HR.out (by rw[hq,qb4]) (by rw[hq,qb4]) (qte s k _ oT));have bY:Hid (∀d' ∈ s.set k (q/d),d'<D9):=hid (qc7 cL.out _ _ (by rw[qb4];exact Ks));have cE:Hid ((s.set k (q/d)).length=l.length):=hid (by rw[List.length_set];exact aU.out);have aK:Hid (Below w.heap.size w (wr.setCell ⟨w.heap.size,k,none⟩ (.int .i64 ((q/d:Nat):Int)))):=hid (HB.out.setCell (qac _) _);have lA:((k+1:Nat):Int)-1=(k:Int):=by omega
   simp only[lA];clear aU cL HO HQ HR HB hq oT lA;generalize q/d=t at *;generalize q % d=r at *;go_wp2_with fail;go_roundw
   case rel=>exact⟨k,r,_,by omega,by go_num,rfl,hr9,cE,bY,kM,hid (by rw[Oz.out];exact mW.out.1),hid (by rw[Oz.out];exact mW.out.2),aK⟩
   case measure=>simp[intOf]
theorem qvc(w:World)(r:Nat)(hr:r<1000000000):Dgs (w.alloc (.cells #[.int .i64 (r:Int)] 3)) (.slice (some ⟨w.heap.size,0,none⟩) 1 1) [r]:=by
 refine⟨fun d hd=>by simp at hd;rw[qb4];omega,some ⟨w.heap.size,0,none⟩,1,rfl,by simp,by decide,.inr ⟨w.heap.size,0,rfl,fun i hi => ?_⟩⟩;obtain rfl:i=0:=by simp at hi;omega
 rw[World.cell?_alloc_at _ _ _ _ rfl];rfl
theorem qfl{n:Nat}(h:0<n)(h9:n<D9):qao D9 n=[n]:=by
 rw[qfx _ _ qbe h,Nat.mod_eq_of_lt h9,Nat.div_eq_of_lt h9,qau]
theorem qov{n:Nat}(h:dl n=1):0<n∧n<1000000000:=by
 unfold dl at h;constructor
 ·rcases qas n with e|e
  ·rw[e,qau] at h;simp at h
  ·exact e
 ·have:=qcj D9 n qbe
  rw[h,qb4] at this;omega
theorem q7y(w:World):DN w (.slice none 0 0) 0:=by
 unfold DN;rw[qau];exact⟨by simp,none,0,rfl,by simp,by decide,.inl rfl⟩
theorem qp5(va vb:Value)(m n:Nat)(w:World)(ha:DN w va m)(hb:DN w vb n)(Cx:m<n∨dl n=1)(hl:dl m≤3000):
  Calls Tryz.prog 109 #[va,vb] w fun e w'=>(∃vq vr,e = .returned (.tuple #[vq,vr])∧DN w' vq (m/n)∧DN w' vr (m % n))∧Below w.heap.size w w':=by
 have HA:=hid ha;have HB:=hid hb;have HC:=hid (qrm va vb m n w ha hb);by_cases bC:m<n
 ·have hc:qer m n = -1:=qde (by omega)
  rw[hc] at HC;have HQ:Hid (m/n=0∧m % n=m):=hid ⟨Nat.div_eq_of_lt bC,Nat.mod_eq_of_lt bC⟩;clear ha hb Cx bC hc;go_enter Tryz.func109,Tryz.ntmps109;go_wp2_with fail;refine HC.out.mono ?_;rintro e w1 ⟨rfl,aY⟩;have aP:=hid aY;clear aY HC;go_wp2_with fail;go_ret2;exact⟨⟨_,_,rfl,by rw[HQ.out.1];exact q7y _,by rw[HQ.out.2];exact HA.out.later aP.out⟩,aP.out⟩
 ·have dT:dl n=1:=by omega
  obtain⟨qU,hn9⟩:=qov dT;obtain⟨c,hc⟩:∃c,qer m n=c:=⟨_,rfl⟩
  have hcge:¬c<0:=by
   rcases(show m=n∨n<m by omega) with h|h
   ·have:=qem (x:=(m:Int)) (y:=n) (by omega);unfold qer at hc;omega
   ·have:=qcq (x:=(m:Int)) (y:=n) (by omega);unfold qer at hc;omega
  rw[hc] at HC;have uY:=qfl qU (by rw[qb4];exact hn9);have hB:Dgs w vb [n]:=by unfold DN at hb;rw[uY] at hb;exact hb
  obtain⟨_,pb,cb,rfl,jA,fK,aA⟩:=hB;rcases aA with h0|⟨b,o,rfl,aB⟩
  ·simp at h0
  have e0:=aB 0 (by simp)
  have xI:Hid (w.cell? ⟨b,o,none⟩=some (.int .i64 (n:Nat))):=hid (by
   have:=e0;unfold dv at this;simpa using this)
  have HD:=hid (fun W (hW:Below w.heap.size w W)=>qtf va (qao D9 m) n W (HA.out.later hW) hl qU hn9);rw[qar _ _ qbe] at HD;have hr9:m % n<1000000000:=Nat.lt_trans (Nat.mod_lt _ qU) hn9;simp only[List.length_cons,List.length_nil,Nat.zero_add] at *
  have HT:Hid (∀W:World,Calls Tryz.prog 161 #[.slice (some ⟨W.heap.size,0,none⟩) 1 1] (W.alloc (.cells #[.int .i64 ((m % n:Nat):Int)] 3)) fun e w'=>(∃v',e = .returned v'∧DN (W.alloc (.cells #[.int .i64 ((m % n:Nat):Int)] 3)) v' (m % n))∧W.alloc (.cells #[.int .i64 ((m % n:Nat):Int)] 3)=w'):=hid (fun W=>by
   have h1:=qy9 _ [m % n] _ (qvc W _ hr9);have h2:val D9 [m % n]=m % n:=by simp[val]
   rw[h2] at h1
   exact h1)
  clear hb Cx bC hc uY aB e0 dT hl ha;generalize m % n=r at *;go_enter Tryz.func109,Tryz.ntmps109;go_wp2_with fail;refine HC.out.mono ?_;rintro e w1 ⟨rfl,aY⟩;have aP:=hid aY
  have aC:w1.cell? ⟨b,o,none⟩=some (.int .i64 (n:Nat)):=by
   rw[aP.out.cell (p:=⟨b,o,none⟩) (qaf w _ xI.out)];exact xI.out
  clear aY HC xI;go_wp2_with fail;refine(HD.out w1 aP.out).mono ?_;rintro e w2 ⟨⟨vq,rfl,hq⟩,aR⟩;have HQ:=hid hq;have aK:Hid (Below w.heap.size w w2):=hid (aP.out.trans (aR.mono aP.out.size));clear hq aR HD aP aC;go_wp2_with fail;refine(HT.out w2).mono ?_;rintro e w3 ⟨⟨vr,rfl,hr⟩,rfl⟩;have HR:=hid hr;clear hr;go_wp2_with fail;go_ret2;have aD:Below w.heap.size w (w2.alloc (.cells #[.int .i64 (r:Int)] 3)):=aK.out.alloc aK.out.size _;exact⟨⟨_,_,rfl,HQ.out.later (qad _ _),HR.out⟩,aD⟩
def sg(R:List Nat)(o n:Nat):Nat:=low D9 (R.drop o) n
theorem qvd(R:List Nat)(o:Nat):sg R o 0=0:=by simp[sg]
theorem qg6(R:List Nat)(o n:Nat):sg R o (n+1)=sg R o n+D9^n*R.getD (o+n) 0:=by
 unfold sg;rw[qa0];simp
theorem q1s(R:List Nat)(o n i x:Nat)(h:o+n≤i):sg (R.set i x) o n=sg R o n:=by
 induction n with
 | zero=>simp[sg]
 | succ n ih=>rw[qg6,qg6,ih (by omega),qa3 _ _ _ _ (by omega)]
theorem qh3(R:List Nat)(o n x:Nat)(h:o+n<R.length):sg (R.set (o+n) x) o (n+1)=sg R o n+D9^n*x:=by
 rw[qg6,q1s _ _ _ _ _ (qac _),qck _ _ _ h]
theorem q7z(R:List Nat)(o n:Nat)(h:∀d ∈ R,d<D9):sg R o n<D9^n:=qm3 _ _ _ (by decide) (fun d hd=>h d (List.mem_of_mem_drop hd))
theorem qve(R:List Nat)(j n:Nat):qbi D9 R j=sg R j n+D9^n*qbi D9 R (j+n):=by
 induction n with
 | zero=>simp[qvd]
 | succ n ih=>
  rw[ih,qg6,qbv D9 R (j+n),Nat.pow_succ,Nat.mul_add,Nat.mul_assoc,←Nat.add_assoc j n 1];omega
theorem q9t(w:World)(a b:Nat):(w.drewN a).drewN b=w.drewN (a+b):=by simp[World.drewN,Nat.add_assoc]
theorem qvf{B p W u3 r Wl Y d1 d2 Yl q T:Nat}(hp:0<p)(hB:0<B)(hW:W=Wl+p*(u3+B*T))(hY:Y=Yl+p*(d2+B*d1))(hYl:Yl<p)(fY:q*d1+r=T)(ht:q*d2≤r*B+u3)(Pa:q≤B)(zA:0<d1):q≤W/Y+1:=by
 have hBd:=Nat.mul_pos hB zA;have hpd:=Nat.mul_pos hp (show 0<d2+B*d1 by omega);have rK:0<Y:=by omega
 rcases q with _|k
 ·exact Nat.zero_le _
 ·have h1:k*Y≤W:=by
   have a1:(k+1)*Yl≤(k+1)*p:=Nat.mul_le_mul_left _ (by omega);have a2:(k+1)*p≤B*p:=Nat.mul_le_mul_right _ Pa
   have a3:B*p≤p*(d2+B*d1):=by
    rw[Nat.mul_comm B p];refine Nat.mul_le_mul_left _ ?_;have:B*1≤B*d1:=Nat.mul_le_mul_left _ zA;omega
   have a4:(k+1)*(p*(d2+B*d1))=p*((k+1)*d2+B*((k+1)*d1)):=by grind
   have a5:p*((k+1)*d2+B*((k+1)*d1))≤p*(u3+B*T):=by
    refine Nat.mul_le_mul_left _ ?_;rw[←fY,Nat.mul_add,Nat.mul_comm B r];omega
   have a6:(k+1)*Y=k*Y+Y:=Nat.succ_mul _ _;have a7:(k+1)*Y=(k+1)*Yl+(k+1)*(p*(d2+B*d1)):=by rw[hY,Nat.mul_add]
   omega
  have:=(Nat.le_div_iff_mul_le rK).2 h1;omega
theorem q1t{B p W u1 u2 u3 Wl Y d1 d2 Yl:Nat}(hW:W=Wl+p*(u3+B*(u1*B+u2)))(hY:Y=Yl+p*(d2+B*d1))(hYl:Yl<p)(Kt:d2<B)(hWY:W<B*Y):u1≤d1:=by
 rcases Nat.lt_or_ge d1 u1 with h|h
 ·exfalso
  have a1:Y≤p*(B*(d1+1)):=by
   have:p*(d2+B*d1+1)≤p*(B*(d1+1)):=Nat.mul_le_mul_left _ (by rw[Nat.mul_add];omega);rw[Nat.mul_add] at this;omega
  have a2:B*Y≤B*(p*(B*(d1+1))):=Nat.mul_le_mul_left _ a1;have a3:B*(p*(B*(d1+1)))≤B*(p*(B*u1)):=Nat.mul_le_mul_left _ (Nat.mul_le_mul_left _ (Nat.mul_le_mul_left _ h));have a4:B*(p*(B*u1))=p*(B*(u1*B)):=by grind
  have a5:p*(B*(u1*B))≤p*(u3+B*(u1*B+u2)):=Nat.mul_le_mul_left _ (by rw[Nat.mul_add];omega);omega
 ·exact h
theorem q5n{B u1 u2 d1 q r:Nat}(fY:q*d1+r=u1*B+u2)(h1:u1≤d1)(h2:u2<B)(hr:B≤r):q<B:=by
 have a1:u1*B≤d1*B:=Nat.mul_le_mul_right _ h1;have a2:q*d1<B*d1:=by rw[Nat.mul_comm B d1];omega
 exact Nat.lt_of_mul_lt_mul_right a2
theorem q9u{p W t Wlow Dv dh Dl Q:Nat}(hW:W=Wlow+p*t)(hWl:Wlow<p)(hD:Dv=Dl+p*dh)(Ke:0<dh)(hQ:Q*Dv≤W):Q≤t/dh:=by
 rw[Nat.le_div_iff_mul_le Ke];have h1:Q*(p*dh)≤Q*Dv:=Nat.mul_le_mul_left _ (by omega)
 have h2:p*(Q*dh)<p*(t+1):=by
  rw[Nat.mul_add,Nat.mul_one];have:Q*(p*dh)=p*(Q*dh):=by grind
  omega
 have:=Nat.lt_of_mul_lt_mul_left h2;omega
theorem q9v{B p W t w2 r Wlow Dv dh d2 Dl Q word:Nat}(hW:W=Wlow+p*(w2+B*t))(hWl:Wlow<p)(hD:Dv=Dl+p*(d2+B*dh))(hQ:Q*Dv≤W)(hQw:Q≤word)(fY:word*dh+r=t)
  (h:r*B+w2<word*d2):Q≤word-1∧1≤word:=by
 have h1:1≤word:=by
  rcases qas word with e|e
  ·rw[e,Nat.zero_mul] at h;omega
  ·exact e
 refine⟨?_,h1⟩;rcases Nat.lt_or_ge Q word with h2|h2
 ·omega
 ·exfalso
  have e:Q=word:=Nat.le_antisymm hQw h2;subst e;have h3:Q*(p*(d2+B*dh))≤Q*Dv:=Nat.mul_le_mul_left _ (by omega)
  have h4:w2+B*t+1≤Q*(d2+B*dh):=by
   rw[←fY,Nat.mul_add,Nat.mul_add,show Q*(B*dh)=B*(Q*dh) from by grind,show r*B=B*r from Nat.mul_comm _ _] at *;omega
  have h5:p*(w2+B*t+1)≤Q*(p*(d2+B*dh)):=by
   rw[show Q*(p*(d2+B*dh))=p*(Q*(d2+B*dh)) from by grind];exact Nat.mul_le_mul_left _ h4
  rw[Nat.mul_add p (w2+B*t) 1] at h5;omega
theorem qvg(bu ou cu U bv ov cv n j p1 p2 p3 n1 n2:Nat)(u1 u2 u3 d1 d2 Q T:Nat)(w:World)
  (_hU:U≤4000) (hn:n≤4000) (hcu:U≤cu∧cu≤9223372036854775807) (_hcv:n≤cv∧cv≤9223372036854775807) (hp:p1=j+n) (dO:p1=p2+1) (hp3:p1=p3+2) (dT:n=n1+1) (lC:n=n2+2) (hj:p1<U)
  (c1:w.cell? ⟨bu,ou+p1,none⟩=some (.int .i64 u1)) (c2:w.cell? ⟨bu,ou+p2,none⟩=some (.int .i64 u2)) (c3:w.cell? ⟨bu,ou+p3,none⟩=some (.int .i64 u3))
  (c4:w.cell? ⟨bv,ov+n1,none⟩=some (.int .i64 d1)) (c5:w.cell? ⟨bv,ov+n2,none⟩=some (.int .i64 d2))
  (b1:u1<1000000000) (b2:u2<1000000000) (b3:u3<1000000000) (b4:d1<1000000000) (b5:d2<1000000000) (h0:0<d1) (hT:T=u1*1000000000+u2)
  (nH:Hid (Q<D9)) (mE:Hid (Q≤T/d1)) (kP:Hid (∀q r,Q≤q→q*d1+r=T→r*D9+u3<q*d2→Q≤q-1∧1≤q))
  (kY:Hid (∀q r,q*d1+r=T→D9≤r→q<D9)) (sW:Hid (∀q r,q<D9→q*d1+r=T→q*d2≤r*D9+u3→q≤Q+1)):
  Calls Tryz.prog 162 #[.slice (some ⟨bu,ou,none⟩) U cu,.slice (some ⟨bv,ov,none⟩) n cv,.int .i64 j] w fun e w'=>
   (∃q:Nat,e = .returned (.int .i64 q)∧q<D9∧Q≤q∧q≤Q+1)∧∃k,w'=w.drewN k:=by
 have e1:(j:Int)+(n:Int)=(p1:Int):=by omega
 have e2:(p1:Int)-1=(p2:Int):=by omega
 have e3:(p1:Int)-2=(p3:Int):=by omega
 have e4:(n:Int)-1=(n1:Int):=by omega
 have e5:(n:Int)-2=(n2:Int):=by omega
 have hTi:(u1:Int)*1000000000+(u2:Int)=(T:Int):=by omega
 have hTb:T<1000000000000000000:=by omega
 have Ct:((d1:Int)==0)=false:=qan (by omega);have t1:(T:Int)/(d1:Int)=((T/d1:Nat):Int):=(Int.natCast_ediv T d1).symm;have t2:(T:Int).tdiv (d1:Int)=((T/d1:Nat):Int):=by rw[Int.tdiv_eq_ediv_of_nonneg (by omega)];exact t1
 have t3:(T:Int) % (d1:Int)=((T % d1:Nat):Int):=(Int.natCast_emod T d1).symm;have t4:(T:Int).tmod (d1:Int)=((T % d1:Nat):Int):=by rw[Int.tmod_eq_emod_of_nonneg (by omega)];exact t3
 have HI:Hid (T/d1*d1+T % d1=T):=hid (by rw[Nat.mul_comm];exact Nat.div_add_mod _ _);have qM:T % d1<1000000000:=Nat.lt_trans (Nat.mod_lt _ h0) b4;have oU:T/d1≤T:=Nat.div_le_self _ _;generalize T/d1=q0 at *;generalize T % d1=r0 at *;have Ku:p2<U:=by omega
 have hj3:p3<U:=by omega
 have fD:n1<n:=by omega
 have fP:n2<n:=by omega
 clear hT hp dO hp3 dT lC;go_enter Tryz.func162,Tryz.ntmps162;go_wp2_with fail
 go_quiet (fail)
 go_wp2_with fail
 go_quiet (fail)
 go_wp2_with fail
 have Pb:Hid (∀q r,q<D9→D9≤r→q*d2≤r*D9+u3):=hid fun q r h1 h2=>by
  have a1:q*d2≤D9*D9:=Nat.mul_le_mul (by omega) (by rw[qb4];omega);have a2:D9*D9≤r*D9:=Nat.mul_le_mul_right _ h2;omega
 go_loopw [9,10] (fun a b wr=>∃q r:Nat,a = .int .i64 q∧b = .int .i64 r∧r<1000000000∧q≤T∧Hid (Q≤q)∧Hid (q*d1+r=T)∧Hid (∃k,wr=w.drewN k)) (fun a _ _=>(intOf a).toNat)
 case atStart=>exact⟨q0,r0,rfl,rfl,qM,oU,mE,HI,hid ⟨_,by rw[q9t]⟩⟩
 case round=>
  obtain⟨q,r,rfl,rfl,hr,hqT,HQ,sH,HW⟩:=hrel;clear mE HI qM oU t1 t2 t3 t4 Ct hTi;obtain⟨kw,rfl⟩:=HW.out;by_cases jG:q<1000000000∧q*d2≤r*1000000000+u3
  ·obtain⟨Pa,dS⟩:=jG
   have aX:=hid (sW.out q r (by rw[qb4];exact Pa) sH.out (by rw[qb4];exact dS));obtain⟨P,hP⟩:∃P:Nat,P=q*d2:=⟨_,rfl⟩;obtain⟨Z,hZ⟩:∃Z:Nat,Z=r*1000000000+u3:=⟨_,rfl⟩;have hPi:(q:Int)*(d2:Int)=(P:Int):=by rw[hP,Int.natCast_mul]
   have hZi:(r:Int)*1000000000+(u3:Int)=(Z:Int):=by omega
   have hPb:(P:Int)<1000000000000000000:=by
    have:=Nat.mul_le_mul (show q≤999999999 by omega) (show d2≤999999999 by omega);omega
   have hZb:(Z:Int)<1000000000000000000:=by omega
   have jO:decide ((1000000000:Int)≤(q:Int))=false:=qae (by omega);have sD:decide ((Z:Int)<(P:Int))=false:=qae (by omega);have hg3:¬Z<P:=by omega
   have Fw:Hid (q<D9):=hid (by rw[qb4];exact Pa);clear hP hZ dS Pa sW kP kY Pb sH;go_wp2_with fail
   go_quiet (fail)
   go_wp2_with fail;go_ret;exact⟨⟨q,rfl,Fw.out,HQ.out,aX.out⟩,_,by rw[World.drewN_drewN]⟩
  ·have sU:Q≤q-1∧1≤q:=by
    rcases(show 1000000000≤q∨q<1000000000 by omega) with h|h
    ·have:=nH.out
     rw[qb4] at this;have:=HQ.out;omega
    ·exact kP.out q r HQ.out sH.out (by rw[qb4];omega)
   obtain⟨v,rfl⟩:∃v,q=v+1:=⟨q-1,by omega⟩;have oH:Hid (Q≤v):=hid (by omega);have jE:Hid (v*d1+(r+d1)=T):=hid (by have:=sH.out;rw[Nat.succ_mul] at this;omega);obtain⟨P,hP⟩:∃P:Nat,P=(v+1)*d2:=⟨_,rfl⟩;obtain⟨Z,hZ⟩:∃Z:Nat,Z=r*1000000000+u3:=⟨_,rfl⟩;obtain⟨q,hq⟩:∃q:Nat,q=v+1:=⟨_,rfl⟩;rw[←hq] at hP jG hqT;have hPi:(q:Int)*(d2:Int)=(P:Int):=by rw[hP,Int.natCast_mul]
   have hZi:(r:Int)*1000000000+(u3:Int)=(Z:Int):=by omega
   have hZb:(Z:Int)<1000000000000000000:=by omega
   have tI:(q:Int)-1=(v:Int):=by omega
   have Ox:(q:Int)=(v:Int)+1:=by omega
   have hg:decide ((1000000000:Int)≤(q:Int))=true∨(decide ((1000000000:Int)≤(q:Int))=false∧(P:Int)<1000000000000000000∧decide ((Z:Int)<(P:Int))=true∧Z<P):=by
    rcases(show 1000000000≤q∨q<1000000000 by omega) with h|h
    ·exact .inl (qag (by omega))
    ·have:=Nat.mul_le_mul (show q≤999999999 by omega) (show d2≤999999999 by omega)
     exact .inr ⟨qae (by omega),by omega,qag (by omega),by omega⟩
   have jU:((v+1:Nat):Int)=(q:Int):=by omega
   have hvT:v≤T:=by omega
   simp only[jU];obtain⟨r2,hr2⟩:∃r2:Nat,r2=r+d1:=⟨_,rfl⟩;have hr2i:(r:Int)+(d1:Int)=(r2:Int):=by omega
   rw[←hr2] at jE;have Kp:Hid (v<q):=hid (by omega);have HVT:=hid hvT;have sX:(v:Int)<1000000000000000000:=by omega
   clear hvT;clear hP hZ jG sU HQ sH hq Ox jU kP;by_cases Eo:r2<1000000000
   ·have hrn:decide ((1000000000:Int)≤(r2:Int))=false:=qae (by omega)
    have pF:=hid Eo;clear hr2 Eo;rcases hg with jO|⟨jO,hPb,sD,hg3⟩
    ·obtain⟨gb,uG⟩:∃gb,decide ((1000000000:Int)≤(q:Int))=gb:=⟨_,rfl⟩
     have Hw:gb=true:=uG.symm.trans jO;clear jO hPi hqT hZi hZb;go_wp2_with fail
     go_quiet (fail)
     go_wp2_with fail;go_roundw
     case rel=>exact⟨v,r2,rfl,rfl,pF.out,HVT.out,oH,jE,hid ⟨_,rfl⟩⟩
     case measure=>simp only[intOf];have:=Kp.out;omega
    ·go_wp2_with fail
     go_quiet (fail)
     go_wp2_with fail;go_roundw
     case rel=>exact⟨v,r2,rfl,rfl,pF.out,HVT.out,oH,jE,hid ⟨_,rfl⟩⟩
     case measure=>simp only[intOf];have:=Kp.out;omega
   ·have hrn:(1000000000:Int)≤(r2:Int):=by omega
    have HV9:=hid (kY.out v r2 jE.out (by rw[qb4];omega));have aX:=hid (sW.out v r2 HV9.out jE.out (Pb.out v r2 HV9.out (by rw[qb4];omega)));clear hr2;rcases hg with jO|⟨jO,hPb,sD,hg3⟩
    ·obtain⟨gb,uG⟩:∃gb,decide ((1000000000:Int)≤(q:Int))=gb:=⟨_,rfl⟩
     have Hw:gb=true:=uG.symm.trans jO;clear jO hPi hqT hZi hZb;go_wp2_with fail
     go_quiet (fail)
     go_wp2_with fail;go_ret;exact⟨⟨v,rfl,HV9.out,oH.out,aX.out⟩,_,rfl⟩
    ·go_wp2_with fail
     go_quiet (fail)
     go_wp2_with fail;go_ret;exact⟨⟨v,rfl,HV9.out,oH.out,aX.out⟩,_,rfl⟩
theorem q9w(g cu:Nat)(vv:Value)(R V:List Nat)(j N:Nat)(w:World)(hR:∀d ∈ R,d<D9)(hu:Own w g R.length (dv R))(hv:Dgs w vv V)(hVN:V.length=N+2)(hj:j+(N+2)<R.length)(hRl:R.length≤4000)(hcu:R.length≤cu∧cu≤maxLen)
  (hW:sg R j (N+3)<D9*val D9 V) (hd:V.getD (N+1) 0≠0):
  Calls Tryz.prog 162 #[.slice (some ⟨g,0,none⟩) R.length cu,vv,.int .i64 j] w fun e w'=>
   (∃q:Nat,e = .returned (.int .i64 q)∧q<D9∧sg R j (N+3)/val D9 V≤q∧q≤sg R j (N+3)/val D9 V+1)∧∃k,w'=w.drewN k:=by
 obtain⟨hV,pv,cv,rfl,Pc,Hx,aA⟩:=hv;rcases aA with h0|⟨bv,ov,rfl,aB⟩
 ·omega
 have c1:=(hu.2 (j+(N+2)) hj).1;have c2:=(hu.2 (j+(N+1)) (by omega)).1;have c3:=(hu.2 (j+N) (by omega)).1;have c4:=aB (N+1) (by omega);have c5:=aB N (by omega);unfold dv at c1 c2 c3 c4 c5;have b1:=qaz (b:=D9) (by decide) hR (j+(N+2));have b2:=qaz (b:=D9) (by decide) hR (j+(N+1));have b3:=qaz (b:=D9) (by decide) hR (j+N);have b4:=qaz (b:=D9) (by decide) hV (N+1);have b5:=qaz (b:=D9) (by decide) hV N;have qI:=q7z R j N hR
 have hw:sg R j (N+3)=sg R j N+D9^N*(R.getD (j+N) 0+D9*(R.getD (j+(N+2)) 0*D9+R.getD (j+(N+1)) 0)):=by
  rw[qg6,qg6,qg6,Nat.pow_succ,Nat.pow_succ]
  grind
 have Ll:low D9 V N<D9^N:=qm3 _ _ _ (by decide) hV
 have hy:val D9 V=low D9 V N+D9^N*(V.getD N 0+D9*V.getD (N+1) 0):=by
  rw[←qbf D9 V (N+2) (by omega),qa0,qa0,Nat.pow_succ]
  grind
 generalize sg R j (N+3)=W at *;generalize val D9 V=Y at *;generalize R.getD (j+(N+2)) 0=u1 at *;generalize R.getD (j+(N+1)) 0=u2 at *;generalize R.getD (j+N) 0=u3 at *;generalize V.getD (N+1) 0=d1 at *;generalize V.getD N 0=d2 at *;generalize sg R j N=Wl at *;generalize low D9 V N=Yl at *;have hp:0<D9^N:=Nat.pow_pos (by decide);have iW:=q1t hw hy Ll b5 hW;have hQY:W/Y*Y≤W:=Nat.div_mul_le_self _ _
 have rK:0<Y:=by
  have:=Nat.mul_pos hp (show 0<d2+D9*d1 by have:=Nat.mul_pos (show 0<D9 by decide) (Nat.pos_of_ne_zero hd);omega);omega
 have hQB:W/Y<D9:=by rw[Nat.div_lt_iff_lt_mul rK];exact hW
 have e9:u1*1000000000+u2=u1*D9+u2:=by rw[qb4]
 refine qvg g 0 cu R.length bv ov cv V.length j (j+(N+2)) (j+(N+1)) (j+N) (N+1) N u1 u2 u3 d1 d2 (W/Y) (u1*D9+u2) w hRl (by omega) ⟨hcu.1,by have:=hcu.2;unfold maxLen at this;omega⟩ ⟨Pc,by unfold maxLen at Hx;omega⟩ (by omega) (by omega) (by omega) (by omega) (by omega) hj
  (by rw[Nat.zero_add];exact c1) (by rw[Nat.zero_add];exact c2) (by rw[Nat.zero_add];exact c3) c4 c5 (by rw[qb4] at b1;exact b1) (by rw[qb4] at b2;exact b2) (by rw[qb4] at b3;exact b3) (by rw[qb4] at b4;exact b4) (by rw[qb4] at b5;exact b5) (Nat.pos_of_ne_zero hd) e9.symm (hid hQB) (hid ?_) (hid ?_) (hid ?_) (hid ?_)
 ·refine q9u (p:=D9^N*D9) (Wlow:=Wl+D9^N*u3) (Dl:=Yl+D9^N*d2) ?_ ?_ ?_ (Nat.pos_of_ne_zero hd) hQY
  ·rw[hw];grind
  ·have:D9^N*(u3+1)≤D9^N*D9:=Nat.mul_le_mul_left _ b3
   rw[Nat.mul_add] at this;omega
  ·rw[hy];grind
 ·intro q r h1 h2 h3
  exact q9v hw qI hy hQY h1 h2 h3
 ·intro q r h1 h2
  exact q5n h1 iW b2 h2
 ·intro q r h1 h2 h3
  exact qvf hp (by decide) hw hy Ll h2 h3 (by omega) (Nat.pos_of_ne_zero hd)
structure q63(R0 R Q:List Nat)(Y k:Nat):Prop where
 len:R.length=R0.length
 dig:∀d ∈ R,d<D9
 qdig:∀d ∈ Q,d<D9
 same:∀i,i<k→R.getD i 0=R0.getD i 0
 eq:qbi D9 R0 k=Y*qbi D9 Q k+qbi D9 R k
 lt:qbi D9 R k<Y
theorem qi7{R:List Nat}{j n:Nat}(h:qbi D9 R j<D9^n):qbi D9 R (j+n)=0:=by
 rw[qve R j n] at h;rcases qas (qbi D9 R (j+n)) with e|e
 ·exact e
 ·exfalso
  have:=Nat.mul_le_mul_left (D9^n) e;omega
theorem qxf{R0 R Q:List Nat}{Y j N:Nat}(h:q63 R0 R Q Y (j+1))(hY:Y<D9^(N+2)):qbi D9 R (j+(N+3))=0∧qbi D9 R j=sg R j (N+3):=by
 have h1:=qi7 (R:=R) (j:=j+1) (n:=N+2) (Nat.lt_trans h.lt hY);rw[show j+1+(N+2)=j+(N+3) by omega] at h1;refine⟨h1, ?_⟩;rw[qve R j (N+3),h1];omega
theorem qvh{R0 R Q:List Nat}{Y j N:Nat}(h:q63 R0 R Q Y (j+1))(hY:Y<D9^(N+2)):sg R j (N+3)<D9*Y:=by
 rw[←(qxf h hY).2,qbv];have h1:=qaz (b:=D9) (by decide) h.dig j;have h2:D9*(qbi D9 R (j+1)+1)≤D9*Y:=Nat.mul_le_mul_left _ h.lt;rw[Nat.mul_add] at h2;omega
theorem qzb{R S:List Nat}{j:Nat}(aE:S.length=R.length)(h:∀i,j≤i→S.getD i 0=R.getD i 0):qbi D9 S j=qbi D9 R j:=by
 unfold qbi
 congr 1
 apply List.ext_getElem
 ·simp[aE]
 ·intro i h1 h2
  have:=h (j+i) (by omega);simp at h1 h2
  simpa [h1,h2,(by omega:j+i<S.length),(by omega:j+i<R.length)] using this
theorem q1u{B Dv hq word W O H x V:Nat}(hO:O=Dv*hq+H)(hW:W=x+B*H)(hV:V+word*Dv=W):x+B*O=Dv*(word+B*hq)+V:=by
 rw[hO,Nat.mul_add,Nat.mul_add,show B*(Dv*hq)=Dv*(B*hq) from by grind,Nat.mul_comm Dv word];omega
theorem qtg{R0 R R' Q:List Nat}{Y j N q:Nat}(h:q63 R0 R Q Y (j+1))(hY:Y<D9^(N+2))(aE:R'.length=R.length)(hdig:∀d ∈ R',d<D9)
  (bN:∀i,i<j∨j+(N+3)≤i→R'.getD i 0=R.getD i 0) (hw:sg R' j (N+3)+q*Y=sg R j (N+3)) (bC:sg R' j (N+3)<Y) (hq:q<D9) (hQ:j<Q.length):q63 R0 R' (Q.set j q) Y j:=by
 obtain⟨t1,t2⟩:=qxf h hY;have e1:qbi D9 R' (j+(N+3))=0:=by rw[qzb aE (fun i hi=>bN i (.inr hi))];exact t1
 have e2:qbi D9 R' j=sg R' j (N+3):=by rw[qve R' j (N+3),e1];omega
 refine⟨aE.trans h.len,hdig,qc7 h.qdig _ _ hq,fun i hi=>(bN i (.inl hi)).trans (h.same i (by omega)), ?_,by rw[e2];exact bC⟩;rw[qte _ _ _ hQ,qbv D9 R0 j,e2];refine q1u h.eq (W:=sg R j (N+3)) ?_ hw;rw[←t2,qbv D9 R j,h.same j (by omega)]
theorem qzc{B p S S0 L m m' x d f s:Nat}(h:S+f*L=S0+p*m)(hs:s+d*f+m=x+B*m'):S+p*s+f*(L+p*d)=S0+p*x+p*B*m':=by
 have:=congrArg (p * ·) hs;simp only[Nat.mul_add] at this;rw[Nat.mul_add,Nat.mul_assoc p B,show f*(p*d)=p*(d*f) from by grind];omega
theorem qzd{B p S S0 L c c' x d s:Nat}(h:S+p*c=S0+L)(hs:s+B*c'=x+d+c):S+p*s+p*B*c'=S0+p*x+(L+p*d):=by
 have:=congrArg (p * ·) hs;simp only[Nat.mul_add] at this;rw[Nat.mul_assoc p B];omega
theorem q70{q v bo u P:Nat}(hv:v<1000000000)(hbo:bo≤q)(hu:u<1000000000)(hP:P=q*v+bo):
  (u<P % 1000000000→u+1000000000-P % 1000000000<1000000000∧P/1000000000+1≤q∧u+1000000000-P % 1000000000+v*q+bo=u+1000000000*(P/1000000000+1))∧
  (P % 1000000000≤u→u-P % 1000000000<1000000000∧P/1000000000≤q∧u-P % 1000000000+v*q+bo=u+1000000000*(P/1000000000)):=by
 have h1:q*v+q≤q*1000000000:=by
  rw[←Nat.mul_succ];exact Nat.mul_le_mul_left _ hv
 have h2:=Nat.mod_add_div P 1000000000;rw[Nat.mul_comm v q];constructor
 ·intro h
  refine⟨by omega, ?_,by omega⟩;have:1000000000*(P/1000000000)<1000000000*q:=by rw[Nat.mul_comm 1000000000 q];omega
  have:=Nat.lt_of_mul_lt_mul_left this;omega
 ·intro h
  refine⟨by omega, ?_,by omega⟩;have:1000000000*(P/1000000000)≤1000000000*q:=by rw[Nat.mul_comm 1000000000 q];omega
  exact Nat.le_of_mul_le_mul_left this (by omega)
theorem q1v{S Sc P top bo q Y W:Nat}(hS:S+P*bo=Sc+q*Y)(hW:W=S+P*top)(Ae:bo≤top)(hY:0<Y)(hQ:W/Y≤q):Sc+P*(top-bo)+q*Y=W∧Sc+P*(top-bo)<Y:=by
 obtain⟨d,rfl⟩:∃d,top=bo+d:=⟨top-bo,by omega⟩;rw[Nat.mul_add] at hW;rw[Nat.add_sub_cancel_left];have h:Sc+P*d+q*Y=W:=by omega
 refine⟨h, ?_⟩;have h1:q≤W/Y:=by rw[Nat.le_div_iff_mul_le hY];omega
 have h2:q=W/Y:=Nat.le_antisymm h1 hQ;have h3:=Nat.div_add_mod W Y;rw[←h2,Nat.mul_comm] at h3;have h4:=Nat.mod_lt W hY;omega
theorem q5o{S Sc P top bo q Y W:Nat}(hS:S+P*bo=Sc+q*Y)(hW:W=S+P*top)(bC:top<bo)(hY:0<Y)(hYP:Y<P)(hSc:Sc<P)(hQ:q≤W/Y+1):
  bo=top+1∧1≤q∧∀Sb c,Sb+P*c=Sc+Y→Sb<P→c≤1→c=1∧Sb+(q-1)*Y=W∧Sb<Y:=by
 obtain⟨d,rfl⟩:∃d,bo=top+1+d:=⟨bo-top-1,by omega⟩;rw[Nat.mul_add,Nat.mul_add,Nat.mul_one] at hS;have e:W+P+P*d=Sc+q*Y:=by omega
 have hq:W<q*Y:=by omega
 have nN:W/Y<q:=(Nat.div_lt_iff_lt_mul hY).2 hq;obtain⟨k,rfl⟩:∃k,q=k+1:=⟨q-1,by have:=Nat.lt_of_le_of_lt (Nat.zero_le _) nN;omega⟩;have hk:k=W/Y:=Nat.le_antisymm (Nat.le_of_succ_le_succ hQ) (Nat.le_of_lt_succ nN);have h3:=Nat.div_add_mod W Y;have h4:=Nat.mod_lt W hY;rw[←hk,Nat.mul_comm] at h3;rw[Nat.succ_mul] at e
 have hd:d=0:=by
  rcases qas d with h|h
  ·exact h
  ·have:=Nat.mul_le_mul_left P h
   omega
 subst hd;refine⟨rfl,by omega,fun Sb c h1 h2 h5 => ?_⟩;rw[Nat.add_sub_cancel];rcases(show c=0∨c=1 by omega) with rfl|rfl
 ·omega
 ·refine⟨rfl, ?_, ?_⟩<;>omega
def dvm(l:List Nat)(p i:Nat):Value:=if i=p then .int .i64 (-1) else dv l i
theorem qm9(l:List Nat)(i k x:Nat)(h:k≠i):dv (l.set i x) k=dv l k:=by unfold dv;rw[qa3 _ _ _ _ h]
theorem qkn(l:List Nat)(i x:Nat)(h:i<l.length):dv (l.set i x) i = .int .i64 (x:Nat):=by unfold dv;rw[qck _ _ _ h]
theorem Own.minus1{w:World}{g:Nat}{l:List Nat}(h:Own w g l.length (dv l))(p:Nat)(hp:p<l.length):Own (w.setCell ⟨g,p,none⟩ (.int .i64 (-1))) g l.length (dvm l p):=
 (h.set p hp _).congr fun _ _=>rfl
theorem Own.setDvm{w:World}{g p:Nat}{l:List Nat}(h:Own w g l.length (dvm l p))(i:Nat)(hi:i<l.length)(hip:i≠p)(x:Nat):Own (w.setCell ⟨g,i,none⟩ (.int .i64 (x:Nat))) g (l.set i x).length (dvm (l.set i x) p):=by
 rw[List.length_set];refine(h.set i hi _).congr fun k _ => ?_;by_cases e:k=i
 ·subst e;rw[if_pos rfl];unfold dvm;rw[if_neg hip,qkn _ _ _ hi]
 ·rw[if_neg e];unfold dvm;rw[qm9 _ _ _ _ e]
theorem Own.unminus{w:World}{g p:Nat}{l:List Nat}(h:Own w g l.length (dvm l p))(hp:p<l.length)(x:Nat):Own (w.setCell ⟨g,p,none⟩ (.int .i64 (x:Nat))) g (l.set p x).length (dv (l.set p x)):=by
 rw[List.length_set];refine(h.set p hp _).congr fun k _ => ?_;by_cases e:k=p
 ·subst e;rw[if_pos rfl,qkn _ _ _ hp]
 ·rw[if_neg e];unfold dvm;rw[if_neg e,qm9 _ _ _ _ e]
theorem qrn{w w':World}{base:Nat}{e:TypeId}{s n:Nat}{v:Value}{xs:List Value}(h:w.ownsRow base e s v n xs)(hb:Below w.heap.size w w'):w'.ownsRow base e s v n xs:=by
 refine⟨h.1, ?_⟩;rcases h.2 with h1|⟨g,cap,cur,h1,h2,h3,h4⟩
 ·exact .inl h1
 ·exact .inr ⟨g,cap,cur,h1,h2,by rw[hb.block g (Array.getElem?_eq_some_iff.1 h3).1];exact h3,h4⟩
theorem qko{W:World}{base k:Nat}{v:Value}{l:List Nat}(h:W.ownsRow base 3 1 v k ((zi l).map (Value.int .i64)))(hl:l.length=k)(hk:0<k):∃g cap,v = .slice (some ⟨g,0,none⟩) k cap∧base≤g∧k≤cap∧cap≤maxLen∧Own W g l.length (dv l):=by
 have h0:=h;rcases h.2 with⟨_,kF⟩|⟨g,cap,cur,rfl,hg,qP,hn,hm,_,_⟩
 ·omega
 ·refine⟨g,cap,rfl,hg,hn,hm,(Array.getElem?_eq_some_iff.1 qP).1,fun i hi=>⟨?_,h0.frozenAt i⟩⟩
  rw[h0.cellAt i (by omega),List.getElem?_map];unfold zi dv;rw[List.getElem?_map,qba,qat hi];rfl
theorem q1w{n N:Nat}(h:dl n=N+2):(qao D9 n).getD (N+1) 0≠0:=by
 unfold dl at h;have hne:qao D9 n≠[]:=by intro e;rw[e] at h;simp at h
 have e1:=List.dropLast_concat_getLast hne;have h1:=qix qbe e1.symm
 have:(qao D9 n).getD (N+1) 0=(qao D9 n).getLast hne:=by
  rw[List.getLast_eq_getElem,qba,qat (by omega)];simp[h]
 rw[this];exact h1
theorem q71{n N:Nat}(h:dl n=N+2):∃top t,(qao D9 n).getD (N+1) 0=top∧0<top∧top<1000000000∧1000000000/(top+1)=t∧0<t∧t<1000000000∧dl (n*t)=N+2:=by
 have h0:=q1w h;have hb:=qaz (b:=D9) (by decide) (qed D9 n qbe) (N+1);have lL:=qa0 D9 (qao D9 n) (N+1);unfold dl at h;rw[qbf _ _ _ (by omega),qar _ _ qbe] at lL;have hl:=qm3 D9 (qao D9 n) (N+1) (by decide) (qed D9 n qbe);generalize (qao D9 n).getD (N+1) 0=top at *;generalize low D9 (qao D9 n) (N+1)=lo at *;rw[qb4] at hb;have iT:0<1000000000/(top+1):=Nat.div_pos (by omega) (by omega);have fI:1000000000/(top+1)<1000000000:=Nat.div_lt_self (by omega) (by omega);have jM:1000000000/(top+1)*(top+1)≤1000000000:=Nat.div_mul_le_self _ _;refine⟨top,_,rfl,by omega,hb,rfl,iT,fI, ?_⟩;generalize 1000000000/(top+1)=t at *
 have h1:n*t<D9^(N+2):=by
  have a1:n+1≤D9^(N+1)*(top+1):=by rw[Nat.mul_add,lL];omega
  have a2:(n+1)*t≤D9^(N+1)*(top+1)*t:=Nat.mul_le_mul_right _ a1
  have a3:D9^(N+1)*(top+1)*t≤D9^(N+1)*D9:=by
   rw[Nat.mul_assoc];exact Nat.mul_le_mul_left _ (by rw[qb4,Nat.mul_comm];exact jM)
  rw[Nat.pow_succ];rw[Nat.add_mul] at a2;omega
 have h2:n≤n*t:=Nat.le_mul_of_pos_right _ iT;have h3:=qcf qbe h1;have h4:=qal qbe h2;unfold dl;omega
theorem q9x{m t:Nat}(ht:t<D9):dl (m*t)≤dl m+1:=by
 refine qcf qbe ?_;have h1:=qcj D9 m qbe;rw[Nat.pow_succ];unfold dl;rcases qas t with e|e
 ·subst e;rw[Nat.mul_zero];exact Nat.mul_pos (Nat.pow_pos (by decide)) (by decide)
 ·exact Nat.lt_of_lt_of_le (Nat.mul_lt_mul_of_pos_right h1 e) (Nat.mul_le_mul_left _ (by omega))
theorem qze{m n t La N M:Nat}{R:List Nat}(hm:dl m=La)(hn:dl n=N+2)(hM:M+(N+2)=La+1)(ht:0<t)(hR:∀d ∈ R,d<D9)(hv:val D9 R=m*t)(hl:R.length=La+1):q63 R R (List.replicate M 0) (n*t) M:=by
 refine⟨rfl,hR,qcg (b:=D9) (by decide) M,fun _ _=>rfl, ?_, ?_⟩
 ·rw[qdg D9 (List.replicate M 0) M (by simp)];omega
 ·have h1:=qfi D9 R M (by omega)
  rw[hv] at h1;rcases Nat.lt_or_ge (qbi D9 R M) (n*t) with h|h
  ·exact h
  ·exfalso
   have a1:D9^M*(n*t)≤m*t:=Nat.le_trans (Nat.mul_le_mul_left _ h) (by omega);rw[←Nat.mul_assoc] at a1;have a2:D9^M*n≤m:=Nat.le_of_mul_le_mul_right a1 ht
   have qU:0<n:=by
    rcases qas n with e|e
    ·subst e;unfold dl at hn;rw[qau] at hn;simp at hn
    ·exact e
   have a3:=qg3 qbe qU;have a4:=qcj D9 m qbe;unfold dl at hm hn;rw[hm] at a4;rw[hn,show N+2-1=N+1 from rfl] at a3;have a5:D9^M*D9^(N+1)≤D9^M*n:=Nat.mul_le_mul_left _ a3;rw[←Nat.pow_add,show M+(N+1)=La by omega] at a5;omega
def qgv(t:Nat):Obj := .cells #[.int .i64 (t:Int)] 3
theorem qro(va vb:Value)(m n N:Nat)(w:World)(ha:DN w va m)(hb:DN w vb n)(qW:n≤m)(hN:dl n=N+2)(hl:dl m≤900):
  Calls Tryz.prog 109 #[va,vb] w fun e w'=>(∃vq vr,e = .returned (.tuple #[vq,vr])∧DN w' vq (m/n)∧DN w' vr (m % n))∧Below w.heap.size w w':=by
 have HA:=hid ha;have HB:=hid hb;have HC:=hid (qrm va vb m n w ha hb);obtain⟨c,hc⟩:∃c,qer m n=c:=⟨_,rfl⟩
 have hcge:¬c<0:=by
  rcases(show m=n∨n<m by omega) with h|h
  ·have:=qem (x:=(m:Int)) (y:=n) (by omega);unfold qer at hc;omega
  ·have:=qcq (x:=(m:Int)) (y:=n) (by omega);unfold qer at hc;omega
 rw[hc] at HC;obtain⟨top,t,iW,htop0,Ep,ht,iT,Pf,Er⟩:=q71 hN;have Es:=q9x (m:=m) (t:=t) (by rw[qb4];exact Pf);have hNm:N+2≤dl m:=by rw[←hN];exact qal qbe qW
 have mC:0<m:=by
  rcases qas m with e|e
  ·subst e;unfold dl at hNm;rw[qau] at hNm;simp at hNm
  ·exact e
 obtain⟨cX,pa,ca,rfl,jQ,fC,hcellsa⟩:=ha;obtain⟨cS,pb,cb,rfl,jA,fK,hcellsb⟩:=hb;rcases hcellsb with h0|⟨bb,ob,rfl,dH⟩
 ·unfold dl at hN;omega
 have hcellT:=dH (N+1) (by unfold dl at hN;omega);unfold dv at hcellT;rw[iW] at hcellT;have HT:=hid hcellT
 have gK:Hid (∀W:World,Below w.heap.size w W→Calls Tryz.prog 123 #[.slice (some ⟨bb,ob,none⟩) (qao D9 n).length cb,.slice (some ⟨W.heap.size,0,none⟩) 1 1] (W.alloc (qgv t)) fun e w'=>
   (∃v',e = .returned v'∧DN w' v' (n*t))∧Below (W.alloc (qgv t)).heap.size (W.alloc (qgv t)) w'):=by
  refine hid fun W hW => ?_;have h1:=zau _ _ (qao D9 n) [t] (W.alloc (qgv t)) (HB.out.later (hW.alloc hW.size _)) (qvc W t Pf) (by unfold dl at hN hNm hl;omega) (by simp);rw[qar _ _ qbe,show val D9 [t]=t by simp[val]] at h1;exact h1
 have fF:Hid (∀W W':World,Below w.heap.size w W'→Below (W.alloc (qgv t)).heap.size (W.alloc (qgv t)) W'→Calls Tryz.prog 123 #[.slice pa (qao D9 m).length ca,.slice (some ⟨W.heap.size,0,none⟩) 1 1] W' fun e w'=>
   (∃v',e = .returned v'∧DN w' v' (m*t))∧Below W'.heap.size W' w'):=by
  refine hid fun W W' hW hW' => ?_;have h1:=zau _ _ (qao D9 m) [t] W' (HA.out.later hW) ((qvc W t Pf).later hW') (by unfold dl at hl;omega) (by simp);rw[qar _ _ qbe,show val D9 [t]=t by simp[val]] at h1;exact h1
 have Hy:Hid (dl (n*t)=N+2):=hid Er;have hNd:(qao D9 n).length=N+2:=hN;have Dk:(qao D9 m).length≤900:=hl;have Pg:N+2≤(qao D9 m).length:=hNm;have Ph:dl (m*t)≤(qao D9 m).length+1:=Es;have HNN:Hid (dl n=N+2):=hid hN;have HMM:Hid (dl m=(qao D9 m).length):=hid rfl;clear hN hl hNm Es Er cX hcellsa cS dH hcellT;generalize (qao D9 n).length=Lb at *;generalize (qao D9 m).length=La at *;have tY:Hid (dl (m*t)≤La+1):=hid Ph;have dN:Hid (N+2≤La):=hid Pg;have hLa9:La≤900:=Dk;have hLbN:Lb=N+2:=hNd;have e1:(Lb:Int)-1=((N+1:Nat):Int):=by omega
 have hne:((Lb:Int)==1)=false:=qan (by omega);have aY:N+1<Lb:=by omega
 obtain⟨T1,xJ⟩:∃T1:Nat,T1=top+1:=⟨_,rfl⟩;have hT1i:(top:Int)+1=(T1:Int):=by omega
 have hT1z:((T1:Int)==0)=false:=qan (by omega);have hT1a:(1000000000:Int)/(T1:Int)=(t:Int):=by rw[←ht,xJ];rw[Int.natCast_ediv];rfl
 obtain⟨N1,hN1⟩:∃N1,N1=N+1:=⟨_,rfl⟩;rw[←hN1] at e1 aY HT;have hN1b:N1≤900:=by omega
 have hLbb:Lb≤900:=by omega
 have hTw:IntKind.i64.wrap (T1:Int)=(T1:Int):=by rw[IntKind.wrap_i64];omega
 have hTw2:IntKind.i64.wrap ((top:Int)+1)=(T1:Int):=by rw[IntKind.wrap_i64];omega
 have eW:Hid (top<1000000000):=hid Ep;have tR:Hid (t<1000000000):=hid Pf;clear iW Ep ht xJ hLbN hNd Dk Pg Ph jQ jA hc qW Pf hN1;unfold maxLen at fC fK;go_enter Tryz.func109,Tryz.ntmps109;go_wp2_with fail;refine HC.out.mono ?_;rintro e w1 ⟨rfl,hb1'⟩;have aP:=hid hb1';clear hb1' HC
 have aC:w1.cell? ⟨bb,ob+N1,none⟩=some (.int .i64 (top:Nat)):=by
  rw[aP.out.cell (p:=⟨bb,ob+N1,none⟩) (qaf w _ HT.out)];exact HT.out
 go_wp2_with fail;refine(gK.out w1 aP.out).mono ?_;rintro e w2 ⟨⟨vV,rfl,hV⟩,aR⟩;have kD:=hid aR
 have oV:Hid (∀W,Below w2.heap.size w2 W→W.cell? ⟨w1.heap.size,0,none⟩=some (.int .i64 (t:Nat))):=hid fun W hW=>by
  have h1:(w1.alloc (qgv t)).cell? ⟨w1.heap.size,0,none⟩=some (.int .i64 (t:Nat)):=by unfold qgv;rw[World.cell?_alloc_at _ _ _ _ rfl];rfl
  have h2:=aR.cell (p:=⟨w1.heap.size,0,none⟩) (qaf _ _ h1);have h3:=hW.cell (p:=⟨w1.heap.size,0,none⟩) (Nat.lt_of_lt_of_le (qaf _ _ h1) aR.size);rw[h3,h2,h1]
 have aK:Hid (Below w.heap.size w w2):=hid ((aP.out.alloc aP.out.size _).trans (aR.mono (by rw[qab];have:=aP.out.size;omega)));have HV:=hid hV;obtain⟨hVd,pv,cv,rfl,Pc,Hx,hcellsv⟩:=hV
 have tM:Hid (n*t<D9^(N+2)∧0<n*t):=hid (by
  have h1:=qcj D9 (n*t) qbe;have h2:(qao D9 (n*t)).length=N+2:=Hy.out;rw[h2] at h1;refine⟨h1, ?_⟩;rcases qas (n*t) with e|e
  ·rw[e,qau] at h2;cases h2
  ·exact e)
 rcases hcellsv with h0|⟨bv,ov,rfl,Et⟩
 ·have h2:(qao D9 (n*t)).length=N+2:=Hy.out
  omega
 have Fv:=hid Et;have Hk:=hid hVd
 have hLvb:(qao D9 (n*t)).length≤900:=by
  have h1:=Hy.out;have h2:=dN.out;unfold dl at h1;omega
 clear aR hVd gK aC HT Et;have Pi:Hid (∀i,(qao D9 (n*t)).getD i 0<D9):=hid fun i=>qaz (b:=D9) (by decide) Hk.out i;have iH:Hid (∀i,low D9 (qao D9 (n*t)) (i+1)=low D9 (qao D9 (n*t)) i+D9^i*(qao D9 (n*t)).getD i 0):=hid fun i=>qa0 _ _ _;have lJ:Hid (low D9 (qao D9 (n*t)) (qao D9 (n*t)).length=n*t):=hid (by rw[qbf _ _ _ (qac _),qar _ _ qbe]);unfold maxLen at Hx;have Hz:Hid ((qao D9 (n*t)).length=N+2):=Hy;generalize (qao D9 (n*t)).length=Lv at *
 have Ia:Hid (qao D9 (m*t)≠[]∧(qao D9 (m*t)).length≤La+1∧val D9 (qao D9 (m*t))=m*t∧∀d ∈ qao D9 (m*t),d<D9):=hid ⟨fun e=>by
  have:=(qe1 qbe).1 e;have:=Nat.mul_pos mC iT
  omega,tY.out,qar _ _ qbe,qed _ _ qbe⟩
 obtain⟨i0,hi,cP,dV,eF⟩:=info_parts (show(Tryz.prog.info? 3).map (fun i=>(i.zero,i.size,i.bytes))=some (some (.int .i64 0),1,8) by kernel_rfl);have HI:=hid hi;clear hi tY;go_wp2_with fail;refine(fF.out w1 _ (aK.out.alloc aK.out.size _) (kD.out.alloc kD.out.size _)).mono ?_;rintro e w3 ⟨⟨vM,rfl,hM⟩,cJ⟩;have bR:Hid (Below w2.heap.size w2 w3):=hid (((qaa _ w2).alloc (qac _) _).trans (cJ.mono (by rw[qab];omega)));have fJ:Hid (w3.ownsRow w2.heap.size 3 1 (.slice (some ⟨w2.heap.size,0,none⟩) 0 0) 0 ((zi []).map (Value.int .i64))):=hid (qrn (World.ownsRow_made w2 #[] 0 (qac _) (Nat.zero_le _) rfl) cJ);obtain⟨_,pm,cm,rfl,Ib,hcm2,hcellsm⟩:=hM;rcases hcellsm with h0|⟨bm,om,rfl,Eu⟩
 ·exact absurd (List.length_eq_zero_iff.1 h0) Ia.out.1
 have Ng:=hid Eu;clear cJ fF kD Eu;generalize qao D9 (m*t)=lm at *;obtain⟨Lm,tY⟩:∃Lm,Hid (Lm=lm.length):=⟨_,hid rfl⟩;rw[←tY.out] at Ib Ng ⊢;have hLmb:Lm≤901:=by have h1:=Ia.out.2.1;have h2:=tY.out;omega
 go_wp2_with (at_builtin;refine wpList_append_own _ rfl _ _ 54 rfl w2.heap.size 3 i0 (.int .i64 0) 1 8 Tryz.underlying54 HI.out cP dV eF rfl (by decide) _ _ _ rfl fJ.out ⟨bm,om,none⟩ Lm cm ((zi lm).map (Value.int .i64)) rfl ?lQ ?Au ?Av ?Aw ?Ax ?Ay ?_)
 case lQ=>simp[zi];exact tY.out.symm
 case Au=>
  intro j u hj
  have kN:j<lm.length:=by
   have:=(List.getElem?_eq_some_iff.1 hj).1
   simpa [zi] using this
  have h1:=Ng.out j (by rw[tY.out];exact kN);have e:((zi lm).map (Value.int .i64))[j]? = some (dv lm j):=by unfold zi dv;simp[kN]
  rw[e] at hj;cases hj
  rw[Addr.add_lit];exact h1
 case Av=>intro u hu;obtain⟨x,_,rfl⟩:=List.mem_map.1 hu;rfl
 case Aw=>unfold maxLen;omega
 case Ax=>omega
 case Ay=>exact bR.out.size
 intro v4 w4 aT bK qQ;have eG:Hid (Below w2.heap.size w2 w4):=hid (bR.out.grown bK bR.out.size (by intro k hk;simp[Value.ownBlock] at hk;omega));have bE:Hid (w4.ownsRow w2.heap.size 3 1 v4 Lm ((zi lm).map (Value.int .i64))):=hid aT;clear aT bK qQ bR fJ Ng
 have Pj:0<Lm:=by
  have h1:=Ia.out.1;have h2:=tY.out;rcases qas Lm with e|e
  ·exact absurd (List.length_eq_zero_iff.1 (by omega)) h1
  ·exact e
 have Ib:Lm≤La+1:=by have h1:=Ia.out.2.1;have h2:=tY.out;omega
 obtain⟨g4,c4,rfl,hg4,Bp,hc4',_⟩:=qko bE.out tY.out.symm Pj;have HW4:Hid ((∀d ∈ lm,d<D9)∧val D9 lm=m*t):=hid ⟨Ia.out.2.2.2,Ia.out.2.2.1⟩;clear hg4 Bp hc4' Ia;go_wp2_with fail
 go_loopw [11] (fun v wr=>∃k g cap:Nat,∃R:List Nat,0<k∧k≤La+1∧v = .slice (some ⟨g,0,none⟩) k cap∧Hid (R.length=k)∧Hid ((∀d ∈ R,d<D9)∧val D9 R=m*t)∧Hid (wr.ownsRow w2.heap.size 3 1 (.slice (some ⟨g,0,none⟩) k cap) k ((zi R).map (Value.int .i64)))∧Hid (Below w2.heap.size w2 wr)) (fun v _=>La+1-qk2 v)
 case atStart=>exact⟨Lm,g4,c4,lm,Pj,Ib,rfl,hid tY.out.symm,HW4,bE,eG⟩
 case round=>
  obtain⟨k,g,cap,R,kF,hk,rfl,lE,cH,bE,eG⟩:=hrel;by_cases cQ:k<La+1
  ·have hki:(k:Int)<(La:Int)+1:=by omega
   go_wp2_with (at_builtin;refine qhv rfl _ _ rfl w2 _ w2.heap.size k _ (zi R) _ (by rfl) bE.out eG.out (qac _) (by rfl) (by omega) ?_);rintro v' w5 hown' hbw';have eX:Hid (w5.ownsRow w2.heap.size 3 1 v' (k+1) ((zi (R++[0])).map (Value.int .i64))):=hid (by rw[qh2,List.map_append];exact hown');have yD:Hid ((R++[0]).length=k+1):=hid (by rw[List.length_append,lE.out];rfl);have eS:Hid ((∀d ∈ R++[0],d<D9)∧val D9 (R++[0])=m*t):=hid ⟨qf3 cH.out.1 (by decide),by rw[qd8,cH.out.2];omega⟩;have cZ:=hid hbw';clear hown' hbw' bE eG;obtain⟨g5,c5,rfl,_,_,_,_⟩:=qko eX.out yD.out (by omega);go_wp2_with fail;go_roundw
   case rel=>exact⟨k+1,g5,c5,R++[0],by omega,by omega,by go_num,yD,eS,eX,cZ⟩
   case measure=>simp[qk2];omega
  ·obtain rfl:k=La+1:=by omega
   obtain⟨M,HM⟩:∃M,Hid (M+Lv=La+1∧M+(N+2)=La+1):=⟨La+1-Lv,hid (by have h1:=Hz.out;have h2:=dN.out;omega)⟩;have hMi:(La:Int)+1-(Lv:Int)=(M:Int):=by have:=HM.out.1;omega
   have hMb:M≤901:=by have:=HM.out.1;omega
   have kX:=fun w=>qlf M (by omega) w;obtain⟨g',cap',he,uG,Ev,iE,xU⟩:=qko bE.out lE.out (by omega);cases he
   have pG:=hid uG;have cM:Hid (La+1≤cap∧cap≤maxLen):=hid ⟨Ev,iE⟩;have mW:=hid (qze HMM.out HNN.out HM.out.2 iT cH.out.1 cH.out.2 lE.out);have Pk:Hid (Own (wr.alloc (qff M)) g R.length (dv R)):=hid (xU.later (((qaa _ wr).alloc (qac _) _).mono (by have:=xU.1;omega)));have Pm:=hid (qou wr M);have Pn:Hid ((List.replicate M 0).length=M):=hid (by simp);have Po:Hid (Below w2.heap.size w2 (wr.alloc (qff M))):=hid (eG.out.alloc eG.out.size _);have iR:Hid (g≠wr.heap.size):=hid (by have:=xU.1;omega);have HGQ:Hid (w2.heap.size≤wr.heap.size):=hid eG.out.size;generalize List.replicate M 0=Q0 at *;clear uG Ev iE xU bE eG hk kF cQ;go_wp2_with fail;generalize wr.alloc (qff M)=wq at *;generalize wr.heap.size=gq at *
   go_loopw [13] (fun i wr=>∃k:Nat,∃Rr Q:List Nat,k≤M∧i = .int .i64 ((k:Int)-1)∧Hid (Q.length=M)∧Hid (q63 R Rr Q (n*t) k)∧Hid (Own wr g Rr.length (dv Rr))∧Hid (Own wr gq Q.length (dv Q))∧Hid (Below w2.heap.size w2 wr)) (fun i _=>(intOf i+1).toNat)
   case atStart=>exact⟨M,R,Q0,qac _,by go_num,Pn,mW,Pk,Pm,Po⟩
   case round=>
    obtain⟨k,Rr,Q,hk,rfl,jI,Ak,sL,HOQ,bU⟩:=hrel;clear Pn mW Pk Pm Po;have RL:Hid (Rr.length=La+1):=hid (Ak.out.len.trans lE.out);rcases k with _|j
    ·have Ew:Hid (val D9 Q=m/n∧val D9 (Rr.take Lv)=m % n*t):=hid (by
      have h1:=Ak.out.eq;have h2:=Ak.out.lt;rw[high_zero,high_zero,high_zero,cH.out.2] at h1;rw[high_zero] at h2;have rK:=tM.out.2
      have h3:m*t/(n*t)=val D9 Q∧m*t % (n*t)=val D9 Rr:=by
       rw[h1];exact⟨by rw[Nat.mul_add_div rK,Nat.div_eq_of_lt h2,Nat.add_zero],by rw[Nat.mul_add_mod,Nat.mod_eq_of_lt h2]⟩
      rw[Nat.mul_div_mul_right _ _ iT,Nat.mul_mod_mul_right] at h3;refine⟨h3.1.symm, ?_⟩;have h4:qbi D9 Rr (0+(N+2))=0:=qi7 (by rw[high_zero];exact Nat.lt_trans h2 tM.out.1);have h5:=qfi D9 Rr (N+2) (by rw[RL.out];have:=dN.out;omega);rw[Nat.zero_add] at h4;rw[h4,Nat.mul_zero,Nat.add_zero] at h5;rw[h3.2,h5,Hz.out]
      rfl)
     have Ca:Hid (∀W,Below (g+1) wr W→Dgs W (.slice (some ⟨g,0,none⟩) Lv cap) (Rr.take Lv)):=hid fun W hW=>by
      have h1:Lv≤Rr.length:=by rw[RL.out];have:=HM.out.1;omega
      have h2:=(sL.out.later hW).row;refine⟨fun d hd=>Ak.out.dig d (List.mem_of_mem_take hd),some ⟨g,0,none⟩,cap,by rw[List.length_take,Nat.min_eq_left h1],by rw[List.length_take];have:=cM.out.1;have:=RL.out;omega,cM.out.2,.inr ⟨g,0,rfl,fun i hi => ?_⟩⟩;have Mj:i<Lv:=by rw[List.length_take] at hi;omega
      rw[h2 i (by omega)];unfold dv;simp only[qba];rw[List.getElem?_take_of_lt Mj]
     have bQ:Below wr.heap.size wr wr.drew:=(qaa _ _).drew;have Hl:=hid (qy9 _ _ wr.drew (Ca.out _ (bQ.mono (by have:=sL.out.1;omega))));rw[Ew.out.2] at Hl
     have Pp:Hid (dl (m % n*t)≤3000):=hid (by
      have h1:m % n*t≤n*t:=Nat.mul_le_mul_right _ (by
       rcases qas n with e|e
       ·have:=tM.out.2;rw[e,Nat.zero_mul] at this;omega
       ·exact Nat.le_of_lt (Nat.mod_lt _ e))
      have h2:=qal qbe h1;have h3:=Hy.out;have h4:=dN.out;unfold dl at h3 ⊢
      omega)
     have qF:Hid (∀v,DN wr.drew v (m % n*t)→Calls Tryz.prog 160 #[v,.int .i64 t] wr.drew fun e w'=>(∃v',e = .returned (.tuple #[v',.int .i64 ((m % n*t % t:Nat):Int)])∧DN w' v' (m % n))∧Below wr.heap.size wr w'):=hid fun v hv=>by
      have h1:=qtf v (qao D9 (m % n*t)) t wr.drew hv Pp.out iT tR.out;rw[qar _ _ qbe,Nat.mul_div_cancel _ iT] at h1;refine h1.mono ?_;rintro e w' ⟨h2,h3⟩;exact⟨h2,bQ.trans h3⟩
     have hcf:=oV.out wr bU.out;have hLi:(Lv:Int)≤(cap:Int):=by have h1:=cM.out.1;have h2:=HM.out.1;omega
     have hLn:Lv≤cap:=by omega
     have HQG:Hid (gq+1≤wr.heap.size):=hid HOQ.out.1;clear bQ;go_wp2_with fail
     go_region_held3 (fun W=>W.cell? ⟨w1.heap.size,0,none⟩=some (.int .i64 (t:Nat))) (first|with_reducible exact oV.out _ nR.out|exact hcf)
      (first|(go_at_call 161;refine Hl.out.mono ?_;rintro e wT ⟨⟨vT,rfl,hT⟩,rfl⟩;have yI:=hid hT;clear hT)|(go_at_call 160;refine(qF.out _ yI.out).mono ?_;rintro e wD ⟨⟨vD,rfl,hD⟩,hbD⟩;have HDV:=hid hD;have fB:=hid hbD;have nR:Hid (Below w2.heap.size w2 wD):=hid (bU.out.trans (hbD.mono bU.out.size));clear hD hbD))
     have yH:=hid (qy9 _ Q wD (qvb (HOQ.out.later (fB.out.mono HQG.out)) Ak.out.qdig (qac _) (by rw[jI.out];unfold maxLen;omega)));rw[Ew.out.1,jI.out] at yH;go_wp2_with fail;refine yH.out.mono ?_;rintro e wE ⟨⟨vE,rfl,hE⟩,rfl⟩;have HEV:=hid hE;clear hE;go_wp2_with fail;go_ret2;exact⟨⟨_,_,rfl,HEV.out,HDV.out⟩,aK.out.trans (nR.out.mono aK.out.size)⟩
    ·have lA:((j+1:Nat):Int)-1=(j:Int):=by omega
     simp only[lA];have HJ:Hid (j+(N+2)<La+1):=hid (by have:=HM.out.2;omega)
     have HG:Hid (Calls Tryz.prog 162 #[.slice (some ⟨g,0,none⟩) (La+1) cap,.slice (some ⟨bv,ov,none⟩) Lv cv,.int .i64 j] wr fun e w'=>(∃q:Nat,e = .returned (.int .i64 q)∧q<D9∧sg Rr j (N+3)/(n*t)≤q∧q≤sg Rr j (N+3)/(n*t)+1)∧∃k,w'=wr.drewN k):=hid (by
      have h1:=q9w g cap (.slice (some ⟨bv,ov,none⟩) Lv cv) Rr (qao D9 (n*t)) j N wr Ak.out.dig sL.out (HV.out.later bU.out) Hy.out (by rw[RL.out];exact HJ.out) (by rw[RL.out];omega) ⟨by rw[RL.out];exact cM.out.1,cM.out.2⟩ (by rw[qar _ _ qbe];exact qvh Ak.out tM.out.1) (q1w Hy.out);rw[qar _ _ qbe,RL.out] at h1
      exact h1)
     go_wp2_with fail;refine HG.out.mono ?_;rintro e w6 ⟨⟨q,rfl,Ks,tI,nN⟩,kw,hw6⟩;have Pq:Hid (Own w6 g Rr.length (dv Rr)):=hid (by rw[hw6];exact sL.out.later (below_drewN (qaa _ _) kw));have Pr:Hid (Own w6 gq Q.length (dv Q)):=hid (by rw[hw6];exact HOQ.out.later (below_drewN (qaa _ _) kw));have oM:Hid (Below w2.heap.size w2 w6):=hid (by rw[hw6];exact below_drewN bU.out kw);have HQ9:=hid Ks;have rO:=hid tI;have oH:=hid nN;have nH:Hid (q<1000000000):=hid (by rw[qb4] at Ks;exact Ks);have hLvi:Lv≤900:=hLvb;have oB:Hid (N+2=Lv):=hid Hz.out.symm;clear hw6 Ks tI nN HG sL HOQ bU;go_wp2_with fail
     go_loopw [15,16] (fun b i wb=>∃x bo:Nat,∃Rc:List Nat,x≤Lv∧i = .int .i64 x∧b = .int .i64 bo∧Hid (bo≤q)∧Hid (Rc.length=La+1)∧Hid (∀d ∈ Rc,d<D9)∧Hid (Own wb g Rc.length (dv Rc))∧Hid (Own wb gq Q.length (dv Q))∧Hid (sg Rc j x+q*low D9 (qao D9 (n*t)) x=sg Rr j x+D9^x*bo)∧Hid (∀y,y<j∨j+x≤y→Rc.getD y 0=Rr.getD y 0)∧Hid (Below w2.heap.size w2 wb)) (fun _ i _=>Lv-(intOf i).toNat)
     case atStart=>exact⟨0,0,Rr,Nat.zero_le _,rfl,rfl,hid (Nat.zero_le _),RL,hid Ak.out.dig,Pq,Pr,hid (by simp[qvd,low]),hid (fun _ _=>rfl),oM⟩
     case round=>
      obtain⟨x,bo,Rc,hx,rfl,rfl,HBO,jR,Ic,rP,zB,tX,Al,hJ⟩:=hrel;clear Pq Pr oM;by_cases eP:x<Lv
      ·have hjx:x+j<La+1:=by have:=HJ.out;have:=oB.out;omega
       have sY:x+j<Rc.length:=by rw[jR.out];exact hjx
       obtain⟨hg,lO⟩:=rP.out.2 (x+j) sY;unfold dv at hg;have pY:=Fv.out x eP
       have aC:wr.cell? ⟨bv,ov+x,none⟩=some (dv (qao D9 (n*t)) x):=by
        rw[hJ.out.cell (p:=⟨bv,ov+x,none⟩) (qaf w2 _ pY)];exact pY
       unfold dv at aC;have Kv:=qaz (b:=D9) (by decide) Ic.out (x+j);have kI:=Pi.out x;have Ps:=hid (iH.out x);have qC:=hid (qg6 Rr j x);have bN:=Al.out (x+j) (.inr (by omega));rw[Nat.add_comm j x,←bN] at qC;clear pY bN;generalize Rc.getD (x+j) 0=u at *;generalize (qao D9 (n*t)).getD x 0=y at *;rw[qb4] at Kv kI;obtain⟨P,hP⟩:∃P:Nat,P=q*y+bo:=⟨_,rfl⟩;obtain⟨bNeg,bPos⟩:=q70 kI HBO.out Kv hP;have hxy0:0≤(q:Int)*(y:Int):=by rw[←Int.natCast_mul];omega
       have Hu:q*y≤999999999*999999999:=Nat.mul_le_mul (by have:=nH.out;omega) (by omega);have hxy1:(q:Int)*(y:Int)≤999999998000000001:=by rw[←Int.natCast_mul];omega
       have Ox:(q:Int)*(y:Int)+(bo:Int)=(P:Int):=by rw[←Int.natCast_mul];omega
       have hPm:(P:Int).tmod 1000000000=((P % 1000000000:Nat):Int):=by rw[Int.tmod_eq_emod_of_nonneg (by omega)];omega
       have hPd:(P:Int)/1000000000=((P/1000000000:Nat):Int):=by omega
       have hPb:P<9223372036854775807:=by have h1:=HBO.out;have h2:=nH.out;omega
       have hPq:P/1000000000≤9223372036:=by omega
       have hPr:P % 1000000000<1000000000:=Nat.mod_lt _ (by omega)
       have bY:Hid (∀d,d<1000000000→Hid ((Rc.set (x+j) d).length=La+1)∧Hid (∀e ∈ Rc.set (x+j) d,e<D9)∧Hid (Own (wr.setCell ⟨g,x+j,none⟩ (.int .i64 (d:Nat))) g (Rc.set (x+j) d).length (dv (Rc.set (x+j) d)))∧Hid (Own (wr.setCell ⟨g,x+j,none⟩ (.int .i64 (d:Nat))) gq Q.length (dv Q))∧Hid (sg (Rc.set (x+j) d) j (x+1)=sg Rc j x+D9^x*d)∧Hid (∀y,y<j∨j+(x+1)≤y→(Rc.set (x+j) d).getD y 0=Rr.getD y 0)∧Hid (Below w2.heap.size w2 (wr.setCell ⟨g,x+j,none⟩ (.int .i64 (d:Nat))))):=by
        refine hid fun d hd=>⟨hid (by rw[List.length_set];exact jR.out),hid (qc7 Ic.out _ _ (by rw[qb4];exact hd)),hid (rP.out.setDig _ sY d),hid (zB.out.setOther iR.out _ _),hid ?_,hid fun z hz => ?_,hid (hJ.out.setCell (p:=⟨g,x+j,none⟩) pG.out _)⟩
        ·rw[Nat.add_comm x j];exact qh3 Rc j x d (by omega)
        ·rw[qa3 _ _ _ _ (by omega)];exact Al.out z (by omega)
       have iF:Hid (∀d bo',d+y*q+bo=u+1000000000*bo'→sg Rc j x+D9^x*d+q*low D9 (qao D9 (n*t)) (x+1)=sg Rr j (x+1)+D9^(x+1)*bo'):=hid fun d bo' h=>by
        rw[Ps.out,qC.out,Nat.pow_succ];exact qzc tX.out (by rw[qb4];exact h)
       clear hP Hu Kv kI sY Ps qC tX Al rP zB jR Ic hJ HBO;generalize P % 1000000000=pm at *;generalize P/1000000000=pq at *;by_cases kC:u<pm
       ·obtain⟨r1,r2,r3⟩:=bNeg kC
        obtain⟨d,hd⟩:∃d,d=u+1000000000-pm:=⟨_,rfl⟩;rw[←hd] at r1 r3;have dL:(u:Int)-(pm:Int)<0:=by omega
        have fN:(u:Int)-(pm:Int)+1000000000=(d:Int):=by omega
        obtain⟨c1,c2,c3,c4,c5,c6,c7⟩:=bY.out d r1;have gB:=hid (iF.out d (pq+1) r3);rw[←c5.out] at gB;have Cb:=hid r2;have gH:d≤999999999:=by omega
        clear bNeg bPos hd r1 r2 r3 c5 bY iF kC;go_wp2_with fail;go_roundw
        case rel=>exact⟨x+1,pq+1,_,by omega,by go_num,by go_num,Cb,c1,c2,c3,c4,gB,c6,c7⟩
        case measure=>simp[intOf];omega
       ·have jN:pm≤u:=by omega
        obtain⟨r1,r2,r3⟩:=bPos jN;obtain⟨d,hd⟩:∃d,d=u-pm:=⟨_,rfl⟩;rw[←hd] at r1 r3;have fN:(u:Int)-(pm:Int)=(d:Int):=by omega
        obtain⟨c1,c2,c3,c4,c5,c6,c7⟩:=bY.out d r1;have gB:=hid (iF.out d pq r3);rw[←c5.out] at gB;have Cb:=hid r2;have gH:d≤999999999:=by omega
        clear bNeg bPos hd r1 r2 r3 c5 bY iF kC jN;go_wp2_with fail;go_roundw
        case rel=>exact⟨x+1,pq,_,by omega,by go_num,by go_num,Cb,c1,c2,c3,c4,gB,c6,c7⟩
        case measure=>simp[intOf];omega
      ·have hxe:x=Lv:=by omega
       subst x;obtain⟨p,HP⟩:∃p,Hid (p=j+(N+2)):=⟨_,hid rfl⟩;have hpi:(j:Int)+(Lv:Int)=(p:Int):=by have h1:=HP.out;have h2:=oB.out;omega
       have nG:p<La+1:=by have h1:=HP.out;have h2:=HJ.out;omega
       have xH:p<Rc.length:=by rw[jR.out];exact nG
       obtain⟨hg,lO⟩:=rP.out.2 p xH;unfold dv at hg;have hjM:j<M:=by omega
       have rT:j<Q.length:=by rw[jI.out];exact hjM
       obtain⟨hgq,hfq⟩:=zB.out.2 j rT;have Ie:=qaz (b:=D9) (by decide) Ic.out p;have fO:=hid (Al.out p (.inr (by have h1:=HP.out;have h2:=oB.out;omega)))
       have HWW:Hid (sg Rr j (N+3)=sg Rr j (N+2)+D9^(N+2)*Rc.getD p 0):=hid (by
        rw[fO.out,HP.out];exact qg6 Rr j (N+2))
       have Bw:Hid (sg Rr j (N+2)+D9^(N+2)*bo=sg Rc j (N+2)+q*(n*t)):=hid (by
        have h1:=tX.out;rw[lJ.out,←oB.out] at h1
        exact h1.symm)
       rw[qb4] at Ie;have Pt:bo<1000000000:=by have h1:=HBO.out;have h2:=nH.out;omega
       have HRCp:Hid (∀d,sg (Rc.set p d) j (N+3)=sg Rc j (N+2)+D9^(N+2)*d):=hid fun d=>by
        rw[HP.out];exact qh3 Rc j (N+2) d (by rw[←HP.out];exact xH)
       have gK:=hid (rP.out.minus1 p xH);have HSD:=hid (fun d=>rP.out.setDig p xH d);have qC:=hid (q7z Rc j (N+2) Ic.out);generalize htp:Rc.getD p 0=tp at *;clear htp;by_cases Ae:bo≤tp
       ·obtain⟨d,hd⟩:∃d,d=tp-bo:=⟨_,rfl⟩
        have Eh:(tp:Int)-(bo:Int)=(d:Int):=by omega
        obtain⟨f1,f2⟩:=q1v Bw.out HWW.out Ae tM.out.2 rO.out;rw[←hd,←HRCp.out] at f1 f2;have tP:d<1000000000:=by omega
        have bV:Hid (q63 R (Rc.set p d) (Q.set j q) (n*t) j):=hid (qtg Ak.out tM.out.1 (by rw[List.length_set,jR.out,RL.out]) (qc7 Ic.out _ _ (by rw[qb4];exact tP))
         (fun y hy=>by rw[qa3 _ _ _ _ (by have h1:=HP.out;omega)];exact Al.out y (by have h2:=oB.out;omega)) f1 f2 HQ9.out rT)
        have iI:Hid (Own (wr.setCell ⟨g,p,none⟩ (.int .i64 (d:Nat))) g (Rc.set p d).length (dv (Rc.set p d))):=hid (HSD.out d);have jH:Hid (Own (wr.setCell ⟨g,p,none⟩ (.int .i64 (d:Nat))) gq Q.length (dv Q)):=hid (zB.out.setOther iR.out _ _);have tS:Hid (Below w2.heap.size w2 (wr.setCell ⟨g,p,none⟩ (.int .i64 (d:Nat)))):=hid (hJ.out.setCell (p:=⟨g,p,none⟩) pG.out _);have lF:=hid (iI.out.setOther (Ne.symm iR.out) j (.int .i64 (q:Nat)));have zC:=hid (jH.out.setDig j rT q);have nM:=hid (tS.out.setCell (p:=⟨gq,j,none⟩) HGQ.out (.int .i64 (q:Nat)));obtain⟨k1,_⟩:=iI.out.2 p (by rw[List.length_set];exact xH);obtain⟨k2,k3⟩:=jH.out.2 j rT;rw[qkn _ _ _ xH] at k1;have uY:¬(d:Int)<0:=by omega
        have qY:Hid ((Q.set j q).length=M):=hid (by rw[List.length_set];exact jI.out);clear hd Ae f1 f2 Pt Ie xH rT;go_wp2_with fail;go_roundw
        case rel=>exact⟨j,_,_,by omega,by go_num,qY,bV,lF,zC,nM⟩
        case measure=>simp[intOf]
       ·have bC:tp<bo:=by omega
        obtain⟨f1,f2,f3⟩:=q5o Bw.out HWW.out bC tM.out.2 tM.out.1 qC.out oH.out;have F3:=hid f3;have Eh:(tp:Int)-(bo:Int) = -1:=by omega
        obtain⟨q',hq'⟩:∃q':Nat,q=q'+1:=⟨q-1,by omega⟩;have Ox:(q:Int)-1=(q':Int):=by omega
        have HQ':Hid (q'=q-1):=hid (by omega);have HQ9':Hid (q'<D9):=hid (by have:=HQ9.out;omega);have hqb:(q:Int)≤1000000000:=by have:=nH.out;omega
        have jH:Hid (Own (wr.setCell ⟨g,p,none⟩ (.int .i64 (-1))) gq Q.length (dv Q)):=hid (zB.out.setOther iR.out _ _);have tS:Hid (Below w2.heap.size w2 (wr.setCell ⟨g,p,none⟩ (.int .i64 (-1)))):=hid (hJ.out.setCell (p:=⟨g,p,none⟩) pG.out _);obtain⟨k1,_⟩:=gK.out.2 p xH;unfold dvm at k1;rw[if_pos rfl] at k1;clear bC f1 f2 f3 Pt Ie rT hq' hgq hfq Ae;go_wp2_with fail;generalize wr.setCell ⟨g,p,none⟩ (.int .i64 (-1))=wn at *
        go_loopw [19,20] (fun c i wz=>∃x cc:Nat,∃Rb:List Nat,x≤Lv∧i = .int .i64 x∧c = .int .i64 cc∧cc≤1∧Hid (Rb.length=La+1)∧Hid (∀d ∈ Rb,d<D9)∧Hid (Own wz g Rb.length (dvm Rb p))∧Hid (Own wz gq Q.length (dv Q))∧Hid (sg Rb j x+D9^x*cc=sg Rc j x+low D9 (qao D9 (n*t)) x)∧Hid (∀y,y<j∨j+x≤y→Rb.getD y 0=Rc.getD y 0)∧Hid (Below w2.heap.size w2 wz)) (fun _ i _=>Lv-(intOf i).toNat)
        case atStart=>exact⟨0,0,Rc,Nat.zero_le _,rfl,rfl,by omega,jR,Ic,hid gK.out,jH,hid (by simp[qvd,low]),hid (fun _ _=>rfl),tS⟩
        case round=>
         obtain⟨x,cc,Rb,hx,rfl,rfl,fL,dW,fB,uT,Ig,Ih,Cc,aV⟩:=hrel;by_cases eP:x<Lv
         ·have hjx:x+j<La+1:=by have:=HJ.out;have:=oB.out;omega
          have sY:x+j<Rb.length:=by rw[dW.out];exact hjx
          have hne':x+j≠p:=by have h1:=HP.out;have h2:=oB.out;omega
          obtain⟨hg,lO⟩:=uT.out.2 (x+j) sY;unfold dvm at hg;rw[if_neg hne'] at hg;unfold dv at hg;have pY:=Fv.out x eP
          have aC:wr.cell? ⟨bv,ov+x,none⟩=some (dv (qao D9 (n*t)) x):=by
           rw[aV.out.cell (p:=⟨bv,ov+x,none⟩) (qaf w2 _ pY)];exact pY
          unfold dv at aC;have Kv:=qaz (b:=D9) (by decide) fB.out (x+j);have kI:=Pi.out x;have Ps:=hid (iH.out x);have Ii:=hid (qg6 Rc j x);have bN:=Cc.out (x+j) (.inr (by omega));rw[Nat.add_comm j x,←bN] at Ii;clear pY bN;generalize Rb.getD (x+j) 0=u at *;generalize (qao D9 (n*t)).getD x 0=y at *;rw[qb4] at Kv kI;obtain⟨sm,Aj⟩:∃sm:Nat,sm=u+y+cc:=⟨_,rfl⟩;have hsi:(u:Int)+(y:Int)+(cc:Int)=(sm:Int):=by omega
          have hsm1:(sm:Int).tmod 1000000000=((sm % 1000000000:Nat):Int):=by rw[Int.tmod_eq_emod_of_nonneg (by omega)];omega
          have hsm2:(sm:Int)/1000000000=((sm/1000000000:Nat):Int):=by omega
          have hsm3:sm/1000000000≤1:=by omega
          have hsb:sm≤2000000000:=by omega
          have nA:sm % 1000000000<1000000000:=Nat.mod_lt _ (by omega)
          have oC:sg Rb j x+D9^x*(sm % 1000000000)+D9^(x+1)*(sm/1000000000)=sg Rc j (x+1)+low D9 (qao D9 (n*t)) (x+1):=by
           rw[Ps.out,Ii.out,Nat.pow_succ];refine qzd Ih.out ?_;rw[qb4];have:=Nat.mod_add_div sm 1000000000;omega
          have iK:∀d,sg (Rb.set (x+j) d) j (x+1)=sg Rb j x+D9^x*d:=fun d=>by
           rw[Nat.add_comm x j];exact qh3 Rb j x d (by omega)
          rw[←iK] at oC;have gB:=hid oC;have C1:Hid ((Rb.set (x+j) (sm % 1000000000)).length=La+1):=hid (by rw[List.length_set];exact dW.out);have C2:Hid (∀e ∈ Rb.set (x+j) (sm % 1000000000),e<D9):=hid (qc7 fB.out _ _ (by rw[qb4];exact nA));have C3:=hid (uT.out.setDvm (x+j) sY hne' (sm % 1000000000));have C4:=hid (Ig.out.setOther iR.out (x+j) (.int .i64 ((sm % 1000000000:Nat):Int)))
          have C6:Hid (∀z,z<j∨j+(x+1)≤z→(Rb.set (x+j) (sm % 1000000000)).getD z 0=Rc.getD z 0):=hid fun z hz=>by
           rw[qa3 _ _ _ _ (by omega)];exact Cc.out z (by omega)
          have C7:=hid (aV.out.setCell (p:=⟨g,x+j,none⟩) pG.out (.int .i64 ((sm % 1000000000:Nat):Int)));clear Aj Kv kI sY hne' Ps Ii oC iK dW fB uT Ig Ih Cc aV nA;generalize sm % 1000000000=d at *;generalize sm/1000000000=cn at *;go_wp2_with fail
          go_quiet (fail)
          go_wp2_with fail;go_roundw
          case rel=>exact⟨x+1,cn,_,by omega,by go_num,by go_num,hsm3,C1,C2,hid (C3.out.later (below_drewN (qaa _ _) nq)),hid (C4.out.later (below_drewN (qaa _ _) nq)),gB,C6,hid (below_drewN C7.out nq)⟩
          case measure=>simp[intOf];omega
         ·have hxe:x=Lv:=by omega
          subst x;have pV:p<Rb.length:=by rw[dW.out];exact nG
          obtain⟨hg,lO⟩:=uT.out.2 p pV;unfold dvm at hg;rw[if_pos rfl] at hg;have hE:=Ih.out;rw[lJ.out,←oB.out] at hE;obtain⟨bO,f1,f2⟩:=F3.out _ cc hE (q7z Rb j (N+2) fB.out) fL;rw[←HQ'.out] at f1;obtain⟨z,hz⟩:∃z:Nat,z=0:=⟨_,rfl⟩;have hzi:(-1:Int)+(cc:Int)=(z:Int):=by omega
          have dG:sg (Rb.set p z) j (N+3)=sg Rb j (N+2):=by
           rw[HP.out,qh3 Rb j (N+2) z (by rw[←HP.out];exact pV),hz];omega
          rw[←dG] at f1 f2;have rT:j<Q.length:=by rw[jI.out];exact hjM
          have bV:Hid (q63 R (Rb.set p z) (Q.set j q') (n*t) j):=hid (qtg Ak.out tM.out.1 (by rw[List.length_set,dW.out,RL.out]) (qc7 fB.out _ _ (by rw[hz];decide))
           (fun y hy=>by rw[qa3 _ _ _ _ (by have h1:=HP.out;omega),Cc.out y (by have h2:=oB.out;omega)];exact Al.out y (by have h2:=oB.out;omega)) f1 f2 HQ9'.out rT)
          have zD:Hid (Own (wr.setCell ⟨g,p,none⟩ (.int .i64 (z:Nat))) g (Rb.set p z).length (dv (Rb.set p z))):=hid (uT.out.unminus pV z);have HO6:Hid (Own (wr.setCell ⟨g,p,none⟩ (.int .i64 (z:Nat))) gq Q.length (dv Q)):=hid (Ig.out.setOther iR.out _ _);have HB8':Hid (Below w2.heap.size w2 (wr.setCell ⟨g,p,none⟩ (.int .i64 (z:Nat)))):=hid (aV.out.setCell (p:=⟨g,p,none⟩) pG.out _);have lF:=hid (zD.out.setOther (Ne.symm iR.out) j (.int .i64 (q':Nat)));have zC:=hid (HO6.out.setDig j rT q');have nM:=hid (HB8'.out.setCell (p:=⟨gq,j,none⟩) HGQ.out (.int .i64 (q':Nat)));obtain⟨k2,k3⟩:=HO6.out.2 j rT;have qY:Hid ((Q.set j q').length=M):=hid (by rw[List.length_set];exact jI.out);clear hE bO f1 f2 hz dG rT pV;go_wp2_with fail;go_roundw
          case rel=>exact⟨j,_,_,by omega,by go_num,qY,bV,lF,zC,nM⟩
          case measure=>simp[intOf]
end Go.Proofs.YtmcfcpgglfimjaaGreatDoor
