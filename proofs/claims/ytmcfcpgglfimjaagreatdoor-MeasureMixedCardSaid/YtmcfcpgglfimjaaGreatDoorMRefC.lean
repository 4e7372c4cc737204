/- The reference's divDigits for all numbers, and common, the greatest common divisor. -/
import Derived.Test.YtmcfcpgglfimjaaGreatDoorMRefA
import Derived.Test.YtmcfcpgglfimjaaGreatDoorMNumRead
import Derived.Deep.RegionHeld3
import Derived.Test.YtmcfcpgglfimjaaGreatDoorMWrite
import Derived.Lib.Strings
import Derived.Lib.Split
import Derived.Test.YtmcfcpgglfimjaaGreatDoorMText
set_option linter.all false
namespace Go.Proofs.YtmcfcpgglfimjaaGreatDoor
open Go.RowKit
set_option maxRecDepth 100000
set_option maxHeartbeats 8000000
theorem qrp(va vb:Value)(m n:Nat)(w:World)(ha:DN w va m)(hb:DN w vb n)(hn:0<n)(hl:dl m≤900):
  Calls Tryz.prog 109 #[va,vb] w fun e w'=>(∃vq vr,e = .returned (.tuple #[vq,vr])∧DN w' vq (m/n)∧DN w' vr (m % n))∧Below w.heap.size w w':=by
 by_cases h1:m<n∨dl n=1
 ·exact qp5 va vb m n w ha hb h1 (by omega)
 ·have h2:dl n≠0:=by
   unfold dl;intro e;have:=(qe1 qbe).1 (List.length_eq_zero_iff.1 e);omega
  exact qro va vb m n (dl n-2) w ha hb (by omega) (by omega) hl
theorem qgw{w:World}{v:Value}{n:Nat}(h:DN w v n):∃p k c,v = .slice p k c∧k=dl n:=by
 obtain⟨_,p,c,rfl,_⟩:=h;exact⟨p,_,c,rfl,rfl⟩
theorem q1x:dl 0=0:=by unfold dl;rw[qau];rfl
theorem qxg{n:Nat}:0<dl n↔0<n:=by
 constructor
 ·intro h
  rcases qas n with e|e
  ·rw[e,q1x] at h;omega
  ·exact e
 ·intro h
  unfold dl;rw[qfx _ _ qbe h];simp
theorem qvi{m n:Nat}(h:m≤n):dl m≤dl n:=qal qbe h
theorem q1y(va vb:Value)(m n:Nat)(w:World)(ha:DN w va m)(hb:DN w vb n)(hl:dl m≤900)(oL:dl n≤900):
  Calls Tryz.prog 65 #[va,vb] w fun e w'=>(∃v',e = .returned v'∧DN w' v' (Nat.gcd m n))∧Below w.heap.size w w':=by
 obtain⟨pa,ka,ca,rfl,zE⟩:=qgw ha;obtain⟨pb,kb,cb,rfl,oQ⟩:=qgw hb;have HA:=hid ha;have HB:=hid hb;have HL:=hid (And.intro hl oL);have HKB:=hid oQ;clear ha hb zE oQ hl oL;go_enter Tryz.func65,Tryz.ntmps65;go_wp2_with fail
 go_loopg [0,1] n (fun k s0 s1 wr=>∃(x:Nat) (p:Option Addr) (j c:Nat),s1 = .slice p j c∧Hid (DN wr s0 x)∧Hid (DN wr (.slice p j c) k)∧Hid (j=dl k)∧Hid (dl x≤900∧dl k≤900)∧Hid (Nat.gcd x k=Nat.gcd m n)∧Hid (Below w.heap.size w wr))
 case atStart=>exact⟨m,pb,kb,cb,rfl,HA,HB,HKB,HL,hid rfl,hid (qaa _ _)⟩
 case round=>
  obtain⟨x,p,j,c,rfl,HX,HY,HJ,qB,HG,bU⟩:=hrel;obtain⟨k,tZ⟩:∃k,k=gk:=⟨_,rfl⟩;subst gk;obtain⟨s0,hG⟩:∃s0,s0=u0:=⟨_,rfl⟩;subst u0;rcases qas k with e|hk
  ·subst e
   have Ge:j=0:=by rw[HJ.out,q1x]
   subst Ge;have HE:Hid (Nat.gcd m n=x):=hid (by rw[←HG.out,Nat.gcd_zero_right]);go_wp2_with fail;go_ret;exact⟨⟨_,rfl,by rw[HE.out];exact HX.out⟩,bU.out⟩
  ·have Ge:0<j:=by rw[HJ.out];exact qxg.2 hk
   have HD:=hid (qrp s0 (.slice p j c) x k wr HX.out HY.out hk qB.out.1);go_wp2_with fail;refine HD.out.mono ?_;rintro e w1 ⟨⟨vq,vr,rfl,_,hr⟩,aY⟩;obtain⟨p2,k2,c2,rfl,nB⟩:=qgw hr;have HR:=hid hr;have cN:=hid nB;have cZ:Hid (Below w.heap.size w w1):=hid (bU.out.trans (aY.mono bU.out.size));have HY2:Hid (DN w1 (.slice p j c) k):=hid (HY.out.later aY);have mG:Hid (Nat.gcd k (x % k)=Nat.gcd m n):=hid (by rw[←HG.out,Nat.gcd_comm x k,Nat.gcd_rec k x,Nat.gcd_comm]);have bC:x % k<k:=Nat.mod_lt _ hk;have HLL2:Hid (dl k≤900∧dl (x % k)≤900):=hid ⟨qB.out.2,Nat.le_trans (qvi (Nat.le_of_lt bC)) qB.out.2⟩;clear hr aY HD nB;go_wp2_with fail
   go_roundg (x % k)
   case measure=>exact bC
   case rel=>exact⟨k,p2,k2,c2,rfl,HY2,HR,cN,HLL2,mG,cZ⟩
theorem qth(a:Nat)(l:List UInt8)(c:UInt8):qbb a (l++[c])=qbb a l*10+(c.toNat-48):=by
 unfold qbb;rw[List.foldl_append];rfl
theorem qqq(s:BA)(w:World)(hd:∀c ∈ s.data.toList,isD c=true)(hl:s.size≤18):
  Calls Tryz.prog 118 #[.string s] w fun e w'=>e = .returned (.int .i64 (qbb 0 s.data.toList:Nat))∧w'=w:=by
 have HD:=hid hd;have jD:=hid (qcv s);clear hd;go_enter Tryz.func118,Tryz.ntmps118;go_wp2_with fail
 go_loopw [3,4] (fun n i wr=>∃k a:Nat,k≤s.size∧i = .int .i64 k∧n = .int .i64 a∧Hid (a=qbb 0 (s.data.toList.take k))∧wr=w) (fun _ i _=>s.size-(intOf i).toNat)
 case atStart=>exact⟨0,0,Nat.zero_le _,rfl,rfl,hid rfl,rfl⟩
 case round=>
  obtain⟨k,a,hk,rfl,rfl,HA,rfl⟩:=hrel;by_cases oT:k<s.size
  ·have hcd:isD (s[k]'oT)=true:=HD.out _ (by rw[←qdt s k oT];exact List.getElem_mem _)
   have hc:48≤(s[k]'oT).toNat∧(s[k]'oT).toNat≤57:=by simpa [isD] using hcd
   have mH:a<1000000000000000000:=by
    have h1:=qfq (s.data.toList.take k) (fun c hc=>HD.out c (List.mem_of_mem_take hc));rw[←HA.out] at h1;have h2:(s.data.toList.take k).length≤17:=by rw[List.length_take];omega
    have h3:=Nat.pow_le_pow_right (show 0<10 by omega) h2;omega
   have lD:Hid (10*a+((s[k]'oT).toNat-48)=qbb 0 (s.data.toList.take (k+1))):=hid (by rw[jD.out k oT,qth,←HA.out,Nat.mul_comm])
   have hab2:(a:Int)≤99999999999999999:=by
    have h1:=qfq (s.data.toList.take k) (fun c hc=>HD.out c (List.mem_of_mem_take hc));rw[←HA.out] at h1;have h2:(s.data.toList.take k).length≤17:=by rw[List.length_take];omega
    have h3:=Nat.pow_le_pow_right (show 0<10 by omega) h2;omega
   have oG:∀h:k<s.size,((s[k]'h).toNat:Int)=((s[k]'oT).toNat:Int):=fun h=>rfl;clear hcd mH;generalize (s[k]'oT).toNat=c at *;obtain⟨h1,h2⟩:=hc;obtain⟨d,hd⟩:∃d,d=10*a+(c-48):=⟨_,rfl⟩;have Eh:10*(a:Int)+(c:Int)-48=(d:Int):=by omega
   rw[←hd] at lD;clear hd;go_wp2_with fail;go_roundw
   case rel=>exact⟨k+1,d,by omega,by go_num,rfl,lD,trivial⟩
   case measure=>simp[intOf];omega
  ·have tZ:k=s.size:=by omega
   have HE:Hid (a=qbb 0 s.data.toList):=hid (by rw[HA.out,List.take_of_length_le (by simp;omega)]);clear tZ;go_wp2_with fail;go_ret;exact⟨qa6 (by rw[HE.out]),rfl⟩
def sl(l:List UInt8):Nat:=l.findIdx (· == 47)
theorem q5p(l:List UInt8):sl l≤l.length:=List.findIdx_le_length
theorem zav{s:BA}{k:Nat}(h:k<s.size)(hc:(s[k]'h).toNat=47)(hb:∀c ∈ s.data.toList.take k,c≠47):sl s.data.toList=k:=by
 unfold sl;have hk:k<s.data.toList.length:=by simpa using h
 have h2:s.data.toList[k]=47:=by rw[qdt s k h];exact UInt8.toNat_inj.1 hc
 rw[List.findIdx_eq hk];refine⟨by rw[h2];rfl,fun j hj => ?_⟩;have:=hb (s.data.toList[j]'(by omega)) (by rw[List.mem_take_iff_getElem];exact⟨j,by omega,rfl⟩)
 simpa using this
theorem qvj{l:List UInt8}(hb:∀c ∈ l,c≠47):sl l=l.length:=by
 unfold sl;rw[List.findIdx_eq_length];intro c hc
 simpa using hb c hc
theorem qqr(s:BA)(w:World)(hl:s.size≤1073741824):
  Calls Tryz.prog 62 #[.string s] w fun e w'=>e = .returned (.int .i64 (sl s.data.toList:Nat))∧w'=w:=by
 have jD:=hid (qcv s);have HAT:Hid (∀k,∀h:k<s.size,(s[k]'h).toNat=47→(∀c ∈ s.data.toList.take k,c≠47)→sl s.data.toList=k):=hid fun k h h1 h2=>zav h h1 h2
 have rR:Hid ((∀c ∈ s.data.toList.take s.size,c≠47)→sl s.data.toList=s.size):=hid fun h=>by
  rw[List.take_of_length_le (by simp)] at h;rw[qvj h];simp
 generalize sl s.data.toList=res at *;go_enter Tryz.func62,Tryz.ntmps62;go_wp2_with fail
 go_loopw [3] (fun i wr=>∃k:Nat,k≤s.size∧i = .int .i64 k∧Hid (∀c ∈ s.data.toList.take k,c≠47)∧wr=w) (fun i _=>s.size-(intOf i).toNat)
 case atStart=>exact⟨0,Nat.zero_le _,rfl,hid (by simp),rfl⟩
 case round=>
  obtain⟨k,hk,rfl,HD,rfl⟩:=hrel;by_cases oT:k<s.size
  ·have oG:∀h:k<s.size,((s[k]'h).toNat:Int)=((s[k]'oT).toNat:Int):=fun h=>rfl
   have HA:=hid (HAT.out k oT)
   have mZ:Hid ((s[k]'oT).toNat≠47→∀c ∈ s.data.toList.take (k+1),c≠47):=hid fun h=>by
    rw[jD.out k oT];intro c hc;rcases List.mem_append.1 hc with hc|hc
    ·exact HD.out c hc
    ·rw[List.mem_singleton.1 hc]
     intro e;exact h (by rw[e];rfl)
   generalize (s[k]'oT).toNat=c at *;by_cases h:c=47
   ·subst h
    have HE:=hid (HA.out rfl HD.out);have hb:(((47:Nat):Int)==47)=true:=rfl;clear HA mZ;go_wp2_with fail;go_ret;exact⟨qa6 (by rw[HE.out]),rfl⟩
   ·have hb:((c:Int)==47)=false:=qan (by omega)
    have HD3:=hid (mZ.out h);clear HA mZ h;go_wp2_with fail;go_roundw
    case rel=>exact⟨k+1,by omega,by go_num,HD3,trivial⟩
    case measure=>simp[intOf];omega
  ·have tZ:k=s.size:=by omega
   have HE:Hid (res=s.size):=hid (rR.out (by rw[←tZ];exact HD.out));clear tZ;go_wp2_with fail;go_ret;exact⟨qa6 (by rw[HE.out]),rfl⟩
theorem q72(s:BA)(k:Nat)(h:k<s.size)(hb:isD (s[k]'h)=false):s.data.toList.all isD=false:=by
 rw[List.all_eq_false];exact⟨s[k]'h,by rw[←qdt s k h];exact List.getElem_mem _,by simp[hb]⟩
theorem q73(s:BA)(w:World)(hl:s.size≤1073741824):
  Calls Tryz.prog 107 #[.string s] w fun e w'=>e = .returned (.bool (s.data.toList.all isD))∧w'=w:=by
 have jD:=hid (qcv s);have jV:=hid (q72 s)
 have sI:Hid ((∀c ∈ s.data.toList.take s.size,isD c=true)→s.data.toList.all isD=true):=hid fun h=>by
  rw[List.take_of_length_le (by simp)] at h;exact List.all_eq_true.2 h
 generalize s.data.toList.all isD=res at *;go_enter Tryz.func107,Tryz.ntmps107;go_wp2_with fail
 go_loopw [3] (fun i wr=>∃k:Nat,k≤s.size∧i = .int .i64 k∧Hid (∀c ∈ s.data.toList.take k,isD c=true)∧wr=w) (fun i _=>s.size-(intOf i).toNat)
 case atStart=>exact⟨0,Nat.zero_le _,rfl,hid (by simp),rfl⟩
 case round=>
  obtain⟨k,hk,rfl,HD,rfl⟩:=hrel;by_cases oT:k<s.size
  ·have oG:∀h:k<s.size,((s[k]'h).toNat:Int)=((s[k]'oT).toNat:Int):=fun h=>rfl
   by_cases hd:isD (s[k]'oT)=true
   ·have h1:48≤(s[k]'oT).toNat∧(s[k]'oT).toNat≤57:=by simpa [isD] using hd
    have mZ:Hid (∀c ∈ s.data.toList.take (k+1),isD c=true):=hid (by
     rw[jD.out k oT];intro c hc;rcases List.mem_append.1 hc with hc|hc
     ·exact HD.out c hc
     ·rw[List.mem_singleton.1 hc];exact hd)
    clear hd;generalize (s[k]'oT).toNat=c at *;obtain⟨h48,h57⟩:=h1;have g1:decide ((c:Int)<48)=false:=qae (by omega);have g2:decide ((57:Int)<(c:Int))=false:=qae (by omega);go_wp2_with fail;go_roundw
    case rel=>exact⟨k+1,by omega,by go_num,mZ,trivial⟩
    case measure=>simp[intOf];omega
   ·have hd':isD (s[k]'oT)=false:=by simpa using hd
    have aX:=hid (jV.out k oT hd')
    have hr:(s[k]'oT).toNat<48∨57<(s[k]'oT).toNat:=by
     unfold isD at hd';have:=of_decide_eq_false hd';omega
    clear hd hd';generalize (s[k]'oT).toNat=c at *;rcases Nat.lt_or_ge c 48 with hr'|hr'
    ·have g1:decide ((c:Int)<48)=true:=qag (by omega)
     clear hr;go_wp2_with fail;go_ret;exact⟨qa8 aX.out.symm,rfl⟩
    ·have g1:decide ((c:Int)<48)=false:=qae (by omega)
     have g2:decide ((57:Int)<(c:Int))=true:=qag (by omega);clear hr;go_wp2_with fail;go_ret;exact⟨qa8 aX.out.symm,rfl⟩
  ·have tZ:k=s.size:=by omega
   have HE:=hid (sI.out (by rw[←tZ];exact HD.out));clear tZ;go_wp2_with fail;go_ret;exact⟨qa8 HE.out.symm,rfl⟩
theorem qti(s:BA):(s.size=0→qbo s.data.toList=false)∧(s.size=1→qbo s.data.toList=s.data.toList.all isD)∧
  (∀h:1<s.size,(s[0]'(by omega)).toNat=48→qbo s.data.toList=false)∧(∀h:1<s.size,(s[0]'(by omega)).toNat≠48→qbo s.data.toList=s.data.toList.all isD):=by
 have e:s.data.toList.length=s.size:=by simp
 unfold qbo qj8;refine⟨fun h => ?_,fun h => ?_,fun h hc => ?_,fun h hc => ?_⟩
 ·have:s.data.toList=[]:=List.length_eq_zero_iff.1 (by omega)
  rw[this];rfl
 ·obtain⟨c,hc⟩:=List.length_eq_one_iff.1 (e.trans h)
  rw[hc];by_cases h2:c=48
  ·subst h2;decide
  ·simp[h2]
 ·have h2:s.data.toList[0]? = some 48:=by rw[qat (by omega),qdt s 0 (by omega)];exact congrArg some (UInt8.toNat_inj.1 hc)
  clear hc;generalize s.data.toList=l at *
  match l,e,h2 with
  | [],e,_=>simp at e;omega
  | [c],e,_=>simp at e;omega
  | a::b::r,_,h2=>simp at h2;subst h2;simp
 ·have h2:∃c,s.data.toList[0]? = some c∧c≠48:=⟨_,by rw[qat (by omega),qdt s 0 (by omega)],fun e=>hc (by rw[e];rfl)⟩
  obtain⟨c,h2,h3⟩:=h2;clear hc;generalize s.data.toList=l at *
  match l,e,h2 with
  | [],e,_=>simp at e;omega
  | a::r,_,h2=>simp at h2;subst h2;simp[h3]
theorem qi8(s:BA)(w:World)(hl:s.size≤1073741824):
  Calls Tryz.prog 63 #[.string s] w fun e w'=>e = .returned (.bool (qbo s.data.toList))∧w'=w:=by
 have xK:=hid (q73 s w hl);obtain⟨p0,p1,p2,p3⟩:=qti s;rcases(show s.size=0∨s.size=1∨1<s.size by omega) with h|h|h
 ·have HE:=hid (p0 h)
  have g1:((s.size:Int)==0)=true:=beq_iff_eq.2 (by omega);clear p0 p1 p2 p3 h;go_enter Tryz.func63,Tryz.ntmps63;go_wp2_with fail;go_ret;exact⟨qa8 HE.out.symm,rfl⟩
 ·have HE:=hid (p1 h)
  rw[←HE.out] at xK;have g1:((s.size:Int)==0)=false:=qan (by omega);have g2:decide ((1:Int)<(s.size:Int))=false:=qae (by omega);clear p0 p1 p2 p3 h;go_enter Tryz.func63,Tryz.ntmps63;go_wp2_with fail;refine xK.out.mono ?_;rintro e w1 ⟨rfl,rfl⟩;go_wp2_with fail;go_ret;exact⟨rfl,rfl⟩
 ·have g1:((s.size:Int)==0)=false:=qan (by omega)
  have g2:decide ((1:Int)<(s.size:Int))=true:=qag (by omega);have hG:0<s.size:=by omega
  have oG:∀h':0<s.size,((s[0]'h').toNat:Int)=((s[0]'hG).toNat:Int):=fun h=>rfl;have q2:=p2 h;have q3:=p3 h;clear p0 p1 p2 p3;generalize (s[0]'hG).toNat=c at *;by_cases hc:c=48
  ·have HE:=hid (q2 hc)
   subst hc;have g3:(((48:Nat):Int)==48)=true:=rfl;clear q2 q3;go_enter Tryz.func63,Tryz.ntmps63;go_wp2_with fail;go_ret;exact⟨qa8 HE.out.symm,rfl⟩
  ·have HE:=hid (q3 hc)
   rw[←HE.out] at xK;have g3:((c:Int)==48)=false:=qan (by omega);clear q2 q3 hc;go_enter Tryz.func63,Tryz.ntmps63;go_wp2_with fail;refine xK.out.mono ?_;rintro e w1 ⟨rfl,rfl⟩;go_wp2_with fail;go_ret;exact⟨rfl,rfl⟩
def qeg(w:World)(v:Value)(z:Int):Prop:=∃vw,v = .agg #[.bool (decide (z<0)),vw]∧DN w vw z.natAbs
theorem qeg.later{w w':World}{v:Value}{z:Int}(h:qeg w v z)(hb:Below w.heap.size w w'):qeg w' v z:=by
 obtain⟨vw,h1,h2⟩:=h;exact⟨vw,h1,h2.later hb⟩
theorem qkp(neg:Bool)(vw:Value)(l:List Nat)(w:World)(h:Dgs w vw l):
  Calls Tryz.prog 122 #[.bool neg,vw] w fun e w'=>(∃v,e = .returned v∧qeg w' v (if neg then -(val D9 l:Int) else(val D9 l:Int)))∧Below w.heap.size w w':=by
 have HT:Hid (∀W,Below w.heap.size w W→Calls Tryz.prog 161 #[vw] W fun e w'=>(∃v',e = .returned v'∧∀o,DN (w.alloc o) v' (val D9 l))∧W=w'):=hid fun W hW=>(q62 vw l W (h.later hW)).mono fun _ _ ⟨⟨v',he,hv⟩,hw⟩=>⟨⟨v',he,fun o=>hv _ (h.later (qad _ _))⟩,hw⟩;clear h;generalize val D9 l=n at *;go_enter Tryz.func122,Tryz.ntmps122;go_wp2_with fail;refine(HT.out _ (qad _ _)).mono ?_;rintro e w1 ⟨⟨v',rfl,hv⟩,rfl⟩;obtain⟨p,k,c,rfl,hk⟩:=qgw (hv (.cells #[] 0));have sM:=hid hv;have HK:=hid hk;clear hv hk;have HB:∀o,Below w.heap.size w (w.alloc o):=fun o=>(qaa _ w).alloc (qac _) o;have cK:=sM.out;cases neg
 ·have HE:Hid (decide ((n:Int)<0)=false):=hid (qae (by omega))
  have iU:=hid cK;clear cK;go_wp2_with fail;refine bodyPost_ret (v := .agg #[.bool false,.slice p k c]) ?_ rfl ?_
  ·simp[results,Tryz.results122,go_sem]
  ·exact⟨⟨_,rfl,.slice p k c,by simp only[Bool.false_eq_true,if_false,HE.out],by simp only[Bool.false_eq_true,if_false,Int.natAbs_natCast];exact iU.out _⟩,HB _⟩
 ·have iU:=hid cK
  clear cK;rcases qas k with e|e
  ·have qU:n=0:=by
    rcases qas n with h|h
    ·exact h
    ·have:=qxg.2 h;have:=HK.out;omega
   have HN:=hid qU;clear qU;subst e;have g:decide ((0:Int)<((0:Nat):Int))=false:=rfl;go_wp2_with fail;refine bodyPost_ret (v := .agg #[.bool false,.slice p 0 c]) ?_ rfl ?_
   ·simp[results,Tryz.results122,go_sem]
   ·exact⟨⟨_,rfl,_,by simp only[if_true,HN.out];rfl,by simp only[if_true,Int.natAbs_neg,Int.natAbs_natCast];exact iU.out _⟩,HB _⟩
  ·have g:decide ((0:Int)<(k:Int))=true:=qag (by omega)
   have HE:Hid (decide (-(n:Int)<0)=true):=hid (qag (by have:=qxg.1 (by rw[←HK.out];exact e);omega));clear e;go_wp2_with fail;refine bodyPost_ret (v := .agg #[.bool true,.slice p k c]) ?_ rfl ?_
   ·have:=of_decide_eq_true g
    simp[results,Tryz.results122,go_sem];omega
   ·exact⟨⟨_,rfl,.slice p k c,by simp only[if_true,HE.out],by simp only[if_true,Int.natAbs_neg,Int.natAbs_natCast];exact iU.out _⟩,HB _⟩
theorem DN.setOther{W:World}{v:Value}{n:Nat}{p:Addr}{x u:Value}(h:DN W v n)(hp:W.cell? p=some u)(hu:∀k z,u ≠ .int k z):DN (W.setCell p x) v n:=by
 obtain⟨h1,a,c,rfl,h2,h3,h4⟩:=h;refine⟨h1,a,c,rfl,h2,h3, ?_⟩;rcases h4 with h4|⟨b,o,rfl,h5⟩
 ·exact .inl h4
 ·refine .inr ⟨b,o,rfl,fun i hi => ?_⟩
  rw[World.cell?_setCell_other _ _ _ _ ?_]
  ·exact h5 i hi
  ·intro e
   rw[e,h5 i hi] at hp;cases hp
   exact hu _ _ rfl
def qkq(b:Bool)(v:Value)(i:Nat):Value:=if i=0 then .bool b else v
theorem qe5{W:World}{g:Nat}{sg:Bool}{t:Value}{z:Int}(h:qeg W (.agg #[.bool sg,t]) z)(r:Own W g 2 (qkq false (.slice none 0 0))):
  qeg ((W.setCell ⟨g,0,none⟩ (.bool sg)).setCell ⟨g,1,none⟩ t) (.agg #[.bool sg,t]) z:=by
 obtain⟨v,e,hv⟩:=h;refine⟨v,e, ?_⟩;refine(hv.setOther (r.2 0 (by omega)).1 (by intro k z h;cases h)).setOther (u := .slice none 0 0) ?_ (by intro k z h;cases h);rw[World.cell?_setCell_other _ _ _ _ (by intro h;injection h with _ h;cases h)];exact(r.2 1 (by omega)).1
theorem qeg.parts{w:World}{v:Value}{z:Int}(h:qeg w v z):∃p k c,v = .agg #[.bool (decide (z<0)),.slice p k c]∧k=dl z.natAbs∧DN w (.slice p k c) z.natAbs:=by
 obtain⟨vw,rfl,hv⟩:=h;obtain⟨p,k,c,rfl,hk⟩:=qgw hv;exact⟨p,k,c,rfl,hk,hv⟩
def qfm(w:World)(na:Bool)(ta:Value)(nb:Bool)(tb:Value)(W:World):Prop:=
 Below w.heap.size w W∧Own W w.heap.size 2 (qkq na ta)∧Own W (w.heap.size+1) 2 (qkq nb tb)∧Own W (w.heap.size+1+1) 2 (qkq false (.slice none 0 0))
theorem qfm.later{w:World}{na nb:Bool}{ta tb:Value}{W W':World}(h:qfm w na ta nb tb W)(hb:Below W.heap.size W W'):qfm w na ta nb tb W':=by
 obtain⟨h1,h2,h3,h4⟩:=h;have:=h4.1;exact⟨h1.trans (hb.mono h1.size),h2.later (hb.mono (by omega)),h3.later (hb.mono (by omega)),h4.later (hb.mono (by omega))⟩
theorem qh4{w W:World}{na nb:Bool}{ta tb:Value}{f:FuncId}{args:Array Value}{P:Ending→World→Prop}(hW:qfm w na ta nb tb W)
  (h:Calls Tryz.prog f args W fun e w'=>P e w'∧Below W.heap.size W w'):Calls Tryz.prog f args W fun e w'=>P e w'∧qfm w na ta nb tb w':=
 h.mono fun _ _ ⟨h1,h2⟩=>⟨h1,hW.later h2⟩
theorem qev(V:World)(n:Bool)(t:Value):Own (V.alloc (.cells #[.bool n,t] 118)) V.heap.size 2 (qkq n t):=by
 refine⟨by rw[qab];omega,fun i hi => ?_⟩;rw[World.cell?_alloc_at _ _ _ _ rfl,World.frozen?_alloc_at _ _ _ _ rfl]
 match i,hi with
 | 0,_=>exact⟨rfl,rfl⟩
 | 1,_=>exact⟨rfl,rfl⟩
theorem qi9{w:World}{g n:Nat}{f:Nat→Value}(h:Own w g n f)(o:Obj):Own (w.alloc o) g n f:=h.later ((qaa _ _).alloc h.1 _)
theorem qtj(w:World)(na:Bool)(ta:Value)(nb:Bool)(tb:Value):
  qfm w na ta nb tb (((w.alloc (.cells #[.bool na,ta] 118)).alloc (.cells #[.bool nb,tb] 118)).alloc (.cells #[.bool false,.slice none 0 0] 118)):=by
 have h1:=qev w na ta;have h2:=qev (w.alloc (.cells #[.bool na,ta] 118)) nb tb;have h3:=qev ((w.alloc (.cells #[.bool na,ta] 118)).alloc (.cells #[.bool nb,tb] 118)) false (.slice none 0 0);rw[qab] at h2 h3;rw[qab] at h3;refine⟨((qad _ _).alloc (by rw[qab];omega) _).alloc (by rw[qab,qab];omega) _, ?_, ?_,h3⟩
 ·exact qi9 (qi9 h1 _) _
 ·exact qi9 h2 _
theorem qbt{w:World}{na nb:Bool}{ta tb:Value}{W:World}(h:qfm w na ta nb tb W):
  W.cell? ⟨w.heap.size,0,none⟩=some (.bool na)∧W.cell? ⟨w.heap.size,1,none⟩=some ta∧W.cell? ⟨w.heap.size+1,0,none⟩=some (.bool nb)∧W.cell? ⟨w.heap.size+1,1,none⟩=some tb:=
 ⟨(h.2.1.2 0 (by omega)).1,(h.2.1.2 1 (by omega)).1,(h.2.2.1.2 0 (by omega)).1,(h.2.2.1.2 1 (by omega)).1⟩
theorem qrq{w W:World}{na nb:Bool}{ta tb:Value}(h:qfm w na ta nb tb W):
  (W.cell? ⟨w.heap.size+1+1,0,none⟩=some (.bool false)∧W.frozen? ⟨w.heap.size+1+1,0,none⟩=false)∧(W.cell? ⟨w.heap.size+1+1,1,none⟩=some (.slice none 0 0)∧W.frozen? ⟨w.heap.size+1+1,1,none⟩=false):=
 ⟨h.2.2.2.2 0 (by omega),h.2.2.2.2 1 (by omega)⟩
theorem qfn{W:World}{g1 g2:Nat}{c0 c1 c2 c3:Option Value}(h:W.cell? ⟨g1,0,none⟩=c0∧W.cell? ⟨g1,1,none⟩=c1∧W.cell? ⟨g2,0,none⟩=c2∧W.cell? ⟨g2,1,none⟩=c3){g o:Nat}(h1:g≠g1)(h2:g≠g2)(x:Value):
  (W.setCell ⟨g,o,none⟩ x).cell? ⟨g1,0,none⟩=c0∧(W.setCell ⟨g,o,none⟩ x).cell? ⟨g1,1,none⟩=c1∧(W.setCell ⟨g,o,none⟩ x).cell? ⟨g2,0,none⟩=c2∧(W.setCell ⟨g,o,none⟩ x).cell? ⟨g2,1,none⟩=c3:=by
 have k:∀(a i:Nat),g≠a→(W.setCell ⟨g,o,none⟩ x).cell? ⟨a,i,none⟩=W.cell? ⟨a,i,none⟩:=fun a i h=>World.cell?_setCell_other _ _ _ _ (by intro e;injection e with e;exact h e);rw[k _ _ h1,k _ _ h1,k _ _ h2,k _ _ h2];exact h
theorem qgg{w W:World}{g:Nat}(h:Below w.heap.size w W)(hg:w.heap.size≤g)(x y:Value):Below w.heap.size w ((W.setCell ⟨g,0,none⟩ x).setCell ⟨g,1,none⟩ y):=(h.setCell hg _).setCell hg _
theorem qzf(x y:Int):(if(decide (x<0) != decide (y<0)) then -((x.natAbs*y.natAbs:Nat):Int) else((x.natAbs*y.natAbs:Nat):Int))=x*y:=by
 rcases Int.lt_or_le x 0 with h1|h1<;>rcases Int.lt_or_le y 0 with h2|h2
 ·rw[qag h1,qag h2,if_neg (by decide),Int.natCast_mul,Int.ofNat_natAbs_of_nonpos (by omega),Int.ofNat_natAbs_of_nonpos (by omega),Int.neg_mul_neg]
 ·rw[qag h1,qae (by omega),if_pos (by decide),Int.natCast_mul,Int.ofNat_natAbs_of_nonpos (by omega),Int.natAbs_of_nonneg h2,Int.neg_mul,Int.neg_neg]
 ·rw[qae (by omega),qag h2,if_pos (by decide),Int.natCast_mul,Int.natAbs_of_nonneg h1,Int.ofNat_natAbs_of_nonpos (by omega),Int.mul_neg,Int.neg_neg]
 ·rw[qae (by omega),qae (by omega),if_neg (by decide),Int.natCast_mul,Int.natAbs_of_nonneg h1,Int.natAbs_of_nonneg h2]
theorem q9y(va vb:Value)(x y:Int)(w:World)(ha:qeg w va x)(hb:qeg w vb y)(rC:dl x.natAbs≤1000)(rB:dl y.natAbs≤1000):
  Calls Tryz.prog 77 #[va,vb] w fun e w'=>(∃v,e = .returned v∧qeg w' v (x*y))∧Below w.heap.size w w':=by
 obtain⟨pa,ka,ca,rfl,zE,fZ⟩:=ha.parts;obtain⟨pb,kb,cb,rfl,oQ,gH⟩:=hb.parts;clear zE oQ;have gD:=hid fZ;have fQ:=hid gH;have mW:=qzf x y;clear ha hb fZ gH;have HX:Hid (∃sx,decide (x<0)=sx):=hid ⟨_,rfl⟩;have Ij:Hid ((if(decide (x<0) != decide (y<0)) then -((x.natAbs*y.natAbs:Nat):Int) else((x.natAbs*y.natAbs:Nat):Int))=x*y):=hid mW;clear mW HX;generalize decide (x<0)=sx at *;generalize decide (y<0)=sy at *;have aO:=hid (qtj w sx (.slice pa ka ca) sy (.slice pb kb cb))
 have Dj:Hid (∀W,qfm w sx (.slice pa ka ca) sy (.slice pb kb cb) W→Calls Tryz.prog 123 #[.slice pa ka ca,.slice pb kb cb] W fun e w'=>(∃v',e = .returned v'∧DN w' v' (x.natAbs*y.natAbs))∧qfm w sx (.slice pa ka ca) sy (.slice pb kb cb) w'):=hid fun W hW=>qh4 hW (by
  have h:=zau _ _ _ _ W (gD.out.later hW.1) (fQ.out.later hW.1) rC rB;rw[qar _ _ qbe,qar _ _ qbe] at h
  exact h)
 have eK:Hid (∀W v,qfm w sx (.slice pa ka ca) sy (.slice pb kb cb) W→DN W v (x.natAbs*y.natAbs)→Calls Tryz.prog 122 #[.bool (sx != sy),v] W fun e w'=>(∃v',e = .returned v'∧qeg w' v' (x*y))∧qfm w sx (.slice pa ka ca) sy (.slice pb kb cb) w'):=hid fun W v hW hv=>qh4 hW (by
  have h:=qkp (sx != sy) v _ W hv;rw[qar _ _ qbe,Ij.out] at h
  exact h)
 clear rC rB;go_enter Tryz.func77,Tryz.ntmps77;go_wp2_with fail;generalize ((w.alloc (.cells #[.bool sx,.slice pa ka ca] 118)).alloc (.cells #[.bool sy,.slice pb kb cb] 118)).alloc (.cells #[.bool false,.slice none 0 0] 118)=w0 at *;have cF:Hid (qfm w sx (.slice pa ka ca) sy (.slice pb kb cb) w0.drew):=hid (aO.out.later ((qaa _ _).drew))
 go_region_held3 (fun W=>W.cell? ⟨w.heap.size,0,none⟩=some (.bool sx)∧W.cell? ⟨w.heap.size,1,none⟩=some (.slice pa ka ca)∧W.cell? ⟨w.heap.size+1,0,none⟩=some (.bool sy)∧W.cell? ⟨w.heap.size+1,1,none⟩=some (.slice pb kb cb)) (first|exact qbt eW.out|exact qbt iB.out|exact qbt cF.out|exact qfn (qfn (qbt eW.out) (by omega) (by omega) _) (by omega) (by omega) _)
  (first
   | (go_at_call 123;((with_reducible refine(Dj.out _ cF.out).mono ?_);rintro e wN ⟨⟨vN,rfl,hn⟩,ht⟩;have rE:=hid hn;have iB:=hid ht;clear hn ht))
   | (go_at_call 122;((refine(eK.out _ _ iB.out rE.out).mono ?_);rintro e wP ⟨⟨vP,rfl,hn⟩,ht⟩;obtain⟨pt,kt,ct,rfl,hk,_⟩:=hn.parts;have nX:=hid hn;have eW:=hid ht;clear hn ht hk;generalize iK:decide (x*y<0)=sg at *;clear iK;obtain⟨⟨r0,g0⟩,⟨r1,g1⟩⟩:=qrq eW.out)))
 have aF:=hid (qe5 nX.out eW.out.2.2.2);have aG:=hid (qgg eW.out.1 (show w.heap.size≤w.heap.size+1+1 by omega) (.bool sg) (.slice pt kt ct));go_wp2_with fail;refine bodyPost_ret (v := .agg #[.bool sg,.slice pt kt ct]) ?_ rfl ?_
 ·simp[results,Tryz.results77,go_sem,r0,r1]
 ·exact⟨⟨_,rfl,aF.out⟩,aG.out⟩
theorem q1z(x y:Int)(h:decide (x<0)=decide (y<0)):(if decide (x<0)=true then -((x.natAbs+y.natAbs:Nat):Int) else((x.natAbs+y.natAbs:Nat):Int))=x+y:=by
 rcases Int.lt_or_le x 0 with h1|h1
 ·have h2:y<0:=by rw[qag h1] at h;exact of_decide_eq_true h.symm
  rw[qag h1,if_pos rfl];omega
 ·have h2:¬y<0:=by rw[qae (by omega)] at h;exact of_decide_eq_false h.symm
  rw[qae (by omega),if_neg (by decide)];omega
theorem qqs(x y:Int)(h:decide (x<0)≠decide (y<0))(dS:y.natAbs≤x.natAbs):(if decide (x<0)=true then -((x.natAbs-y.natAbs:Nat):Int) else((x.natAbs-y.natAbs:Nat):Int))=x+y:=by
 rcases Int.lt_or_le x 0 with h1|h1
 ·have h2:¬y<0:=fun h2=>h (by rw[qag h1,qag h2])
  rw[qag h1,if_pos rfl];omega
 ·have h2:y<0:=by
   rcases Int.lt_or_le y 0 with h2|h2
   ·exact h2
   ·exact absurd (by rw[qae (by omega),qae (by omega)]) h
  rw[qae (by omega),if_neg (by decide)];omega
theorem zaw(va vb:Value)(x y:Int)(w:World)(ha:qeg w va x)(hb:qeg w vb y)(rC:dl x.natAbs≤1000)(rB:dl y.natAbs≤1000):
  Calls Tryz.prog 117 #[va,vb] w fun e w'=>(∃v,e = .returned v∧qeg w' v (x+y))∧Below w.heap.size w w':=by
 obtain⟨pa,ka,ca,rfl,zE,fZ⟩:=ha.parts;obtain⟨pb,kb,cb,rfl,oQ,gH⟩:=hb.parts;clear zE oQ;have gD:=hid fZ;have fQ:=hid gH;have aS:=hid (q1z x y);have Cd:=hid (qqs x y);have uA:Hid (decide (x<0)≠decide (y<0)→x.natAbs≤y.natAbs→(if decide (y<0)=true then -((y.natAbs-x.natAbs:Nat):Int) else((y.natAbs-x.natAbs:Nat):Int))=x+y):=hid fun h dS=>by rw[Int.add_comm];exact qqs y x (Ne.symm h) dS
 clear ha hb fZ gH;generalize decide (x<0)=sx at *;generalize decide (y<0)=sy at *;have aO:=hid (qtj w sx (.slice pa ka ca) sy (.slice pb kb cb))
 have eK:Hid (∀s n l W v,(if s=true then -((n:Nat):Int) else(n:Int))=x+y→qfm w sx (.slice pa ka ca) sy (.slice pb kb cb) W→Dgs W v l→val D9 l=n→Calls Tryz.prog 122 #[.bool s,v] W fun e w'=>(∃v',e = .returned v'∧qeg w' v' (x+y))∧qfm w sx (.slice pa ka ca) sy (.slice pb kb cb) w'):=hid fun s n l W v hs hW hv hl=>qh4 hW (by
  have h:=qkp s v l W hv;rw[hl,hs] at h
  exact h)
 by_cases Ex:sx=sy
 ·have sV:Hid (∀W,qfm w sx (.slice pa ka ca) sy (.slice pb kb cb) W→Calls Tryz.prog 167 #[.slice pa ka ca,.slice pb kb cb] W fun e w'=>(∃v' l',e = .returned v'∧Dgs w' v' l'∧val D9 l'=x.natAbs+y.natAbs)∧qfm w sx (.slice pa ka ca) sy (.slice pb kb cb) w'):=hid fun W hW=>qh4 hW (by
   have h:=zbd _ _ _ _ W (gD.out.later hW.1) (fQ.out.later hW.1) rC rB;rw[qar _ _ qbe,qar _ _ qbe] at h
   exact h.mono fun _ _ ⟨⟨v',l',h1,h2,h3,_⟩,h4⟩=>⟨⟨v',l',h1,h2,h3⟩,h4⟩)
  have HS:=hid (aS.out Ex);clear aS Cd uA rC rB;have Pv:(sx==sy)=true:=by rw[Ex];exact beq_self_eq_true _
  clear Ex;go_enter Tryz.func117,Tryz.ntmps117;go_wp2_with fail;generalize ((w.alloc (.cells #[.bool sx,.slice pa ka ca] 118)).alloc (.cells #[.bool sy,.slice pb kb cb] 118)).alloc (.cells #[.bool false,.slice none 0 0] 118)=w0 at *;have cF:Hid (qfm w sx (.slice pa ka ca) sy (.slice pb kb cb) w0.drew):=hid (aO.out.later ((qaa _ _).drew))
  go_region_held3 (fun W=>W.cell? ⟨w.heap.size,0,none⟩=some (.bool sx)∧W.cell? ⟨w.heap.size,1,none⟩=some (.slice pa ka ca)∧W.cell? ⟨w.heap.size+1,0,none⟩=some (.bool sy)∧W.cell? ⟨w.heap.size+1,1,none⟩=some (.slice pb kb cb)) (first|exact qbt eW.out|exact qbt iB.out|exact qbt cF.out|exact qfn (qfn (qbt eW.out) (by omega) (by omega) _) (by omega) (by omega) _)
   (first
    | (go_at_call 167;((with_reducible refine(sV.out _ cF.out).mono ?_);rintro e wN ⟨⟨vN,lN,rfl,hn,hl⟩,ht⟩;have rE:=hid hn;have mO:=hid hl;have iB:=hid ht;clear hn ht hl))
    | (go_at_call 122;((refine(eK.out sx (x.natAbs+y.natAbs) lN _ _ HS.out iB.out rE.out mO.out).mono ?_);rintro e wP ⟨⟨vP,rfl,hn⟩,ht⟩;obtain⟨pt,kt,ct,rfl,hk,_⟩:=hn.parts;have nX:=hid hn;have eW:=hid ht;clear hn ht hk;generalize iK:decide (x+y<0)=sg at *;clear iK;obtain⟨⟨r0,g0⟩,⟨r1,g1⟩⟩:=qrq eW.out)))
  have aF:=hid (qe5 nX.out eW.out.2.2.2);have aG:=hid (qgg eW.out.1 (show w.heap.size≤w.heap.size+1+1 by omega) (.bool sg) (.slice pt kt ct));go_wp2_with fail;refine bodyPost_ret (v := .agg #[.bool sg,.slice pt kt ct]) ?_ rfl ?_
  ·simp[results,Tryz.results117,go_sem,r0,r1]
  ·exact⟨⟨_,rfl,aF.out⟩,aG.out⟩
 ·have Pv:(sx==sy)=false:=qan Ex
  have tV:Hid (∀W,qfm w sx (.slice pa ka ca) sy (.slice pb kb cb) W→Calls Tryz.prog 159 #[.slice pa ka ca,.slice pb kb cb] W fun e w'=>e = .returned (.int .i64 (qer x.natAbs y.natAbs))∧qfm w sx (.slice pa ka ca) sy (.slice pb kb cb) w'):=hid fun W hW=>qh4 hW (qrm _ _ _ _ W (gD.out.later hW.1) (fQ.out.later hW.1));by_cases dS:y.natAbs≤x.natAbs
  ·have sV:Hid (∀W,qfm w sx (.slice pa ka ca) sy (.slice pb kb cb) W→Calls Tryz.prog 168 #[.slice pa ka ca,.slice pb kb cb] W fun e w'=>(∃v' l',e = .returned v'∧Dgs w' v' l'∧val D9 l'=x.natAbs-y.natAbs)∧qfm w sx (.slice pa ka ca) sy (.slice pb kb cb) w'):=hid fun W hW=>qh4 hW (by
    have h:=zbc _ _ _ _ W (gD.out.later hW.1) (fQ.out.later hW.1) dS rC
    exact h.mono fun _ _ ⟨⟨v',h1,h2⟩,h4⟩=>⟨⟨v',_,h1,h2,qar _ _ qbe⟩,h4⟩)
   have HS:=hid (Cd.out Ex dS);obtain⟨cc,fL⟩:∃cc,qer x.natAbs y.natAbs=cc:=⟨_,rfl⟩;rw[fL] at tV
   have fA:(0:Int)≤cc:=by
    rcases(show x.natAbs=y.natAbs∨y.natAbs<x.natAbs by omega) with h|h
    ·have:=qem (x:=(x.natAbs:Int)) (y:=y.natAbs) (by omega);unfold qer at fL;omega
    ·have:=qcq (x:=(x.natAbs:Int)) (y:=y.natAbs) (by omega);unfold qer at fL;omega
   clear aS Cd uA rC rB Ex dS fL;go_enter Tryz.func117,Tryz.ntmps117;go_wp2_with fail;generalize ((w.alloc (.cells #[.bool sx,.slice pa ka ca] 118)).alloc (.cells #[.bool sy,.slice pb kb cb] 118)).alloc (.cells #[.bool false,.slice none 0 0] 118)=w0 at *;refine(tV.out _ aO.out).mono ?_;rintro e w1 ⟨rfl,ht⟩;have cF:Hid (qfm w sx (.slice pa ka ca) sy (.slice pb kb cb) w1.drew):=hid (ht.later ((qaa _ _).drew));have aA:=qbt ht;clear ht;go_wp2_with fail
   go_region_held3 (fun W=>W.cell? ⟨w.heap.size,0,none⟩=some (.bool sx)∧W.cell? ⟨w.heap.size,1,none⟩=some (.slice pa ka ca)∧W.cell? ⟨w.heap.size+1,0,none⟩=some (.bool sy)∧W.cell? ⟨w.heap.size+1,1,none⟩=some (.slice pb kb cb)) (first|exact qbt eW.out|exact qbt iB.out|exact qbt cF.out|exact qfn (qfn (qbt eW.out) (by omega) (by omega) _) (by omega) (by omega) _)
    (first
     | (go_at_call 168;((with_reducible refine(sV.out _ cF.out).mono ?_);rintro e wN ⟨⟨vN,lN,rfl,hn,hl⟩,ht⟩;have rE:=hid hn;have mO:=hid hl;have iB:=hid ht;clear hn ht hl))
     | (go_at_call 122;((refine(eK.out sx (x.natAbs-y.natAbs) lN _ _ HS.out iB.out rE.out mO.out).mono ?_);rintro e wP ⟨⟨vP,rfl,hn⟩,ht⟩;obtain⟨pt,kt,ct,rfl,hk,_⟩:=hn.parts;have nX:=hid hn;have eW:=hid ht;clear hn ht hk;generalize iK:decide (x+y<0)=sg at *;clear iK;obtain⟨⟨r0,g0⟩,⟨r1,g1⟩⟩:=qrq eW.out)))
   have aF:=hid (qe5 nX.out eW.out.2.2.2);have aG:=hid (qgg eW.out.1 (show w.heap.size≤w.heap.size+1+1 by omega) (.bool sg) (.slice pt kt ct));go_wp2_with fail;refine bodyPost_ret (v := .agg #[.bool sg,.slice pt kt ct]) ?_ rfl ?_
   ·simp[results,Tryz.results117,go_sem,r0,r1]
   ·exact⟨⟨_,rfl,aF.out⟩,aG.out⟩
  ·have Ik:x.natAbs≤y.natAbs:=by omega
   have sV:Hid (∀W,qfm w sx (.slice pa ka ca) sy (.slice pb kb cb) W→Calls Tryz.prog 168 #[.slice pb kb cb,.slice pa ka ca] W fun e w'=>(∃v' l',e = .returned v'∧Dgs w' v' l'∧val D9 l'=y.natAbs-x.natAbs)∧qfm w sx (.slice pa ka ca) sy (.slice pb kb cb) w'):=hid fun W hW=>qh4 hW (by
    have h:=zbc _ _ _ _ W (fQ.out.later hW.1) (gD.out.later hW.1) Ik rB
    exact h.mono fun _ _ ⟨⟨v',h1,h2⟩,h4⟩=>⟨⟨v',_,h1,h2,qar _ _ qbe⟩,h4⟩)
   have HS:=hid (uA.out Ex Ik);obtain⟨cc,fL⟩:∃cc,qer x.natAbs y.natAbs=cc:=⟨_,rfl⟩;rw[fL] at tV
   have fA:¬(0:Int)≤cc:=by
    have:=qde (x:=(x.natAbs:Int)) (y:=y.natAbs) (by omega);unfold qer at fL;omega
   clear aS Cd uA rC rB Ex dS Ik fL;go_enter Tryz.func117,Tryz.ntmps117;go_wp2_with fail;generalize ((w.alloc (.cells #[.bool sx,.slice pa ka ca] 118)).alloc (.cells #[.bool sy,.slice pb kb cb] 118)).alloc (.cells #[.bool false,.slice none 0 0] 118)=w0 at *;refine(tV.out _ aO.out).mono ?_;rintro e w1 ⟨rfl,ht⟩;have cF:Hid (qfm w sx (.slice pa ka ca) sy (.slice pb kb cb) w1.drew):=hid (ht.later ((qaa _ _).drew));have aA:=qbt ht;clear ht;go_wp2_with fail
   go_region_held3 (fun W=>W.cell? ⟨w.heap.size,0,none⟩=some (.bool sx)∧W.cell? ⟨w.heap.size,1,none⟩=some (.slice pa ka ca)∧W.cell? ⟨w.heap.size+1,0,none⟩=some (.bool sy)∧W.cell? ⟨w.heap.size+1,1,none⟩=some (.slice pb kb cb)) (first|exact qbt eW.out|exact qbt iB.out|exact qbt cF.out|exact qfn (qfn (qbt eW.out) (by omega) (by omega) _) (by omega) (by omega) _)
    (first
     | (go_at_call 168;((with_reducible refine(sV.out _ cF.out).mono ?_);rintro e wN ⟨⟨vN,lN,rfl,hn,hl⟩,ht⟩;have rE:=hid hn;have mO:=hid hl;have iB:=hid ht;clear hn ht hl))
     | (go_at_call 122;((refine(eK.out sy (y.natAbs-x.natAbs) lN _ _ HS.out iB.out rE.out mO.out).mono ?_);rintro e wP ⟨⟨vP,rfl,hn⟩,ht⟩;obtain⟨pt,kt,ct,rfl,hk,_⟩:=hn.parts;have nX:=hid hn;have eW:=hid ht;clear hn ht hk;generalize iK:decide (x+y<0)=sg at *;clear iK;obtain⟨⟨r0,g0⟩,⟨r1,g1⟩⟩:=qrq eW.out)))
   have aF:=hid (qe5 nX.out eW.out.2.2.2);have aG:=hid (qgg eW.out.1 (show w.heap.size≤w.heap.size+1+1 by omega) (.bool sg) (.slice pt kt ct));go_wp2_with fail;refine bodyPost_ret (v := .agg #[.bool sg,.slice pt kt ct]) ?_ rfl ?_
   ·simp[results,Tryz.results117,go_sem,r0,r1]
   ·exact⟨⟨_,rfl,aF.out⟩,aG.out⟩
theorem qzg(lo:List Nat)(k m:Nat)(h:lo.length=k):val D9 (lo++[m % 1000000000])+D9^(k+1)*(m/1000000000)=val D9 lo+D9^k*m:=by
 rw[qd8,h,Nat.pow_succ,Nat.mul_assoc,Nat.add_assoc,←Nat.mul_add,qb4,Nat.mod_add_div]
theorem q64(n:Nat)(w:World)(hn:n<9223372036854775808):
  Calls Tryz.prog 79 #[.int .i64 n] w fun e w'=>(∃v,e = .returned v∧qeg w' v (n:Int))∧Below w.heap.size w w':=by
 have aO:Hid (Below w.heap.size w (w.alloc (.cells #[.bool false,.slice none 0 0] 118))):=hid (qad _ _);have qZ:=hid (qev w false (.slice none 0 0));have hni:(n:Int)≤9223372036854775807:=by omega
 have jL:=hid hn;clear hn;go_enter Tryz.func79,Tryz.ntmps79;go_wp2_with fail;generalize qI:w.alloc (.cells #[.bool false,.slice none 0 0] 118)=w0 at *;have HG:Hid (w.heap.size<w0.heap.size):=hid (by rw[←qI,qab];omega);clear qI
 go_loopw [0,3] (fun x v wr=>∃m k:Nat,∃lo:List Nat,x = .int .i64 m∧Hid (m≤n)∧Hid (lo.length=k)∧Hid (∀d ∈ lo,d<D9)∧Hid (val D9 lo+D9^k*m=n)∧Hid (wr.ownsRow w0.heap.size 3 1 v k ((zi lo).map (Value.int .i64)))∧Hid (Below w0.heap.size w0 wr)) (fun x _ _=>(intOf x).toNat)
 case atStart=>exact⟨n,0,[],rfl,hid (qac _),hid rfl,hid (by simp),hid (by simp),hid (World.ownsRow_nil _ _ _ _),hid (qaa _ _)⟩
 case round=>
  obtain⟨m,k,lo,rfl,HM,HL,kQ,HV,bE,HB⟩:=hrel;rcases qas m with e|hm
  ·subst e
   have cK:Hid (val D9 lo=n):=hid (by have:=HV.out;rw[Nat.mul_zero] at this;exact this);have xK:=hid (qi6 bE.out HL.out kQ.out);have eK:=hid (qkp false _ lo wr xK.out);rw[cK.out] at eK;have aK:Hid (Below w.heap.size w wr):=hid (aO.out.trans (HB.out.mono (by have:=HG.out;omega)));have ho:Own wr w.heap.size 2 (qkq false (.slice none 0 0)):=qZ.out.later (HB.out.mono (by have:=HG.out;omega));have HO:=hid ho;clear ho;have hz:(((0:Nat):Int) != 0)=false:=rfl;have eF:decide ((n:Int)<0)=false:=qae (by omega);go_wp2_with fail;refine eK.out.mono ?_;rintro e w1 ⟨⟨v1,rfl,h1⟩,aY⟩;obtain⟨pt,kt,ct,rfl,hk,_⟩:=h1.parts;have rU:=hid h1;have ho:Own w1 w.heap.size 2 (qkq false (.slice none 0 0)):=HO.out.later (aY.mono HO.out.1);have iI:=hid ho;have aP:=hid (aK.out.trans (aY.mono aK.out.size));obtain⟨r0,g0⟩:=ho.2 0 (by omega);obtain⟨r1,g1⟩:=ho.2 1 (by omega);clear h1 aY hk ho;generalize iK:decide ((if false=true then -(n:Int) else(n:Int))<0)=sg at *;clear iK;have aF:=hid (qe5 rU.out iI.out);have aG:=hid (qgg aP.out (qac _) (.bool sg) (.slice pt kt ct));go_wp2_with fail;refine bodyPost_ret (v := .agg #[.bool sg,.slice pt kt ct]) ?_ rfl ?_
   ·simp[results,Tryz.results79,go_sem,r0,r1]
   ·exact⟨⟨_,rfl,aF.out⟩,aG.out⟩
  ·have hk:k≤1000:=by
    rcases Nat.lt_or_ge k 3 with h|h
    ·omega
    ·exfalso
     have h1:D9^3≤D9^k:=Nat.pow_le_pow_right (by decide) h;have h2:D9^k*1≤D9^k*m:=Nat.mul_le_mul_left _ hm;have h3:=HV.out;have h4:=jL.out;have h5:D9^3=1000000000000000000000000000:=by decide
     omega
   have Kk:m<9223372036854775808:=by have h1:=HM.out;have h2:=jL.out;omega
   have hz:((m:Int) != 0)=true:=by simp;omega
   have fD:(m:Int).tmod 1000000000=((m % 1000000000:Nat):Int):=by rw[Int.tmod_eq_emod_of_nonneg (by omega)];omega
   have fP:(m:Int)/1000000000=((m/1000000000:Nat):Int):=by omega
   have nA:m % 1000000000≤999999999:=by omega
   have fF:Hid (m/1000000000≤n):=hid (by have:=HM.out;omega);have bC:m/1000000000<m:=by omega
   have kY:=hid bC;have uB:Hid ((lo++[m % 1000000000]).length=k+1):=hid (by rw[List.length_append,HL.out];rfl);have iM:Hid (∀d ∈ lo++[m % 1000000000],d<D9):=hid (qf3 kQ.out (by rw[qb4];omega));have cK:Hid (val D9 (lo++[m % 1000000000])+D9^(k+1)*(m/1000000000)=n):=hid (by rw[qzg lo k m HL.out];exact HV.out);have HZ:Hid (zi (lo++[m % 1000000000])=zi lo++[((m % 1000000000:Nat):Int)]):=hid (qh2 _ _);have hmi:(m:Int)≤9223372036854775807:=by omega
   clear bC Kk;generalize m % 1000000000=d at *;generalize hq:m/1000000000=q at *;clear hq;go_wp2_with (at_builtin;refine qhv rfl _ _ rfl w0 _ w0.heap.size k _ (zi lo) _ (by rfl) bE.out HB.out (qac _) (by rfl) (by omega) ?_);rintro v' w2 hown' hbw';have eX:Hid (w2.ownsRow w0.heap.size 3 1 v' (k+1) ((zi (lo++[d])).map (Value.int .i64))):=hid (by rw[HZ.out,List.map_append];exact hown');have cZ:=hid hbw';clear hown' hbw' bE HB;go_wp2_with fail;go_roundw
   case rel=>exact⟨q,k+1,_,rfl,fF,uB,iM,cK,eX,cZ⟩
   case measure=>simp[intOf];have:=kY.out;omega
theorem zax(a b:Nat)(w:World)(ha:a<9223372036854775808)(hb:b<9223372036854775808):
  Calls Tryz.prog 119 #[.int .i64 a,.int .i64 b] w fun e w'=>e = .returned (.int .i64 (Nat.gcd a b:Nat))∧Below w.heap.size w w':=by
 have hai:(a:Int)≤9223372036854775807:=by omega
 have hbi:(b:Int)≤9223372036854775807:=by omega
 clear ha hb;go_enter Tryz.func119,Tryz.ntmps119;go_wp2_with fail
 go_loopw [0,1] (fun u v wr=>∃x y:Nat,u = .int .i64 x∧v = .int .i64 y∧(x:Int)≤9223372036854775807∧(y:Int)≤9223372036854775807∧Hid (Nat.gcd x y=Nat.gcd a b)∧Hid (Below w.heap.size w wr)) (fun _ v _=>(intOf v).toNat)
 case atStart=>exact⟨a,b,rfl,rfl,hai,hbi,hid rfl,hid (qaa _ _)⟩
 case round=>
  obtain⟨x,y,rfl,rfl,hx,hy,HG,HB⟩:=hrel;rcases qas y with e|h
  ·subst e
   have HE:Hid (Nat.gcd a b=x):=hid (by rw[←HG.out,Nat.gcd_zero_right]);have hd:decide ((0:Int)<((0:Nat):Int))=false:=rfl;go_wp2_with fail;go_ret;exact⟨qa6 (by rw[HE.out]),HB.out⟩
  ·have hd:(0:Int)<(y:Int):=by omega
   have hz:((y:Int)==0)=false:=qan (by omega);have t3:(x:Int) % (y:Int)=((x % y:Nat):Int):=(Int.natCast_emod x y).symm;have t4:(x:Int).tmod (y:Int)=((x % y:Nat):Int):=by rw[Int.tmod_eq_emod_of_nonneg (by omega)];exact t3
   have mG:Hid (Nat.gcd y (x % y)=Nat.gcd a b):=hid (by rw[←HG.out,Nat.gcd_comm x y,Nat.gcd_rec y x,Nat.gcd_comm]);have bC:x % y<y:=Nat.mod_lt _ h;have kY:=hid bC;have hr:((x % y:Nat):Int)≤9223372036854775807:=by omega
   clear bC h;generalize x % y=r at *;go_wp2_with fail
   go_quiet (fail)
   go_wp2_with fail;go_roundw
   case rel=>exact⟨y,r,rfl,rfl,hy,hr,mG,hid (below_drewN HB.out _)⟩
   case measure=>simp[intOf];have:=kY.out;omega
def q12:Value→Nat
 | .string s=>s.size
 | _=>0
theorem q74(d:Nat)(h:d<10):((⟨#[48,49,50,51,52,53,54,55,56,57]⟩:BA).extract d (d+1)).data.toList=[dig d]:=by
 match d,h with
 | 0,_=>rfl
 | 1,_=>rfl
 | 2,_=>rfl
 | 3,_=>rfl
 | 4,_=>rfl
 | 5,_=>rfl
 | 6,_=>rfl
 | 7,_=>rfl
 | 8,_=>rfl
 | 9,_=>rfl
def qrr(n least:Nat):Nat:=max least (qfc n).length
theorem qtk{n least k:Nat}:k<qrr n least↔0<n/10^k∨k<least:=by
 unfold qrr
 have h1:0<n/10^k↔k<(qfc n).length:=by
  constructor
  ·intro h
   rcases Nat.lt_or_ge k (qfc n).length with h2|h2
   ·exact h2
   ·exfalso
    have h3:=qe2 n;have h4:10^(qfc n).length≤10^k:=Nat.pow_le_pow_right (by omega) h2;rw[Nat.div_eq_of_lt (by omega)] at h;omega
  ·intro h
   rcases qas (n/10^k) with h2|h2
   ·exfalso
    have h3:n<10^k:=by
     rcases Nat.lt_or_ge n (10^k) with h4|h4
     ·exact h4
     ·have:=Nat.div_pos h4 (Nat.pow_pos (by omega));omega
    have:=qbz k n h3;omega
   ·exact h2
 rw[h1];omega
theorem qnw(n least:Nat)(w:World)(hn:n<9223372036854775808)(hl:least≤9):
  Calls Tryz.prog 120 #[.int .i64 n,.int .i64 least] w fun e w'=>(∃t:BA,e = .returned (.string t)∧t.data.toList=(pd (qrr n least) n).reverse)∧w'=w:=by
 have hni:(n:Int)≤9223372036854775807:=by omega
 have HK:Hid (qrr n least≤100):=hid (by
  unfold qrr;have:=qbz 19 n (by omega)
  omega)
 clear hn;go_enter Tryz.func120,Tryz.ntmps120;go_wp2_with fail
 go_loopw [0,5] (fun u v wr=>∃m k:Nat,∃s:BA,u = .int .i64 m∧v = .string s∧(m:Int)≤9223372036854775807∧Hid (m=n/10^k)∧Hid (k≤qrr n least)∧s.size=k∧Hid (s.data.toList=(pd k n).reverse)∧wr=w) (fun _ v _=>qrr n least-q12 v)
 case atStart=>exact⟨n,0,⟨#[]⟩,rfl,rfl,hni,hid (by simp),hid (Nat.zero_le _),rfl,hid rfl,rfl⟩
 case round=>
  obtain⟨m,k,s,rfl,rfl,hm,HM,HKL,dG,HS,rfl⟩:=hrel;have Ad:=hid dG;have hs100:(s.size:Int)≤100:=by have h1:=HKL.out;have h2:=HK.out;omega
  by_cases hc:k<qrr n least
  ·have Kw:=hc
   rw[qtk,←HM.out] at Kw;have fD:(m:Int).tmod 10=((m % 10:Nat):Int):=by rw[Int.tmod_eq_emod_of_nonneg (by omega)];omega
   have fP:(m:Int)/10=((m/10:Nat):Int):=by omega
   have HT:=hid (q74 (m % 10) (by omega));have xK:Hid (dig (m % 10)=dig (n/10^k)):=hid (by rw[←HM.out];exact qrb (by omega));have fF:Hid (m/10=n/10^(k+1)):=hid (by rw[HM.out,Nat.div_div_eq_div_mul,Nat.pow_succ]);have hd:((m % 10:Nat):Int)≤9:=by omega
   have hq:((m/10:Nat):Int)≤9223372036854775807:=by omega
   have HC:=hid hc;have uY:m % 10<10:=Nat.mod_lt _ (by omega)
   have hslc:∀w:World,(Instr.slice 9 (.string ⟨#[48,49,50,51,52,53,54,55,56,57]⟩) (some (.int .i64 ((m % 10:Nat):Int))) (some (.int .i64 (((m % 10:Nat):Int)+1))) none).run Tryz.prog w = .ok (.string ((⟨#[48,49,50,51,52,53,54,55,56,57]⟩:BA).extract (m % 10) (m % 10+1))) w:=fun w=>
    run_slice_string w 9 _ .i64 .i64 _ _ Tryz.underlying9 (by omega) (by omega) (by show((m % 10:Nat):Int)+1≤10;omega)
   have fL:0<m∨(¬0<m∧s.size<least):=by
    rcases Kw with h|h
    ·exact .inl h
    ·rcases qas m with h2|h2
     ·exact .inr ⟨by omega,by omega⟩
     ·exact .inl h2
   clear hc Kw dG uY;generalize (⟨#[48,49,50,51,52,53,54,55,56,57]⟩:BA).extract (m % 10) (m % 10+1)=ch at *;generalize rX:m % 10=d at *;generalize Ba:m/10=q at *;have HD0:=hid (And.intro rX Ba);clear rX Ba
   have cO:Hid ((ch++s).data.toList=(pd (k+1) n).reverse):=hid (by
    rw[qux,List.reverse_append,←HS.out];have h1:=HT.out;rw[xK.out] at h1;show(ch++s).data.toList=[dig (n/10^k)]++s.data.toList
    rw[←h1];simp)
   have uN:Hid ((ch++s).size=k+1):=hid (by
    have h1:=congrArg List.length cO.out;rw[List.length_reverse,qk6] at h1
    simpa using h1)
   have HSZ3:Hid ((ch++s).size=s.size+1):=hid (by rw[uN.out,Ad.out])
   have Bj:¬9223372036854775807<ch.size+s.size:=by
    have h1:=congrArg List.length HT.out;have h2:ch.size=1:=by simpa using h1
    omega
   have nN:(q:Int)≤9223372036854775807:=hq;rcases fL with g1|⟨g1,g2⟩
   all_goals
    go_wp2_with fail;go_roundw
    case rel=>exact⟨q,k+1,ch++s,by go_num,rfl,nN,fF,hid HC.out,uN.out,cO,trivial⟩
    case measure=>show qrr n least-(ch++s).size<qrr n least-s.size;rw[uN.out];have:=HC.out;have:=Ad.out;omega
  ·have Kw:=hc
   rw[qtk,←HM.out] at Kw;have HE:Hid (qrr n least=k):=hid (by have:=HKL.out;omega);have mC:m=0:=by omega
   subst m;have g2:¬s.size<least:=by omega
   clear Kw hc dG;go_wp2_with fail;go_ret;exact⟨⟨s,rfl,by rw[HE.out];exact HS.out⟩,rfl⟩
theorem qqt:∀(k h d:Nat),0<h→d<10^k→qfc (h*10^k+d)=qfc h++(pd k d).reverse
 | 0,h,d,_,hd=>by
  have:d=0:=by simpa using hd
  subst this;simp[pd]
 | k+1,h,d,hh,hd=>by
  have hp:0<h*10^(k+1):=Nat.mul_pos hh (Nat.pow_pos (by omega))
  have e1:(h*10^(k+1)+d)/10=h*10^k+d/10:=by
   rw[Nat.pow_succ,←Nat.mul_assoc];omega
  have e2:dig (h*10^(k+1)+d)=dig d:=qrb (by rw[Nat.pow_succ,←Nat.mul_assoc];omega);rw[qdh (by omega),e1,e2,qqt k h (d/10) hh (by rw[Nat.pow_succ] at hd;omega),pd,List.reverse_cons,List.append_assoc]
theorem q65(d:Nat)(h:0<d):(pd (qrr d 1) d).reverse=qfc d:=by
 have e:qrr d 1=(qfc d).length:=by
  unfold qrr
  have:0<(qfc d).length:=by
   rw[qdh h];simp
  omega
 have key:∀k n,(qfc n).length=k→(pd k n).reverse=qfc n:=by
  intro k
  induction k with
  | zero=>intro n h;rw[List.length_eq_zero_iff.1 h];rfl
  | succ k ih=>
   intro n hn
   have qU:0<n:=by
    rcases qas n with e|e
    ·rw[e,qcw] at hn;cases hn
    ·exact e
   rw[qdh qU,List.length_append] at hn;rw[pd,List.reverse_cons,ih (n/10) (by simpa using hn),←qdh qU]
 rw[e];exact key _ d rfl
theorem q13{d:Nat}(h:d<1000000000):qrr d 9=9:=by
 unfold qrr;have:=qbz 9 d (by omega);omega
def qbh(z:Int):List UInt8:=(if z<0 then[45] else[])++qav z.natAbs
theorem q14{l:List Nat}{N:Nat}(h:l.length=N+1):qbi D9 l N=l.getD N 0:=by
 rw[qbv,qdg D9 l (N+1) (by omega)];omega
theorem q75(va:Value)(z:Int)(w:World)(ha:qeg w va z)(hl:dl z.natAbs≤1000):
  Calls Tryz.prog 78 #[va] w fun e w'=>(∃t:BA,e = .returned (.string t)∧t.data.toList=qbh z)∧Below w.heap.size w w':=by
 obtain⟨pa,ka,ca,rfl,zE,fZ⟩:=ha.parts;have dU:Hid (∀o,Below w.heap.size w (w.alloc o)):=hid fun o=>(qaa _ w).alloc (qac _) o;rcases qas ka with e|kF
 ·have hz:z.natAbs=0:=by
   rcases qas z.natAbs with h|h
   ·exact h
   ·have:=qxg.2 h;omega
  have cP:z=0:=by omega
  subst cP e;clear fZ ha hl zE hz;have rY:((((0:Nat):Int))==0)=true:=rfl;go_enter Tryz.func78,Tryz.ntmps78;go_wp2_with fail;go_ret;exact⟨⟨⟨#[48]⟩,rfl,rfl⟩,dU.out _⟩
 ·obtain⟨N,hN⟩:∃N,ka=N+1:=⟨ka-1,by omega⟩
  obtain⟨hd,p,c,he,bO,bJ,aA⟩:=fZ;have hLl:(qao D9 z.natAbs).length=N+1:=by rw[←hN];exact zE.symm
  have HV:Hid (qbi D9 (qao D9 z.natAbs) 0=z.natAbs):=hid (by rw[high_zero,qar _ _ qbe])
  have iW:(qao D9 z.natAbs).getD N 0≠0:=by
   have hne:qao D9 z.natAbs≠[]:=by intro e;rw[e] at hLl;simp at hLl
   have e1:=List.dropLast_concat_getLast hne;have h1:=qix qbe e1.symm
   have:(qao D9 z.natAbs).getD N 0=(qao D9 z.natAbs).getLast hne:=by
    rw[List.getLast_eq_getElem,qba,qat (by omega)];simp[hLl]
   rw[this];exact h1
  rw[hLl] at he aA bO
  injection he with he1 he2 he3
  subst he1 he3;rcases aA with h0|⟨b,o,rfl,aB⟩
  ·omega
  have bP:Hid (∀W,Below w.heap.size w W→∀i,i<N+1→W.cell? ⟨b,o+i,none⟩=some (.int .i64 ((qao D9 z.natAbs).getD i 0:Nat))):=hid fun W hW i hi=>by
   have h1:=aB i hi;rw[hW.cell (p:=⟨b,o+i,none⟩) (qaf w _ h1)];exact h1
  have hNb:N≤1000:=by omega
  have HZ:Hid (qav z.natAbs=qfc z.natAbs):=hid (by
   unfold qav;rw[if_neg];intro e;rw[e,qau] at hLl
   cases hLl)
  have HD:=hid hd;have HLl:=hid hLl;have Pw:=hid (Nat.pos_of_ne_zero iW)
  have Ij:Hid (decide (z<0)=true∧z<0∨decide (z<0)=false∧¬z<0):=hid (by
   rcases Int.lt_or_le z 0 with h|h
   ·exact .inl ⟨qag h,h⟩
   ·exact .inr ⟨qae (by omega),by omega⟩)
  have hni:((N:Int)+1)-1=(N:Int):=by omega
  have hni2:((N:Int)+1)-2=(N:Int)-1:=by omega
  clear hd aB iW hLl kF zE ha hl hN bO bJ;generalize qao D9 z.natAbs=l at *;generalize decide (z<0)=sx at *;have HT9:Hid (l.getD N 0<1000000000):=hid (by have:=qaz (b:=D9) (by decide) HD.out N;rw[qb4] at this;exact this);have kS:Hid (∀i,i<N+1→(w.alloc (.cells #[.bool sx,.slice (some ⟨b,o,none⟩) (N+1) ca] 118)).cell? ⟨b,o+i,none⟩=some (.int .i64 (l.getD i 0:Nat))):=hid fun i hi=>bP.out _ (dU.out _) i hi;have bU:=hid (dU.out (.cells #[.bool sx,.slice (some ⟨b,o,none⟩) (N+1) ca] 118));have aC:=kS.out N (by omega);have Px:=hid (fun W=>qnw (l.getD N 0) 1 W (by have:=HT9.out;omega) (by omega));have Di:=hid (q14 HLl.out);have rY:(((N:Int)+1)==0)=false:=qan (by omega);have Hh:=hid (q65 (l.getD N 0) Pw.out);have HP9:Hid ((qfc (l.getD N 0)).length≤9):=hid (qbz 9 _ (by have:=HT9.out;omega));generalize htp:l.getD N 0=tp at *;have eW:=hid htp;clear htp;go_enter Tryz.func78,Tryz.ntmps78;go_wp2_with fail;refine(Px.out _).mono ?_;rintro e w1 ⟨⟨t1,rfl,fI⟩,rfl⟩;rw[Hh.out] at fI;have cW:=hid fI
  have eJ:Hid (t1.size≤9):=hid (by
                      have h1:=congrArg List.length fI;have h2:t1.size=(qfc tp).length:=by simpa using h1
                      rw[h2];exact HP9.out)
  clear fI aC Px;go_wp2_with fail;have cU:∀o,(w.alloc o).cell? ⟨w.heap.size,1,none⟩=(w.alloc o).cell? ⟨w.heap.size,1,none⟩:=fun _=>rfl;clear cU
  go_loopw [3,4] (fun s i wr=>∃k:Nat,∃s':BA,k≤N∧s = .string s'∧i = .int .i64 ((k:Int)-1)∧Hid (s'.data.toList=qfc (qbi D9 l k))∧Hid (0<qbi D9 l k)∧s'.size≤9*(N+1-k)∧wr=w.alloc (.cells #[.bool sx,.slice (some ⟨b,o,none⟩) (N+1) ca] 118)) (fun _ i _=>(intOf i+1).toNat)
  case atStart=>exact⟨N,t1,qac _,rfl,by go_num,hid (by rw[Di.out];exact cW.out),hid (by rw[Di.out];exact Pw.out),by have:=eJ.out;omega,rfl⟩
  case round=>
   obtain⟨k,s,hk,rfl,rfl,HS,HH,dG,rfl⟩:=hrel;rcases k with _|j
   ·rw[HV.out] at HS
    have hni3:((0:Nat):Int)-1 = -1:=rfl;have Bj:¬9223372036854775807<1+s.size:=by omega
    rcases Ij.out with⟨h1,h2⟩|⟨h1,h2⟩
    ·subst h1
     have aX:Hid (((⟨#[45]⟩:BA)++s).data.toList=qbh z):=hid (by
      unfold qbh;rw[if_pos h2,HZ.out,←HS.out]
      simp)
     clear h2;go_wp2_with fail;go_ret;exact⟨⟨_,rfl,aX.out⟩,bU.out⟩
    ·subst h1
     have aX:Hid (s.data.toList=qbh z):=hid (by
      unfold qbh;rw[if_neg (by omega),HZ.out,←HS.out]
      simp)
     clear h2;go_wp2_with fail;go_ret;exact⟨⟨_,rfl,aX.out⟩,bU.out⟩
   ·have lA:((j+1:Nat):Int)-1=(j:Int):=by omega
    simp only[lA];have aC:=kS.out j (by omega);have nA:l.getD j 0<1000000000:=by have:=qaz (b:=D9) (by decide) HD.out j;rw[qb4] at this;exact this
    have Oz:=hid (qbv D9 l j)
    have Px:Hid (∀W,Calls Tryz.prog 120 #[.int .i64 (l.getD j 0:Nat),.int .i64 9] W fun e w'=>(∃t:BA,e = .returned (.string t)∧t.data.toList=(pd 9 (l.getD j 0)).reverse)∧w'=W):=hid fun W=>by
     have h:=qnw (l.getD j 0) 9 W (by omega) (by omega);rw[q13 nA] at h;exact h
    have HBLK:=hid (qqt 9 (qbi D9 l (j+1)) (l.getD j 0) HH.out (by omega));have HD9:Hid (l.getD j 0<1000000000):=hid nA;clear nA;generalize l.getD j 0=d at *;go_wp2_with fail;refine(Px.out _).mono ?_;rintro e w1 ⟨⟨t2,rfl,jM⟩,rfl⟩
    have cO:Hid ((s++t2).data.toList=qfc (qbi D9 l j)):=hid (by
     rw[Oz.out,Nat.add_comm,Nat.mul_comm D9];have h1:=HBLK.out;rw[show(10:Nat)^9=D9 from rfl] at h1
     rw[h1,←HS.out,←jM];simp)
    have h9:t2.size=9:=by
     have h1:=congrArg List.length jM;rw[List.length_reverse,qk6] at h1
     simpa using h1
    have Bj:¬9223372036854775807<s.size+t2.size:=by omega
    have Bu:Hid (0<qbi D9 l j):=hid (by rw[Oz.out];have:=Nat.mul_pos (show 0<D9 by decide) HH.out;omega);have Ad:Hid ((s++t2).size≤9*(N+1-j)):=hid (by rw[ByteArray.size_append];omega);clear jM aC Px;go_wp2_with fail;go_roundw
    case rel=>exact⟨j,s++t2,by omega,rfl,by go_num,cO,Bu,Ad.out,trivial⟩
    case measure=>simp[intOf]
theorem qqu(r:List UInt8)(k:Nat)(h:k≤r.length):qbb 0 r=qbb 0 (r.take (r.length-k))*10^k+qbb 0 (r.drop (r.length-k)):=by
 conv=>lhs;rw[←List.take_append_drop (r.length-k) r]
 rw[qki,qjq,List.length_drop]
 congr 3
 omega
theorem qb5{x y:BA}(h:x.data.toList=y.data.toList):x=y:=by
 obtain⟨⟨l⟩⟩:=x;obtain⟨⟨m⟩⟩:=y;simp at h;rw[h]
theorem qqv{lo:List Nat}{k a b n:Nat}(hl:lo.length=k)(h:val D9 lo+D9^k*(a*10^9+b)=n):val D9 (lo++[b])+D9^(k+1)*a=n:=by
 rw[qd8,hl,Nat.pow_succ,←h,Nat.mul_add,Nat.mul_assoc,show(10:Nat)^9=D9 from rfl,Nat.mul_comm a D9];omega
theorem qvk(s t:BA)(neg:Bool)(w:World)(hs:s.data.toList=(if neg then[45] else[])++t.data.toList)(hd:∀c ∈ t.data.toList,isD c=true)(ht:0<t.size)(dG:s.size≤10000):
  Calls Tryz.prog 108 #[.string s] w fun e w'=>(∃v,e = .returned v∧qeg w' v (if neg then -(qbb 0 t.data.toList:Int) else(qbb 0 t.data.toList:Int)))∧Below w.heap.size w w':=by
 have aE:s.size=(if neg then 1 else 0)+t.size:=by
  have h:=congrArg List.length hs;rw[List.length_append] at h;have e1:s.data.toList.length=s.size:=by simp
  have e2:t.data.toList.length=t.size:=by simp
  rw[e1,e2] at h;rw[h];cases neg<;>rfl
 have hG:0<s.size:=by omega
 have fA:((s[0]'hG).toNat:Int)=45∧neg=true∨((s[0]'hG).toNat:Int)≠45∧neg=false:=by
  have h1:s.data.toList[0]'(by simpa using hG)=s[0]'hG:=qdt s 0 hG;cases neg
  ·right
   refine⟨?_,rfl⟩;have h2:s.data.toList=t.data.toList:=hs;have h3:isD (s[0]'hG)=true:=hd _ (by rw[←h1,←h2];exact List.getElem_mem _);unfold isD at h3;have:=of_decide_eq_true h3;omega
  ·left
   refine⟨?_,rfl⟩;rw[←h1];simp only[hs];rfl
 have oG:∀h:0<s.size,((s[0]'h).toNat:Int)=((s[0]'hG).toNat:Int):=fun _=>rfl
 have nZ:Hid (neg=true→(s.extract 1 s.size)=t):=hid fun h=>by
  apply qb5;rw[Lib.extract_data,hs,if_pos h];simp;rw[List.take_of_length_le (by simp[aE,h])]
 have iB:Hid (neg=false→s=t):=hid fun h=>by
  apply qb5;rw[hs,h];rfl
 generalize ((s[0]'hG).toNat:Int)=ch at *;have aO:Hid (Below w.heap.size w (w.alloc (.cells #[.bool false,.slice none 0 0] 118))):=hid (qad _ _);have qZ:=hid (qev w false (.slice none 0 0));have HD:=hid hd;have Il:t.size≤10000:=by omega
 have cF:=hid ht;have Hw:(0:Int)<(s.size:Int):=by omega
 clear hs aE hd ht;rcases fA with⟨h1,h2⟩|⟨h1,h2⟩
 ·subst h1 h2
  have hext:=nZ.out rfl;have hb:((45:Int)==45)=true:=rfl;go_enter Tryz.func108,Tryz.ntmps108;go_wp2_with fail;generalize qI:w.alloc (.cells #[.bool false,.slice none 0 0] 118)=w0 at *;have HG:Hid (w.heap.size<w0.heap.size):=hid (by rw[←qI,qab];omega);clear qI
  go_loopw [0,4] (fun u v wr=>∃r:BA,∃k:Nat,∃lo:List Nat,u = .string r∧r.size≤10000∧k≤10000∧9*k+r.size≤10000∧Hid (0<r.size)∧Hid (lo.length=k)∧Hid (∀d ∈ lo,d<D9)∧Hid (∀c ∈ r.data.toList,isD c=true)∧Hid (val D9 lo+D9^k*qbb 0 r.data.toList=qbb 0 t.data.toList)∧Hid (wr.ownsRow w0.heap.size 3 1 v k ((zi lo).map (Value.int .i64)))∧Hid (Below w0.heap.size w0 wr)) (fun u _ _=>q12 u)
  case atStart=>exact⟨t,0,[],rfl,Il,by omega,by omega,cF,hid rfl,hid (by simp),HD,hid (by simp),hid (World.ownsRow_nil _ _ _ _),hid (qaa _ _)⟩
  case round=>
   obtain⟨r,k,lo,rfl,hr,hk,hrk,rN,HL,kQ,cH,HV,bE,HB⟩:=hrel;by_cases hc:9<r.size
   ·have HA:Hid ((r.extract (r.size-9) r.size).data.toList=r.data.toList.drop (r.data.toList.length-9)):=hid (by
     rw[Lib.extract_data,List.take_of_length_le (by simp)];simp)
    have aV:Hid ((r.extract 0 (r.size-9)).data.toList=r.data.toList.take (r.data.toList.length-9)):=hid (by
     rw[Lib.extract_from_zero];simp)
    have e9:(r.size:Int)-9=((r.size-9:Nat):Int):=by omega
    have nT:Hid ((r.extract (r.size-9) r.size).size=9):=hid (by
     have h:=congrArg List.length HA.out;rw[List.length_drop] at h;have h2:r.data.toList.length=r.size:=by simp
     have h3:(r.extract (r.size-9) r.size).data.toList.length=(r.extract (r.size-9) r.size).size:=by simp
     omega)
    have cL:Hid ((r.extract 0 (r.size-9)).size=r.size-9):=hid (by
     have h:=congrArg List.length aV.out;rw[List.length_take] at h;have h2:r.data.toList.length=r.size:=by simp
     have h3:(r.extract 0 (r.size-9)).data.toList.length=(r.extract 0 (r.size-9)).size:=by simp
     omega)
    have fO:=hid (qqu r.data.toList 9 (by simp;omega));rw[←HA.out,←aV.out] at fO;have gD:Hid (∀c ∈ (r.extract (r.size-9) r.size).data.toList,isD c=true):=hid fun c hc=>cH.out c (by rw[HA.out] at hc;exact List.mem_of_mem_drop hc);have fQ:Hid (∀c ∈ (r.extract 0 (r.size-9)).data.toList,isD c=true):=hid fun c hc=>cH.out c (by rw[aV.out] at hc;exact List.mem_of_mem_take hc);have oK:(0:Int)≤((r.size-9:Nat):Int):=by omega
    have oL:((r.size-9:Nat):Int)≤(r.size:Int):=by omega
    have hs9:r.size-9≤r.size:=by omega
    have iH:=hid (fun W=>qqq (r.extract (r.size-9) r.size) W gD.out (by rw[nT.out];omega));have mP:=hid (qfq (r.extract (r.size-9) r.size).data.toList gD.out);have uS:Hid (r.size-9<r.size):=hid (by omega);have Im:Hid (0<r.size-9):=hid (by omega);have aY:((r.size-9:Nat):Int).toNat=r.size-9:=by omega
    have h9k:9*(k+1)+(r.size-9)≤10000:=by omega
    clear HA aV;generalize hra:r.extract (r.size-9) r.size=ra at *;generalize Eo:r.extract 0 (r.size-9)=rb at *;generalize hm:r.size-9=m9 at *;generalize uZ:qbb 0 ra.data.toList=gN at *;have HM:=hid (And.intro hm uZ);clear hm uZ
    have nA:gN<1000000000:=by
     have h:=mP.out;have h2:ra.data.toList.length=9:=by have:=nT.out;simpa using this
     rw[h2] at h;exact h
    have uB:Hid ((lo++[gN]).length=k+1):=hid (by rw[List.length_append,HL.out];rfl);have iM:Hid (∀d ∈ lo++[gN],d<D9):=hid (qf3 kQ.out (by rw[qb4];exact nA));have cK:Hid (val D9 (lo++[gN])+D9^(k+1)*qbb 0 rb.data.toList=qbb 0 t.data.toList):=hid (qqv HL.out (by rw[←fO.out];exact HV.out));have HZ:Hid (zi (lo++[gN])=zi lo++[((gN:Nat):Int)]):=hid (qh2 _ _);clear HV fO mP nA;go_wp2_with fail;refine(iH.out _).mono ?_;rintro e w1 ⟨rfl,rfl⟩;go_wp2_with (at_builtin;refine qhv rfl _ _ rfl w0 _ w0.heap.size k _ (zi lo) _ (by rfl) bE.out HB.out (qac _) (by rfl) (by omega) ?_);rintro v' w2 hown' hbw';have eX:Hid (w2.ownsRow w0.heap.size 3 1 v' (k+1) ((zi (lo++[gN])).map (Value.int .i64))):=hid (by rw[HZ.out,List.map_append];exact hown');have cZ:=hid hbw';clear hown' hbw' bE HB iH;go_wp2_with fail;go_roundw
    case rel=>exact⟨rb,k+1,_,rfl,by rw[cL.out];omega,by omega,by rw[cL.out];omega,hid (by rw[cL.out];exact Im.out),uB,iM,fQ,cK,eX,cZ⟩
    case measure=>show rb.size<r.size;rw[cL.out];exact uS.out
   ·have iH:=hid (fun W=>qqq r W cH.out (by omega))
    have mP:=hid (qfq r.data.toList cH.out);have hngt:¬9<r.size:=hc;obtain⟨gN,uZ⟩:∃d,d=qbb 0 r.data.toList:=⟨_,rfl⟩
    have nA:gN<1000000000:=by
     have h:=mP.out;have h2:r.data.toList.length≤9:=by simp;omega
     have h3:=Nat.pow_le_pow_right (show 0<10 by omega) h2;omega
    have uB:Hid ((lo++[gN]).length=k+1):=hid (by rw[List.length_append,HL.out];rfl);have iM:Hid (∀d ∈ lo++[gN],d<D9):=hid (qf3 kQ.out (by rw[qb4];exact nA));have cK:Hid (val D9 (lo++[gN])=qbb 0 t.data.toList):=hid (by rw[qd8,HL.out,uZ];exact HV.out);have HZ:Hid (zi (lo++[gN])=zi lo++[((gN:Nat):Int)]):=hid (qh2 _ _);rw[←uZ] at iH
    have eK:Hid (∀W v,Dgs W v (lo++[gN])→Calls Tryz.prog 122 #[.bool true,v] W fun e w'=>(∃v,e = .returned v∧qeg w' v (if true=true then -(qbb 0 t.data.toList:Int) else(qbb 0 t.data.toList:Int)))∧Below W.heap.size W w'):=hid fun W v hv=>by
     have h:=qkp true v (lo++[gN]) W hv;rw[cK.out] at h;exact h
    clear HV mP nA uZ hc;generalize rY:(if true=true then -(qbb 0 t.data.toList:Int) else(qbb 0 t.data.toList:Int))=z at *;have HZZ:=hid rY;clear rY;go_wp2_with fail;refine(iH.out _).mono ?_;rintro e w1 ⟨rfl,rfl⟩;go_wp2_with (at_builtin;refine qhv rfl _ _ rfl w0 _ w0.heap.size k _ (zi lo) _ (by rfl) bE.out HB.out (qac _) (by rfl) (by omega) ?_);rintro v' w2 hown' hbw';have xK:Hid (Dgs w2 v' (lo++[gN])):=hid (qi6 (by rw[HZ.out,List.map_append];exact hown') uB.out iM.out);have aK:Hid (Below w.heap.size w w2):=hid (aO.out.trans (hbw'.mono (by have:=HG.out;omega)));have HO:Hid (Own w2 w.heap.size 2 (qkq false (.slice none 0 0))):=hid (qZ.out.later (hbw'.mono (by have:=HG.out;omega)));clear hown' hbw' bE HB iH;go_wp2_with fail;refine(eK.out _ _ xK.out).mono ?_;rintro e w3 ⟨⟨v3,rfl,h3⟩,cJ⟩;obtain⟨pt,kt,ct,rfl,hk3,_⟩:=h3.parts;have rU:=hid h3;have ho:Own w3 w.heap.size 2 (qkq false (.slice none 0 0)):=HO.out.later (cJ.mono HO.out.1);have iI:=hid ho;have bR:=hid (aK.out.trans (cJ.mono aK.out.size));obtain⟨r0,g0⟩:=ho.2 0 (by omega);obtain⟨r1,g1⟩:=ho.2 1 (by omega);clear h3 cJ hk3 ho;generalize iK:decide (z<0)=sg at *;clear iK;have aF:=hid (qe5 rU.out iI.out);have aG:=hid (qgg bR.out (qac _) (.bool sg) (.slice pt kt ct));go_wp2_with fail;refine bodyPost_ret (v := .agg #[.bool sg,.slice pt kt ct]) ?_ rfl ?_
    ·simp[results,Tryz.results108,go_sem,r0,r1]
    ·exact⟨⟨_,rfl,by have e:=HZZ.out;simp only[if_true,Bool.false_eq_true,if_false] at e;rw[e];exact aF.out⟩,aG.out⟩
 ·subst h2
  have jG:=iB.out rfl;have hb:(ch==45)=false:=qan h1;subst s;clear h1;go_enter Tryz.func108,Tryz.ntmps108;go_wp2_with fail;generalize qI:w.alloc (.cells #[.bool false,.slice none 0 0] 118)=w0 at *;have HG:Hid (w.heap.size<w0.heap.size):=hid (by rw[←qI,qab];omega);clear qI
  go_loopw [0,4] (fun u v wr=>∃r:BA,∃k:Nat,∃lo:List Nat,u = .string r∧r.size≤10000∧k≤10000∧9*k+r.size≤10000∧Hid (0<r.size)∧Hid (lo.length=k)∧Hid (∀d ∈ lo,d<D9)∧Hid (∀c ∈ r.data.toList,isD c=true)∧Hid (val D9 lo+D9^k*qbb 0 r.data.toList=qbb 0 t.data.toList)∧Hid (wr.ownsRow w0.heap.size 3 1 v k ((zi lo).map (Value.int .i64)))∧Hid (Below w0.heap.size w0 wr)) (fun u _ _=>q12 u)
  case atStart=>exact⟨t,0,[],rfl,Il,by omega,by omega,cF,hid rfl,hid (by simp),HD,hid (by simp),hid (World.ownsRow_nil _ _ _ _),hid (qaa _ _)⟩
  case round=>
   obtain⟨r,k,lo,rfl,hr,hk,hrk,rN,HL,kQ,cH,HV,bE,HB⟩:=hrel;by_cases hc:9<r.size
   ·have HA:Hid ((r.extract (r.size-9) r.size).data.toList=r.data.toList.drop (r.data.toList.length-9)):=hid (by
     rw[Lib.extract_data,List.take_of_length_le (by simp)];simp)
    have aV:Hid ((r.extract 0 (r.size-9)).data.toList=r.data.toList.take (r.data.toList.length-9)):=hid (by
     rw[Lib.extract_from_zero];simp)
    have e9:(r.size:Int)-9=((r.size-9:Nat):Int):=by omega
    have nT:Hid ((r.extract (r.size-9) r.size).size=9):=hid (by
     have h:=congrArg List.length HA.out;rw[List.length_drop] at h;have h2:r.data.toList.length=r.size:=by simp
     have h3:(r.extract (r.size-9) r.size).data.toList.length=(r.extract (r.size-9) r.size).size:=by simp
     omega)
    have cL:Hid ((r.extract 0 (r.size-9)).size=r.size-9):=hid (by
     have h:=congrArg List.length aV.out;rw[List.length_take] at h;have h2:r.data.toList.length=r.size:=by simp
     have h3:(r.extract 0 (r.size-9)).data.toList.length=(r.extract 0 (r.size-9)).size:=by simp
     omega)
    have fO:=hid (qqu r.data.toList 9 (by simp;omega));rw[←HA.out,←aV.out] at fO;have gD:Hid (∀c ∈ (r.extract (r.size-9) r.size).data.toList,isD c=true):=hid fun c hc=>cH.out c (by rw[HA.out] at hc;exact List.mem_of_mem_drop hc);have fQ:Hid (∀c ∈ (r.extract 0 (r.size-9)).data.toList,isD c=true):=hid fun c hc=>cH.out c (by rw[aV.out] at hc;exact List.mem_of_mem_take hc);have oK:(0:Int)≤((r.size-9:Nat):Int):=by omega
    have oL:((r.size-9:Nat):Int)≤(r.size:Int):=by omega
    have hs9:r.size-9≤r.size:=by omega
    have iH:=hid (fun W=>qqq (r.extract (r.size-9) r.size) W gD.out (by rw[nT.out];omega));have mP:=hid (qfq (r.extract (r.size-9) r.size).data.toList gD.out);have uS:Hid (r.size-9<r.size):=hid (by omega);have Im:Hid (0<r.size-9):=hid (by omega);have aY:((r.size-9:Nat):Int).toNat=r.size-9:=by omega
    have h9k:9*(k+1)+(r.size-9)≤10000:=by omega
    clear HA aV;generalize hra:r.extract (r.size-9) r.size=ra at *;generalize Eo:r.extract 0 (r.size-9)=rb at *;generalize hm:r.size-9=m9 at *;generalize uZ:qbb 0 ra.data.toList=gN at *;have HM:=hid (And.intro hm uZ);clear hm uZ
    have nA:gN<1000000000:=by
     have h:=mP.out;have h2:ra.data.toList.length=9:=by have:=nT.out;simpa using this
     rw[h2] at h;exact h
    have uB:Hid ((lo++[gN]).length=k+1):=hid (by rw[List.length_append,HL.out];rfl);have iM:Hid (∀d ∈ lo++[gN],d<D9):=hid (qf3 kQ.out (by rw[qb4];exact nA));have cK:Hid (val D9 (lo++[gN])+D9^(k+1)*qbb 0 rb.data.toList=qbb 0 t.data.toList):=hid (qqv HL.out (by rw[←fO.out];exact HV.out));have HZ:Hid (zi (lo++[gN])=zi lo++[((gN:Nat):Int)]):=hid (qh2 _ _);clear HV fO mP nA;go_wp2_with fail;refine(iH.out _).mono ?_;rintro e w1 ⟨rfl,rfl⟩;go_wp2_with (at_builtin;refine qhv rfl _ _ rfl w0 _ w0.heap.size k _ (zi lo) _ (by rfl) bE.out HB.out (qac _) (by rfl) (by omega) ?_);rintro v' w2 hown' hbw';have eX:Hid (w2.ownsRow w0.heap.size 3 1 v' (k+1) ((zi (lo++[gN])).map (Value.int .i64))):=hid (by rw[HZ.out,List.map_append];exact hown');have cZ:=hid hbw';clear hown' hbw' bE HB iH;go_wp2_with fail;go_roundw
    case rel=>exact⟨rb,k+1,_,rfl,by rw[cL.out];omega,by omega,by rw[cL.out];omega,hid (by rw[cL.out];exact Im.out),uB,iM,fQ,cK,eX,cZ⟩
    case measure=>show rb.size<r.size;rw[cL.out];exact uS.out
   ·have iH:=hid (fun W=>qqq r W cH.out (by omega))
    have mP:=hid (qfq r.data.toList cH.out);have hngt:¬9<r.size:=hc;obtain⟨gN,uZ⟩:∃d,d=qbb 0 r.data.toList:=⟨_,rfl⟩
    have nA:gN<1000000000:=by
     have h:=mP.out;have h2:r.data.toList.length≤9:=by simp;omega
     have h3:=Nat.pow_le_pow_right (show 0<10 by omega) h2;omega
    have uB:Hid ((lo++[gN]).length=k+1):=hid (by rw[List.length_append,HL.out];rfl);have iM:Hid (∀d ∈ lo++[gN],d<D9):=hid (qf3 kQ.out (by rw[qb4];exact nA));have cK:Hid (val D9 (lo++[gN])=qbb 0 t.data.toList):=hid (by rw[qd8,HL.out,uZ];exact HV.out);have HZ:Hid (zi (lo++[gN])=zi lo++[((gN:Nat):Int)]):=hid (qh2 _ _);rw[←uZ] at iH
    have eK:Hid (∀W v,Dgs W v (lo++[gN])→Calls Tryz.prog 122 #[.bool false,v] W fun e w'=>(∃v,e = .returned v∧qeg w' v (if false=true then -(qbb 0 t.data.toList:Int) else(qbb 0 t.data.toList:Int)))∧Below W.heap.size W w'):=hid fun W v hv=>by
     have h:=qkp false v (lo++[gN]) W hv;rw[cK.out] at h;exact h
    clear HV mP nA uZ hc;generalize rY:(if false=true then -(qbb 0 t.data.toList:Int) else(qbb 0 t.data.toList:Int))=z at *;have HZZ:=hid rY;clear rY;go_wp2_with fail;refine(iH.out _).mono ?_;rintro e w1 ⟨rfl,rfl⟩;go_wp2_with (at_builtin;refine qhv rfl _ _ rfl w0 _ w0.heap.size k _ (zi lo) _ (by rfl) bE.out HB.out (qac _) (by rfl) (by omega) ?_);rintro v' w2 hown' hbw';have xK:Hid (Dgs w2 v' (lo++[gN])):=hid (qi6 (by rw[HZ.out,List.map_append];exact hown') uB.out iM.out);have aK:Hid (Below w.heap.size w w2):=hid (aO.out.trans (hbw'.mono (by have:=HG.out;omega)));have HO:Hid (Own w2 w.heap.size 2 (qkq false (.slice none 0 0))):=hid (qZ.out.later (hbw'.mono (by have:=HG.out;omega)));clear hown' hbw' bE HB iH;go_wp2_with fail;refine(eK.out _ _ xK.out).mono ?_;rintro e w3 ⟨⟨v3,rfl,h3⟩,cJ⟩;obtain⟨pt,kt,ct,rfl,hk3,_⟩:=h3.parts;have rU:=hid h3;have ho:Own w3 w.heap.size 2 (qkq false (.slice none 0 0)):=HO.out.later (cJ.mono HO.out.1);have iI:=hid ho;have bR:=hid (aK.out.trans (cJ.mono aK.out.size));obtain⟨r0,g0⟩:=ho.2 0 (by omega);obtain⟨r1,g1⟩:=ho.2 1 (by omega);clear h3 cJ hk3 ho;generalize iK:decide (z<0)=sg at *;clear iK;have aF:=hid (qe5 rU.out iI.out);have aG:=hid (qgg bR.out (qac _) (.bool sg) (.slice pt kt ct));go_wp2_with fail;refine bodyPost_ret (v := .agg #[.bool sg,.slice pt kt ct]) ?_ rfl ?_
    ·simp[results,Tryz.results108,go_sem,r0,r1]
    ·exact⟨⟨_,rfl,by have e:=HZZ.out;simp only[if_true,Bool.false_eq_true,if_false] at e;rw[e];exact aF.out⟩,aG.out⟩
theorem qf8(q:Rat):qa7 q=qbh q.num++(if q.den=1 then[] else 47::qav q.den):=by unfold qa7 qbh;rfl
theorem q66(c:UInt8)(h:isD c=true):c≠47:=by
 intro e;subst e;revert h;decide
theorem qml(z:Int):∀c ∈ qbh z,c≠47:=by
 intro c hc;unfold qbh at hc;rcases List.mem_append.1 hc with h|h
 ·split at h
  ·rw[List.mem_singleton.1 h];decide
  ·cases h
 ·exact q66 c (qep _ c h)
theorem qcc(n:Nat):qbh (n:Int)=qav n:=by
 unfold qbh;rw[if_neg (by omega),Int.natAbs_natCast];rfl
theorem qqw(l r:List UInt8)(h:∀c ∈ l,c≠47):sl (l++47::r)=l.length:=by
 unfold sl
 induction l with
 | nil=>rw[List.nil_append,List.findIdx_cons];rfl
 | cons a l ih=>
  have ha:(a==47)=false:=by simpa using h a (by simp)
  rw[List.cons_append,List.findIdx_cons,ha,ih (fun c hc=>h c (by simp[hc]))];rfl
theorem qvl(z:Int):0<(qbh z).length:=by
 unfold qbh;have:=List.length_pos_iff.2 (qgt z.natAbs);rw[List.length_append];omega
theorem qvm(s:BA)(z:Int)(w:World)(hs:s.data.toList=qbh z)(dG:s.size≤10000):
  Calls Tryz.prog 108 #[.string s] w fun e w'=>(∃v,e = .returned v∧qeg w' v z)∧Below w.heap.size w w':=by
 have h:=qvk s ⟨(qav z.natAbs).toArray⟩ (decide (z<0)) w (by
  rw[hs];unfold qbh;rcases Int.lt_or_le z 0 with h|h
  ·rw[if_pos h,qag h];rfl
  ·rw[if_neg (by omega),qae (by omega)];rfl) (fun c hc=>qep _ c hc) (by
  have:=List.length_pos_iff.2 (qgt z.natAbs)
  simpa [ByteArray.size] using this) dG
 have e:(if decide (z<0)=true then -(qbb 0 (⟨(qav z.natAbs).toArray⟩:BA).data.toList:Int) else(qbb 0 (⟨(qav z.natAbs).toArray⟩:BA).data.toList:Int))=z:=by
  show(if decide (z<0)=true then -(qbb 0 (qav z.natAbs):Int) else(qbb 0 (qav z.natAbs):Int))=z;rw[qdd];rcases Int.lt_or_le z 0 with h|h
  ·rw[qag h,if_pos rfl];omega
  ·rw[qae (by omega),if_neg (by decide)];omega
 rw[e] at h;exact h
def qna(w W:World):Prop:=Below w.heap.size w W∧Own W w.heap.size 2 (qkq false (.slice none 0 0))∧Own W (w.heap.size+1) 2 (qkq false (.slice none 0 0))
theorem qna.later{w W W':World}(h:qna w W)(hb:Below W.heap.size W W'):qna w W':=by
 obtain⟨h1,h2,h3⟩:=h;have:=h3.1;exact⟨h1.trans (hb.mono h1.size),h2.later (hb.mono (by omega)),h3.later (hb.mono (by omega))⟩
theorem qtl(w:World):qna w ((w.alloc (.cells #[.bool false,.slice none 0 0] 118)).alloc (.cells #[.bool false,.slice none 0 0] 118)):=by
 have h1:=qev w false (.slice none 0 0);have h2:=qev (w.alloc (.cells #[.bool false,.slice none 0 0] 118)) false (.slice none 0 0);rw[qab] at h2;exact⟨(qad _ _).alloc (by rw[qab];omega) _,qi9 h1 _,h2⟩
theorem qlh{w W:World}(h:qna w W){s1 s2:Bool}{t1 t2:Value}{z1 z2:Int}(h1:qeg W (.agg #[.bool s1,t1]) z1)(h2:qeg W (.agg #[.bool s2,t2]) z2):
  let W':=(((W.setCell ⟨w.heap.size,0,none⟩ (.bool s1)).setCell ⟨w.heap.size,1,none⟩ t1).setCell ⟨w.heap.size+1,0,none⟩ (.bool s2)).setCell ⟨w.heap.size+1,1,none⟩ t2
  qeg W' (.agg #[.bool s1,t1]) z1∧qeg W' (.agg #[.bool s2,t2]) z2∧Below w.heap.size w W':=by
 obtain⟨hb,o1,o2⟩:=h;have k:∀(V:World) (g i g' j:Nat) (x:Value),(g,i)≠(g',j)→(V.setCell ⟨g,i,none⟩ x).cell? ⟨g',j,none⟩=V.cell? ⟨g',j,none⟩:=fun V g i g' j x hne=>World.cell?_setCell_other _ _ _ _ (by intro e;injection e with e1 e2;exact hne (by rw[e1,e2]))
 have key:∀v n,DN W v n→DN ((((W.setCell ⟨w.heap.size,0,none⟩ (.bool s1)).setCell ⟨w.heap.size,1,none⟩ t1).setCell ⟨w.heap.size+1,0,none⟩ (.bool s2)).setCell ⟨w.heap.size+1,1,none⟩ t2) v n:=by
  intro v n hv;refine(((hv.setOther (o1.2 0 (by omega)).1 (by intro k z h;cases h)).setOther (u := .slice none 0 0) ?_ (by intro k z h;cases h)).setOther (u := .bool false) ?_ (by intro k z h;cases h)).setOther (u := .slice none 0 0) ?_ (by intro k z h;cases h)
  ·rw[k _ _ _ _ _ _ (by simp)];exact(o1.2 1 (by omega)).1
  ·rw[k _ _ _ _ _ _ (by simp),k _ _ _ _ _ _ (by simp)];exact(o2.2 0 (by omega)).1
  ·rw[k _ _ _ _ _ _ (by simp),k _ _ _ _ _ _ (by simp),k _ _ _ _ _ _ (by simp)];exact(o2.2 1 (by omega)).1
 obtain⟨v1,e1,d1⟩:=h1;obtain⟨v2,e2,d2⟩:=h2;exact⟨⟨v1,e1,key _ _ d1⟩,⟨v2,e2,key _ _ d2⟩,(((hb.setCell (p:=⟨w.heap.size,0,none⟩) (qac _) _).setCell (p:=⟨w.heap.size,1,none⟩) (qac _) _).setCell (p:=⟨w.heap.size+1,0,none⟩) (show w.heap.size≤w.heap.size+1 by omega) _).setCell (p:=⟨w.heap.size+1,1,none⟩) (show w.heap.size≤w.heap.size+1 by omega) _⟩
theorem qjx(a:BA)(z:Int)(D:Nat)(h:a.data.toList=qbh z++(if D=1 then[] else 47::qav D)):
  (D=1→sl a.data.toList=a.size∧a.data.toList=qbh z)∧
  (D≠1→sl a.data.toList+1≤a.size∧(a.extract 0 (sl a.data.toList)).data.toList=qbh z∧(a.extract (sl a.data.toList+1) a.size).data.toList=qbh (D:Int)):=by
 constructor
 ·intro hd
  rw[if_pos hd,List.append_nil] at h;refine⟨?_,h⟩;rw[h,qvj (qml _),←h];simp
 ·intro hd
  rw[if_neg hd] at h;have hs:sl a.data.toList=(qbh z).length:=by rw[h];exact qqw _ _ (qml _)
  have aE:a.size=(qbh z).length+(1+(qav D).length):=by
   have h1:=congrArg List.length h;rw[List.length_append,List.length_cons] at h1;have h2:a.data.toList.length=a.size:=by simp
   omega
  refine⟨by omega, ?_, ?_⟩
  ·rw[Lib.extract_from_zero,hs,h,List.take_left]
  ·rw[Lib.extract_data,hs,h,qcc,List.take_of_length_le (by simp;omega)]
   rw[show(qbh z).length+1=(qbh z++[47]).length by simp,show qbh z++47::qav D=(qbh z++[47])++qav D by simp,List.drop_left]
theorem q15(a:BA)(z:Int)(D:Nat)(w:World)(h:a.data.toList=qbh z++(if D=1 then[] else 47::qav D))(dG:a.size≤5000):
  Calls Tryz.prog 64 #[.string a] w fun e w'=>(∃v1 v2,e = .returned (.tuple #[v1,v2])∧qeg w' v1 z∧qeg w' v2 (D:Int))∧Below w.heap.size w w':=by
 obtain⟨xJ,Am⟩:=qjx a z D h;have aU:=hid (fun W=>qqr a W (by omega));have Py:sl a.data.toList≤a.size:=by have:=q5p a.data.toList;simpa using this
 have aO:=hid (qtl w);clear h;by_cases hd:D=1
 ·obtain⟨h1,h2⟩:=xJ hd
  rw[h1] at aU;have Pz:=hid hd;have HPZ:Hid (∀W,Calls Tryz.prog 108 #[.string a] W fun e w'=>(∃v,e = .returned v∧qeg w' v z)∧Below W.heap.size W w'):=hid fun W=>qvm a z W h2 (by omega);have vI:=hid (fun W=>q64 1 W (by omega));clear xJ Am h1 h2 hd Py;have Pv:((a.size:Int)==(a.size:Int))=true:=beq_self_eq_true _;go_enter Tryz.func64,Tryz.ntmps64;go_wp2_with fail;generalize (w.alloc (.cells #[.bool false,.slice none 0 0] 118)).alloc (.cells #[.bool false,.slice none 0 0] 118)=w0 at *;refine(aU.out _).mono ?_;rintro e w1 ⟨rfl,rfl⟩;go_wp2_with fail;refine(HPZ.out _).mono ?_;rintro e w2 ⟨⟨v1,rfl,h1⟩,aY⟩;have cW:Hid (qna w w2):=hid (aO.out.later aY);have gE:=hid h1;clear h1 aY;go_wp2_with fail;refine(vI.out _).mono ?_;rintro e w3 ⟨⟨v2,rfl,h2⟩,aR⟩;have ht:=cW.out.later aR;have lM:=gE.out.later aR;obtain⟨p1,k1,c1,rfl,lA,_⟩:=lM.parts;obtain⟨p2,k2,c2,rfl,nB,_⟩:=h2.parts;have aF:=hid (qlh ht lM h2);obtain⟨r0,g0⟩:=ht.2.1.2 0 (by omega);obtain⟨r1,g1⟩:=ht.2.1.2 1 (by omega);obtain⟨r2,g2⟩:=ht.2.2.2 0 (by omega);obtain⟨r3,g3⟩:=ht.2.2.2 1 (by omega);have qF:Hid (((1:Nat):Int)=(D:Int)):=hid (by rw[Pz.out]);clear h2 aR ht lM lA nB cW gE;generalize decide (z<0)=s1 at *;generalize decide (((1:Nat):Int)<0)=s2 at *;go_wp2_with fail;refine bodyPost_ret (v := .tuple #[.agg #[.bool s1,.slice p1 k1 c1],.agg #[.bool s2,.slice p2 k2 c2]]) ?_ rfl ?_
  ·simp[results,Tryz.results64,go_sem,r0,r1,r2,r3]
  ·exact⟨⟨_,_,rfl,aF.out.1,by rw[←qF.out];exact aF.out.2.1⟩,aF.out.2.2⟩
 ·obtain⟨h1,h2,h3⟩:=Am hd
  obtain⟨K,hK⟩:∃K,K=sl a.data.toList:=⟨_,rfl⟩;rw[←hK] at aU h1 h2 h3;have An:Hid (∀W,Calls Tryz.prog 108 #[.string (a.extract 0 K)] W fun e w'=>(∃v,e = .returned v∧qeg w' v z)∧Below W.heap.size W w'):=hid fun W=>qvm _ z W h2 (by rw[ByteArray.size_extract];omega);have xE:Hid (∀W,Calls Tryz.prog 108 #[.string (a.extract (K+1) a.size)] W fun e w'=>(∃v,e = .returned v∧qeg w' v (D:Int))∧Below W.heap.size W w'):=hid fun W=>qvm _ _ W h3 (by rw[ByteArray.size_extract];omega);have Pv:((K:Int)==(a.size:Int))=false:=qan (by omega);have hKi:(K:Int)+1≤(a.size:Int):=by omega
  have hKn:K+1≤a.size:=h1;have hK0:(0:Int)≤(K:Int)+1:=by omega
  have hKb:(K:Int)≤5000:=by omega
  have hKw:IntKind.i64.wrap ((K:Int)+1)=(K:Int)+1:=by rw[IntKind.wrap_i64];omega
  have hKl:K≤a.size:=by omega
  have hKlt:K<a.size:=by omega
  have hKt:((K:Int)+1).toNat=K+1:=by omega
  have dL:∀W:World,(Instr.slice 9 (.string a) none (some (.int .i64 (K:Int))) none).run Tryz.prog W = .ok (.string (a.extract 0 K)) W:=fun W=>run_slice_string_h W 9 a Tryz.underlying9 .i64 (K:Int) (by omega) (by omega)
  have fN:∀W:World,(Instr.slice 9 (.string a) (some (.int .i64 ((K:Int)+1))) none none).run Tryz.prog W = .ok (.string (a.extract (K+1) a.size)) W:=fun W=>by
   have h:=run_slice_string_l W 9 a Tryz.underlying9 .i64 ((K:Int)+1) (by omega) (by omega);rw[hKt] at h;exact h
  clear xJ Am h1 h2 h3 hd Py hK;go_enter Tryz.func64,Tryz.ntmps64;go_wp2_with fail;generalize (w.alloc (.cells #[.bool false,.slice none 0 0] 118)).alloc (.cells #[.bool false,.slice none 0 0] 118)=w0 at *;refine(aU.out _).mono ?_;rintro e w1 ⟨rfl,rfl⟩;go_wp2_with fail;have nZ:Hid (qna w w1.drew):=hid (aO.out.later ((qaa _ _).drew));have Af:Hid (w.heap.size≤w1.drew.heap.size):=hid nZ.out.1.size
  go_region_held3 (fun W=>w.heap.size≤W.heap.size) (first|exact cO.out|exact eJ.out|exact Af.out|(have hz:=cO.out;simpa using hz))
   (first
    | (go_at_call 108;first
      | ((with_reducible refine(An.out _).mono ?_);rintro e w2 ⟨⟨v1,rfl,h1⟩,aY⟩;have cW:Hid (qna w w2):=hid (nZ.out.later aY);have eJ:Hid (w.heap.size≤w2.heap.size):=hid cW.out.1.size;have gE:=hid h1;clear h1 aY)
      | ((with_reducible refine(xE.out _).mono ?_);rintro e w3 ⟨⟨v2,rfl,h2⟩,aR⟩;have ht:=cW.out.later aR;have lM:=gE.out.later aR;obtain⟨p1,k1,c1,rfl,lA,_⟩:=lM.parts;obtain⟨p2,k2,c2,rfl,nB,_⟩:=h2.parts;have aF:=hid (qlh ht lM h2);have cO:Hid (w.heap.size≤w3.heap.size):=hid ht.1.size;obtain⟨r0,g0⟩:=ht.2.1.2 0 (by omega);obtain⟨r1,g1⟩:=ht.2.1.2 1 (by omega);obtain⟨r2,g2⟩:=ht.2.2.2 0 (by omega);obtain⟨r3,g3⟩:=ht.2.2.2 1 (by omega);clear h2 aR ht lM lA nB cW gE;generalize decide (z<0)=s1 at *;generalize decide ((D:Int)<0)=s2 at *)))
  go_wp2_with fail;refine bodyPost_ret (v := .tuple #[.agg #[.bool s1,.slice p1 k1 c1],.agg #[.bool s2,.slice p2 k2 c2]]) ?_ rfl ?_
  ·simp[results,Tryz.results64,go_sem,r0,r1,r2,r3]
  ·exact⟨⟨_,_,rfl,aF.out.1,aF.out.2.1⟩,aF.out.2.2⟩
theorem q9z(a:BA)(q:Rat)(w:World)(h:a.data.toList=qa7 q)(dG:a.size≤5000):
  Calls Tryz.prog 64 #[.string a] w fun e w'=>(∃v1 v2,e = .returned (.tuple #[v1,v2])∧qeg w' v1 q.num∧qeg w' v2 (q.den:Int))∧Below w.heap.size w w':=
 q15 a q.num q.den w (by rw[h,qf8]) dG
theorem qmm(z:Int)(d:Nat)(hd:0<d):(mkRat z d).num=(if decide (z<0)=true then -((z.natAbs/Nat.gcd z.natAbs d:Nat):Int) else((z.natAbs/Nat.gcd z.natAbs d:Nat):Int))∧(mkRat z d).den=d/Nat.gcd z.natAbs d:=by
 have rL:0<Nat.gcd z.natAbs d:=Nat.gcd_pos_of_pos_right _ hd;obtain⟨n,h1,h2,h3⟩:=qfy z (Nat.gcd z.natAbs d) rL (Nat.gcd_dvd_left _ _);have hD:d/Nat.gcd z.natAbs d*Nat.gcd z.natAbs d=d:=Nat.div_mul_cancel (Nat.gcd_dvd_right _ _)
 have Kx:d/Nat.gcd z.natAbs d≠0:=by
  have:0<d/Nat.gcd z.natAbs d:=Nat.div_pos (Nat.le_of_dvd hd (Nat.gcd_dvd_right _ _)) rL;omega
 have qK:n.natAbs.Coprime (d/Nat.gcd z.natAbs d):=by
  rw[h2];exact Nat.coprime_div_gcd_div_gcd rL
 have hq:mkRat z d=mkRat n (d/Nat.gcd z.natAbs d):=by
  refine(Rat.mkRat_eq_iff (by omega) Kx).2 ?_
  conv=>lhs;rw[←h1]
  conv=>rhs;rw[←hD]
  rw[Int.natCast_mul]
  grind
 obtain⟨e1,e2⟩:=ql3 _ n _ Kx qK hq;rw[e1,e2];refine⟨?_,rfl⟩;rw[←h2];rcases Int.lt_or_le z 0 with h|h
 ·have:=h3.2 h
  rw[qag h,if_pos rfl];omega
 ·have:¬n<0:=fun e=>by have:=h3.1 e;omega
  rw[qae (by omega),if_neg (by decide)];omega
def qvn(w:World)(na:Bool)(ta:Value)(nb:Bool)(tb:Value)(W:World):Prop:=
 Below w.heap.size w W∧Own W w.heap.size 2 (qkq na ta)∧Own W (w.heap.size+1) 2 (qkq nb tb)
theorem qvn.later{w:World}{na nb:Bool}{ta tb:Value}{W W':World}(h:qvn w na ta nb tb W)(hb:Below W.heap.size W W'):qvn w na ta nb tb W':=by
 obtain⟨h1,h2,h3⟩:=h;have:=h3.1;exact⟨h1.trans (hb.mono h1.size),h2.later (hb.mono (by omega)),h3.later (hb.mono (by omega))⟩
theorem qow(w:World)(na:Bool)(ta:Value)(nb:Bool)(tb:Value):
  qvn w na ta nb tb ((w.alloc (.cells #[.bool na,ta] 118)).alloc (.cells #[.bool nb,tb] 118)):=by
 have h1:=qev w na ta;have h2:=qev (w.alloc (.cells #[.bool na,ta] 118)) nb tb;rw[qab] at h2;exact⟨(qad _ _).alloc (by rw[qab];omega) _,qi9 h1 _,h2⟩
theorem qb7{w:World}{na nb:Bool}{ta tb:Value}{W:World}(h:qvn w na ta nb tb W):
  W.cell? ⟨w.heap.size,0,none⟩=some (.bool na)∧W.cell? ⟨w.heap.size,1,none⟩=some ta∧W.cell? ⟨w.heap.size+1,0,none⟩=some (.bool nb)∧W.cell? ⟨w.heap.size+1,1,none⟩=some tb:=
 ⟨(h.2.1.2 0 (by omega)).1,(h.2.1.2 1 (by omega)).1,(h.2.2.2 0 (by omega)).1,(h.2.2.2 1 (by omega)).1⟩
def qox(w:World)(na:Bool)(ta:Value)(nb:Bool)(tb:Value)(m n:Nat)(W:World):Prop:=qvn w na ta nb tb W∧DN W ta m∧DN W tb n
theorem qox.later{w:World}{na nb:Bool}{ta tb:Value}{m n:Nat}{W W':World}(h:qox w na ta nb tb m n W)(hb:Below W.heap.size W W'):qox w na ta nb tb m n W':=⟨h.1.later hb,h.2.1.later hb,h.2.2.later hb⟩
theorem q16{n k:Nat}(h:dl n≤k):(qfc n).length≤9*k:=by
 refine qbz (9*k) n ?_;have h2:=qcj D9 n qbe;have h3:D9^(qao D9 n).length≤D9^k:=Nat.pow_le_pow_right (by decide) h;have h4:D9^k=10^(9*k):=by rw[Nat.pow_mul];rfl
 rw[←h4];exact Nat.lt_of_lt_of_le h2 h3
theorem qoy{z:Int}(h:dl z.natAbs≤900):(qbh z).length≤10000:=by
 unfold qbh
 have h5:(qav z.natAbs).length≤8101:=by
  unfold qav;split
  ·simp
  ·exact Nat.le_trans (q16 h) (by omega)
 rw[List.length_append];have h6:(if z<0 then([45]:List UInt8) else[]).length≤1:=by split<;>simp
 omega
theorem qrs(va vb:Value)(x:Int)(D0:Nat)(w:World)(ha:qeg w va x)(hb:qeg w vb (D0:Int))(Kx:0<D0)(rC:dl x.natAbs≤900)(rB:dl D0≤900):
  Calls Tryz.prog 76 #[va,vb] w fun e w'=>(∃t:BA,e = .returned (.string t)∧t.data.toList=qa7 (mkRat x D0))∧Below w.heap.size w w':=by
 obtain⟨pa,ka,ca,rfl,zE,fZ⟩:=ha.parts;obtain⟨pb,kb,cb,rfl,oQ,gH⟩:=hb.parts;clear zE oQ;rw[Int.natAbs_natCast] at gH;have hsb:decide ((D0:Int)<0)=false:=qae (by omega);rw[hsb];have gD:=hid fZ;have fQ:=hid gH;have lB:=hid rC;have mK:=hid rB;clear ha hb fZ gH hsb rC rB;have HFP:=qmm x D0 Kx;have gW:=hid HFP.1;obtain⟨D,hDD⟩:∃D,D=D0/Nat.gcd x.natAbs D0:=⟨_,rfl⟩;have Qa:Hid ((mkRat x D0).den=D):=hid (by rw[HFP.2,hDD]);have Ey:Hid (0<Nat.gcd x.natAbs D0):=hid (Nat.gcd_pos_of_pos_right _ Kx);have qV:Hid (dl D≤900):=hid (Nat.le_trans (qvi (by rw[hDD];exact Nat.div_le_self _ _)) mK.out);have iA:Hid (dl (x.natAbs/Nat.gcd x.natAbs D0)≤900):=hid (Nat.le_trans (qvi (Nat.div_le_self _ _)) lB.out)
 have aW:Hid ((qbh (mkRat x D0).num).length≤10000):=hid (by
  have h1:(mkRat x D0).num.natAbs=x.natAbs/Nat.gcd x.natAbs D0:=by
   rw[gW.out];split<;>simp only[Int.natAbs_neg,Int.natAbs_natCast]
  exact qoy (by rw[h1];exact iA.out))
 have cE:Hid ((qbh (D:Int)).length≤10000):=hid (qoy (by rw[Int.natAbs_natCast];exact qV.out))
 have Qb:Hid (∀W,qox w (decide (x<0)) (.slice pa ka ca) false (.slice pb kb cb) x.natAbs D0 W→Calls Tryz.prog 65 #[(.slice pa ka ca),(.slice pb kb cb)] W fun e w'=>(∃v',e = .returned v'∧DN w' v' (Nat.gcd x.natAbs D0))∧qox w (decide (x<0)) (.slice pa ka ca) false (.slice pb kb cb) x.natAbs D0 w'):=hid fun W hW=>
  (q1y _ _ _ _ W hW.2.1 hW.2.2 lB.out mK.out).mono fun _ _ ⟨h1,h2⟩=>⟨h1,hW.later h2⟩
 have Ez:Hid (∀W v,qox w (decide (x<0)) (.slice pa ka ca) false (.slice pb kb cb) x.natAbs D0 W→DN W v (Nat.gcd x.natAbs D0)→Calls Tryz.prog 109 #[(.slice pa ka ca),v] W fun e w'=>(∃vq vr,e = .returned (.tuple #[vq,vr])∧DN w' vq (x.natAbs/Nat.gcd x.natAbs D0)∧DN w' vr (x.natAbs % Nat.gcd x.natAbs D0))∧DN w' v (Nat.gcd x.natAbs D0)∧qox w (decide (x<0)) (.slice pa ka ca) false (.slice pb kb cb) x.natAbs D0 w'):=hid fun W v hW hv=>
  (qrp _ _ _ _ W hW.2.1 hv Ey.out lB.out).mono fun _ _ ⟨h1,h2⟩=>⟨h1,hv.later h2,hW.later h2⟩
 have Fa:Hid (∀W v,qox w (decide (x<0)) (.slice pa ka ca) false (.slice pb kb cb) x.natAbs D0 W→DN W v (Nat.gcd x.natAbs D0)→Calls Tryz.prog 109 #[(.slice pb kb cb),v] W fun e w'=>(∃vq vr,e = .returned (.tuple #[vq,vr])∧DN w' vq D∧DN w' vr (D0 % Nat.gcd x.natAbs D0))∧Below W.heap.size W w'∧qox w (decide (x<0)) (.slice pa ka ca) false (.slice pb kb cb) x.natAbs D0 w'):=hid fun W v hW hv=>
  (qrp _ _ _ _ W hW.2.2 hv Ey.out mK.out).mono fun _ _ ⟨⟨vq,vr,h0,h1,h3⟩,h2⟩=>⟨⟨vq,vr,h0,by rw[hDD];exact h1,h3⟩,h2,hW.later h2⟩
 have eK:Hid (∀W v,qox w (decide (x<0)) (.slice pa ka ca) false (.slice pb kb cb) x.natAbs D0 W→DN W v (x.natAbs/Nat.gcd x.natAbs D0)→Calls Tryz.prog 122 #[.bool (decide (x<0)),v] W fun e w'=>(∃v,e = .returned v∧qeg w' v (mkRat x D0).num)∧Below W.heap.size W w'):=hid fun W v hW hv=>by
  have h:=qkp (decide (x<0)) v _ W hv;rw[qar _ _ qbe] at h;rw[gW.out];exact h
 have iV:Hid (∀W v,qeg W v (mkRat x D0).num→Calls Tryz.prog 78 #[v] W fun e w'=>(∃t:BA,e = .returned (.string t)∧t.data.toList=qbh (mkRat x D0).num)∧Below W.heap.size W w'):=hid fun W v hv=>q75 v _ W hv (by
  have h1:(mkRat x D0).num.natAbs=x.natAbs/Nat.gcd x.natAbs D0:=by
   rw[gW.out];split<;>simp only[Int.natAbs_neg,Int.natAbs_natCast]
  rw[h1];have:=iA.out;omega)
 clear HFP hDD Kx;generalize decide (x<0)=sx at *;have aO:=hid (qow w sx (.slice pa ka ca) false (.slice pb kb cb));have HP:Hid (qox w sx (.slice pa ka ca) false (.slice pb kb cb) x.natAbs D0 ((w.alloc (.cells #[.bool sx,.slice pa ka ca] 118)).alloc (.cells #[.bool false,.slice pb kb cb] 118))):=hid ⟨aO.out,gD.out.later aO.out.1,fQ.out.later aO.out.1⟩;have Ce:=qb7 HP.out.1;go_enter Tryz.func76,Tryz.ntmps76;go_wp2_with fail;clear Ce;refine(Qb.out _ HP.out).mono ?_;rintro e w2 ⟨⟨vg,rfl,hg⟩,hp⟩;have HG:=hid hg;have xD:=hid hp;have aA:=qb7 hp.1;clear hg hp Qb;go_wp2_with fail;refine(Ez.out _ _ xD.out HG.out).mono ?_;rintro e w3 ⟨⟨vp,vpr,rfl,hq,_⟩,hg,hp⟩;have lI:=hid hq;have HG3:=hid hg;have Hj:=hid hp;clear aA;have aA:=qb7 hp.1;clear hq hg hp Ez xD HG;go_wp2_with fail;refine(Fa.out _ _ Hj.out HG3.out).mono ?_;rintro e w4 ⟨⟨vq,vqr,rfl,hq,_⟩,hb,hp⟩;have kW:=hid hq;have Qc:=hid (lI.out.later hb);have Bv:=hid hp;clear aA;have aA:=qb7 hp.1;clear hq hb hp Fa Hj HG3 lI;go_wp2_with fail;refine(eK.out _ _ Bv.out Qc.out).mono ?_;rintro e w5 ⟨⟨vs,rfl,hs⟩,hb⟩;have Dz:=hid hs;have HQ5:=hid (kW.out.later hb);have nC:=hid (Bv.out.1.1.trans (hb.mono Bv.out.1.1.size));clear hs hb aA eK Qc kW Bv;go_wp2_with fail;refine(iV.out _ _ Dz.out).mono ?_;rintro e w6 ⟨⟨t1,rfl,fI⟩,hb⟩;have cW:=hid fI;have Ky:=HQ5.out.later hb;have oM:=hid (nC.out.trans (hb.mono nC.out.size));obtain⟨p6,k6,c6,rfl,hk6⟩:=qgw Ky;have HQ6:=hid Ky
 have eJ:Hid (t1.size≤10000):=hid (by
  have h:=congrArg List.length fI;have h2:t1.data.toList.length=t1.size:=by simp
  rw[←h2,h];exact aW.out)
 clear fI hb Dz HQ5 nC iV;have Qd:¬9223372036854775807<t1.size+1:=by have:=eJ.out;omega
 by_cases hD:D=1
 ·have uY:qao D9 D=[1]:=by rw[hD];exact qfl (by omega) (by decide)
  have lA:k6=1:=by rw[hk6];unfold dl;rw[uY];rfl
  have aC:∃b o,p6=some ⟨b,o,none⟩∧w6.cell? ⟨b,o,none⟩=some (.int .i64 1):=by
   obtain⟨_,p',c',he,_,_,hc⟩:=Ky;rw[uY] at he hc;cases he
   rcases hc with h0|⟨b,o,h1,h2⟩
   ·cases h0
   ·exact⟨b,o,h1,by have:=h2 0 (by simp);unfold dv at this;simpa using this⟩
  obtain⟨b,o,rfl,aC⟩:=aC;have aX:Hid (t1.data.toList=qa7 (mkRat x D0)):=hid (by rw[qf8,Qa.out,if_pos hD,List.append_nil];exact cW.out);clear Ky hk6 uY;subst lA;have g1:(((1:Nat):Int)==1)=true:=rfl;go_wp2_with fail;go_ret;exact⟨⟨_,rfl,aX.out⟩,oM.out⟩
 ·have hS2:Hid (∀W,DN W (.slice p6 k6 c6) D→Calls Tryz.prog 122 #[.bool false,.slice p6 k6 c6] W fun e w'=>(∃v,e = .returned v∧qeg w' v (D:Int))∧Below W.heap.size W w'):=hid fun W hW=>by
   have h:=qkp false _ _ W hW;rw[qar _ _ qbe] at h;exact h
  have gF:Hid (∀W v,qeg W v (D:Int)→Calls Tryz.prog 78 #[v] W fun e w'=>(∃t:BA,e = .returned (.string t)∧t.data.toList=qbh (D:Int))∧Below W.heap.size W w'):=hid fun W v hv=>q75 v (D:Int) W hv (by rw[Int.natAbs_natCast];have:=qV.out;omega)
  have aX:Hid (∀t2:BA,t2.data.toList=qbh (D:Int)→(t1++⟨#[47]⟩++t2).data.toList=qa7 (mkRat x D0)):=hid fun t2 h2=>by
   rw[qf8,Qa.out,if_neg hD,←cW.out,←qcc,←h2];simp
  have Qe:=hid cE.out
  have xP:(¬k6=1)∨(k6=1∧∃b o d,p6=some ⟨b,o,none⟩∧w6.cell? ⟨b,o,none⟩=some (.int .i64 ((d:Nat):Int))∧d≠1):=by
   by_cases h:k6=1
   ·refine .inr ⟨h, ?_⟩
    have zA:dl D=1:=by rw[←hk6];exact h
    obtain⟨h0,h9⟩:=qov zA;have uY:qao D9 D=[D]:=qfl h0 (by rw[qb4];exact h9);obtain⟨_,p',c',he,_,_,hc⟩:=Ky;rw[uY] at he hc;cases he
    rcases hc with h0'|⟨b,o,h1,h2⟩
    ·cases h0'
    ·exact⟨b,o,D,h1,by have:=h2 0 (by simp);unfold dv at this;simpa using this,hD⟩
   ·exact .inl h
  clear Ky hk6 hD;rcases xP with hk|⟨hk,b,o,d,rfl,aC,hd⟩
  ·have g1:((k6:Int)==1)=false:=qan (by omega)
   go_wp2_with fail;refine(hS2.out _ HQ6.out).mono ?_;rintro e w7 ⟨⟨v7,rfl,h7⟩,Qf⟩;have H7:=hid h7;have nR:=hid (oM.out.trans (Qf.mono oM.out.size));clear h7 Qf;go_wp2_with fail;refine(gF.out _ _ H7.out).mono ?_;rintro e w8 ⟨⟨t2,rfl,jM⟩,Qg⟩;have tS:=hid (nR.out.trans (Qg.mono nR.out.size));have cN:=hid (aX.out t2 jM)
   have hsz2:t2.size≤10000:=by
    have h:=congrArg List.length jM;have h2:t2.data.toList.length=t2.size:=by simp
    rw[←h2,h];exact Qe.out
   have Io:¬9223372036854775807<(t1++⟨#[47]⟩:BA).size+t2.size:=by rw[ByteArray.size_append];show ¬9223372036854775807<t1.size+1+t2.size;have:=eJ.out;omega
   have Ip:¬9223372036854775807<t1.size+1+t2.size:=by have:=eJ.out;omega
   clear jM Qg;go_wp2_with fail;go_ret;exact⟨⟨_,rfl,cN.out⟩,tS.out⟩
  ·have g1:(((1:Nat):Int)==1)=true:=rfl
   have g2:((d:Int)==1)=false:=qan (by omega);subst hk;go_wp2_with fail;refine(hS2.out _ HQ6.out).mono ?_;rintro e w7 ⟨⟨v7,rfl,h7⟩,Qf⟩;have H7:=hid h7;have nR:=hid (oM.out.trans (Qf.mono oM.out.size));clear h7 Qf;go_wp2_with fail;refine(gF.out _ _ H7.out).mono ?_;rintro e w8 ⟨⟨t2,rfl,jM⟩,Qg⟩;have tS:=hid (nR.out.trans (Qg.mono nR.out.size));have cN:=hid (aX.out t2 jM)
   have hsz2:t2.size≤10000:=by
    have h:=congrArg List.length jM;have h2:t2.data.toList.length=t2.size:=by simp
    rw[←h2,h];exact Qe.out
   have Io:¬9223372036854775807<(t1++⟨#[47]⟩:BA).size+t2.size:=by rw[ByteArray.size_append];show ¬9223372036854775807<t1.size+1+t2.size;have:=eJ.out;omega
   have Ip:¬9223372036854775807<t1.size+1+t2.size:=by have:=eJ.out;omega
   clear jM Qg;go_wp2_with fail;go_ret;exact⟨⟨_,rfl,cN.out⟩,tS.out⟩
def q67(f:Bool)(z:Int)(D:Nat):Value:=if f then .tuple #[.int .i64 z,.int .i64 D,.bool true] else .tuple #[.int .i64 0,.int .i64 0,.bool false]
theorem qli(n:Nat):(qfc n).length≤(qav n).length:=by
 unfold qav;split
 ·rename_i e;rw[e,qcw];simp
 ·exact qac _
theorem qvo(a t:BA)(neg:Bool)(N D:Nat)(z:Int)(w:World)(hz:z=if neg then -(N:Int) else(N:Int))(hs:a.data.toList=(if neg then[45] else[])++t.data.toList)(ht:t.data.toList=qbh (N:Int)++(if D=1 then[] else 47::qav D))(dG:a.size≤20):
  Calls Tryz.prog 74 #[.string a] w fun e w'=>e = .returned (q67 (decide ((qav N).length≤9)&&(decide (D=1)||decide ((qav D).length≤9))) z D)∧w'=w:=by
 obtain⟨xJ,Am⟩:=qjx t (N:Int) D ht;have hNl:(qbh (N:Int)).length=(qav N).length:=by rw[qcc]
 have hN0:=qvl (N:Int)
 have aE:a.size=(if neg then 1 else 0)+t.size:=by
  have h:=congrArg List.length hs;rw[List.length_append] at h;have e1:a.data.toList.length=a.size:=by simp
  have e2:t.data.toList.length=t.size:=by simp
  rw[e1,e2] at h;rw[h];cases neg<;>rfl
 have rQ:t.size=(qav N).length+(if D=1 then 0 else 1+(qav D).length):=by
  have h:=congrArg List.length ht;have e2:t.data.toList.length=t.size:=by simp
  rw[List.length_append,e2,hNl] at h;rw[h];split
  ·rfl
  ·rw[List.length_cons];omega
 have pZ:0<t.size:=by omega
 have hG:0<a.size:=by omega
 have fA:((a[0]'hG).toNat:Int)=45∧neg=true∨((a[0]'hG).toNat:Int)≠45∧neg=false:=by
  have h1:a.data.toList[0]'(by simpa using hG)=a[0]'hG:=qdt a 0 hG;cases neg
  ·right
   refine⟨?_,rfl⟩;have h2:a.data.toList=t.data.toList:=hs
   have h3:isD (a[0]'hG)=true:=by
    rw[←h1];simp only[h2,ht,qcc];rw[List.getElem_append_left (by omega)];exact qep _ _ (List.getElem_mem _)
   unfold isD at h3;have:=of_decide_eq_true h3;omega
  ·left
   refine⟨?_,rfl⟩;rw[←h1];simp only[hs];rfl
 have oG:∀h:0<a.size,((a[0]'h).toNat:Int)=((a[0]'hG).toNat:Int):=fun _=>rfl
 have nZ:Hid (neg=true→(a.extract 1 a.size)=t):=hid fun h=>by
  apply qb5;rw[Lib.extract_data,hs,if_pos h];simp;rw[List.take_of_length_le (by simp[aE,h])]
 have iB:Hid (neg=false→a=t):=hid fun h=>by
  apply qb5;rw[hs,h];rfl
 obtain⟨K,hKe⟩:∃K,K=sl t.data.toList:=⟨_,rfl⟩;have aU:=hid (fun W=>qqr t W (by omega));rw[←hKe] at aU xJ Am
 have hD:(D=1∧K=t.size)∨(D≠1∧K+1≤t.size):=by
  by_cases h:D=1
  ·exact .inl ⟨h,(xJ h).1⟩
  ·exact .inr ⟨h,(Am h).1⟩
 have Bk:(t.extract 0 K).data.toList=qbh (N:Int):=by
  by_cases h:D=1
  ·rw[Lib.extract_from_zero,(xJ h).1,List.take_of_length_le (by simp)];exact(xJ h).2
  ·exact(Am h).2.1
 have hKN:K=(qav N).length:=by
  have h1:=congrArg List.length Bk;rw[hNl,Lib.extract_from_zero,List.length_take] at h1;have e2:t.data.toList.length=t.size:=by simp
  omega
 have hVN:K≤9→∀W,Calls Tryz.prog 118 #[.string (t.extract 0 K)] W fun e w'=>e = .returned (.int .i64 (N:Int))∧w'=W:=fun h W=>by
  have h1:=qqq (t.extract 0 K) W (by rw[Bk,qcc];exact qep _) (by rw[ByteArray.size_extract];omega);rw[Bk,qcc,qdd] at h1;exact h1
 have hVD:D≠1→t.size-K≤10→∀W,Calls Tryz.prog 118 #[.string (t.extract (K+1) t.size)] W fun e w'=>e = .returned (.int .i64 (D:Int))∧w'=W:=fun h hl W=>by
  have h1:=qqq (t.extract (K+1) t.size) W (by rw[(Am h).2.2,qcc];exact qep _) (by rw[ByteArray.size_extract];omega);rw[(Am h).2.2,qcc,qdd] at h1;exact h1
 obtain⟨fits,zF⟩:∃f,f=(decide ((qav N).length≤9)&&(decide (D=1)||decide ((qav D).length≤9))):=⟨_,rfl⟩
 have dF:Hid (fits=decide (¬9<K∧¬10<t.size-K)):=hid (by
  rw[zF];by_cases h:D=1
  ·rw[if_pos h] at rQ
   simp only[h,decide_true,Bool.true_or,Bool.and_true,decide_eq_decide];omega
  ·rw[if_neg h] at rQ
   simp only[h,decide_false,Bool.false_or,←Bool.decide_and,decide_eq_decide]
   omega)
 rw[←zF];have HZ:=hid hz;clear hz;have hna:¬20<a.size:=by omega
 have hga:0<a.size:=hG
 have hNi:K≤9→(N:Int)≤999999999:=fun h=>by
  have h1:=qe2 N
  have h2:(qfc N).length≤9:=by
   have:=qli N;omega
  have h3:=Nat.pow_le_pow_right (show 0<10 by omega) h2;omega
 have Kz:=hid hNi;have Il:t.size≤20:=by omega
 have hKle:K≤t.size:=by omega
 generalize ((a[0]'hG).toNat:Int)=ch at *;clear hs ht xJ Am hNl hN0 aE rQ dG hKe Bk hKN zF hNi;rcases fA with⟨h1,h2⟩|⟨h1,h2⟩
 ·subst h1 h2
  have hext:=nZ.out rfl;have hb:((45:Int)==45)=true:=rfl;by_cases hK:9<K
  ·have HF:Hid (fits=false):=hid (by rw[dF.out];exact qae (by omega))
   have g1:decide ((9:Int)<(K:Int))=true:=qag (by omega);go_enter Tryz.func74,Tryz.ntmps74;go_wp2_with fail;refine(aU.out _).mono ?_;rintro e w1 ⟨rfl,rfl⟩;go_wp2_with fail
   go_ret3
   exact⟨by rw[HF.out];rfl,rfl⟩
  ·by_cases hL:10<t.size-K
   ·have HF:Hid (fits=false):=hid (by rw[dF.out];exact qae (by omega))
    have g2:(10:Int)<(t.size:Int)-(K:Int):=by omega
    go_enter Tryz.func74,Tryz.ntmps74;go_wp2_with fail;refine(aU.out _).mono ?_;rintro e w1 ⟨rfl,rfl⟩;go_wp2_with fail
    go_ret3
    exact⟨by rw[HF.out];rfl,rfl⟩
   ·have HF:Hid (fits=true):=hid (by rw[dF.out];exact qag (by omega))
    have g2:¬(10:Int)<(t.size:Int)-(K:Int):=by omega
    have rE:=hid (fun W=>hVN (by omega) W);have hNb:(N:Int)≤999999999:=Kz.out (by omega);rcases hD with⟨sZ,hKt⟩|⟨sZ,hKt⟩
    ·have qF:=hid sZ
     have g3:¬K<t.size:=by omega
     clear sZ hKt hVD hVN;go_enter Tryz.func74,Tryz.ntmps74;go_wp2_with fail;refine(aU.out _).mono ?_;rintro e w1 ⟨rfl,rfl⟩;go_wp2_with fail;refine(rE.out _).mono ?_;rintro e w1 ⟨rfl,rfl⟩;go_wp2_with fail
     go_ret3
     exact⟨by have e:=HZ.out;simp only[if_true,Bool.false_eq_true,if_false] at e;rw[HF.out,qF.out,e];rfl,rfl⟩
    ·have Hk:=hid (fun W=>hVD sZ (by omega) W)
     have g3:K<t.size:=by omega
     have g4:K+1≤t.size:=by omega
     have g5:(0:Int)≤(K:Int)+1:=by omega
     have g6:((K:Int)+1).toNat=K+1:=by omega
     clear sZ hVD hVN;go_enter Tryz.func74,Tryz.ntmps74;go_wp2_with fail;refine(aU.out _).mono ?_;rintro e w1 ⟨rfl,rfl⟩;go_wp2_with fail;refine(rE.out _).mono ?_;rintro e w1 ⟨rfl,rfl⟩;go_wp2_with fail;refine(Hk.out _).mono ?_;rintro e w1 ⟨rfl,rfl⟩;go_wp2_with fail
     go_ret3
     exact⟨by have e:=HZ.out;simp only[if_true,Bool.false_eq_true,if_false] at e;rw[HF.out,e];rfl,rfl⟩
 ·subst h2
  have jG:=iB.out rfl;have hb:(ch==45)=false:=qan h1;subst a;clear h1;by_cases hK:9<K
  ·have HF:Hid (fits=false):=hid (by rw[dF.out];exact qae (by omega))
   have g1:decide ((9:Int)<(K:Int))=true:=qag (by omega);go_enter Tryz.func74,Tryz.ntmps74;go_wp2_with fail;refine(aU.out _).mono ?_;rintro e w1 ⟨rfl,rfl⟩;go_wp2_with fail
   go_ret3
   exact⟨by rw[HF.out];rfl,rfl⟩
  ·by_cases hL:10<t.size-K
   ·have HF:Hid (fits=false):=hid (by rw[dF.out];exact qae (by omega))
    have g2:(10:Int)<(t.size:Int)-(K:Int):=by omega
    go_enter Tryz.func74,Tryz.ntmps74;go_wp2_with fail;refine(aU.out _).mono ?_;rintro e w1 ⟨rfl,rfl⟩;go_wp2_with fail
    go_ret3
    exact⟨by rw[HF.out];rfl,rfl⟩
   ·have HF:Hid (fits=true):=hid (by rw[dF.out];exact qag (by omega))
    have g2:¬(10:Int)<(t.size:Int)-(K:Int):=by omega
    have rE:=hid (fun W=>hVN (by omega) W);have hNb:(N:Int)≤999999999:=Kz.out (by omega);rcases hD with⟨sZ,hKt⟩|⟨sZ,hKt⟩
    ·have qF:=hid sZ
     have g3:¬K<t.size:=by omega
     clear sZ hKt hVD hVN;go_enter Tryz.func74,Tryz.ntmps74;go_wp2_with fail;refine(aU.out _).mono ?_;rintro e w1 ⟨rfl,rfl⟩;go_wp2_with fail;refine(rE.out _).mono ?_;rintro e w1 ⟨rfl,rfl⟩;go_wp2_with fail
     go_ret3
     exact⟨by have e:=HZ.out;simp only[if_true,Bool.false_eq_true,if_false] at e;rw[HF.out,qF.out,e];rfl,rfl⟩
    ·have Hk:=hid (fun W=>hVD sZ (by omega) W)
     have g3:K<t.size:=by omega
     have g4:K+1≤t.size:=by omega
     have g5:(0:Int)≤(K:Int)+1:=by omega
     have g6:((K:Int)+1).toNat=K+1:=by omega
     clear sZ hVD hVN;go_enter Tryz.func74,Tryz.ntmps74;go_wp2_with fail;refine(aU.out _).mono ?_;rintro e w1 ⟨rfl,rfl⟩;go_wp2_with fail;refine(rE.out _).mono ?_;rintro e w1 ⟨rfl,rfl⟩;go_wp2_with fail;refine(Hk.out _).mono ?_;rintro e w1 ⟨rfl,rfl⟩;go_wp2_with fail
     go_ret3
     exact⟨by have e:=HZ.out;simp only[if_true,Bool.false_eq_true,if_false] at e;rw[HF.out,e];rfl,rfl⟩
theorem qgx(a:BA)(q:Rat)(h:a.data.toList=qa7 q):a.size=(if q.num<0 then 1 else 0)+(qav q.num.natAbs).length+(if q.den=1 then 0 else 1+(qav q.den).length):=by
 have h1:=congrArg List.length h;have h2:a.data.toList.length=a.size:=by simp
 rw[h2] at h1;rw[h1];unfold qa7;rw[List.length_append,List.length_append]
 congr 1
 ·congr 1
  split<;>rfl
 ·split
  ·rfl
  ·rw[List.length_cons];omega
theorem q68(a:BA)(q:Rat)(w:World)(h:a.data.toList=qa7 q)(dG:a.size≤5000):
  Calls Tryz.prog 74 #[.string a] w fun e w'=>e = .returned (q67 (qbr q 9) q.num q.den)∧w'=w:=by
 have hs:=qgx a q h;by_cases hl:a.size≤20
 ·have hc:=qvo a ⟨(qav q.num.natAbs++(if q.den=1 then[] else 47::qav q.den)).toArray⟩ (decide (q.num<0)) q.num.natAbs q.den q.num w (by
   rcases Int.lt_or_le q.num 0 with h1|h1
   ·rw[qag h1,if_pos rfl];omega
   ·rw[qae (by omega),if_neg (by decide)];omega) (by
   rw[h];unfold qa7;rw[List.append_assoc];rcases Int.lt_or_le q.num 0 with h1|h1
   ·rw[if_pos h1,qag h1];rfl
   ·rw[if_neg (by omega),qae (by omega)];rfl) (by rw[qcc]) hl
  exact hc
 ·have HF:Hid (qbr q 9=false):=hid (by
   cases hf:qbr q 9
   ·rfl
   ·exfalso
    unfold qbr at hf;rw[Bool.and_eq_true,Bool.or_eq_true] at hf;obtain⟨h1,h2⟩:=hf;have h1:=of_decide_eq_true h1;rcases h2 with h2|h2
    ·have h2:=of_decide_eq_true h2
     rw[if_pos h2] at hs;split at hs<;>omega
    ·have h2:=of_decide_eq_true h2
     split at hs<;>split at hs<;>omega)
  have Hw:¬a.size≤20:=hl;have hgt2:20<a.size:=by omega
  clear h hs hl;go_enter Tryz.func74,Tryz.ntmps74;go_wp2_with fail
  go_ret3
  exact⟨by rw[HF.out];rfl,rfl⟩
theorem q17(n:Nat):(pd (qrr n 1) n).reverse=qav n:=by
 rcases qas n with e|e
 ·subst e
  have h:qrr 0 1=1:=by unfold qrr;rw[qcw];rfl
  rw[h];rfl
 ·rw[q65 n e]
  unfold qav;rw[if_neg (by omega)]
theorem qtm(n:Int)(d g:Nat)(hd:0<d)(hg:g=Nat.gcd n.natAbs d):n.tdiv (g:Int)=(mkRat n d).num∧d/g=(mkRat n d).den∧(mkRat n d).num.natAbs≤n.natAbs∧(mkRat n d).den≤d:=by
 obtain⟨h1,h2⟩:=qmm n d hd;rw[←hg] at h1 h2;have dS:n.natAbs/g≤n.natAbs:=Nat.div_le_self _ _;have h3:d/g≤d:=Nat.div_le_self _ _;rw[h1,h2];refine⟨?_,rfl, ?_,h3⟩
 ·rcases Int.lt_or_le n 0 with h|h
  ·rw[qag h,if_pos rfl,Int.natCast_ediv,Int.ofNat_natAbs_of_nonpos (by omega)]
   rw[show n = -(-n) by omega,Int.neg_tdiv,Int.tdiv_eq_ediv_of_nonneg (by omega),Int.neg_neg]
  ·rw[qae (by omega),if_neg (by decide),Int.natCast_ediv,Int.natAbs_of_nonneg h,Int.tdiv_eq_ediv_of_nonneg h]
 ·split
  ·rw[Int.natAbs_neg,Int.natAbs_natCast];exact dS
  ·rw[Int.natAbs_natCast];exact dS
theorem of9(n:Int)(d:Nat)(w:World)(hd:0<d)(hn:n.natAbs≤4000000000000000000)(Kt:d≤4000000000000000000):
  Calls Tryz.prog 75 #[.int .i64 n,.int .i64 d] w fun e w'=>(∃t:BA,e = .returned (.string t)∧t.data.toList=qa7 (mkRat n d))∧Below w.heap.size w w':=by
 have dT : -4000000000000000000≤n:=by omega
 have lC:n≤4000000000000000000:=by omega
 have zA:(0:Int)<(d:Int):=by omega
 have Eh:(d:Int)≤4000000000000000000:=by omega
 obtain⟨g,hg⟩:∃g,g=Nat.gcd n.natAbs d:=⟨_,rfl⟩;have rL:0<g:=by rw[hg];exact Nat.gcd_pos_of_pos_right _ hd
 have Nx:=hid (fun W=>zax n.natAbs d W (by omega) (by omega));have Bb:max n (0-n)=(n.natAbs:Int):=by omega
 have hmax2:max n (-n)=(n.natAbs:Int):=by omega
 rw[←hg] at Nx;obtain⟨q1,q2,q3,q4⟩:=qtm n d g hd hg;have nD:((g:Int)==0)=false:=qan (by omega);have Hv:(d:Int)/(g:Int)=(((mkRat n d).den:Nat):Int):=by rw[←q2];exact(Int.natCast_ediv d g).symm
 have hqd2:(d:Int).tdiv (g:Int)=(((mkRat n d).den:Nat):Int):=by rw[Int.tdiv_eq_ediv_of_nonneg (by omega)];exact Hv
 have hgi:(0:Int)<(g:Int):=by omega
 generalize hqe:mkRat n d=q at *;have hn9:n≤9223372036854775807:=by omega
 have hN1 : -4000000000000000000≤q.num:=by omega
 have hN2:q.num≤4000000000000000000:=by omega
 have hD2:((q.den:Nat):Int)≤4000000000000000000:=by omega
 have hmax3:max q.num (0-q.num)=(q.num.natAbs:Int):=by omega
 have hmax4:max q.num (-q.num)=(q.num.natAbs:Int):=by omega
 have HDN:Hid (∀W,Calls Tryz.prog 120 #[.int .i64 (q.num.natAbs:Nat),.int .i64 1] W fun e w'=>(∃t:BA,e = .returned (.string t)∧t.data.toList=qav q.num.natAbs)∧w'=W):=hid fun W=>by
  have h:=qnw q.num.natAbs 1 W (by omega) (by omega);rw[q17] at h;exact h
 have qF:Hid (∀W,Calls Tryz.prog 120 #[.int .i64 (q.den:Nat),.int .i64 1] W fun e w'=>(∃t:BA,e = .returned (.string t)∧t.data.toList=qav q.den)∧w'=W):=hid fun W=>by
  have h:=qnw q.den 1 W (by omega) (by omega);rw[q17] at h;exact h
 have mO:Hid ((qav q.num.natAbs).length≤100):=hid (by
  unfold qav;split
  ·simp
  ·exact Nat.le_trans (qbz 19 _ (by omega)) (by omega))
 have kQ:Hid ((qav q.den).length≤100):=hid (by
  unfold qav;split
  ·simp
  ·exact Nat.le_trans (qbz 19 _ (by omega)) (by omega))
 have oS:Hid (qa7 q=(if q.num<0 then[45] else[])++qav q.num.natAbs++(if q.den=1 then[] else 47::qav q.den)):=hid rfl;have hDp:0<q.den:=q.den_pos;generalize qa7 q=rt at *;generalize q.num.natAbs=NA at *;generalize q.num=N at *;generalize q.den=D at *;clear hqe hg q2 q3 q4 hn hd Kt;go_enter Tryz.func75,Tryz.ntmps75;go_wp2_with fail;refine(Nx.out _).mono ?_;rintro e w1 ⟨rfl,aY⟩;have aP:=hid aY;clear aY Nx;go_wp2_with fail
 go_quiet (fail)
 rcases Int.lt_or_le N 0 with hs|hs
 ·have g2:N<0:=hs
  go_wp2_with fail;refine(HDN.out _).mono ?_;rintro e w2 ⟨⟨t1,rfl,fI⟩,rfl⟩
  have dL:t1.size≤100:=by
   have h:=congrArg List.length fI;have h2:t1.data.toList.length=t1.size:=by simp
   rw[←h2,h];exact mO.out
  have Qd:¬9223372036854775807<1+t1.size:=by omega
  have hov5:¬9223372036854775807<1+t1.size+1:=by omega
  have hov6:¬9223372036854775807<t1.size+1:=by omega
  have sZ:D=1∨D≠1:=by omega
  rcases sZ with e|e
  ·have g3:¬1<D:=by omega
   have aX:Hid ((⟨#[45]⟩++t1:BA).data.toList=rt):=hid (by rw[oS.out,if_pos hs,if_pos e,List.append_nil,←fI];simp);clear fI;go_wp2_with fail;go_ret;exact⟨⟨_,rfl,aX.out⟩,below_drewN aP.out _⟩
  ·have g3:1<D:=by omega
   have aX:Hid (∀t2:BA,t2.data.toList=qav D→((⟨#[45]⟩++t1:BA)++⟨#[47]⟩++t2).data.toList=rt):=hid fun t2 h2=>by rw[oS.out,if_pos hs,if_neg e,←fI,←h2];simp
   clear fI e;go_wp2_with fail;refine(qF.out _).mono ?_;rintro e w1 ⟨⟨t2,rfl,jM⟩,rfl⟩;have cN:=hid (aX.out t2 jM)
   have fN:t2.size≤100:=by
    have h:=congrArg List.length jM;have h2:t2.data.toList.length=t2.size:=by simp
    rw[←h2,h];exact kQ.out
   have Io:¬9223372036854775807<1+t1.size+1+t2.size:=by omega
   have Ip:¬9223372036854775807<t1.size+1+t2.size:=by omega
   have hov4:¬9223372036854775807<0+t1.size+1+t2.size:=by omega
   clear jM;go_wp2_with fail;go_ret;exact⟨⟨_,rfl,cN.out⟩,below_drewN aP.out _⟩
 ·have g2:¬N<0:=by omega
  go_wp2_with fail;refine(HDN.out _).mono ?_;rintro e w2 ⟨⟨t1,rfl,fI⟩,rfl⟩
  have dL:t1.size≤100:=by
   have h:=congrArg List.length fI;have h2:t1.data.toList.length=t1.size:=by simp
   rw[←h2,h];exact mO.out
  have Qd:¬9223372036854775807<1+t1.size:=by omega
  have hov5:¬9223372036854775807<1+t1.size+1:=by omega
  have hov6:¬9223372036854775807<t1.size+1:=by omega
  have sZ:D=1∨D≠1:=by omega
  rcases sZ with e|e
  ·have g3:¬1<D:=by omega
   have aX:Hid ((⟨#[]⟩++t1:BA).data.toList=rt):=hid (by rw[oS.out,if_neg (show ¬N<0 by omega),if_pos e,List.append_nil,←fI];simp);clear fI;go_wp2_with fail;go_ret;exact⟨⟨_,rfl,aX.out⟩,below_drewN aP.out _⟩
  ·have g3:1<D:=by omega
   have aX:Hid (∀t2:BA,t2.data.toList=qav D→((⟨#[]⟩++t1:BA)++⟨#[47]⟩++t2).data.toList=rt):=hid fun t2 h2=>by rw[oS.out,if_neg (show ¬N<0 by omega),if_neg e,←fI,←h2];simp
   clear fI e;go_wp2_with fail;refine(qF.out _).mono ?_;rintro e w1 ⟨⟨t2,rfl,jM⟩,rfl⟩;have cN:=hid (aX.out t2 jM)
   have fN:t2.size≤100:=by
    have h:=congrArg List.length jM;have h2:t2.data.toList.length=t2.size:=by simp
    rw[←h2,h];exact kQ.out
   have Io:¬9223372036854775807<1+t1.size+1+t2.size:=by omega
   have Ip:¬9223372036854775807<t1.size+1+t2.size:=by omega
   have hov4:¬9223372036854775807<0+t1.size+1+t2.size:=by omega
   clear jM;go_wp2_with fail;go_ret;exact⟨⟨_,rfl,cN.out⟩,below_drewN aP.out _⟩
theorem qnb(q:Rat):qa7 q=[48]↔q.num=0:=by
 constructor
 ·intro h
  unfold qa7 at h;have h1:=congrArg List.length h;rw[List.length_append,List.length_append] at h1;have h2:=List.length_pos_iff.2 (qgt q.num.natAbs)
  have h3:¬q.num<0:=by
   intro h3;rw[if_pos h3] at h1;simp at h1;omega
  have h4:q.den=1:=by
   by_cases e:q.den=1
   ·exact e
   ·rw[if_neg e] at h1
    simp at h1;omega
  rw[if_neg h3,if_pos h4,List.nil_append,List.append_nil] at h;have h5:=congrArg (qbb 0) h;rw[qdd] at h5;have h6:qbb 0 [48]=0:=rfl;omega
 ·intro h
  have hd:q.den=1:=by
   have:=q.reduced;rw[h] at this
   simpa using this
  unfold qa7;rw[h,hd,if_neg (by decide),if_pos rfl];rfl
theorem qtn(q:Rat)(a:BA)(h:a.data.toList=qa7 q)(hs:0<a.size):(q.num<0→((a[0]'hs).toNat:Int)=45)∧(¬q.num<0→((a[0]'hs).toNat:Int)≠45):=by
 have h1:a.data.toList[0]'(by simpa using hs)=a[0]'hs:=qdt a 0 hs;constructor
 ·intro hn
  rw[←h1];simp only[h,qa7];simp only[if_pos hn];rfl
 ·intro hn
  have h3:isD (a[0]'hs)=true:=by
   rw[←h1];have h2:a.data.toList=qav q.num.natAbs++(if q.den=1 then[] else 47::qav q.den):=by rw[h];unfold qa7;rw[if_neg hn,List.nil_append]
   have h4:=List.length_pos_iff.2 (qgt q.num.natAbs);simp only[h2];rw[List.getElem_append_left h4];exact qep _ _ (List.getElem_mem _)
  unfold isD at h3;have:=of_decide_eq_true h3;omega
theorem qoz(q:Rat)(a:BA)(h:a.data.toList=qa7 q):0<a.size:=by
 have h1:=qgx a q h;have:=List.length_pos_iff.2 (qgt q.num.natAbs);omega
theorem q18{q:Rat}(h:q.num=0):sgn q=0:=by unfold sgn;rw[if_neg (by omega),if_pos h]
theorem zay(a:BA)(q:Rat)(w:World)(h:a.data.toList=qa7 q):
  Calls Tryz.prog 66 #[.string a] w fun e w'=>e = .returned (.int .i64 (sgn q))∧w'=w:=by
 have hG:=qoz q a h;obtain⟨t1,t2⟩:=qtn q a h hG;have oG:∀h':0<a.size,((a[0]'h').toNat:Int)=((a[0]'hG).toNat:Int):=fun _=>rfl;generalize ((a[0]'hG).toNat:Int)=ch at *;by_cases hz:q.num=0
 ·have he:a.toList=[48]:=by rw[ByteArray.toList_eq,h];exact(qnb q).2 hz
  have HE:Hid (sgn q=0):=hid (q18 hz);clear t1 t2 h hz;go_enter Tryz.func66,Tryz.ntmps66;go_wp2_with fail;go_ret;exact⟨qa6 HE.out.symm,rfl⟩
 ·have he:(a.toList==[48])=false:=qan (by rw[ByteArray.toList_eq,h];exact fun e=>hz ((qnb q).1 e))
  by_cases hn:q.num<0
  ·have HE:Hid (sgn q = -1):=hid (by unfold sgn;rw[if_pos hn])
   have mQ:=t1 hn;subst mQ;clear t1 t2 h hz hn;go_enter Tryz.func66,Tryz.ntmps66;go_wp2_with fail;go_ret;exact⟨qa6 HE.out.symm,rfl⟩
  ·have HE:Hid (sgn q=1):=hid (by unfold sgn;rw[if_neg hn,if_neg hz])
   have mQ:(ch==45)=false:=qan (t2 hn);clear t1 t2 h hz hn;go_enter Tryz.func66,Tryz.ntmps66;go_wp2_with fail;go_ret;exact⟨qa6 HE.out.symm,rfl⟩
def rt(q:Rat):BA:=⟨(qa7 q).toArray⟩
theorem qc9(q:Rat):(rt q).data.toList=qa7 q:=by unfold rt;simp
theorem q76{t:BA}{q:Rat}(h:t.data.toList=qa7 q):t=rt q:=qb5 (by rw[h,qc9])
def sm(q:Rat)(k:Nat):Prop:=q.num.natAbs<10^k∧q.den<10^k
theorem qfr{q:Rat}{j k:Nat}(h:sm q j)(hk:j≤k):sm q k:=
 ⟨Nat.lt_of_lt_of_le h.1 (Nat.pow_le_pow_right (by decide) hk),Nat.lt_of_lt_of_le h.2 (Nat.pow_le_pow_right (by decide) hk)⟩
theorem qnx{n k:Nat}(h:n<10^k):(qav n).length≤k+1:=by
 unfold qav;split
 ·simp
 ·have:=qbz k n h;omega
theorem qh5{n k:Nat}(h:(qav n).length≤k):n<10^k:=by
 have h1:=qe2 n;have h2:=qli n;exact Nat.lt_of_lt_of_le h1 (Nat.pow_le_pow_right (by decide) (by omega))
theorem qgh{q:Rat}{k:Nat}(h:sm q k):(rt q).size≤2*k+4:=by
 have h1:=qgx (rt q) q (qc9 q);have h2:=qnx h.1;have h3:=qnx h.2;rw[h1];split<;>split<;>omega
theorem qf4{n k:Nat}(h:n<10^k)(hk:k≤8100):dl n≤900:=by
 refine qcf qbe ?_
 have key:∀e:Nat,k≤9*e→10^k≤D9^e:=fun e he=>by
  rw[show D9=10^9 from rfl,←Nat.pow_mul];exact Nat.pow_le_pow_right (by decide) he
 exact Nat.lt_of_lt_of_le h (key 900 (by omega))
theorem qny{n:Int}{d k:Nat}(hd:0<d)(h1:n.natAbs<10^k)(h2:d<10^k):sm (mkRat n d) k:=by
 obtain⟨_,_,h3,h4⟩:=qtm n d _ hd rfl;exact⟨Nat.lt_of_le_of_lt h3 h1,Nat.lt_of_le_of_lt h4 h2⟩
theorem qeh{m n a b:Nat}(h1:m<10^a)(h2:n<10^b):m*n<10^(a+b):=by
 rw[Nat.pow_add];exact Nat.mul_lt_mul'' h1 h2
theorem q69{p q:Rat}{a b:Nat}(hp:sm p a)(hq:sm q b):sm (p+q) (a+b+1):=by
 rw[Rat.add_def'];have h1:=qeh hp.1 hq.2;have h2:=qeh hq.1 hp.2;have h3:=qeh hp.2 hq.2;rw[Nat.add_comm b a] at h2;have h4:(10:Nat)^(a+b+1)=10^(a+b)*10:=Nat.pow_succ ..;refine qny (Nat.mul_pos p.den_pos q.den_pos) ?_ ?_
 ·have h5:(p.num*(q.den:Int)+q.num*(p.den:Int)).natAbs≤p.num.natAbs*q.den+q.num.natAbs*p.den:=by
   refine Nat.le_trans (Int.natAbs_add_le _ _) ?_;rw[Int.natAbs_mul,Int.natAbs_mul,Int.natAbs_natCast,Int.natAbs_natCast];exact qac _
  omega
 ·omega
theorem q19{p q:Rat}{a b:Nat}(hp:sm p a)(hq:sm q b):sm (p*q) (a+b):=by
 rw[Rat.mul_def'];refine qny (Nat.mul_pos p.den_pos q.den_pos) ?_ (qeh hp.2 hq.2);rw[Int.natAbs_mul];exact qeh hp.1 hq.1
theorem q5q{q:Rat}(h:0<q.num):q⁻¹ = mkRat (q.den:Int) q.num.natAbs:=by
 rw[Rat.inv_def];obtain⟨n,hn⟩:=Int.eq_ofNat_of_zero_le (show(0:Int)≤q.num by omega);rw[hn,Int.natAbs_natCast];rfl
theorem q5r{q:Rat}(h:q.num<0):q⁻¹ = mkRat (-(q.den:Int)) q.num.natAbs:=by
 rw[Rat.inv_def];obtain⟨n,hn⟩:=Int.eq_ofNat_of_zero_le (show(0:Int) ≤ -q.num by omega);have h2:q.num = -(n:Int):=by omega
 rw[h2,Int.natAbs_neg,Int.natAbs_natCast]
 match n,h2 with
 | 0,h2=>exact absurd h2 (by omega)
 | n+1,_=>rfl
theorem q90{q:Rat}{a:Nat}(h:sm q a)(hq:q.num≠0):sm q⁻¹ a:=by
 have hp:0<q.num.natAbs:=by omega
 rcases Int.lt_or_le q.num 0 with h1|h1
 ·rw[q5r h1]
  exact qny hp (by rw[Int.natAbs_neg,Int.natAbs_natCast];exact h.2) h.1
 ·rw[q5q (by omega)]
  exact qny hp (by rw[Int.natAbs_natCast];exact h.2) h.1
theorem q2a{p q:Rat}{a b:Nat}(hp:sm p a)(hq:sm q b)(h:q.num≠0):sm (p/q) (a+b):=by
 rw[Rat.div_def];exact q19 hp (q90 hq h)
theorem qmn{q:Rat}{k:Nat}(h:qbr q k=true)(hk:1≤k):sm q k:=by
 unfold qbr at h;rw[Bool.and_eq_true,Bool.or_eq_true] at h;obtain⟨h1,h2⟩:=h;refine⟨qh5 (of_decide_eq_true h1), ?_⟩;rcases h2 with h2|h2
 ·rw[of_decide_eq_true h2]
  exact Nat.lt_of_lt_of_le (by decide:1<10^1) (Nat.pow_le_pow_right (by decide) hk)
 ·exact qh5 (of_decide_eq_true h2)
theorem qvp(q:Rat)(h:¬q.num<0)(h0:q.num≠0):qa7 (-q)=45::qa7 q:=by
 unfold qa7;rw[Rat.neg_num,Rat.neg_den,if_pos (by omega),if_neg h,Int.natAbs_neg];rfl
theorem qnc(q:Rat)(h:q.num<0):qa7 q=45::qa7 (-q):=by
 have h1:=qvp (-q) (by rw[Rat.neg_num];omega) (by rw[Rat.neg_num];omega);rw[Rat.neg_neg] at h1;exact h1
theorem q77(q:Rat)(h:q.num<0):(rt q).extract 1 (rt q).size=rt (-q):=by
 refine qb5 ?_;rw[Lib.extract_data,qc9,qc9,qnc q h,List.take_of_length_le]
 ·rfl
 ·have h1:=congrArg List.length (qc9 q)
  rw[qnc q h] at h1;simp at h1 ⊢;omega
theorem qrt(q:Rat)(z:Int)(hz:sgn q=z)(w:World):
  Calls Tryz.prog 66 #[.string (rt q)] w fun e w'=>e = .returned (.int .i64 z)∧w'=w:=by
 rw[←hz];exact zay (rt q) q w (qc9 q)
theorem q78{q:Rat}(h:q.num<0):sgn q = -1:=by unfold sgn;rw[if_pos h]
theorem zaz{q:Rat}:0<(rt q).size:=qoz q (rt q) (qc9 q)
def zar(q:Rat):Rat:=if q.num<0 then -q else q
theorem q91(q:Rat)(w:World):
  Calls Tryz.prog 25 #[.string (rt q)] w fun e w'=>e = .returned (.string (rt (zar q)))∧w'=w:=by
 have hp:0<(rt q).size:=zaz;unfold zar;rcases Int.lt_or_le q.num 0 with h|h
 ·have HS:=hid (fun W=>qrt q _ (q78 h) W)
  have HT:=hid (q77 q h);rw[if_pos h];clear h;generalize rt (-q)=t2 at *;generalize rt q=t at *
  have eQ:∀W:World,(Instr.slice 30 (.string t) (some (.int .i64 1)) none none).run Tryz.prog W = .ok (.string t2) W:=fun W=>by
   have h:=run_slice_string_l W 30 t Tryz.underlying30 .i64 1 (by omega) (by omega);rw[show(1:Int).toNat=1 from rfl,HT.out] at h;exact h
  go_enter Tryz.func25,Tryz.ntmps25;go_wp2_with fail;refine(HS.out _).mono ?_;rintro e w1 ⟨rfl,rfl⟩;go_wp2_with fail;go_ret;exact⟨rfl,rfl⟩
 ·rw[if_neg (by omega)]
  have HS:Hid (∀W:World,Calls Tryz.prog 66 #[.string (rt q)] W fun e w'=>(∃z:Int,0≤z∧e = .returned (.int .i64 z))∧w'=W):=hid fun W=>(qrt q _ rfl W).mono fun _ _ ⟨h1,h2⟩=>⟨⟨_,by unfold sgn;rw[if_neg (by omega)];split<;>omega,h1⟩,h2⟩;clear h;generalize rt q=t at *;go_enter Tryz.func25,Tryz.ntmps25;go_wp2_with fail;refine(HS.out _).mono ?_;rintro e w1 ⟨⟨z,hz,rfl⟩,rfl⟩;go_wp2_with fail;go_ret;exact⟨rfl,rfl⟩
theorem q2b(c:UInt8)(l:List UInt8):sl (c::l)=if c=47 then 0 else sl l+1:=by
 unfold sl;rw[List.findIdx_cons];by_cases h:c=47
 ·rw[if_pos h,h];rfl
 ·rw[if_neg h]
  have:(c==47)=false:=qan h;rw[this];rfl
theorem qnd:∀l:List UInt8,Lib.indexByte l 47=if sl l<l.length then(sl l:Int) else -1
 | []=>rfl
 | c::l=>by
  have ih:=qnd l;have dS:=q5p l;unfold Lib.indexByte;rw[q2b,List.length_cons];by_cases h:c=47
  ·rw[h,if_pos rfl,if_pos (by decide),if_pos (by omega)];rfl
  ·have hb:(c==47)=false:=qan h
   rw[hb,if_neg (by decide),if_neg h,ih];by_cases h2:sl l<l.length
   ·have:((sl l:Int) == -1)=false:=qan (by omega)
    rw[if_pos h2,this,if_neg (by decide),if_pos (by omega)];omega
   ·rw[if_neg h2,if_pos (by decide),if_neg (by omega)]
theorem q92(l:List UInt8):Lib.cut l [47]=if sl l<l.length then(l.take (sl l),l.drop (sl l+1),true) else(l,[],false):=by
 unfold Lib.cut;rw[Lib.index_one,qnd];by_cases h:sl l<l.length
 ·rw[if_pos h,if_pos h,if_pos (by omega)];rfl
 ·rw[if_neg h,if_neg h,if_neg (by omega)]
theorem qxh{l:List UInt8}(h:sl l<l.length):l=l.take (sl l)++47::l.drop (sl l+1):=by
 induction l with
 | nil=>simp at h
 | cons d l ih=>
  rw[q2b] at h ⊢;by_cases e:d=47
  ·rw[if_pos e,e];rfl
  ·rw[if_neg e] at h ⊢
   rw[List.take_succ_cons,List.drop_succ_cons,List.cons_append,←ih (by simpa using h)]
theorem q79{c:UInt8}(h:isD c=true):∃d,d<10∧c=dig d∧c.toNat-48=d:=by
 rw[qmb] at h;refine⟨c.toNat-48,by omega, ?_,rfl⟩;apply UInt8.toNat_inj.1;rw[qi3];omega
theorem qh6:∀(l:List UInt8) (a:Nat),(0<a∨(l≠[]∧l.head? ≠ some 48))→(∀c ∈ l,isD c=true)→0<qbb a l
 | [],a,h,_=>by
  rcases h with h|h
  ·exact h
  ·exact absurd rfl h.1
 | c::l,a,h,hd=>by
  rw[qgc];refine qh6 l _ (.inl ?_) (fun x hx=>hd x (List.mem_cons_of_mem _ hx));rcases h with h|h
  ·omega
  ·have h1:=(qmb c).1 (hd c (List.mem_cons_self ..))
   have h2:c≠48:=fun e=>h.2 (by rw[e];rfl);have h3:c.toNat≠48:=fun e=>h2 (UInt8.toNat_inj.1 (by rw[e];rfl));omega
theorem qto:∀r:List UInt8,(∀c ∈ r,isD c=true)→r.reverse.head? ≠ some 48→qfc (qbb 0 r.reverse)=r.reverse
 | [],_,_=>by rw[List.reverse_nil];exact qcw
 | c::r,hd,hh=>by
  obtain⟨d,h1,h2,h3⟩:=q79 (hd c (List.mem_cons_self ..));rw[List.reverse_cons] at hh ⊢;have hr:∀x ∈ r,isD x=true:=fun x hx=>hd x (List.mem_cons_of_mem _ hx)
  have hh2:r.reverse.head? ≠ some 48:=by
   intro e;apply hh;cases hq:r.reverse with
   | nil=>rw[hq] at e;cases e
   | cons x y=>rw[hq] at e;exact e
  have ih:=qto r hr hh2
  have hp:0<qbb 0 (r.reverse++[c]):=by
   refine qh6 _ 0 (.inr ⟨by simp,hh⟩) ?_;intro x hx;rcases List.mem_append.1 hx with e|e
   ·exact hr x (List.mem_reverse.1 e)
   ·rw[List.mem_singleton.1 e];exact hd c (List.mem_cons_self ..)
  rw[qth,h3] at hp ⊢;rw[qdh hp,show(qbb 0 r.reverse*10+d)/10=qbb 0 r.reverse by omega,ih,h2]
  congr 2
  exact qrb (by omega)
theorem qja:qav 1=[49]:=by
 unfold qav;rw[if_neg (by decide),qdh (by decide),show 1/10=0 from rfl,qcw];rfl
theorem qe6{l:List UInt8}(h:qbo l=true):qav (qbb 0 l)=l:=by
 have ha:=qef h;obtain⟨hne,hd⟩:=(qea l).1 ha;unfold qbo at h;rw[Bool.and_eq_true,Bool.or_eq_true,beq_iff_eq] at h;rcases h.2 with e|e
 ·rw[e];rfl
 ·have hh:l.head? ≠ some 48:=by simpa using e
  have hp:=qh6 l 0 (.inr ⟨hne,hh⟩) hd;unfold qav;rw[if_neg (by omega)];have h1:=qto l.reverse (fun c hc=>hd c (List.mem_reverse.1 hc)) (by rw[List.reverse_reverse];exact hh);rw[List.reverse_reverse] at h1;exact h1
structure qhk(s t:BA)(neg:Bool)(A B:List UInt8)(f:Bool):Prop where
 whole:s.data.toList=(if neg then[45] else[])++t.data.toList
 plus:neg=false→Lib.hasPrefix s.data.toList [45]=false
 top:t.data.toList.take (sl t.data.toList)=A
 bot:t.data.toList.drop (sl t.data.toList+1)=B
 found:decide (sl t.data.toList<t.data.toList.length)=f
theorem qhk.sign{s t:BA}{neg:Bool}{A B:List UInt8}{f:Bool}(h:qhk s t neg A B f):Lib.hasPrefix s.data.toList [45]=neg∧Lib.trimPrefix s.data.toList [45]=t.data.toList:=by
 have hw:=h.whole;cases neg
 ·have hp:=h.plus rfl
  refine⟨hp, ?_⟩;unfold Lib.trimPrefix;rw[hp,if_neg (by decide),hw];rfl
 ·have hp:Lib.hasPrefix s.data.toList [45]=true:=by
   rw[hw];rfl
  refine⟨hp, ?_⟩;unfold Lib.trimPrefix;rw[hp,if_pos rfl,hw];rfl
theorem qhk.cut{s t:BA}{neg:Bool}{A B:List UInt8}{f:Bool}(h:qhk s t neg A B f):Lib.cut (Lib.trimPrefix s.data.toList [45]) [47]=(A,if f then B else[],f):=by
 rw[h.sign.2,q92,←h.top,←h.bot,←h.found];by_cases hk:sl t.data.toList<t.data.toList.length
 ·rw[if_pos hk,qag hk];rfl
 ·rw[if_neg hk,qae hk,List.take_of_length_le (by omega)];rfl
theorem qhk.check{s t:BA}{neg:Bool}{A B:List UInt8}{f:Bool}(h:qhk s t neg A B f):qah s.data.toList =
  if !qbo A||(neg&&A==[48]) then 1
  else if f&&(!qbo B||B==[48]||B==[49]) then 1
  else if 600<A.length∨(f=true∧600<B.length) then 4
  else if qj6 s.data.toList=s.data.toList then 0 else 1:=by
 unfold qah;rw[h.cut,h.sign.1];cases f
 ·simp only[Bool.false_and,Bool.false_eq_true,if_false,List.length_nil,false_and,or_false,Nat.not_lt_zero]
 ·simp only[Bool.true_and,if_true,true_and]
theorem qhk.num{s t:BA}{neg:Bool}{A B:List UInt8}{f:Bool}(h:qhk s t neg A B f)(hA:qbo A=true)(hB:f=true→qbo B=true∧B≠[48]):
  qa9 s.data.toList=mkRat (if neg then -(qbb 0 A:Int) else(qbb 0 A:Int)) (if f then qbb 0 B else 1):=by
 have h1:qcy s.data.toList=(neg,A,if f then B else[49]):=by
  unfold qcy;rw[h.cut,h.sign.1];cases f<;>rfl
 have h2:qj8 (if f then B else[49])=true∧qbb 0 (if f then B else[49])≠0∧qbb 0 (if f then B else[49])=(if f then qbb 0 B else 1):=by
  cases f
  ·exact⟨rfl,show qbb 0 [49]≠0 by decide,rfl⟩
  ·obtain⟨h2,h3⟩:=hB rfl
   exact⟨qef h2,qh1 h2 h3,rfl⟩
 unfold qa9 qf1;rw[h1];simp only[];rw[qef hA,h2.1,qag h2.2.1];simp only[Bool.and_self,if_true,Option.getD_some];rw[qxb,h2.2.2]
theorem qvq{a d:Nat}(hd:0<d)(h:d/Nat.gcd a d=d):Nat.gcd a d=1:=by
 have hg:0<Nat.gcd a d:=Nat.gcd_pos_of_pos_right _ hd;have h1:=Nat.div_mul_cancel (Nat.gcd_dvd_right a d);rw[h] at h1;have h2:d*Nat.gcd a d=d*1:=by omega
 exact Nat.eq_of_mul_eq_mul_left hd h2
theorem q2c{m n:Nat}(h:qav m=qav n):m=n:=by rw[←qdd m,h,qdd]
theorem q2d{l l' r r':List UInt8}(hl:∀c ∈ l,c≠47)(hl':∀c ∈ l',c≠47)(h:l++47::r=l'++47::r'):l=l'∧r=r':=by
 have h1:=congrArg sl h;rw[qqw _ _ hl,qqw _ _ hl'] at h1;obtain⟨h2,h3⟩:=List.append_inj h h1;exact⟨h2,by injection h3⟩
theorem qhk.lowest{s t:BA}{neg:Bool}{A B:List UInt8}{f:Bool}(h:qhk s t neg A B f)(hA:qbo A=true)(hz:neg=true→A≠[48])(hB:f=true→qbo B=true∧B≠[48]∧B≠[49])(hlA:A.length≤600)(hlB:f=true→B.length≤600):
  qj6 s.data.toList=s.data.toList↔(f=true→Nat.gcd (qbb 0 A) (qbb 0 B)=1):=by
 have Qh:=h.num hA (fun e=>⟨(hB e).1,(hB e).2.1⟩);have eA:=qe6 hA;obtain⟨a,ha⟩:∃a,a=qbb 0 A:=⟨_,rfl⟩;obtain⟨d,rX⟩:∃d,d=(if f then qbb 0 B else 1):=⟨_,rfl⟩;obtain⟨z,rY⟩:∃z:Int,z=if neg then -(a:Int) else(a:Int):=⟨_,rfl⟩
 rw[←ha,←rY,←rX] at Qh;rw[←ha] at eA;have hza:z.natAbs=a:=by rw[rY];cases neg<;>simp
 have hd:0<d:=by
  rw[rX];cases f
  ·exact Nat.zero_lt_one
  ·exact Nat.pos_of_ne_zero (qh1 (hB rfl).1 (hB rfl).2.1)
 have Km:z<0↔neg=true:=by
  rw[rY];cases neg
  ·simp
  ·have h1:=qh1 hA (hz rfl)
   rw[←ha] at h1;simp;omega
 have zA:f=true→d≠1:=by
  intro e e1;have h1:=qe6 (hB e).1;rw[rX,if_pos e] at e1;rw[e1] at h1;exact(hB e).2.2 (h1.symm.trans qja)
 have hs:s.data.toList=(if z<0 then[45] else[])++qav z.natAbs++(if d=1 then[] else 47::qav d):=by
  rw[h.whole,hza,eA]
  have e1:(if z<0 then([45]:List UInt8) else[])=if neg then[45] else[]:=by
   by_cases e:neg=true
   ·rw[if_pos e,if_pos (Km.2 e)]
   ·rw[if_neg e,if_neg (fun e2=>e (Km.1 e2))]
  rw[e1,List.append_assoc]
  congr 1
  have Iq:=h.found;cases f
  ·have hk:¬sl t.data.toList<t.data.toList.length:=of_decide_eq_false Iq
   have e2:=h.top;rw[List.take_of_length_le (by omega)] at e2;rw[if_pos (by rw[rX];rfl),List.append_nil,e2]
  ·have hk:sl t.data.toList<t.data.toList.length:=of_decide_eq_true Iq
   have e2:=qxh hk;rw[h.top,h.bot] at e2;rw[if_neg (zA rfl)]
   have e3:qav d=B:=by
    rw[rX,if_pos rfl];exact qe6 (hB rfl).1
   rw[e3];exact e2
 unfold qj6;rw[Qh];obtain⟨p1,p2⟩:=qmm z d hd;rw[hza] at p1 p2
 have hgcd:(f=true→Nat.gcd (qbb 0 A) (qbb 0 B)=1)↔Nat.gcd a d=1:=by
  rw[rX,←ha];cases f
  ·simp
  ·simp
 rw[hgcd];constructor
 ·intro ht
  split at ht
  ·rename_i bM
   have h3:(mkRat z d).den=d:=by
    rw[hs] at ht;unfold qa7 at ht;have g1:∀x:Int,∀c ∈ (if x<0 then([45]:List UInt8) else[])++qav x.natAbs,c≠47:=fun x=>qml x;by_cases e1:d=1
    ·rw[if_pos e1,List.append_nil] at ht
     by_cases e2:(mkRat z d).den=1
     ·rw[e2,e1]
     ·rw[if_neg e2] at ht
      exfalso;refine g1 z 47 ?_ rfl;rw[←ht];simp
    ·rw[if_neg e1] at ht
     by_cases e2:(mkRat z d).den=1
     ·rw[if_pos e2,List.append_nil] at ht
      exfalso;refine g1 (mkRat z d).num 47 ?_ rfl;rw[ht];simp
     ·rw[if_neg e2] at ht
      exact q2c (q2d (g1 _) (g1 _) ht).2
   rw[p2] at h3;exact qvq hd h3
  ·exfalso
   rw[hs] at ht;have h4:=congrArg List.length ht;have h5:=List.length_pos_iff.2 (qgt z.natAbs);simp at h4;omega
 ·intro hg
  rw[hg,Nat.div_one] at p1 p2
  have e1:(mkRat z d).num=z:=by
   rw[p1,←hza];rcases Int.lt_or_le z 0 with e|e
   ·rw[qag e,if_pos rfl];omega
   ·rw[qae (by omega),if_neg (by decide)];omega
  have bM:qbr (mkRat z d) 600=true:=by
   unfold qbr;rw[e1,p2,hza,eA,Bool.and_eq_true,Bool.or_eq_true];refine⟨qag hlA, ?_⟩;cases f
   ·exact .inl (qag rX)
   ·refine .inr (qag ?_)
    rw[rX,if_pos rfl,qe6 (hB rfl).1];exact hlB rfl
  rw[if_pos bM,hs];unfold qa7;rw[e1,p2]
end Go.Proofs.YtmcfcpgglfimjaaGreatDoor
