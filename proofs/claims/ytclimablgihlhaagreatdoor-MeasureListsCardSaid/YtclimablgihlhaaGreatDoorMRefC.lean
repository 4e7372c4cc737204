/- The reference's divDigits for all numbers, and common, the greatest common divisor. -/
import Derived.Test.YtclimablgihlhaaGreatDoorMRefA
import Derived.Test.YtclimablgihlhaaGreatDoorMNumRead
import Derived.Deep.RegionHeld3
import Derived.Test.YtclimablgihlhaaGreatDoorMWrite
import Derived.Lib.Strings
import Derived.Lib.Split
import Derived.Test.YtclimablgihlhaaGreatDoorMText
set_option linter.all false
namespace Go.Proofs.YtclimablgihlhaaGreatDoor
open Go.RowKit
set_option maxRecDepth 100000
set_option maxHeartbeats 8000000
theorem qle(va vb:Value)(m n:Nat)(w:World)(ha:DN w va m)(hb:DN w vb n)(hn:0<n)(hl:dl m≤900):
  Calls Tryz.prog 174 #[va,vb] w fun e w'=>(∃vq vr,e = .returned (.tuple #[vq,vr])∧DN w' vq (m/n)∧DN w' vr (m % n))∧Below w.heap.size w w':=by
 by_cases h1:m<n∨dl n=1
 ·exact qpv va vb m n w ha hb h1 (by omega)
 ·have h2:dl n≠0:=by
   unfold dl;intro e;have:=(qey qa2).1 (List.length_eq_zero_iff.1 e);omega
  exact qrk va vb m n (dl n-2) w ha hb (by omega) (by omega) hl
theorem qf1{w:World}{v:Value}{n:Nat}(h:DN w v n):∃p k c,v = .slice p k c∧k=dl n:=by
 obtain⟨_,p,c,rfl,_⟩:=h;exact⟨p,_,c,rfl,rfl⟩
theorem q08:dl 0=0:=by unfold dl;rw[qal];rfl
theorem qwy{n:Nat}:0<dl n↔0<n:=by
 constructor
 ·intro h
  rcases zav n with e|e
  ·rw[e,q08] at h;omega
  ·exact e
 ·intro h
  unfold dl;rw[qfs _ _ qa2 h];simp
theorem qow{m n:Nat}(h:m≤n):dl m≤dl n:=qad qa2 h
theorem qve(va vb:Value)(m n:Nat)(w:World)(ha:DN w va m)(hb:DN w vb n)(hl:dl m≤900)(mL:dl n≤900):
  Calls Tryz.prog 128 #[va,vb] w fun e w'=>(∃v',e = .returned v'∧DN w' v' (Nat.gcd m n))∧Below w.heap.size w w':=by
 obtain⟨pa,ka,ca,rfl,uX⟩:=qf1 ha;obtain⟨pb,kb,cb,rfl,oA⟩:=qf1 hb;have HA:=hid ha;have HB:=hid hb;have HL:=hid (And.intro hl mL);have HKB:=hid oA;clear ha hb uX oA hl mL;go_enter Tryz.func128,Tryz.ntmps128;go_wp2_with fail
 go_loopg [0,1] n (fun k s0 s1 wr=>∃(x:Nat) (p:Option Addr) (j c:Nat),s1 = .slice p j c∧Hid (DN wr s0 x)∧Hid (DN wr (.slice p j c) k)∧Hid (j=dl k)∧Hid (dl x≤900∧dl k≤900)∧Hid (Nat.gcd x k=Nat.gcd m n)∧Hid (Below w.heap.size w wr))
 case atStart=>exact⟨m,pb,kb,cb,rfl,HA,HB,HKB,HL,hid rfl,hid (zan _ _)⟩
 case round=>
  obtain⟨x,p,j,c,rfl,HX,HY,HJ,rK,HG,bR⟩:=hrel;obtain⟨k,sQ⟩:∃k,k=gk:=⟨_,rfl⟩;subst gk;obtain⟨s0,gF⟩:∃s0,s0=u0:=⟨_,rfl⟩;subst u0;rcases zav k with e|hk
  ·subst e
   have Rv:j=0:=by rw[HJ.out,q08]
   subst Rv;have HE:Hid (Nat.gcd m n=x):=hid (by rw[←HG.out,Nat.gcd_zero_right]);go_wp2_with fail;go_ret;exact⟨⟨_,rfl,by rw[HE.out];exact HX.out⟩,bR.out⟩
  ·have Rv:0<j:=by rw[HJ.out];exact qwy.2 hk
   have HD:=hid (qle s0 (.slice p j c) x k wr HX.out HY.out hk rK.out.1);go_wp2_with fail;refine HD.out.mono ?_;rintro e w1 ⟨⟨vq,vr,rfl,_,hr⟩,bB⟩;obtain⟨p2,k2,c2,rfl,tK⟩:=qf1 hr;have HR:=hid hr;have cY:=hid tK;have dP:Hid (Below w.heap.size w w1):=hid (bR.out.trans (bB.mono bR.out.size));have HY2:Hid (DN w1 (.slice p j c) k):=hid (HY.out.later bB);have nE:Hid (Nat.gcd k (x % k)=Nat.gcd m n):=hid (by rw[←HG.out,Nat.gcd_comm x k,Nat.gcd_rec k x,Nat.gcd_comm]);have bI:x % k<k:=Nat.mod_lt _ hk;have HLL2:Hid (dl k≤900∧dl (x % k)≤900):=hid ⟨rK.out.2,Nat.le_trans (qow (Nat.le_of_lt bI)) rK.out.2⟩;clear hr bB HD tK;go_wp2_with fail
   go_roundg (x % k)
   case measure=>exact bI
   case rel=>exact⟨k,p2,k2,c2,rfl,HY2,HR,cY,HLL2,nE,dP⟩
theorem qta(a:Nat)(l:List UInt8)(c:UInt8):qaz a (l++[c])=qaz a l*10+(c.toNat-48):=by
 unfold qaz;rw[List.foldl_append];rfl
theorem qqe(s:BA)(w:World)(hd:∀c ∈ s.data.toList,isD c=true)(hl:s.size≤18):
  Calls Tryz.prog 178 #[.string s] w fun e w'=>e = .returned (.int .i64 (qaz 0 s.data.toList:Nat))∧w'=w:=by
 have HD:=hid hd;have lA:=hid (qdf s);clear hd;go_enter Tryz.func178,Tryz.ntmps178;go_wp2_with fail
 go_loopw [3,4] (fun n i wr=>∃k a:Nat,k≤s.size∧i = .int .i64 k∧n = .int .i64 a∧Hid (a=qaz 0 (s.data.toList.take k))∧wr=w) (fun _ i _=>s.size-(intOf i).toNat)
 case atStart=>exact⟨0,0,Nat.zero_le _,rfl,rfl,hid rfl,rfl⟩
 case round=>
  obtain⟨k,a,hk,rfl,rfl,HA,rfl⟩:=hrel;by_cases sN:k<s.size
  ·have hcd:isD (s[k]'sN)=true:=HD.out _ (by rw[←qdm s k sN];exact List.getElem_mem _)
   have hc:48≤(s[k]'sN).toNat∧(s[k]'sN).toNat≤57:=by simpa [isD] using hcd
   have iV:a<1000000000000000000:=by
    have h1:=qfn (s.data.toList.take k) (fun c hc=>HD.out c (List.mem_of_mem_take hc));rw[←HA.out] at h1;have h2:(s.data.toList.take k).length≤17:=by rw[List.length_take];omega
    have h3:=Nat.pow_le_pow_right (show 0<10 by omega) h2;omega
   have lD:Hid (10*a+((s[k]'sN).toNat-48)=qaz 0 (s.data.toList.take (k+1))):=hid (by rw[lA.out k sN,qta,←HA.out,Nat.mul_comm])
   have hab2:(a:Int)≤99999999999999999:=by
    have h1:=qfn (s.data.toList.take k) (fun c hc=>HD.out c (List.mem_of_mem_take hc));rw[←HA.out] at h1;have h2:(s.data.toList.take k).length≤17:=by rw[List.length_take];omega
    have h3:=Nat.pow_le_pow_right (show 0<10 by omega) h2;omega
   have vS:∀h:k<s.size,((s[k]'h).toNat:Int)=((s[k]'sN).toNat:Int):=fun h=>rfl;clear hcd iV;generalize (s[k]'sN).toNat=c at *;obtain⟨h1,h2⟩:=hc;obtain⟨d,hd⟩:∃d,d=10*a+(c-48):=⟨_,rfl⟩;have Nv:10*(a:Int)+(c:Int)-48=(d:Int):=by omega
   rw[←hd] at lD;clear hd;go_wp2_with fail;go_roundw
   case rel=>exact⟨k+1,d,by omega,by go_num,rfl,lD,trivial⟩
   case measure=>simp[intOf];omega
  ·have sQ:k=s.size:=by omega
   have HE:Hid (a=qaz 0 s.data.toList):=hid (by rw[HA.out,List.take_of_length_le (by simp;omega)]);clear sQ;go_wp2_with fail;go_ret;exact⟨qa0 (by rw[HE.out]),rfl⟩
def sl(l:List UInt8):Nat:=l.findIdx (· == 47)
theorem q4w(l:List UInt8):sl l≤l.length:=List.findIdx_le_length
theorem zaa{s:BA}{k:Nat}(h:k<s.size)(hc:(s[k]'h).toNat=47)(hb:∀c ∈ s.data.toList.take k,c≠47):sl s.data.toList=k:=by
 unfold sl;have hk:k<s.data.toList.length:=by simpa using h
 have h2:s.data.toList[k]=47:=by rw[qdm s k h];exact UInt8.toNat_inj.1 hc
 rw[List.findIdx_eq hk];refine⟨by rw[h2];rfl,fun j hj => ?_⟩;have:=hb (s.data.toList[j]'(by omega)) (by rw[List.mem_take_iff_getElem];exact⟨j,by omega,rfl⟩)
 simpa using this
theorem q09{l:List UInt8}(hb:∀c ∈ l,c≠47):sl l=l.length:=by
 unfold sl;rw[List.findIdx_eq_length];intro c hc
 simpa using hb c hc
theorem qqf(s:BA)(w:World)(hl:s.size≤1073741824):
  Calls Tryz.prog 125 #[.string s] w fun e w'=>e = .returned (.int .i64 (sl s.data.toList:Nat))∧w'=w:=by
 have lA:=hid (qdf s);have HAT:Hid (∀k,∀h:k<s.size,(s[k]'h).toNat=47→(∀c ∈ s.data.toList.take k,c≠47)→sl s.data.toList=k):=hid fun k h h1 h2=>zaa h h1 h2
 have yN:Hid ((∀c ∈ s.data.toList.take s.size,c≠47)→sl s.data.toList=s.size):=hid fun h=>by
  rw[List.take_of_length_le (by simp)] at h;rw[q09 h];simp
 generalize sl s.data.toList=res at *;go_enter Tryz.func125,Tryz.ntmps125;go_wp2_with fail
 go_loopw [3] (fun i wr=>∃k:Nat,k≤s.size∧i = .int .i64 k∧Hid (∀c ∈ s.data.toList.take k,c≠47)∧wr=w) (fun i _=>s.size-(intOf i).toNat)
 case atStart=>exact⟨0,Nat.zero_le _,rfl,hid (by simp),rfl⟩
 case round=>
  obtain⟨k,hk,rfl,HD,rfl⟩:=hrel;by_cases sN:k<s.size
  ·have vS:∀h:k<s.size,((s[k]'h).toNat:Int)=((s[k]'sN).toNat:Int):=fun h=>rfl
   have HA:=hid (HAT.out k sN)
   have pP:Hid ((s[k]'sN).toNat≠47→∀c ∈ s.data.toList.take (k+1),c≠47):=hid fun h=>by
    rw[lA.out k sN];intro c hc;rcases List.mem_append.1 hc with hc|hc
    ·exact HD.out c hc
    ·rw[List.mem_singleton.1 hc]
     intro e;exact h (by rw[e];rfl)
   generalize (s[k]'sN).toNat=c at *;by_cases h:c=47
   ·subst h
    have HE:=hid (HA.out rfl HD.out);have hb:(((47:Nat):Int)==47)=true:=rfl;clear HA pP;go_wp2_with fail;go_ret;exact⟨qa0 (by rw[HE.out]),rfl⟩
   ·have hb:((c:Int)==47)=false:=zat (by omega)
    have HD3:=hid (pP.out h);clear HA pP h;go_wp2_with fail;go_roundw
    case rel=>exact⟨k+1,by omega,by go_num,HD3,trivial⟩
    case measure=>simp[intOf];omega
  ·have sQ:k=s.size:=by omega
   have HE:Hid (res=s.size):=hid (yN.out (by rw[←sQ];exact HD.out));clear sQ;go_wp2_with fail;go_ret;exact⟨qa0 (by rw[HE.out]),rfl⟩
theorem q7q(s:BA)(k:Nat)(h:k<s.size)(hb:isD (s[k]'h)=false):s.data.toList.all isD=false:=by
 rw[List.all_eq_false];exact⟨s[k]'h,by rw[←qdm s k h];exact List.getElem_mem _,by simp[hb]⟩
theorem q7r(s:BA)(w:World)(hl:s.size≤1073741824):
  Calls Tryz.prog 172 #[.string s] w fun e w'=>e = .returned (.bool (s.data.toList.all isD))∧w'=w:=by
 have lA:=hid (qdf s);have nM:=hid (q7q s)
 have Be:Hid ((∀c ∈ s.data.toList.take s.size,isD c=true)→s.data.toList.all isD=true):=hid fun h=>by
  rw[List.take_of_length_le (by simp)] at h;exact List.all_eq_true.2 h
 generalize s.data.toList.all isD=res at *;go_enter Tryz.func172,Tryz.ntmps172;go_wp2_with fail
 go_loopw [3] (fun i wr=>∃k:Nat,k≤s.size∧i = .int .i64 k∧Hid (∀c ∈ s.data.toList.take k,isD c=true)∧wr=w) (fun i _=>s.size-(intOf i).toNat)
 case atStart=>exact⟨0,Nat.zero_le _,rfl,hid (by simp),rfl⟩
 case round=>
  obtain⟨k,hk,rfl,HD,rfl⟩:=hrel;by_cases sN:k<s.size
  ·have vS:∀h:k<s.size,((s[k]'h).toNat:Int)=((s[k]'sN).toNat:Int):=fun h=>rfl
   by_cases hd:isD (s[k]'sN)=true
   ·have h1:48≤(s[k]'sN).toNat∧(s[k]'sN).toNat≤57:=by simpa [isD] using hd
    have pP:Hid (∀c ∈ s.data.toList.take (k+1),isD c=true):=hid (by
     rw[lA.out k sN];intro c hc;rcases List.mem_append.1 hc with hc|hc
     ·exact HD.out c hc
     ·rw[List.mem_singleton.1 hc];exact hd)
    clear hd;generalize (s[k]'sN).toNat=c at *;obtain⟨h48,h57⟩:=h1;have g1:decide ((c:Int)<48)=false:=zar (by omega);have g2:decide ((57:Int)<(c:Int))=false:=zar (by omega);go_wp2_with fail;go_roundw
    case rel=>exact⟨k+1,by omega,by go_num,pP,trivial⟩
    case measure=>simp[intOf];omega
   ·have hd':isD (s[k]'sN)=false:=by simpa using hd
    have aS:=hid (nM.out k sN hd')
    have hr:(s[k]'sN).toNat<48∨57<(s[k]'sN).toNat:=by
     unfold isD at hd';have:=of_decide_eq_false hd';omega
    clear hd hd';generalize (s[k]'sN).toNat=c at *;rcases Nat.lt_or_ge c 48 with hr'|hr'
    ·have g1:decide ((c:Int)<48)=true:=zas (by omega)
     clear hr;go_wp2_with fail;go_ret;exact⟨qbb aS.out.symm,rfl⟩
    ·have g1:decide ((c:Int)<48)=false:=zar (by omega)
     have g2:decide ((57:Int)<(c:Int))=true:=zas (by omega);clear hr;go_wp2_with fail;go_ret;exact⟨qbb aS.out.symm,rfl⟩
  ·have sQ:k=s.size:=by omega
   have HE:=hid (Be.out (by rw[←sQ];exact HD.out));clear sQ;go_wp2_with fail;go_ret;exact⟨qbb HE.out.symm,rfl⟩
theorem qtb(s:BA):(s.size=0→qbd s.data.toList=false)∧(s.size=1→qbd s.data.toList=s.data.toList.all isD)∧
  (∀h:1<s.size,(s[0]'(by omega)).toNat=48→qbd s.data.toList=false)∧(∀h:1<s.size,(s[0]'(by omega)).toNat≠48→qbd s.data.toList=s.data.toList.all isD):=by
 have e:s.data.toList.length=s.size:=by simp
 unfold qbd qj9;refine⟨fun h => ?_,fun h => ?_,fun h hc => ?_,fun h hc => ?_⟩
 ·have:s.data.toList=[]:=List.length_eq_zero_iff.1 (by omega)
  rw[this];rfl
 ·obtain⟨c,hc⟩:=List.length_eq_one_iff.1 (e.trans h)
  rw[hc];by_cases h2:c=48
  ·subst h2;decide
  ·simp[h2]
 ·have h2:s.data.toList[0]? = some 48:=by rw[zau (by omega),qdm s 0 (by omega)];exact congrArg some (UInt8.toNat_inj.1 hc)
  clear hc;generalize s.data.toList=l at *
  match l,e,h2 with
  | [],e,_=>simp at e;omega
  | [c],e,_=>simp at e;omega
  | a::b::r,_,h2=>simp at h2;subst h2;simp
 ·have h2:∃c,s.data.toList[0]? = some c∧c≠48:=⟨_,by rw[zau (by omega),qdm s 0 (by omega)],fun e=>hc (by rw[e];rfl)⟩
  obtain⟨c,h2,h3⟩:=h2;clear hc;generalize s.data.toList=l at *
  match l,e,h2 with
  | [],e,_=>simp at e;omega
  | a::r,_,h2=>simp at h2;subst h2;simp[h3]
theorem qi2(s:BA)(w:World)(hl:s.size≤1073741824):
  Calls Tryz.prog 126 #[.string s] w fun e w'=>e = .returned (.bool (qbd s.data.toList))∧w'=w:=by
 have zY:=hid (q7r s w hl);obtain⟨p0,p1,p2,p3⟩:=qtb s;rcases(show s.size=0∨s.size=1∨1<s.size by omega) with h|h|h
 ·have HE:=hid (p0 h)
  have g1:((s.size:Int)==0)=true:=beq_iff_eq.2 (by omega);clear p0 p1 p2 p3 h;go_enter Tryz.func126,Tryz.ntmps126;go_wp2_with fail;go_ret;exact⟨qbb HE.out.symm,rfl⟩
 ·have HE:=hid (p1 h)
  rw[←HE.out] at zY;have g1:((s.size:Int)==0)=false:=zat (by omega);have g2:decide ((1:Int)<(s.size:Int))=false:=zar (by omega);clear p0 p1 p2 p3 h;go_enter Tryz.func126,Tryz.ntmps126;go_wp2_with fail;refine zY.out.mono ?_;rintro e w1 ⟨rfl,rfl⟩;go_wp2_with fail;go_ret;exact⟨rfl,rfl⟩
 ·have g1:((s.size:Int)==0)=false:=zat (by omega)
  have g2:decide ((1:Int)<(s.size:Int))=true:=zas (by omega);have gF:0<s.size:=by omega
  have vS:∀h':0<s.size,((s[0]'h').toNat:Int)=((s[0]'gF).toNat:Int):=fun h=>rfl;have q2:=p2 h;have q3:=p3 h;clear p0 p1 p2 p3;generalize (s[0]'gF).toNat=c at *;by_cases hc:c=48
  ·have HE:=hid (q2 hc)
   subst hc;have g3:(((48:Nat):Int)==48)=true:=rfl;clear q2 q3;go_enter Tryz.func126,Tryz.ntmps126;go_wp2_with fail;go_ret;exact⟨qbb HE.out.symm,rfl⟩
  ·have HE:=hid (q3 hc)
   rw[←HE.out] at zY;have g3:((c:Int)==48)=false:=zat (by omega);clear q2 q3 hc;go_enter Tryz.func126,Tryz.ntmps126;go_wp2_with fail;refine zY.out.mono ?_;rintro e w1 ⟨rfl,rfl⟩;go_wp2_with fail;go_ret;exact⟨rfl,rfl⟩
def qcp(w:World)(v:Value)(z:Int):Prop:=∃vw,v = .agg #[.bool (decide (z<0)),vw]∧DN w vw z.natAbs
theorem qcp.later{w w':World}{v:Value}{z:Int}(h:qcp w v z)(hb:Below w.heap.size w w'):qcp w' v z:=by
 obtain⟨vw,h1,h2⟩:=h;exact⟨vw,h1,h2.later hb⟩
theorem qg1(neg:Bool)(vw:Value)(l:List Nat)(w:World)(h:Dgs w vw l):
  Calls Tryz.prog 182 #[.bool neg,vw] w fun e w'=>(∃v,e = .returned v∧qcp w' v (if neg then -(val D9 l:Int) else(val D9 l:Int)))∧Below w.heap.size w w':=by
 have HT:Hid (∀W,Below w.heap.size w W→Calls Tryz.prog 205 #[vw] W fun e w'=>(∃v',e = .returned v'∧∀o,DN (w.alloc o) v' (val D9 l))∧W=w'):=hid fun W hW=>(q6c vw l W (h.later hW)).mono fun _ _ ⟨⟨v',he,hv⟩,hw⟩=>⟨⟨v',he,fun o=>hv _ (h.later (zam _ _))⟩,hw⟩;clear h;generalize val D9 l=n at *;go_enter Tryz.func182,Tryz.ntmps182;go_wp2_with fail;refine(HT.out _ (zam _ _)).mono ?_;rintro e w1 ⟨⟨v',rfl,hv⟩,rfl⟩;obtain⟨p,k,c,rfl,hk⟩:=qf1 (hv (.cells #[] 0));have uE:=hid hv;have HK:=hid hk;clear hv hk;have HB:∀o,Below w.heap.size w (w.alloc o):=fun o=>(zan _ w).alloc (zap _) o;have cO:=uE.out;cases neg
 ·have HE:Hid (decide ((n:Int)<0)=false):=hid (zar (by omega))
  have kC:=hid cO;clear cO;go_wp2_with fail;refine bodyPost_ret (v := .agg #[.bool false,.slice p k c]) ?_ rfl ?_
  ·simp[results,Tryz.results182,go_sem]
  ·exact⟨⟨_,rfl,.slice p k c,by simp only[Bool.false_eq_true,if_false,HE.out],by simp only[Bool.false_eq_true,if_false,Int.natAbs_natCast];exact kC.out _⟩,HB _⟩
 ·have kC:=hid cO
  clear cO;rcases zav k with e|e
  ·have tS:n=0:=by
    rcases zav n with h|h
    ·exact h
    ·have:=qwy.2 h;have:=HK.out;omega
   have HN:=hid tS;clear tS;subst e;have g:decide ((0:Int)<((0:Nat):Int))=false:=rfl;go_wp2_with fail;refine bodyPost_ret (v := .agg #[.bool false,.slice p 0 c]) ?_ rfl ?_
   ·simp[results,Tryz.results182,go_sem]
   ·exact⟨⟨_,rfl,_,by simp only[if_true,HN.out];rfl,by simp only[if_true,Int.natAbs_neg,Int.natAbs_natCast];exact kC.out _⟩,HB _⟩
  ·have g:decide ((0:Int)<(k:Int))=true:=zas (by omega)
   have HE:Hid (decide (-(n:Int)<0)=true):=hid (zas (by have:=qwy.1 (by rw[←HK.out];exact e);omega));clear e;go_wp2_with fail;refine bodyPost_ret (v := .agg #[.bool true,.slice p k c]) ?_ rfl ?_
   ·have:=of_decide_eq_true g
    simp[results,Tryz.results182,go_sem];omega
   ·exact⟨⟨_,rfl,.slice p k c,by simp only[if_true,HE.out],by simp only[if_true,Int.natAbs_neg,Int.natAbs_natCast];exact kC.out _⟩,HB _⟩
theorem DN.setOther{W:World}{v:Value}{n:Nat}{p:Addr}{x u:Value}(h:DN W v n)(hp:W.cell? p=some u)(hu:∀k z,u ≠ .int k z):DN (W.setCell p x) v n:=by
 obtain⟨h1,a,c,rfl,h2,h3,h4⟩:=h;refine⟨h1,a,c,rfl,h2,h3, ?_⟩;rcases h4 with h4|⟨b,o,rfl,h5⟩
 ·exact .inl h4
 ·refine .inr ⟨b,o,rfl,fun i hi => ?_⟩
  rw[World.cell?_setCell_other _ _ _ _ ?_]
  ·exact h5 i hi
  ·intro e
   rw[e,h5 i hi] at hp;cases hp
   exact hu _ _ rfl
def qid(b:Bool)(v:Value)(i:Nat):Value:=if i=0 then .bool b else v
theorem qed{W:World}{g:Nat}{sg:Bool}{t:Value}{z:Int}(h:qcp W (.agg #[.bool sg,t]) z)(r:Own W g 2 (qid false (.slice none 0 0))):
  qcp ((W.setCell ⟨g,0,none⟩ (.bool sg)).setCell ⟨g,1,none⟩ t) (.agg #[.bool sg,t]) z:=by
 obtain⟨v,e,hv⟩:=h;refine⟨v,e, ?_⟩;refine(hv.setOther (r.2 0 (by omega)).1 (by intro k z h;cases h)).setOther (u := .slice none 0 0) ?_ (by intro k z h;cases h);rw[World.cell?_setCell_other _ _ _ _ (by intro h;injection h with _ h;cases h)];exact(r.2 1 (by omega)).1
theorem qcp.parts{w:World}{v:Value}{z:Int}(h:qcp w v z):∃p k c,v = .agg #[.bool (decide (z<0)),.slice p k c]∧k=dl z.natAbs∧DN w (.slice p k c) z.natAbs:=by
 obtain⟨vw,rfl,hv⟩:=h;obtain⟨p,k,c,rfl,hk⟩:=qf1 hv;exact⟨p,k,c,rfl,hk,hv⟩
def qfg(w:World)(na:Bool)(ta:Value)(nb:Bool)(tb:Value)(W:World):Prop:=
 Below w.heap.size w W∧Own W w.heap.size 2 (qid na ta)∧Own W (w.heap.size+1) 2 (qid nb tb)∧Own W (w.heap.size+1+1) 2 (qid false (.slice none 0 0))
theorem qfg.later{w:World}{na nb:Bool}{ta tb:Value}{W W':World}(h:qfg w na ta nb tb W)(hb:Below W.heap.size W W'):qfg w na ta nb tb W':=by
 obtain⟨h1,h2,h3,h4⟩:=h;have:=h4.1;exact⟨h1.trans (hb.mono h1.size),h2.later (hb.mono (by omega)),h3.later (hb.mono (by omega)),h4.later (hb.mono (by omega))⟩
theorem qh2{w W:World}{na nb:Bool}{ta tb:Value}{f:FuncId}{args:Array Value}{P:Ending→World→Prop}(hW:qfg w na ta nb tb W)
  (h:Calls Tryz.prog f args W fun e w'=>P e w'∧Below W.heap.size W w'):Calls Tryz.prog f args W fun e w'=>P e w'∧qfg w na ta nb tb w':=
 h.mono fun _ _ ⟨h1,h2⟩=>⟨h1,hW.later h2⟩
theorem qd0(V:World)(n:Bool)(t:Value):Own (V.alloc (.cells #[.bool n,t] 179)) V.heap.size 2 (qid n t):=by
 refine⟨by rw[zao];omega,fun i hi => ?_⟩;rw[World.cell?_alloc_at _ _ _ _ rfl,World.frozen?_alloc_at _ _ _ _ rfl]
 match i,hi with
 | 0,_=>exact⟨rfl,rfl⟩
 | 1,_=>exact⟨rfl,rfl⟩
theorem qi3{w:World}{g n:Nat}{f:Nat→Value}(h:Own w g n f)(o:Obj):Own (w.alloc o) g n f:=h.later ((zan _ _).alloc h.1 _)
theorem qtc(w:World)(na:Bool)(ta:Value)(nb:Bool)(tb:Value):
  qfg w na ta nb tb (((w.alloc (.cells #[.bool na,ta] 179)).alloc (.cells #[.bool nb,tb] 179)).alloc (.cells #[.bool false,.slice none 0 0] 179)):=by
 have h1:=qd0 w na ta;have h2:=qd0 (w.alloc (.cells #[.bool na,ta] 179)) nb tb;have h3:=qd0 ((w.alloc (.cells #[.bool na,ta] 179)).alloc (.cells #[.bool nb,tb] 179)) false (.slice none 0 0);rw[zao] at h2 h3;rw[zao] at h3;refine⟨((zam _ _).alloc (by rw[zao];omega) _).alloc (by rw[zao,zao];omega) _, ?_, ?_,h3⟩
 ·exact qi3 (qi3 h1 _) _
 ·exact qi3 h2 _
theorem qbf{w:World}{na nb:Bool}{ta tb:Value}{W:World}(h:qfg w na ta nb tb W):
  W.cell? ⟨w.heap.size,0,none⟩=some (.bool na)∧W.cell? ⟨w.heap.size,1,none⟩=some ta∧W.cell? ⟨w.heap.size+1,0,none⟩=some (.bool nb)∧W.cell? ⟨w.heap.size+1,1,none⟩=some tb:=
 ⟨(h.2.1.2 0 (by omega)).1,(h.2.1.2 1 (by omega)).1,(h.2.2.1.2 0 (by omega)).1,(h.2.2.1.2 1 (by omega)).1⟩
theorem qrl{w W:World}{na nb:Bool}{ta tb:Value}(h:qfg w na ta nb tb W):
  (W.cell? ⟨w.heap.size+1+1,0,none⟩=some (.bool false)∧W.frozen? ⟨w.heap.size+1+1,0,none⟩=false)∧(W.cell? ⟨w.heap.size+1+1,1,none⟩=some (.slice none 0 0)∧W.frozen? ⟨w.heap.size+1+1,1,none⟩=false):=
 ⟨h.2.2.2.2 0 (by omega),h.2.2.2.2 1 (by omega)⟩
theorem qfh{W:World}{g1 g2:Nat}{c0 c1 c2 c3:Option Value}(h:W.cell? ⟨g1,0,none⟩=c0∧W.cell? ⟨g1,1,none⟩=c1∧W.cell? ⟨g2,0,none⟩=c2∧W.cell? ⟨g2,1,none⟩=c3){g o:Nat}(h1:g≠g1)(h2:g≠g2)(x:Value):
  (W.setCell ⟨g,o,none⟩ x).cell? ⟨g1,0,none⟩=c0∧(W.setCell ⟨g,o,none⟩ x).cell? ⟨g1,1,none⟩=c1∧(W.setCell ⟨g,o,none⟩ x).cell? ⟨g2,0,none⟩=c2∧(W.setCell ⟨g,o,none⟩ x).cell? ⟨g2,1,none⟩=c3:=by
 have k:∀(a i:Nat),g≠a→(W.setCell ⟨g,o,none⟩ x).cell? ⟨a,i,none⟩=W.cell? ⟨a,i,none⟩:=fun a i h=>World.cell?_setCell_other _ _ _ _ (by intro e;injection e with e;exact h e);rw[k _ _ h1,k _ _ h1,k _ _ h2,k _ _ h2];exact h
theorem qfi{w W:World}{g:Nat}(h:Below w.heap.size w W)(hg:w.heap.size≤g)(x y:Value):Below w.heap.size w ((W.setCell ⟨g,0,none⟩ x).setCell ⟨g,1,none⟩ y):=(h.setCell hg _).setCell hg _
theorem qyo(x y:Int):(if(decide (x<0) != decide (y<0)) then -((x.natAbs*y.natAbs:Nat):Int) else((x.natAbs*y.natAbs:Nat):Int))=x*y:=by
 rcases Int.lt_or_le x 0 with h1|h1<;>rcases Int.lt_or_le y 0 with h2|h2
 ·rw[zas h1,zas h2,if_neg (by decide),Int.natCast_mul,Int.ofNat_natAbs_of_nonpos (by omega),Int.ofNat_natAbs_of_nonpos (by omega),Int.neg_mul_neg]
 ·rw[zas h1,zar (by omega),if_pos (by decide),Int.natCast_mul,Int.ofNat_natAbs_of_nonpos (by omega),Int.natAbs_of_nonneg h2,Int.neg_mul,Int.neg_neg]
 ·rw[zar (by omega),zas h2,if_pos (by decide),Int.natCast_mul,Int.natAbs_of_nonneg h1,Int.ofNat_natAbs_of_nonpos (by omega),Int.mul_neg,Int.neg_neg]
 ·rw[zar (by omega),zar (by omega),if_neg (by decide),Int.natCast_mul,Int.natAbs_of_nonneg h1,Int.natAbs_of_nonneg h2]
theorem q9a(va vb:Value)(x y:Int)(w:World)(ha:qcp w va x)(hb:qcp w vb y)(pZ:dl x.natAbs≤1000)(pY:dl y.natAbs≤1000):
  Calls Tryz.prog 135 #[va,vb] w fun e w'=>(∃v,e = .returned v∧qcp w' v (x*y))∧Below w.heap.size w w':=by
 obtain⟨pa,ka,ca,rfl,uX,fV⟩:=ha.parts;obtain⟨pb,kb,cb,rfl,oA,gV⟩:=hb.parts;clear uX oA;have gR:=hid fV;have gH:=hid gV;have nY:=qyo x y;clear ha hb fV gV;have HX:Hid (∃sx,decide (x<0)=sx):=hid ⟨_,rfl⟩;have Ll:Hid ((if(decide (x<0) != decide (y<0)) then -((x.natAbs*y.natAbs:Nat):Int) else((x.natAbs*y.natAbs:Nat):Int))=x*y):=hid nY;clear nY HX;generalize decide (x<0)=sx at *;generalize decide (y<0)=sy at *;have aO:=hid (qtc w sx (.slice pa ka ca) sy (.slice pb kb cb))
 have Gb:Hid (∀W,qfg w sx (.slice pa ka ca) sy (.slice pb kb cb) W→Calls Tryz.prog 186 #[.slice pa ka ca,.slice pb kb cb] W fun e w'=>(∃v',e = .returned v'∧DN w' v' (x.natAbs*y.natAbs))∧qfg w sx (.slice pa ka ca) sy (.slice pb kb cb) w'):=hid fun W hW=>qh2 hW (by
  have h:=q99 _ _ _ _ W (gR.out.later hW.1) (gH.out.later hW.1) pZ pY;rw[qah _ _ qa2,qah _ _ qa2] at h
  exact h)
 have fS:Hid (∀W v,qfg w sx (.slice pa ka ca) sy (.slice pb kb cb) W→DN W v (x.natAbs*y.natAbs)→Calls Tryz.prog 182 #[.bool (sx != sy),v] W fun e w'=>(∃v',e = .returned v'∧qcp w' v' (x*y))∧qfg w sx (.slice pa ka ca) sy (.slice pb kb cb) w'):=hid fun W v hW hv=>qh2 hW (by
  have h:=qg1 (sx != sy) v _ W hv;rw[qah _ _ qa2,Ll.out] at h
  exact h)
 clear pZ pY;go_enter Tryz.func135,Tryz.ntmps135;go_wp2_with fail;generalize ((w.alloc (.cells #[.bool sx,.slice pa ka ca] 179)).alloc (.cells #[.bool sy,.slice pb kb cb] 179)).alloc (.cells #[.bool false,.slice none 0 0] 179)=w0 at *;have cG:Hid (qfg w sx (.slice pa ka ca) sy (.slice pb kb cb) w0.drew):=hid (aO.out.later ((zan _ _).drew))
 go_region_held3 (fun W=>W.cell? ⟨w.heap.size,0,none⟩=some (.bool sx)∧W.cell? ⟨w.heap.size,1,none⟩=some (.slice pa ka ca)∧W.cell? ⟨w.heap.size+1,0,none⟩=some (.bool sy)∧W.cell? ⟨w.heap.size+1,1,none⟩=some (.slice pb kb cb)) (first|exact qbf fL.out|exact qbf gJ.out|exact qbf cG.out|exact qfh (qfh (qbf fL.out) (by omega) (by omega) _) (by omega) (by omega) _)
  (first
   | (go_at_call 186;((with_reducible refine(Gb.out _ cG.out).mono ?_);rintro e wN ⟨⟨vN,rfl,hn⟩,ht⟩;have oZ:=hid hn;have gJ:=hid ht;clear hn ht))
   | (go_at_call 182;((refine(fS.out _ _ gJ.out oZ.out).mono ?_);rintro e wP ⟨⟨vP,rfl,hn⟩,ht⟩;obtain⟨pt,kt,ct,rfl,hk,_⟩:=hn.parts;have pE:=hid hn;have fL:=hid ht;clear hn ht hk;generalize mE:decide (x*y<0)=sg at *;clear mE;obtain⟨⟨r0,g0⟩,⟨r1,g1⟩⟩:=qrl fL.out)))
 have aG:=hid (qed pE.out fL.out.2.2.2);have aH:=hid (qfi fL.out.1 (show w.heap.size≤w.heap.size+1+1 by omega) (.bool sg) (.slice pt kt ct));go_wp2_with fail;refine bodyPost_ret (v := .agg #[.bool sg,.slice pt kt ct]) ?_ rfl ?_
 ·simp[results,Tryz.results135,go_sem,r0,r1]
 ·exact⟨⟨_,rfl,aG.out⟩,aH.out⟩
theorem q1a(x y:Int)(h:decide (x<0)=decide (y<0)):(if decide (x<0)=true then -((x.natAbs+y.natAbs:Nat):Int) else((x.natAbs+y.natAbs:Nat):Int))=x+y:=by
 rcases Int.lt_or_le x 0 with h1|h1
 ·have h2:y<0:=by rw[zas h1] at h;exact of_decide_eq_true h.symm
  rw[zas h1,if_pos rfl];omega
 ·have h2:¬y<0:=by rw[zar (by omega)] at h;exact of_decide_eq_false h.symm
  rw[zar (by omega),if_neg (by decide)];omega
theorem qqg(x y:Int)(h:decide (x<0)≠decide (y<0))(dF:y.natAbs≤x.natAbs):(if decide (x<0)=true then -((x.natAbs-y.natAbs:Nat):Int) else((x.natAbs-y.natAbs:Nat):Int))=x+y:=by
 rcases Int.lt_or_le x 0 with h1|h1
 ·have h2:¬y<0:=fun h2=>h (by rw[zas h1,zas h2])
  rw[zas h1,if_pos rfl];omega
 ·have h2:y<0:=by
   rcases Int.lt_or_le y 0 with h2|h2
   ·exact h2
   ·exact absurd (by rw[zar (by omega),zar (by omega)]) h
  rw[zar (by omega),if_neg (by decide)];omega
theorem zab(va vb:Value)(x y:Int)(w:World)(ha:qcp w va x)(hb:qcp w vb y)(pZ:dl x.natAbs≤1000)(pY:dl y.natAbs≤1000):
  Calls Tryz.prog 134 #[va,vb] w fun e w'=>(∃v,e = .returned v∧qcp w' v (x+y))∧Below w.heap.size w w':=by
 obtain⟨pa,ka,ca,rfl,uX,fV⟩:=ha.parts;obtain⟨pb,kb,cb,rfl,oA,gV⟩:=hb.parts;clear uX oA;have gR:=hid fV;have gH:=hid gV;have aW:=hid (q1a x y);have Fd:=hid (qqg x y);have xO:Hid (decide (x<0)≠decide (y<0)→x.natAbs≤y.natAbs→(if decide (y<0)=true then -((y.natAbs-x.natAbs:Nat):Int) else((y.natAbs-x.natAbs:Nat):Int))=x+y):=hid fun h dF=>by rw[Int.add_comm];exact qqg y x (Ne.symm h) dF
 clear ha hb fV gV;generalize decide (x<0)=sx at *;generalize decide (y<0)=sy at *;have aO:=hid (qtc w sx (.slice pa ka ca) sy (.slice pb kb cb))
 have fS:Hid (∀s n l W v,(if s=true then -((n:Nat):Int) else(n:Int))=x+y→qfg w sx (.slice pa ka ca) sy (.slice pb kb cb) W→Dgs W v l→val D9 l=n→Calls Tryz.prog 182 #[.bool s,v] W fun e w'=>(∃v',e = .returned v'∧qcp w' v' (x+y))∧qfg w sx (.slice pa ka ca) sy (.slice pb kb cb) w'):=hid fun s n l W v hs hW hv hl=>qh2 hW (by
  have h:=qg1 s v l W hv;rw[hl,hs] at h
  exact h)
 by_cases Hw:sx=sy
 ·have Bj:Hid (∀W,qfg w sx (.slice pa ka ca) sy (.slice pb kb cb) W→Calls Tryz.prog 183 #[.slice pa ka ca,.slice pb kb cb] W fun e w'=>(∃v' l',e = .returned v'∧Dgs w' v' l'∧val D9 l'=x.natAbs+y.natAbs)∧qfg w sx (.slice pa ka ca) sy (.slice pb kb cb) w'):=hid fun W hW=>qh2 hW (by
   have h:=zak _ _ _ _ W (gR.out.later hW.1) (gH.out.later hW.1) pZ pY;rw[qah _ _ qa2,qah _ _ qa2] at h
   exact h.mono fun _ _ ⟨⟨v',l',h1,h2,h3,_⟩,h4⟩=>⟨⟨v',l',h1,h2,h3⟩,h4⟩)
  have HS:=hid (aW.out Hw);clear aW Fd xO pZ pY;have Rp:(sx==sy)=true:=by rw[Hw];exact beq_self_eq_true _
  clear Hw;go_enter Tryz.func134,Tryz.ntmps134;go_wp2_with fail;generalize ((w.alloc (.cells #[.bool sx,.slice pa ka ca] 179)).alloc (.cells #[.bool sy,.slice pb kb cb] 179)).alloc (.cells #[.bool false,.slice none 0 0] 179)=w0 at *;have cG:Hid (qfg w sx (.slice pa ka ca) sy (.slice pb kb cb) w0.drew):=hid (aO.out.later ((zan _ _).drew))
  go_region_held3 (fun W=>W.cell? ⟨w.heap.size,0,none⟩=some (.bool sx)∧W.cell? ⟨w.heap.size,1,none⟩=some (.slice pa ka ca)∧W.cell? ⟨w.heap.size+1,0,none⟩=some (.bool sy)∧W.cell? ⟨w.heap.size+1,1,none⟩=some (.slice pb kb cb)) (first|exact qbf fL.out|exact qbf gJ.out|exact qbf cG.out|exact qfh (qfh (qbf fL.out) (by omega) (by omega) _) (by omega) (by omega) _)
   (first
    | (go_at_call 183;((with_reducible refine(Bj.out _ cG.out).mono ?_);rintro e wN ⟨⟨vN,lN,rfl,hn,hl⟩,ht⟩;have oZ:=hid hn;have oE:=hid hl;have gJ:=hid ht;clear hn ht hl))
    | (go_at_call 182;((refine(fS.out sx (x.natAbs+y.natAbs) lN _ _ HS.out gJ.out oZ.out oE.out).mono ?_);rintro e wP ⟨⟨vP,rfl,hn⟩,ht⟩;obtain⟨pt,kt,ct,rfl,hk,_⟩:=hn.parts;have pE:=hid hn;have fL:=hid ht;clear hn ht hk;generalize mE:decide (x+y<0)=sg at *;clear mE;obtain⟨⟨r0,g0⟩,⟨r1,g1⟩⟩:=qrl fL.out)))
  have aG:=hid (qed pE.out fL.out.2.2.2);have aH:=hid (qfi fL.out.1 (show w.heap.size≤w.heap.size+1+1 by omega) (.bool sg) (.slice pt kt ct));go_wp2_with fail;refine bodyPost_ret (v := .agg #[.bool sg,.slice pt kt ct]) ?_ rfl ?_
  ·simp[results,Tryz.results134,go_sem,r0,r1]
  ·exact⟨⟨_,rfl,aG.out⟩,aH.out⟩
 ·have Rp:(sx==sy)=false:=zat Hw
  have iA:Hid (∀W,qfg w sx (.slice pa ka ca) sy (.slice pb kb cb) W→Calls Tryz.prog 184 #[.slice pa ka ca,.slice pb kb cb] W fun e w'=>e = .returned (.int .i64 (qen x.natAbs y.natAbs))∧qfg w sx (.slice pa ka ca) sy (.slice pb kb cb) w'):=hid fun W hW=>qh2 hW (qri _ _ _ _ W (gR.out.later hW.1) (gH.out.later hW.1));by_cases dF:y.natAbs≤x.natAbs
  ·have Bj:Hid (∀W,qfg w sx (.slice pa ka ca) sy (.slice pb kb cb) W→Calls Tryz.prog 185 #[.slice pa ka ca,.slice pb kb cb] W fun e w'=>(∃v' l',e = .returned v'∧Dgs w' v' l'∧val D9 l'=x.natAbs-y.natAbs)∧qfg w sx (.slice pa ka ca) sy (.slice pb kb cb) w'):=hid fun W hW=>qh2 hW (by
    have h:=zaj _ _ _ _ W (gR.out.later hW.1) (gH.out.later hW.1) dF pZ
    exact h.mono fun _ _ ⟨⟨v',h1,h2⟩,h4⟩=>⟨⟨v',_,h1,h2,qah _ _ qa2⟩,h4⟩)
   have HS:=hid (Fd.out Hw dF);obtain⟨cc,gA⟩:∃cc,qen x.natAbs y.natAbs=cc:=⟨_,rfl⟩;rw[gA] at iA
   have fC:(0:Int)≤cc:=by
    rcases(show x.natAbs=y.natAbs∨y.natAbs<x.natAbs by omega) with h|h
    ·have:=qei (x:=(x.natAbs:Int)) (y:=y.natAbs) (by omega);unfold qen at gA;omega
    ·have:=qch (x:=(x.natAbs:Int)) (y:=y.natAbs) (by omega);unfold qen at gA;omega
   clear aW Fd xO pZ pY Hw dF gA;go_enter Tryz.func134,Tryz.ntmps134;go_wp2_with fail;generalize ((w.alloc (.cells #[.bool sx,.slice pa ka ca] 179)).alloc (.cells #[.bool sy,.slice pb kb cb] 179)).alloc (.cells #[.bool false,.slice none 0 0] 179)=w0 at *;refine(iA.out _ aO.out).mono ?_;rintro e w1 ⟨rfl,ht⟩;have cG:Hid (qfg w sx (.slice pa ka ca) sy (.slice pb kb cb) w1.drew):=hid (ht.later ((zan _ _).drew));have aA:=qbf ht;clear ht;go_wp2_with fail
   go_region_held3 (fun W=>W.cell? ⟨w.heap.size,0,none⟩=some (.bool sx)∧W.cell? ⟨w.heap.size,1,none⟩=some (.slice pa ka ca)∧W.cell? ⟨w.heap.size+1,0,none⟩=some (.bool sy)∧W.cell? ⟨w.heap.size+1,1,none⟩=some (.slice pb kb cb)) (first|exact qbf fL.out|exact qbf gJ.out|exact qbf cG.out|exact qfh (qfh (qbf fL.out) (by omega) (by omega) _) (by omega) (by omega) _)
    (first
     | (go_at_call 185;((with_reducible refine(Bj.out _ cG.out).mono ?_);rintro e wN ⟨⟨vN,lN,rfl,hn,hl⟩,ht⟩;have oZ:=hid hn;have oE:=hid hl;have gJ:=hid ht;clear hn ht hl))
     | (go_at_call 182;((refine(fS.out sx (x.natAbs-y.natAbs) lN _ _ HS.out gJ.out oZ.out oE.out).mono ?_);rintro e wP ⟨⟨vP,rfl,hn⟩,ht⟩;obtain⟨pt,kt,ct,rfl,hk,_⟩:=hn.parts;have pE:=hid hn;have fL:=hid ht;clear hn ht hk;generalize mE:decide (x+y<0)=sg at *;clear mE;obtain⟨⟨r0,g0⟩,⟨r1,g1⟩⟩:=qrl fL.out)))
   have aG:=hid (qed pE.out fL.out.2.2.2);have aH:=hid (qfi fL.out.1 (show w.heap.size≤w.heap.size+1+1 by omega) (.bool sg) (.slice pt kt ct));go_wp2_with fail;refine bodyPost_ret (v := .agg #[.bool sg,.slice pt kt ct]) ?_ rfl ?_
   ·simp[results,Tryz.results134,go_sem,r0,r1]
   ·exact⟨⟨_,rfl,aG.out⟩,aH.out⟩
  ·have Ln:x.natAbs≤y.natAbs:=by omega
   have Bj:Hid (∀W,qfg w sx (.slice pa ka ca) sy (.slice pb kb cb) W→Calls Tryz.prog 185 #[.slice pb kb cb,.slice pa ka ca] W fun e w'=>(∃v' l',e = .returned v'∧Dgs w' v' l'∧val D9 l'=y.natAbs-x.natAbs)∧qfg w sx (.slice pa ka ca) sy (.slice pb kb cb) w'):=hid fun W hW=>qh2 hW (by
    have h:=zaj _ _ _ _ W (gH.out.later hW.1) (gR.out.later hW.1) Ln pY
    exact h.mono fun _ _ ⟨⟨v',h1,h2⟩,h4⟩=>⟨⟨v',_,h1,h2,qah _ _ qa2⟩,h4⟩)
   have HS:=hid (xO.out Hw Ln);obtain⟨cc,gA⟩:∃cc,qen x.natAbs y.natAbs=cc:=⟨_,rfl⟩;rw[gA] at iA
   have fC:¬(0:Int)≤cc:=by
    have:=qcy (x:=(x.natAbs:Int)) (y:=y.natAbs) (by omega);unfold qen at gA;omega
   clear aW Fd xO pZ pY Hw dF Ln gA;go_enter Tryz.func134,Tryz.ntmps134;go_wp2_with fail;generalize ((w.alloc (.cells #[.bool sx,.slice pa ka ca] 179)).alloc (.cells #[.bool sy,.slice pb kb cb] 179)).alloc (.cells #[.bool false,.slice none 0 0] 179)=w0 at *;refine(iA.out _ aO.out).mono ?_;rintro e w1 ⟨rfl,ht⟩;have cG:Hid (qfg w sx (.slice pa ka ca) sy (.slice pb kb cb) w1.drew):=hid (ht.later ((zan _ _).drew));have aA:=qbf ht;clear ht;go_wp2_with fail
   go_region_held3 (fun W=>W.cell? ⟨w.heap.size,0,none⟩=some (.bool sx)∧W.cell? ⟨w.heap.size,1,none⟩=some (.slice pa ka ca)∧W.cell? ⟨w.heap.size+1,0,none⟩=some (.bool sy)∧W.cell? ⟨w.heap.size+1,1,none⟩=some (.slice pb kb cb)) (first|exact qbf fL.out|exact qbf gJ.out|exact qbf cG.out|exact qfh (qfh (qbf fL.out) (by omega) (by omega) _) (by omega) (by omega) _)
    (first
     | (go_at_call 185;((with_reducible refine(Bj.out _ cG.out).mono ?_);rintro e wN ⟨⟨vN,lN,rfl,hn,hl⟩,ht⟩;have oZ:=hid hn;have oE:=hid hl;have gJ:=hid ht;clear hn ht hl))
     | (go_at_call 182;((refine(fS.out sy (y.natAbs-x.natAbs) lN _ _ HS.out gJ.out oZ.out oE.out).mono ?_);rintro e wP ⟨⟨vP,rfl,hn⟩,ht⟩;obtain⟨pt,kt,ct,rfl,hk,_⟩:=hn.parts;have pE:=hid hn;have fL:=hid ht;clear hn ht hk;generalize mE:decide (x+y<0)=sg at *;clear mE;obtain⟨⟨r0,g0⟩,⟨r1,g1⟩⟩:=qrl fL.out)))
   have aG:=hid (qed pE.out fL.out.2.2.2);have aH:=hid (qfi fL.out.1 (show w.heap.size≤w.heap.size+1+1 by omega) (.bool sg) (.slice pt kt ct));go_wp2_with fail;refine bodyPost_ret (v := .agg #[.bool sg,.slice pt kt ct]) ?_ rfl ?_
   ·simp[results,Tryz.results134,go_sem,r0,r1]
   ·exact⟨⟨_,rfl,aG.out⟩,aH.out⟩
theorem qyp(x:Int):(if(!decide (x<0))=true then -((x.natAbs:Nat):Int) else((x.natAbs:Nat):Int)) = -x:=by
 rcases Int.lt_or_le x 0 with h|h
 ·rw[zas h,if_neg (by decide)];omega
 ·rw[zar (by omega),if_pos (by decide)];omega
theorem q6e(va:Value)(x:Int)(w:World)(ha:qcp w va x):
  Calls Tryz.prog 181 #[va] w fun e w'=>(∃v,e = .returned v∧qcp w' v (-x))∧Below w.heap.size w w':=by
 obtain⟨pa,ka,ca,rfl,uX,fV⟩:=ha.parts;clear uX;have gR:=hid fV;have lA:=hid (qyp x);clear ha fV;generalize decide (x<0)=sx at *
 have fS:Hid (∀W,Below w.heap.size w W→Calls Tryz.prog 182 #[.bool (!sx),.slice pa ka ca] W fun e w'=>(∃v',e = .returned v'∧qcp w' v' (-x))∧Below W.heap.size W w'):=hid fun W hW=>by
  have h:=qg1 (!sx) _ _ W (gR.out.later hW);rw[qah _ _ qa2,lA.out] at h;exact h
 have eY:Hid (Below w.heap.size w ((w.alloc (.cells #[.bool sx,.slice pa ka ca] 179)).alloc (.cells #[.bool false,.slice none 0 0] 179))):=hid ((zam _ _).alloc (by rw[zao];omega) _);have oR:=hid (qd0 (w.alloc (.cells #[.bool sx,.slice pa ka ca] 179)) false (.slice none 0 0));rw[zao] at oR;go_enter Tryz.func181,Tryz.ntmps181;go_wp2_with fail;generalize (w.alloc (.cells #[.bool sx,.slice pa ka ca] 179)).alloc (.cells #[.bool false,.slice none 0 0] 179)=w0 at *;refine(fS.out _ eY.out).mono ?_;rintro e w1 ⟨⟨v1,rfl,h1⟩,bB⟩;obtain⟨pt,kt,ct,rfl,hk,_⟩:=h1.parts;have HV:=hid h1;have ho:Own w1 (w.heap.size+1) 2 (qid false (.slice none 0 0)):=oR.out.later (bB.mono oR.out.1);have HO:=hid ho;have HB:=hid (eY.out.trans (bB.mono eY.out.size));obtain⟨r0,g0⟩:=ho.2 0 (by omega);obtain⟨r1,g1⟩:=ho.2 1 (by omega);clear h1 bB hk ho;generalize mE:decide (-x<0)=sg at *;clear mE;have aG:=hid (qed HV.out HO.out);have aH:=hid (qfi HB.out (show w.heap.size≤w.heap.size+1 by omega) (.bool sg) (.slice pt kt ct));go_wp2_with fail;refine bodyPost_ret (v := .agg #[.bool sg,.slice pt kt ct]) ?_ rfl ?_
 ·simp[results,Tryz.results181,go_sem,r0,r1]
 ·exact⟨⟨_,rfl,aG.out⟩,aH.out⟩
theorem qyq(lo:List Nat)(k m:Nat)(h:lo.length=k):val D9 (lo++[m % 1000000000])+D9^(k+1)*(m/1000000000)=val D9 lo+D9^k*m:=by
 rw[qd2,h,Nat.pow_succ,Nat.mul_assoc,Nat.add_assoc,←Nat.mul_add,qbo,Nat.mod_add_div]
theorem q6f(n:Nat)(w:World)(hn:n<9223372036854775808):
  Calls Tryz.prog 137 #[.int .i64 n] w fun e w'=>(∃v,e = .returned v∧qcp w' v (n:Int))∧Below w.heap.size w w':=by
 have aO:Hid (Below w.heap.size w (w.alloc (.cells #[.bool false,.slice none 0 0] 179))):=hid (zam _ _);have oR:=hid (qd0 w false (.slice none 0 0));have hni:(n:Int)≤9223372036854775807:=by omega
 have kU:=hid hn;clear hn;go_enter Tryz.func137,Tryz.ntmps137;go_wp2_with fail;generalize qE:w.alloc (.cells #[.bool false,.slice none 0 0] 179)=w0 at *;have HG:Hid (w.heap.size<w0.heap.size):=hid (by rw[←qE,zao];omega);clear qE
 go_loopw [0,3] (fun x v wr=>∃m k:Nat,∃lo:List Nat,x = .int .i64 m∧Hid (m≤n)∧Hid (lo.length=k)∧Hid (∀d ∈ lo,d<D9)∧Hid (val D9 lo+D9^k*m=n)∧Hid (wr.ownsRow w0.heap.size 3 1 v k ((zi lo).map (Value.int .i64)))∧Hid (Below w0.heap.size w0 wr)) (fun x _ _=>(intOf x).toNat)
 case atStart=>exact⟨n,0,[],rfl,hid (zap _),hid rfl,hid (by simp),hid (by simp),hid (World.ownsRow_nil _ _ _ _),hid (zan _ _)⟩
 case round=>
  obtain⟨m,k,lo,rfl,HM,HL,mK,HV,bL,HB⟩:=hrel;rcases zav m with e|hm
  ·subst e
   have cO:Hid (val D9 lo=n):=hid (by have:=HV.out;rw[Nat.mul_zero] at this;exact this);have zY:=hid (qi0 bL.out HL.out mK.out);have fS:=hid (qg1 false _ lo wr zY.out);rw[cO.out] at fS;have aR:Hid (Below w.heap.size w wr):=hid (aO.out.trans (HB.out.mono (by have:=HG.out;omega)));have ho:Own wr w.heap.size 2 (qid false (.slice none 0 0)):=oR.out.later (HB.out.mono (by have:=HG.out;omega));have HO:=hid ho;clear ho;have hz:(((0:Nat):Int) != 0)=false:=rfl;have dU:decide ((n:Int)<0)=false:=zar (by omega);go_wp2_with fail;refine fS.out.mono ?_;rintro e w1 ⟨⟨v1,rfl,h1⟩,bB⟩;obtain⟨pt,kt,ct,rfl,hk,_⟩:=h1.parts;have tL:=hid h1;have ho:Own w1 w.heap.size 2 (qid false (.slice none 0 0)):=HO.out.later (bB.mono HO.out.1);have jS:=hid ho;have aQ:=hid (aR.out.trans (bB.mono aR.out.size));obtain⟨r0,g0⟩:=ho.2 0 (by omega);obtain⟨r1,g1⟩:=ho.2 1 (by omega);clear h1 bB hk ho;generalize mE:decide ((if false=true then -(n:Int) else(n:Int))<0)=sg at *;clear mE;have aG:=hid (qed tL.out jS.out);have aH:=hid (qfi aQ.out (zap _) (.bool sg) (.slice pt kt ct));go_wp2_with fail;refine bodyPost_ret (v := .agg #[.bool sg,.slice pt kt ct]) ?_ rfl ?_
   ·simp[results,Tryz.results137,go_sem,r0,r1]
   ·exact⟨⟨_,rfl,aG.out⟩,aH.out⟩
  ·have hk:k≤1000:=by
    rcases Nat.lt_or_ge k 3 with h|h
    ·omega
    ·exfalso
     have h1:D9^3≤D9^k:=Nat.pow_le_pow_right (by decide) h;have h2:D9^k*1≤D9^k*m:=Nat.mul_le_mul_left _ hm;have h3:=HV.out;have h4:=kU.out;have h5:D9^3=1000000000000000000000000000:=by decide
     omega
   have Nr:m<9223372036854775808:=by have h1:=HM.out;have h2:=kU.out;omega
   have hz:((m:Int) != 0)=true:=by simp;omega
   have gI:(m:Int).tmod 1000000000=((m % 1000000000:Nat):Int):=by rw[Int.tmod_eq_emod_of_nonneg (by omega)];omega
   have hU:(m:Int)/1000000000=((m/1000000000:Nat):Int):=by omega
   have oC:m % 1000000000≤999999999:=by omega
   have fE:Hid (m/1000000000≤n):=hid (by have:=HM.out;omega);have bI:m/1000000000<m:=by omega
   have lV:=hid bI;have Fe:Hid ((lo++[m % 1000000000]).length=k+1):=hid (by rw[List.length_append,HL.out];rfl);have jV:Hid (∀d ∈ lo++[m % 1000000000],d<D9):=hid (qf0 mK.out (by rw[qbo];omega));have cO:Hid (val D9 (lo++[m % 1000000000])+D9^(k+1)*(m/1000000000)=n):=hid (by rw[qyq lo k m HL.out];exact HV.out);have HZ:Hid (zi (lo++[m % 1000000000])=zi lo++[((m % 1000000000:Nat):Int)]):=hid (qh0 _ _);have hmi:(m:Int)≤9223372036854775807:=by omega
   clear bI Nr;generalize m % 1000000000=d at *;generalize hq:m/1000000000=q at *;clear hq;go_wp2_with (at_builtin;refine qhr rfl _ _ rfl w0 _ w0.heap.size k _ (zi lo) _ (by rfl) bL.out HB.out (zap _) (by rfl) (by omega) ?_);rintro v' w2 hown' hbw';have fN:Hid (w2.ownsRow w0.heap.size 3 1 v' (k+1) ((zi (lo++[d])).map (Value.int .i64))):=hid (by rw[HZ.out,List.map_append];exact hown');have dP:=hid hbw';clear hown' hbw' bL HB;go_wp2_with fail;go_roundw
   case rel=>exact⟨q,k+1,_,rfl,fE,Fe,jV,cO,fN,dP⟩
   case measure=>simp[intOf];have:=lV.out;omega
theorem zac(a b:Nat)(w:World)(ha:a<9223372036854775808)(hb:b<9223372036854775808):
  Calls Tryz.prog 179 #[.int .i64 a,.int .i64 b] w fun e w'=>e = .returned (.int .i64 (Nat.gcd a b:Nat))∧Below w.heap.size w w':=by
 have hai:(a:Int)≤9223372036854775807:=by omega
 have hbi:(b:Int)≤9223372036854775807:=by omega
 clear ha hb;go_enter Tryz.func179,Tryz.ntmps179;go_wp2_with fail
 go_loopw [0,1] (fun u v wr=>∃x y:Nat,u = .int .i64 x∧v = .int .i64 y∧(x:Int)≤9223372036854775807∧(y:Int)≤9223372036854775807∧Hid (Nat.gcd x y=Nat.gcd a b)∧Hid (Below w.heap.size w wr)) (fun _ v _=>(intOf v).toNat)
 case atStart=>exact⟨a,b,rfl,rfl,hai,hbi,hid rfl,hid (zan _ _)⟩
 case round=>
  obtain⟨x,y,rfl,rfl,hx,hy,HG,HB⟩:=hrel;rcases zav y with e|h
  ·subst e
   have HE:Hid (Nat.gcd a b=x):=hid (by rw[←HG.out,Nat.gcd_zero_right]);have hd:decide ((0:Int)<((0:Nat):Int))=false:=rfl;go_wp2_with fail;go_ret;exact⟨qa0 (by rw[HE.out]),HB.out⟩
  ·have hd:(0:Int)<(y:Int):=by omega
   have hz:((y:Int)==0)=false:=zat (by omega);have t3:(x:Int) % (y:Int)=((x % y:Nat):Int):=(Int.natCast_emod x y).symm;have t4:(x:Int).tmod (y:Int)=((x % y:Nat):Int):=by rw[Int.tmod_eq_emod_of_nonneg (by omega)];exact t3
   have nE:Hid (Nat.gcd y (x % y)=Nat.gcd a b):=hid (by rw[←HG.out,Nat.gcd_comm x y,Nat.gcd_rec y x,Nat.gcd_comm]);have bI:x % y<y:=Nat.mod_lt _ h;have lV:=hid bI;have hr:((x % y:Nat):Int)≤9223372036854775807:=by omega
   clear bI h;generalize x % y=r at *;go_wp2_with fail
   go_quiet (fail)
   go_wp2_with fail;go_roundw
   case rel=>exact⟨y,r,rfl,rfl,hy,hr,nE,hid (below_drewN HB.out _)⟩
   case measure=>simp[intOf];have:=lV.out;omega
def q1b:Value→Nat
 | .string s=>s.size
 | _=>0
theorem q7s(d:Nat)(h:d<10):((⟨#[48,49,50,51,52,53,54,55,56,57]⟩:BA).extract d (d+1)).data.toList=[dig d]:=by
 match d,h with
 | 0,_=>rfl
 | 1,_=>rfl
 | 2,_=>rfl
 | 3,_=>rfl
 | 4,_=>rfl
 | 5,_=>rfl
 | 6,_=>rfl
 | 7,_=>rfl
 | 8,_=>rfl
 | 9,_=>rfl
def qrm(n least:Nat):Nat:=max least (qfr n).length
theorem qtd{n least k:Nat}:k<qrm n least↔0<n/10^k∨k<least:=by
 unfold qrm
 have h1:0<n/10^k↔k<(qfr n).length:=by
  constructor
  ·intro h
   rcases Nat.lt_or_ge k (qfr n).length with h2|h2
   ·exact h2
   ·exfalso
    have h3:=qgf n;have h4:10^(qfr n).length≤10^k:=Nat.pow_le_pow_right (by omega) h2;rw[Nat.div_eq_of_lt (by omega)] at h;omega
  ·intro h
   rcases zav (n/10^k) with h2|h2
   ·exfalso
    have h3:n<10^k:=by
     rcases Nat.lt_or_ge n (10^k) with h4|h4
     ·exact h4
     ·have:=Nat.div_pos h4 (Nat.pow_pos (by omega));omega
    have:=qbm k n h3;omega
   ·exact h2
 rw[h1];omega
theorem qnp(n least:Nat)(w:World)(hn:n<9223372036854775808)(hl:least≤9):
  Calls Tryz.prog 180 #[.int .i64 n,.int .i64 least] w fun e w'=>(∃t:BA,e = .returned (.string t)∧t.data.toList=(pd (qrm n least) n).reverse)∧w'=w:=by
 have hni:(n:Int)≤9223372036854775807:=by omega
 have HK:Hid (qrm n least≤100):=hid (by
  unfold qrm;have:=qbm 19 n (by omega)
  omega)
 clear hn;go_enter Tryz.func180,Tryz.ntmps180;go_wp2_with fail
 go_loopw [0,5] (fun u v wr=>∃m k:Nat,∃s:BA,u = .int .i64 m∧v = .string s∧(m:Int)≤9223372036854775807∧Hid (m=n/10^k)∧Hid (k≤qrm n least)∧s.size=k∧Hid (s.data.toList=(pd k n).reverse)∧wr=w) (fun _ v _=>qrm n least-q1b v)
 case atStart=>exact⟨n,0,⟨#[]⟩,rfl,rfl,hni,hid (by simp),hid (Nat.zero_le _),rfl,hid rfl,rfl⟩
 case round=>
  obtain⟨m,k,s,rfl,rfl,hm,HM,HKL,dM,HS,rfl⟩:=hrel;have zQ:=hid dM;have hs100:(s.size:Int)≤100:=by have h1:=HKL.out;have h2:=HK.out;omega
  by_cases hc:k<qrm n least
  ·have Oi:=hc
   rw[qtd,←HM.out] at Oi;have gI:(m:Int).tmod 10=((m % 10:Nat):Int):=by rw[Int.tmod_eq_emod_of_nonneg (by omega)];omega
   have hU:(m:Int)/10=((m/10:Nat):Int):=by omega
   have HT:=hid (q7s (m % 10) (by omega));have zY:Hid (dig (m % 10)=dig (n/10^k)):=hid (by rw[←HM.out];exact qq6 (by omega));have fE:Hid (m/10=n/10^(k+1)):=hid (by rw[HM.out,Nat.div_div_eq_div_mul,Nat.pow_succ]);have hd:((m % 10:Nat):Int)≤9:=by omega
   have hq:((m/10:Nat):Int)≤9223372036854775807:=by omega
   have HC:=hid hc;have qU:m % 10<10:=Nat.mod_lt _ (by omega)
   have hslc:∀w:World,(Instr.slice 9 (.string ⟨#[48,49,50,51,52,53,54,55,56,57]⟩) (some (.int .i64 ((m % 10:Nat):Int))) (some (.int .i64 (((m % 10:Nat):Int)+1))) none).run Tryz.prog w = .ok (.string ((⟨#[48,49,50,51,52,53,54,55,56,57]⟩:BA).extract (m % 10) (m % 10+1))) w:=fun w=>
    run_slice_string w 9 _ .i64 .i64 _ _ Tryz.underlying9 (by omega) (by omega) (by show((m % 10:Nat):Int)+1≤10;omega)
   have gA:0<m∨(¬0<m∧s.size<least):=by
    rcases Oi with h|h
    ·exact .inl h
    ·rcases zav m with h2|h2
     ·exact .inr ⟨by omega,by omega⟩
     ·exact .inl h2
   clear hc Oi dM qU;generalize (⟨#[48,49,50,51,52,53,54,55,56,57]⟩:BA).extract (m % 10) (m % 10+1)=ch at *;generalize tM:m % 10=d at *;generalize oO:m/10=q at *;have HD0:=hid (And.intro tM oO);clear tM oO
   have dE:Hid ((ch++s).data.toList=(pd (k+1) n).reverse):=hid (by
    rw[quu,List.reverse_append,←HS.out];have h1:=HT.out;rw[zY.out] at h1;show(ch++s).data.toList=[dig (n/10^k)]++s.data.toList
    rw[←h1];simp)
   have yP:Hid ((ch++s).size=k+1):=hid (by
    have h1:=congrArg List.length dE.out;rw[List.length_reverse,qk5] at h1
    simpa using h1)
   have HSZ3:Hid ((ch++s).size=s.size+1):=hid (by rw[yP.out,zQ.out])
   have Cy:¬9223372036854775807<ch.size+s.size:=by
    have h1:=congrArg List.length HT.out;have h2:ch.size=1:=by simpa using h1
    omega
   have qJ:(q:Int)≤9223372036854775807:=hq;rcases gA with g1|⟨g1,g2⟩
   all_goals
    go_wp2_with fail;go_roundw
    case rel=>exact⟨q,k+1,ch++s,by go_num,rfl,qJ,fE,hid HC.out,yP.out,dE,trivial⟩
    case measure=>show qrm n least-(ch++s).size<qrm n least-s.size;rw[yP.out];have:=HC.out;have:=zQ.out;omega
  ·have Oi:=hc
   rw[qtd,←HM.out] at Oi;have HE:Hid (qrm n least=k):=hid (by have:=HKL.out;omega);have pU:m=0:=by omega
   subst m;have g2:¬s.size<least:=by omega
   clear Oi hc dM;go_wp2_with fail;go_ret;exact⟨⟨s,rfl,by rw[HE.out];exact HS.out⟩,rfl⟩
theorem qqh:∀(k h d:Nat),0<h→d<10^k→qfr (h*10^k+d)=qfr h++(pd k d).reverse
 | 0,h,d,_,hd=>by
  have:d=0:=by simpa using hd
  subst this;simp[pd]
 | k+1,h,d,hh,hd=>by
  have hp:0<h*10^(k+1):=Nat.mul_pos hh (Nat.pow_pos (by omega))
  have e1:(h*10^(k+1)+d)/10=h*10^k+d/10:=by
   rw[Nat.pow_succ,←Nat.mul_assoc];omega
  have e2:dig (h*10^(k+1)+d)=dig d:=qq6 (by rw[Nat.pow_succ,←Nat.mul_assoc];omega);rw[qdn (by omega),e1,e2,qqh k h (d/10) hh (by rw[Nat.pow_succ] at hd;omega),pd,List.reverse_cons,List.append_assoc]
theorem q6g(d:Nat)(h:0<d):(pd (qrm d 1) d).reverse=qfr d:=by
 have e:qrm d 1=(qfr d).length:=by
  unfold qrm
  have:0<(qfr d).length:=by
   rw[qdn h];simp
  omega
 have key:∀k n,(qfr n).length=k→(pd k n).reverse=qfr n:=by
  intro k
  induction k with
  | zero=>intro n h;rw[List.length_eq_zero_iff.1 h];rfl
  | succ k ih=>
   intro n hn
   have tS:0<n:=by
    rcases zav n with e|e
    ·rw[e,qcu] at hn;cases hn
    ·exact e
   rw[qdn tS,List.length_append] at hn;rw[pd,List.reverse_cons,ih (n/10) (by simpa using hn),←qdn tS]
 rw[e];exact key _ d rfl
theorem q1c{d:Nat}(h:d<1000000000):qrm d 9=9:=by
 unfold qrm;have:=qbm 9 d (by omega);omega
def qa1(z:Int):List UInt8:=(if z<0 then[45] else[])++qaw z.natAbs
theorem q1d{l:List Nat}{N:Nat}(h:l.length=N+1):qa6 D9 l N=l.getD N 0:=by
 rw[qbj,qc7 D9 l (N+1) (by omega)];omega
theorem q1e(va:Value)(z:Int)(w:World)(ha:qcp w va z)(hl:dl z.natAbs≤1000):
  Calls Tryz.prog 136 #[va] w fun e w'=>(∃t:BA,e = .returned (.string t)∧t.data.toList=qa1 z)∧Below w.heap.size w w':=by
 obtain⟨pa,ka,ca,rfl,uX,fV⟩:=ha.parts;have eY:Hid (∀o,Below w.heap.size w (w.alloc o)):=hid fun o=>(zan _ w).alloc (zap _) o;rcases zav ka with e|oG
 ·have hz:z.natAbs=0:=by
   rcases zav z.natAbs with h|h
   ·exact h
   ·have:=qwy.2 h;omega
  have cT:z=0:=by omega
  subst cT e;clear fV ha hl uX hz;have tO:((((0:Nat):Int))==0)=true:=rfl;go_enter Tryz.func136,Tryz.ntmps136;go_wp2_with fail;go_ret;exact⟨⟨⟨#[48]⟩,rfl,rfl⟩,eY.out _⟩
 ·obtain⟨N,hN⟩:∃N,ka=N+1:=⟨ka-1,by omega⟩
  obtain⟨hd,p,c,he,bP,bK,aA⟩:=fV;have hLl:(qaf D9 z.natAbs).length=N+1:=by rw[←hN];exact uX.symm
  have HV:Hid (qa6 D9 (qaf D9 z.natAbs) 0=z.natAbs):=hid (by rw[high_zero,qah _ _ qa2])
  have kD:(qaf D9 z.natAbs).getD N 0≠0:=by
   have hne:qaf D9 z.natAbs≠[]:=by intro e;rw[e] at hLl;simp at hLl
   have e1:=List.dropLast_concat_getLast hne;have h1:=qil qa2 e1.symm
   have:(qaf D9 z.natAbs).getD N 0=(qaf D9 z.natAbs).getLast hne:=by
    rw[List.getLast_eq_getElem,zaw,zau (by omega)];simp[hLl]
   rw[this];exact h1
  rw[hLl] at he aA bP
  injection he with he1 he2 he3
  subst he1 he3;rcases aA with h0|⟨b,o,rfl,aB⟩
  ·omega
  have bN:Hid (∀W,Below w.heap.size w W→∀i,i<N+1→W.cell? ⟨b,o+i,none⟩=some (.int .i64 ((qaf D9 z.natAbs).getD i 0:Nat))):=hid fun W hW i hi=>by
   have h1:=aB i hi;rw[hW.cell (p:=⟨b,o+i,none⟩) (zaq w _ h1)];exact h1
  have hNb:N≤1000:=by omega
  have HZ:Hid (qaw z.natAbs=qfr z.natAbs):=hid (by
   unfold qaw;rw[if_neg];intro e;rw[e,qal] at hLl
   cases hLl)
  have HD:=hid hd;have HLl:=hid hLl;have To:=hid (Nat.pos_of_ne_zero kD)
  have Ll:Hid (decide (z<0)=true∧z<0∨decide (z<0)=false∧¬z<0):=hid (by
   rcases Int.lt_or_le z 0 with h|h
   ·exact .inl ⟨zas h,h⟩
   ·exact .inr ⟨zar (by omega),by omega⟩)
  have hni:((N:Int)+1)-1=(N:Int):=by omega
  have hni2:((N:Int)+1)-2=(N:Int)-1:=by omega
  clear hd aB kD hLl oG uX ha hl hN bP bK;generalize qaf D9 z.natAbs=l at *;generalize decide (z<0)=sx at *;have HT9:Hid (l.getD N 0<1000000000):=hid (by have:=qan (b:=D9) (by decide) HD.out N;rw[qbo] at this;exact this);have lL:Hid (∀i,i<N+1→(w.alloc (.cells #[.bool sx,.slice (some ⟨b,o,none⟩) (N+1) ca] 179)).cell? ⟨b,o+i,none⟩=some (.int .i64 (l.getD i 0:Nat))):=hid fun i hi=>bN.out _ (eY.out _) i hi;have bR:=hid (eY.out (.cells #[.bool sx,.slice (some ⟨b,o,none⟩) (N+1) ca] 179));have aC:=lL.out N (by omega);have Tp:=hid (fun W=>qnp (l.getD N 0) 1 W (by have:=HT9.out;omega) (by omega));have Ga:=hid (q1d HLl.out);have tO:(((N:Int)+1)==0)=false:=zat (by omega);have oB:=hid (q6g (l.getD N 0) To.out);have HP9:Hid ((qfr (l.getD N 0)).length≤9):=hid (qbm 9 _ (by have:=HT9.out;omega));generalize htp:l.getD N 0=tp at *;have fL:=hid htp;clear htp;go_enter Tryz.func136,Tryz.ntmps136;go_wp2_with fail;refine(Tp.out _).mono ?_;rintro e w1 ⟨⟨t1,rfl,fB⟩,rfl⟩;rw[oB.out] at fB;have cE:=hid fB
  have eH:Hid (t1.size≤9):=hid (by
                      have h1:=congrArg List.length fB;have h2:t1.size=(qfr tp).length:=by simpa using h1
                      rw[h2];exact HP9.out)
  clear fB aC Tp;go_wp2_with fail;have dI:∀o,(w.alloc o).cell? ⟨w.heap.size,1,none⟩=(w.alloc o).cell? ⟨w.heap.size,1,none⟩:=fun _=>rfl;clear dI
  go_loopw [3,4] (fun s i wr=>∃k:Nat,∃s':BA,k≤N∧s = .string s'∧i = .int .i64 ((k:Int)-1)∧Hid (s'.data.toList=qfr (qa6 D9 l k))∧Hid (0<qa6 D9 l k)∧s'.size≤9*(N+1-k)∧wr=w.alloc (.cells #[.bool sx,.slice (some ⟨b,o,none⟩) (N+1) ca] 179)) (fun _ i _=>(intOf i+1).toNat)
  case atStart=>exact⟨N,t1,zap _,rfl,by go_num,hid (by rw[Ga.out];exact cE.out),hid (by rw[Ga.out];exact To.out),by have:=eH.out;omega,rfl⟩
  case round=>
   obtain⟨k,s,hk,rfl,rfl,HS,HH,dM,rfl⟩:=hrel;rcases k with _|j
   ·rw[HV.out] at HS
    have hni3:((0:Nat):Int)-1 = -1:=rfl;have Cy:¬9223372036854775807<1+s.size:=by omega
    rcases Ll.out with⟨h1,h2⟩|⟨h1,h2⟩
    ·subst h1
     have aS:Hid (((⟨#[45]⟩:BA)++s).data.toList=qa1 z):=hid (by
      unfold qa1;rw[if_pos h2,HZ.out,←HS.out]
      simp)
     clear h2;go_wp2_with fail;go_ret;exact⟨⟨_,rfl,aS.out⟩,bR.out⟩
    ·subst h1
     have aS:Hid (s.data.toList=qa1 z):=hid (by
      unfold qa1;rw[if_neg (by omega),HZ.out,←HS.out]
      simp)
     clear h2;go_wp2_with fail;go_ret;exact⟨⟨_,rfl,aS.out⟩,bR.out⟩
   ·have kA:((j+1:Nat):Int)-1=(j:Int):=by omega
    simp only[kA];have aC:=lL.out j (by omega);have oC:l.getD j 0<1000000000:=by have:=qan (b:=D9) (by decide) HD.out j;rw[qbo] at this;exact this
    have Su:=hid (qbj D9 l j)
    have Tp:Hid (∀W,Calls Tryz.prog 180 #[.int .i64 (l.getD j 0:Nat),.int .i64 9] W fun e w'=>(∃t:BA,e = .returned (.string t)∧t.data.toList=(pd 9 (l.getD j 0)).reverse)∧w'=W):=hid fun W=>by
     have h:=qnp (l.getD j 0) 9 W (by omega) (by omega);rw[q1c oC] at h;exact h
    have HBLK:=hid (qqh 9 (qa6 D9 l (j+1)) (l.getD j 0) HH.out (by omega));have HD9:Hid (l.getD j 0<1000000000):=hid oC;clear oC;generalize l.getD j 0=d at *;go_wp2_with fail;refine(Tp.out _).mono ?_;rintro e w1 ⟨⟨t2,rfl,iS⟩,rfl⟩
    have dE:Hid ((s++t2).data.toList=qfr (qa6 D9 l j)):=hid (by
     rw[Su.out,Nat.add_comm,Nat.mul_comm D9];have h1:=HBLK.out;rw[show(10:Nat)^9=D9 from rfl] at h1
     rw[h1,←HS.out,←iS];simp)
    have h9:t2.size=9:=by
     have h1:=congrArg List.length iS;rw[List.length_reverse,qk5] at h1
     simpa using h1
    have Cy:¬9223372036854775807<s.size+t2.size:=by omega
    have En:Hid (0<qa6 D9 l j):=hid (by rw[Su.out];have:=Nat.mul_pos (show 0<D9 by decide) HH.out;omega);have zQ:Hid ((s++t2).size≤9*(N+1-j)):=hid (by rw[ByteArray.size_append];omega);clear iS aC Tp;go_wp2_with fail;go_roundw
    case rel=>exact⟨j,s++t2,by omega,rfl,by go_num,dE,En,zQ.out,trivial⟩
    case measure=>simp[intOf]
theorem qqi(r:List UInt8)(k:Nat)(h:k≤r.length):qaz 0 r=qaz 0 (r.take (r.length-k))*10^k+qaz 0 (r.drop (r.length-k)):=by
 conv=>lhs;rw[←List.take_append_drop (r.length-k) r]
 rw[qka,qjd,List.length_drop]
 congr 3
 omega
theorem qb7{x y:BA}(h:x.data.toList=y.data.toList):x=y:=by
 obtain⟨⟨l⟩⟩:=x;obtain⟨⟨m⟩⟩:=y;simp at h;rw[h]
theorem qqj{lo:List Nat}{k a b n:Nat}(hl:lo.length=k)(h:val D9 lo+D9^k*(a*10^9+b)=n):val D9 (lo++[b])+D9^(k+1)*a=n:=by
 rw[qd2,hl,Nat.pow_succ,←h,Nat.mul_add,Nat.mul_assoc,show(10:Nat)^9=D9 from rfl,Nat.mul_comm a D9];omega
theorem qvf(s t:BA)(neg:Bool)(w:World)(hs:s.data.toList=(if neg then[45] else[])++t.data.toList)(hd:∀c ∈ t.data.toList,isD c=true)(ht:0<t.size)(dM:s.size≤10000):
  Calls Tryz.prog 173 #[.string s] w fun e w'=>(∃v,e = .returned v∧qcp w' v (if neg then -(qaz 0 t.data.toList:Int) else(qaz 0 t.data.toList:Int)))∧Below w.heap.size w w':=by
 have aF:s.size=(if neg then 1 else 0)+t.size:=by
  have h:=congrArg List.length hs;rw[List.length_append] at h;have e1:s.data.toList.length=s.size:=by simp
  have e2:t.data.toList.length=t.size:=by simp
  rw[e1,e2] at h;rw[h];cases neg<;>rfl
 have gF:0<s.size:=by omega
 have fC:((s[0]'gF).toNat:Int)=45∧neg=true∨((s[0]'gF).toNat:Int)≠45∧neg=false:=by
  have h1:s.data.toList[0]'(by simpa using gF)=s[0]'gF:=qdm s 0 gF;cases neg
  ·right
   refine⟨?_,rfl⟩;have h2:s.data.toList=t.data.toList:=hs;have h3:isD (s[0]'gF)=true:=hd _ (by rw[←h1,←h2];exact List.getElem_mem _);unfold isD at h3;have:=of_decide_eq_true h3;omega
  ·left
   refine⟨?_,rfl⟩;rw[←h1];simp only[hs];rfl
 have vS:∀h:0<s.size,((s[0]'h).toNat:Int)=((s[0]'gF).toNat:Int):=fun _=>rfl
 have pF:Hid (neg=true→(s.extract 1 s.size)=t):=hid fun h=>by
  apply qb7;rw[Lib.extract_data,hs,if_pos h];simp;rw[List.take_of_length_le (by simp[aF,h])]
 have gJ:Hid (neg=false→s=t):=hid fun h=>by
  apply qb7;rw[hs,h];rfl
 generalize ((s[0]'gF).toNat:Int)=ch at *;have aO:Hid (Below w.heap.size w (w.alloc (.cells #[.bool false,.slice none 0 0] 179))):=hid (zam _ _);have oR:=hid (qd0 w false (.slice none 0 0));have HD:=hid hd;have Bp:t.size≤10000:=by omega
 have cG:=hid ht;have Kz:(0:Int)<(s.size:Int):=by omega
 clear hs aF hd ht;rcases fC with⟨h1,h2⟩|⟨h1,h2⟩
 ·subst h1 h2
  have hext:=pF.out rfl;have hb:((45:Int)==45)=true:=rfl;go_enter Tryz.func173,Tryz.ntmps173;go_wp2_with fail;generalize qE:w.alloc (.cells #[.bool false,.slice none 0 0] 179)=w0 at *;have HG:Hid (w.heap.size<w0.heap.size):=hid (by rw[←qE,zao];omega);clear qE
  go_loopw [0,4] (fun u v wr=>∃r:BA,∃k:Nat,∃lo:List Nat,u = .string r∧r.size≤10000∧k≤10000∧9*k+r.size≤10000∧Hid (0<r.size)∧Hid (lo.length=k)∧Hid (∀d ∈ lo,d<D9)∧Hid (∀c ∈ r.data.toList,isD c=true)∧Hid (val D9 lo+D9^k*qaz 0 r.data.toList=qaz 0 t.data.toList)∧Hid (wr.ownsRow w0.heap.size 3 1 v k ((zi lo).map (Value.int .i64)))∧Hid (Below w0.heap.size w0 wr)) (fun u _ _=>q1b u)
  case atStart=>exact⟨t,0,[],rfl,Bp,by omega,by omega,cG,hid rfl,hid (by simp),HD,hid (by simp),hid (World.ownsRow_nil _ _ _ _),hid (zan _ _)⟩
  case round=>
   obtain⟨r,k,lo,rfl,hr,hk,hrk,tE,HL,mK,cM,HV,bL,HB⟩:=hrel;by_cases hc:9<r.size
   ·have HA:Hid ((r.extract (r.size-9) r.size).data.toList=r.data.toList.drop (r.data.toList.length-9)):=hid (by
     rw[Lib.extract_data,List.take_of_length_le (by simp)];simp)
    have aX:Hid ((r.extract 0 (r.size-9)).data.toList=r.data.toList.take (r.data.toList.length-9)):=hid (by
     rw[Lib.extract_from_zero];simp)
    have e9:(r.size:Int)-9=((r.size-9:Nat):Int):=by omega
    have oU:Hid ((r.extract (r.size-9) r.size).size=9):=hid (by
     have h:=congrArg List.length HA.out;rw[List.length_drop] at h;have h2:r.data.toList.length=r.size:=by simp
     have h3:(r.extract (r.size-9) r.size).data.toList.length=(r.extract (r.size-9) r.size).size:=by simp
     omega)
    have cQ:Hid ((r.extract 0 (r.size-9)).size=r.size-9):=hid (by
     have h:=congrArg List.length aX.out;rw[List.length_take] at h;have h2:r.data.toList.length=r.size:=by simp
     have h3:(r.extract 0 (r.size-9)).data.toList.length=(r.extract 0 (r.size-9)).size:=by simp
     omega)
    have fU:=hid (qqi r.data.toList 9 (by simp;omega));rw[←HA.out,←aX.out] at fU;have gR:Hid (∀c ∈ (r.extract (r.size-9) r.size).data.toList,isD c=true):=hid fun c hc=>cM.out c (by rw[HA.out] at hc;exact List.mem_of_mem_drop hc);have gH:Hid (∀c ∈ (r.extract 0 (r.size-9)).data.toList,isD c=true):=hid fun c hc=>cM.out c (by rw[aX.out] at hc;exact List.mem_of_mem_take hc);have mC:(0:Int)≤((r.size-9:Nat):Int):=by omega
    have mL:((r.size-9:Nat):Int)≤(r.size:Int):=by omega
    have hs9:r.size-9≤r.size:=by omega
    have jO:=hid (fun W=>qqe (r.extract (r.size-9) r.size) W gR.out (by rw[oU.out];omega));have nR:=hid (qfn (r.extract (r.size-9) r.size).data.toList gR.out);have yH:Hid (r.size-9<r.size):=hid (by omega);have Lo:Hid (0<r.size-9):=hid (by omega);have bB:((r.size-9:Nat):Int).toNat=r.size-9:=by omega
    have h9k:9*(k+1)+(r.size-9)≤10000:=by omega
    clear HA aX;generalize hra:r.extract (r.size-9) r.size=ra at *;generalize Hh:r.extract 0 (r.size-9)=rb at *;generalize hm:r.size-9=m9 at *;generalize yV:qaz 0 ra.data.toList=iJ at *;have HM:=hid (And.intro hm yV);clear hm yV
    have oC:iJ<1000000000:=by
     have h:=nR.out;have h2:ra.data.toList.length=9:=by have:=oU.out;simpa using this
     rw[h2] at h;exact h
    have Fe:Hid ((lo++[iJ]).length=k+1):=hid (by rw[List.length_append,HL.out];rfl);have jV:Hid (∀d ∈ lo++[iJ],d<D9):=hid (qf0 mK.out (by rw[qbo];exact oC));have cO:Hid (val D9 (lo++[iJ])+D9^(k+1)*qaz 0 rb.data.toList=qaz 0 t.data.toList):=hid (qqj HL.out (by rw[←fU.out];exact HV.out));have HZ:Hid (zi (lo++[iJ])=zi lo++[((iJ:Nat):Int)]):=hid (qh0 _ _);clear HV fU nR oC;go_wp2_with fail;refine(jO.out _).mono ?_;rintro e w1 ⟨rfl,rfl⟩;go_wp2_with (at_builtin;refine qhr rfl _ _ rfl w0 _ w0.heap.size k _ (zi lo) _ (by rfl) bL.out HB.out (zap _) (by rfl) (by omega) ?_);rintro v' w2 hown' hbw';have fN:Hid (w2.ownsRow w0.heap.size 3 1 v' (k+1) ((zi (lo++[iJ])).map (Value.int .i64))):=hid (by rw[HZ.out,List.map_append];exact hown');have dP:=hid hbw';clear hown' hbw' bL HB jO;go_wp2_with fail;go_roundw
    case rel=>exact⟨rb,k+1,_,rfl,by rw[cQ.out];omega,by omega,by rw[cQ.out];omega,hid (by rw[cQ.out];exact Lo.out),Fe,jV,gH,cO,fN,dP⟩
    case measure=>show rb.size<r.size;rw[cQ.out];exact yH.out
   ·have jO:=hid (fun W=>qqe r W cM.out (by omega))
    have nR:=hid (qfn r.data.toList cM.out);have hngt:¬9<r.size:=hc;obtain⟨iJ,yV⟩:∃d,d=qaz 0 r.data.toList:=⟨_,rfl⟩
    have oC:iJ<1000000000:=by
     have h:=nR.out;have h2:r.data.toList.length≤9:=by simp;omega
     have h3:=Nat.pow_le_pow_right (show 0<10 by omega) h2;omega
    have Fe:Hid ((lo++[iJ]).length=k+1):=hid (by rw[List.length_append,HL.out];rfl);have jV:Hid (∀d ∈ lo++[iJ],d<D9):=hid (qf0 mK.out (by rw[qbo];exact oC));have cO:Hid (val D9 (lo++[iJ])=qaz 0 t.data.toList):=hid (by rw[qd2,HL.out,yV];exact HV.out);have HZ:Hid (zi (lo++[iJ])=zi lo++[((iJ:Nat):Int)]):=hid (qh0 _ _);rw[←yV] at jO
    have fS:Hid (∀W v,Dgs W v (lo++[iJ])→Calls Tryz.prog 182 #[.bool true,v] W fun e w'=>(∃v,e = .returned v∧qcp w' v (if true=true then -(qaz 0 t.data.toList:Int) else(qaz 0 t.data.toList:Int)))∧Below W.heap.size W w'):=hid fun W v hv=>by
     have h:=qg1 true v (lo++[iJ]) W hv;rw[cO.out] at h;exact h
    clear HV nR oC yV hc;generalize tO:(if true=true then -(qaz 0 t.data.toList:Int) else(qaz 0 t.data.toList:Int))=z at *;have HZZ:=hid tO;clear tO;go_wp2_with fail;refine(jO.out _).mono ?_;rintro e w1 ⟨rfl,rfl⟩;go_wp2_with (at_builtin;refine qhr rfl _ _ rfl w0 _ w0.heap.size k _ (zi lo) _ (by rfl) bL.out HB.out (zap _) (by rfl) (by omega) ?_);rintro v' w2 hown' hbw';have zY:Hid (Dgs w2 v' (lo++[iJ])):=hid (qi0 (by rw[HZ.out,List.map_append];exact hown') Fe.out jV.out);have aR:Hid (Below w.heap.size w w2):=hid (aO.out.trans (hbw'.mono (by have:=HG.out;omega)));have HO:Hid (Own w2 w.heap.size 2 (qid false (.slice none 0 0))):=hid (oR.out.later (hbw'.mono (by have:=HG.out;omega)));clear hown' hbw' bL HB jO;go_wp2_with fail;refine(fS.out _ _ zY.out).mono ?_;rintro e w3 ⟨⟨v3,rfl,h3⟩,cW⟩;obtain⟨pt,kt,ct,rfl,hk3,_⟩:=h3.parts;have tL:=hid h3;have ho:Own w3 w.heap.size 2 (qid false (.slice none 0 0)):=HO.out.later (cW.mono HO.out.1);have jS:=hid ho;have bY:=hid (aR.out.trans (cW.mono aR.out.size));obtain⟨r0,g0⟩:=ho.2 0 (by omega);obtain⟨r1,g1⟩:=ho.2 1 (by omega);clear h3 cW hk3 ho;generalize mE:decide (z<0)=sg at *;clear mE;have aG:=hid (qed tL.out jS.out);have aH:=hid (qfi bY.out (zap _) (.bool sg) (.slice pt kt ct));go_wp2_with fail;refine bodyPost_ret (v := .agg #[.bool sg,.slice pt kt ct]) ?_ rfl ?_
    ·simp[results,Tryz.results173,go_sem,r0,r1]
    ·exact⟨⟨_,rfl,by have e:=HZZ.out;simp only[if_true,Bool.false_eq_true,if_false] at e;rw[e];exact aG.out⟩,aH.out⟩
 ·subst h2
  have kO:=gJ.out rfl;have hb:(ch==45)=false:=zat h1;subst s;clear h1;go_enter Tryz.func173,Tryz.ntmps173;go_wp2_with fail;generalize qE:w.alloc (.cells #[.bool false,.slice none 0 0] 179)=w0 at *;have HG:Hid (w.heap.size<w0.heap.size):=hid (by rw[←qE,zao];omega);clear qE
  go_loopw [0,4] (fun u v wr=>∃r:BA,∃k:Nat,∃lo:List Nat,u = .string r∧r.size≤10000∧k≤10000∧9*k+r.size≤10000∧Hid (0<r.size)∧Hid (lo.length=k)∧Hid (∀d ∈ lo,d<D9)∧Hid (∀c ∈ r.data.toList,isD c=true)∧Hid (val D9 lo+D9^k*qaz 0 r.data.toList=qaz 0 t.data.toList)∧Hid (wr.ownsRow w0.heap.size 3 1 v k ((zi lo).map (Value.int .i64)))∧Hid (Below w0.heap.size w0 wr)) (fun u _ _=>q1b u)
  case atStart=>exact⟨t,0,[],rfl,Bp,by omega,by omega,cG,hid rfl,hid (by simp),HD,hid (by simp),hid (World.ownsRow_nil _ _ _ _),hid (zan _ _)⟩
  case round=>
   obtain⟨r,k,lo,rfl,hr,hk,hrk,tE,HL,mK,cM,HV,bL,HB⟩:=hrel;by_cases hc:9<r.size
   ·have HA:Hid ((r.extract (r.size-9) r.size).data.toList=r.data.toList.drop (r.data.toList.length-9)):=hid (by
     rw[Lib.extract_data,List.take_of_length_le (by simp)];simp)
    have aX:Hid ((r.extract 0 (r.size-9)).data.toList=r.data.toList.take (r.data.toList.length-9)):=hid (by
     rw[Lib.extract_from_zero];simp)
    have e9:(r.size:Int)-9=((r.size-9:Nat):Int):=by omega
    have oU:Hid ((r.extract (r.size-9) r.size).size=9):=hid (by
     have h:=congrArg List.length HA.out;rw[List.length_drop] at h;have h2:r.data.toList.length=r.size:=by simp
     have h3:(r.extract (r.size-9) r.size).data.toList.length=(r.extract (r.size-9) r.size).size:=by simp
     omega)
    have cQ:Hid ((r.extract 0 (r.size-9)).size=r.size-9):=hid (by
     have h:=congrArg List.length aX.out;rw[List.length_take] at h;have h2:r.data.toList.length=r.size:=by simp
     have h3:(r.extract 0 (r.size-9)).data.toList.length=(r.extract 0 (r.size-9)).size:=by simp
     omega)
    have fU:=hid (qqi r.data.toList 9 (by simp;omega));rw[←HA.out,←aX.out] at fU;have gR:Hid (∀c ∈ (r.extract (r.size-9) r.size).data.toList,isD c=true):=hid fun c hc=>cM.out c (by rw[HA.out] at hc;exact List.mem_of_mem_drop hc);have gH:Hid (∀c ∈ (r.extract 0 (r.size-9)).data.toList,isD c=true):=hid fun c hc=>cM.out c (by rw[aX.out] at hc;exact List.mem_of_mem_take hc);have mC:(0:Int)≤((r.size-9:Nat):Int):=by omega
    have mL:((r.size-9:Nat):Int)≤(r.size:Int):=by omega
    have hs9:r.size-9≤r.size:=by omega
    have jO:=hid (fun W=>qqe (r.extract (r.size-9) r.size) W gR.out (by rw[oU.out];omega));have nR:=hid (qfn (r.extract (r.size-9) r.size).data.toList gR.out);have yH:Hid (r.size-9<r.size):=hid (by omega);have Lo:Hid (0<r.size-9):=hid (by omega);have bB:((r.size-9:Nat):Int).toNat=r.size-9:=by omega
    have h9k:9*(k+1)+(r.size-9)≤10000:=by omega
    clear HA aX;generalize hra:r.extract (r.size-9) r.size=ra at *;generalize Hh:r.extract 0 (r.size-9)=rb at *;generalize hm:r.size-9=m9 at *;generalize yV:qaz 0 ra.data.toList=iJ at *;have HM:=hid (And.intro hm yV);clear hm yV
    have oC:iJ<1000000000:=by
     have h:=nR.out;have h2:ra.data.toList.length=9:=by have:=oU.out;simpa using this
     rw[h2] at h;exact h
    have Fe:Hid ((lo++[iJ]).length=k+1):=hid (by rw[List.length_append,HL.out];rfl);have jV:Hid (∀d ∈ lo++[iJ],d<D9):=hid (qf0 mK.out (by rw[qbo];exact oC));have cO:Hid (val D9 (lo++[iJ])+D9^(k+1)*qaz 0 rb.data.toList=qaz 0 t.data.toList):=hid (qqj HL.out (by rw[←fU.out];exact HV.out));have HZ:Hid (zi (lo++[iJ])=zi lo++[((iJ:Nat):Int)]):=hid (qh0 _ _);clear HV fU nR oC;go_wp2_with fail;refine(jO.out _).mono ?_;rintro e w1 ⟨rfl,rfl⟩;go_wp2_with (at_builtin;refine qhr rfl _ _ rfl w0 _ w0.heap.size k _ (zi lo) _ (by rfl) bL.out HB.out (zap _) (by rfl) (by omega) ?_);rintro v' w2 hown' hbw';have fN:Hid (w2.ownsRow w0.heap.size 3 1 v' (k+1) ((zi (lo++[iJ])).map (Value.int .i64))):=hid (by rw[HZ.out,List.map_append];exact hown');have dP:=hid hbw';clear hown' hbw' bL HB jO;go_wp2_with fail;go_roundw
    case rel=>exact⟨rb,k+1,_,rfl,by rw[cQ.out];omega,by omega,by rw[cQ.out];omega,hid (by rw[cQ.out];exact Lo.out),Fe,jV,gH,cO,fN,dP⟩
    case measure=>show rb.size<r.size;rw[cQ.out];exact yH.out
   ·have jO:=hid (fun W=>qqe r W cM.out (by omega))
    have nR:=hid (qfn r.data.toList cM.out);have hngt:¬9<r.size:=hc;obtain⟨iJ,yV⟩:∃d,d=qaz 0 r.data.toList:=⟨_,rfl⟩
    have oC:iJ<1000000000:=by
     have h:=nR.out;have h2:r.data.toList.length≤9:=by simp;omega
     have h3:=Nat.pow_le_pow_right (show 0<10 by omega) h2;omega
    have Fe:Hid ((lo++[iJ]).length=k+1):=hid (by rw[List.length_append,HL.out];rfl);have jV:Hid (∀d ∈ lo++[iJ],d<D9):=hid (qf0 mK.out (by rw[qbo];exact oC));have cO:Hid (val D9 (lo++[iJ])=qaz 0 t.data.toList):=hid (by rw[qd2,HL.out,yV];exact HV.out);have HZ:Hid (zi (lo++[iJ])=zi lo++[((iJ:Nat):Int)]):=hid (qh0 _ _);rw[←yV] at jO
    have fS:Hid (∀W v,Dgs W v (lo++[iJ])→Calls Tryz.prog 182 #[.bool false,v] W fun e w'=>(∃v,e = .returned v∧qcp w' v (if false=true then -(qaz 0 t.data.toList:Int) else(qaz 0 t.data.toList:Int)))∧Below W.heap.size W w'):=hid fun W v hv=>by
     have h:=qg1 false v (lo++[iJ]) W hv;rw[cO.out] at h;exact h
    clear HV nR oC yV hc;generalize tO:(if false=true then -(qaz 0 t.data.toList:Int) else(qaz 0 t.data.toList:Int))=z at *;have HZZ:=hid tO;clear tO;go_wp2_with fail;refine(jO.out _).mono ?_;rintro e w1 ⟨rfl,rfl⟩;go_wp2_with (at_builtin;refine qhr rfl _ _ rfl w0 _ w0.heap.size k _ (zi lo) _ (by rfl) bL.out HB.out (zap _) (by rfl) (by omega) ?_);rintro v' w2 hown' hbw';have zY:Hid (Dgs w2 v' (lo++[iJ])):=hid (qi0 (by rw[HZ.out,List.map_append];exact hown') Fe.out jV.out);have aR:Hid (Below w.heap.size w w2):=hid (aO.out.trans (hbw'.mono (by have:=HG.out;omega)));have HO:Hid (Own w2 w.heap.size 2 (qid false (.slice none 0 0))):=hid (oR.out.later (hbw'.mono (by have:=HG.out;omega)));clear hown' hbw' bL HB jO;go_wp2_with fail;refine(fS.out _ _ zY.out).mono ?_;rintro e w3 ⟨⟨v3,rfl,h3⟩,cW⟩;obtain⟨pt,kt,ct,rfl,hk3,_⟩:=h3.parts;have tL:=hid h3;have ho:Own w3 w.heap.size 2 (qid false (.slice none 0 0)):=HO.out.later (cW.mono HO.out.1);have jS:=hid ho;have bY:=hid (aR.out.trans (cW.mono aR.out.size));obtain⟨r0,g0⟩:=ho.2 0 (by omega);obtain⟨r1,g1⟩:=ho.2 1 (by omega);clear h3 cW hk3 ho;generalize mE:decide (z<0)=sg at *;clear mE;have aG:=hid (qed tL.out jS.out);have aH:=hid (qfi bY.out (zap _) (.bool sg) (.slice pt kt ct));go_wp2_with fail;refine bodyPost_ret (v := .agg #[.bool sg,.slice pt kt ct]) ?_ rfl ?_
    ·simp[results,Tryz.results173,go_sem,r0,r1]
    ·exact⟨⟨_,rfl,by have e:=HZZ.out;simp only[if_true,Bool.false_eq_true,if_false] at e;rw[e];exact aG.out⟩,aH.out⟩
theorem qee(q:Rat):qat q=qa1 q.num++(if q.den=1 then[] else 47::qaw q.den):=by unfold qat qa1;rfl
theorem q9b(c:UInt8)(h:isD c=true):c≠47:=by
 intro e;subst e;revert h;decide
theorem qmh(z:Int):∀c ∈ qa1 z,c≠47:=by
 intro c hc;unfold qa1 at hc;rcases List.mem_append.1 hc with h|h
 ·split at h
  ·rw[List.mem_singleton.1 h];decide
  ·cases h
 ·exact q9b c (qhb _ c h)
theorem qbs(n:Nat):qa1 (n:Int)=qaw n:=by
 unfold qa1;rw[if_neg (by omega),Int.natAbs_natCast];rfl
theorem q1f(l r:List UInt8)(h:∀c ∈ l,c≠47):sl (l++47::r)=l.length:=by
 unfold sl
 induction l with
 | nil=>rw[List.nil_append,List.findIdx_cons];rfl
 | cons a l ih=>
  have ha:(a==47)=false:=by simpa using h a (by simp)
  rw[List.cons_append,List.findIdx_cons,ha,ih (fun c hc=>h c (by simp[hc]))];rfl
theorem qvg(z:Int):0<(qa1 z).length:=by
 unfold qa1;have:=List.length_pos_iff.2 (qje z.natAbs);rw[List.length_append];omega
theorem qvh(s:BA)(z:Int)(w:World)(hs:s.data.toList=qa1 z)(dM:s.size≤10000):
  Calls Tryz.prog 173 #[.string s] w fun e w'=>(∃v,e = .returned v∧qcp w' v z)∧Below w.heap.size w w':=by
 have h:=qvf s ⟨(qaw z.natAbs).toArray⟩ (decide (z<0)) w (by
  rw[hs];unfold qa1;rcases Int.lt_or_le z 0 with h|h
  ·rw[if_pos h,zas h];rfl
  ·rw[if_neg (by omega),zar (by omega)];rfl) (fun c hc=>qhb _ c hc) (by
  have:=List.length_pos_iff.2 (qje z.natAbs)
  simpa [ByteArray.size] using this) dM
 have e:(if decide (z<0)=true then -(qaz 0 (⟨(qaw z.natAbs).toArray⟩:BA).data.toList:Int) else(qaz 0 (⟨(qaw z.natAbs).toArray⟩:BA).data.toList:Int))=z:=by
  show(if decide (z<0)=true then -(qaz 0 (qaw z.natAbs):Int) else(qaz 0 (qaw z.natAbs):Int))=z;rw[qf6];rcases Int.lt_or_le z 0 with h|h
  ·rw[zas h,if_pos rfl];omega
  ·rw[zar (by omega),if_neg (by decide)];omega
 rw[e] at h;exact h
def qm2(w W:World):Prop:=Below w.heap.size w W∧Own W w.heap.size 2 (qid false (.slice none 0 0))∧Own W (w.heap.size+1) 2 (qid false (.slice none 0 0))
theorem qm2.later{w W W':World}(h:qm2 w W)(hb:Below W.heap.size W W'):qm2 w W':=by
 obtain⟨h1,h2,h3⟩:=h;have:=h3.1;exact⟨h1.trans (hb.mono h1.size),h2.later (hb.mono (by omega)),h3.later (hb.mono (by omega))⟩
theorem qte(w:World):qm2 w ((w.alloc (.cells #[.bool false,.slice none 0 0] 179)).alloc (.cells #[.bool false,.slice none 0 0] 179)):=by
 have h1:=qd0 w false (.slice none 0 0);have h2:=qd0 (w.alloc (.cells #[.bool false,.slice none 0 0] 179)) false (.slice none 0 0);rw[zao] at h2;exact⟨(zam _ _).alloc (by rw[zao];omega) _,qi3 h1 _,h2⟩
theorem qlf{w W:World}(h:qm2 w W){s1 s2:Bool}{t1 t2:Value}{z1 z2:Int}(h1:qcp W (.agg #[.bool s1,t1]) z1)(h2:qcp W (.agg #[.bool s2,t2]) z2):
  let W':=(((W.setCell ⟨w.heap.size,0,none⟩ (.bool s1)).setCell ⟨w.heap.size,1,none⟩ t1).setCell ⟨w.heap.size+1,0,none⟩ (.bool s2)).setCell ⟨w.heap.size+1,1,none⟩ t2
  qcp W' (.agg #[.bool s1,t1]) z1∧qcp W' (.agg #[.bool s2,t2]) z2∧Below w.heap.size w W':=by
 obtain⟨hb,o1,o2⟩:=h;have k:∀(V:World) (g i g' j:Nat) (x:Value),(g,i)≠(g',j)→(V.setCell ⟨g,i,none⟩ x).cell? ⟨g',j,none⟩=V.cell? ⟨g',j,none⟩:=fun V g i g' j x hne=>World.cell?_setCell_other _ _ _ _ (by intro e;injection e with e1 e2;exact hne (by rw[e1,e2]))
 have key:∀v n,DN W v n→DN ((((W.setCell ⟨w.heap.size,0,none⟩ (.bool s1)).setCell ⟨w.heap.size,1,none⟩ t1).setCell ⟨w.heap.size+1,0,none⟩ (.bool s2)).setCell ⟨w.heap.size+1,1,none⟩ t2) v n:=by
  intro v n hv;refine(((hv.setOther (o1.2 0 (by omega)).1 (by intro k z h;cases h)).setOther (u := .slice none 0 0) ?_ (by intro k z h;cases h)).setOther (u := .bool false) ?_ (by intro k z h;cases h)).setOther (u := .slice none 0 0) ?_ (by intro k z h;cases h)
  ·rw[k _ _ _ _ _ _ (by simp)];exact(o1.2 1 (by omega)).1
  ·rw[k _ _ _ _ _ _ (by simp),k _ _ _ _ _ _ (by simp)];exact(o2.2 0 (by omega)).1
  ·rw[k _ _ _ _ _ _ (by simp),k _ _ _ _ _ _ (by simp),k _ _ _ _ _ _ (by simp)];exact(o2.2 1 (by omega)).1
 obtain⟨v1,e1,d1⟩:=h1;obtain⟨v2,e2,d2⟩:=h2;exact⟨⟨v1,e1,key _ _ d1⟩,⟨v2,e2,key _ _ d2⟩,(((hb.setCell (p:=⟨w.heap.size,0,none⟩) (zap _) _).setCell (p:=⟨w.heap.size,1,none⟩) (zap _) _).setCell (p:=⟨w.heap.size+1,0,none⟩) (show w.heap.size≤w.heap.size+1 by omega) _).setCell (p:=⟨w.heap.size+1,1,none⟩) (show w.heap.size≤w.heap.size+1 by omega) _⟩
theorem qjo(a:BA)(z:Int)(D:Nat)(h:a.data.toList=qa1 z++(if D=1 then[] else 47::qaw D)):
  (D=1→sl a.data.toList=a.size∧a.data.toList=qa1 z)∧
  (D≠1→sl a.data.toList+1≤a.size∧(a.extract 0 (sl a.data.toList)).data.toList=qa1 z∧(a.extract (sl a.data.toList+1) a.size).data.toList=qa1 (D:Int)):=by
 constructor
 ·intro hd
  rw[if_pos hd,List.append_nil] at h;refine⟨?_,h⟩;rw[h,q09 (qmh _),←h];simp
 ·intro hd
  rw[if_neg hd] at h;have hs:sl a.data.toList=(qa1 z).length:=by rw[h];exact q1f _ _ (qmh _)
  have aF:a.size=(qa1 z).length+(1+(qaw D).length):=by
   have h1:=congrArg List.length h;rw[List.length_append,List.length_cons] at h1;have h2:a.data.toList.length=a.size:=by simp
   omega
  refine⟨by omega, ?_, ?_⟩
  ·rw[Lib.extract_from_zero,hs,h,List.take_left]
  ·rw[Lib.extract_data,hs,h,qbs,List.take_of_length_le (by simp;omega)]
   rw[show(qa1 z).length+1=(qa1 z++[47]).length by simp,show qa1 z++47::qaw D=(qa1 z++[47])++qaw D by simp,List.drop_left]
theorem q1g(a:BA)(z:Int)(D:Nat)(w:World)(h:a.data.toList=qa1 z++(if D=1 then[] else 47::qaw D))(dM:a.size≤5000):
  Calls Tryz.prog 127 #[.string a] w fun e w'=>(∃v1 v2,e = .returned (.tuple #[v1,v2])∧qcp w' v1 z∧qcp w' v2 (D:Int))∧Below w.heap.size w w':=by
 obtain⟨zX,Dn⟩:=qjo a z D h;have bH:=hid (fun W=>qqf a W (by omega));have Tq:sl a.data.toList≤a.size:=by have:=q4w a.data.toList;simpa using this
 have aO:=hid (qte w);clear h;by_cases hd:D=1
 ·obtain⟨h1,h2⟩:=zX hd
  rw[h1] at bH;have Tr:=hid hd;have HPZ:Hid (∀W,Calls Tryz.prog 173 #[.string a] W fun e w'=>(∃v,e = .returned v∧qcp w' v z)∧Below W.heap.size W w'):=hid fun W=>qvh a z W h2 (by omega);have yS:=hid (fun W=>q6f 1 W (by omega));clear zX Dn h1 h2 hd Tq;have Rp:((a.size:Int)==(a.size:Int))=true:=beq_self_eq_true _;go_enter Tryz.func127,Tryz.ntmps127;go_wp2_with fail;generalize (w.alloc (.cells #[.bool false,.slice none 0 0] 179)).alloc (.cells #[.bool false,.slice none 0 0] 179)=w0 at *;refine(bH.out _).mono ?_;rintro e w1 ⟨rfl,rfl⟩;go_wp2_with fail;refine(HPZ.out _).mono ?_;rintro e w2 ⟨⟨v1,rfl,h1⟩,bB⟩;have cE:Hid (qm2 w w2):=hid (aO.out.later bB);have eQ:=hid h1;clear h1 bB;go_wp2_with fail;refine(yS.out _).mono ?_;rintro e w3 ⟨⟨v2,rfl,h2⟩,aT⟩;have ht:=cE.out.later aT;have lQ:=eQ.out.later aT;obtain⟨p1,k1,c1,rfl,kA,_⟩:=lQ.parts;obtain⟨p2,k2,c2,rfl,tK,_⟩:=h2.parts;have aG:=hid (qlf ht lQ h2);obtain⟨r0,g0⟩:=ht.2.1.2 0 (by omega);obtain⟨r1,g1⟩:=ht.2.1.2 1 (by omega);obtain⟨r2,g2⟩:=ht.2.2.2 0 (by omega);obtain⟨r3,g3⟩:=ht.2.2.2 1 (by omega);have rN:Hid (((1:Nat):Int)=(D:Int)):=hid (by rw[Tr.out]);clear h2 aT ht lQ kA tK cE eQ;generalize decide (z<0)=s1 at *;generalize decide (((1:Nat):Int)<0)=s2 at *;go_wp2_with fail;refine bodyPost_ret (v := .tuple #[.agg #[.bool s1,.slice p1 k1 c1],.agg #[.bool s2,.slice p2 k2 c2]]) ?_ rfl ?_
  ·simp[results,Tryz.results127,go_sem,r0,r1,r2,r3]
  ·exact⟨⟨_,_,rfl,aG.out.1,by rw[←rN.out];exact aG.out.2.1⟩,aG.out.2.2⟩
 ·obtain⟨h1,h2,h3⟩:=Dn hd
  obtain⟨K,hK⟩:∃K,K=sl a.data.toList:=⟨_,rfl⟩;rw[←hK] at bH h1 h2 h3;have Dg:Hid (∀W,Calls Tryz.prog 173 #[.string (a.extract 0 K)] W fun e w'=>(∃v,e = .returned v∧qcp w' v z)∧Below W.heap.size W w'):=hid fun W=>qvh _ z W h2 (by rw[ByteArray.size_extract];omega);have zR:Hid (∀W,Calls Tryz.prog 173 #[.string (a.extract (K+1) a.size)] W fun e w'=>(∃v,e = .returned v∧qcp w' v (D:Int))∧Below W.heap.size W w'):=hid fun W=>qvh _ _ W h3 (by rw[ByteArray.size_extract];omega);have Rp:((K:Int)==(a.size:Int))=false:=zat (by omega);have hKi:(K:Int)+1≤(a.size:Int):=by omega
  have hKn:K+1≤a.size:=h1;have hK0:(0:Int)≤(K:Int)+1:=by omega
  have hKb:(K:Int)≤5000:=by omega
  have hKw:IntKind.i64.wrap ((K:Int)+1)=(K:Int)+1:=by rw[IntKind.wrap_i64];omega
  have hKl:K≤a.size:=by omega
  have hKlt:K<a.size:=by omega
  have hKt:((K:Int)+1).toNat=K+1:=by omega
  have eW:∀W:World,(Instr.slice 9 (.string a) none (some (.int .i64 (K:Int))) none).run Tryz.prog W = .ok (.string (a.extract 0 K)) W:=fun W=>run_slice_string_h W 9 a Tryz.underlying9 .i64 (K:Int) (by omega) (by omega)
  have jF:∀W:World,(Instr.slice 9 (.string a) (some (.int .i64 ((K:Int)+1))) none none).run Tryz.prog W = .ok (.string (a.extract (K+1) a.size)) W:=fun W=>by
   have h:=run_slice_string_l W 9 a Tryz.underlying9 .i64 ((K:Int)+1) (by omega) (by omega);rw[hKt] at h;exact h
  clear zX Dn h1 h2 h3 hd Tq hK;go_enter Tryz.func127,Tryz.ntmps127;go_wp2_with fail;generalize (w.alloc (.cells #[.bool false,.slice none 0 0] 179)).alloc (.cells #[.bool false,.slice none 0 0] 179)=w0 at *;refine(bH.out _).mono ?_;rintro e w1 ⟨rfl,rfl⟩;go_wp2_with fail;have pF:Hid (qm2 w w1.drew):=hid (aO.out.later ((zan _ _).drew));have Da:Hid (w.heap.size≤w1.drew.heap.size):=hid pF.out.1.size
  go_region_held3 (fun W=>w.heap.size≤W.heap.size) (first|exact dE.out|exact eH.out|exact Da.out|(have hz:=dE.out;simpa using hz))
   (first
    | (go_at_call 173;first
      | ((with_reducible refine(Dg.out _).mono ?_);rintro e w2 ⟨⟨v1,rfl,h1⟩,bB⟩;have cE:Hid (qm2 w w2):=hid (pF.out.later bB);have eH:Hid (w.heap.size≤w2.heap.size):=hid cE.out.1.size;have eQ:=hid h1;clear h1 bB)
      | ((with_reducible refine(zR.out _).mono ?_);rintro e w3 ⟨⟨v2,rfl,h2⟩,aT⟩;have ht:=cE.out.later aT;have lQ:=eQ.out.later aT;obtain⟨p1,k1,c1,rfl,kA,_⟩:=lQ.parts;obtain⟨p2,k2,c2,rfl,tK,_⟩:=h2.parts;have aG:=hid (qlf ht lQ h2);have dE:Hid (w.heap.size≤w3.heap.size):=hid ht.1.size;obtain⟨r0,g0⟩:=ht.2.1.2 0 (by omega);obtain⟨r1,g1⟩:=ht.2.1.2 1 (by omega);obtain⟨r2,g2⟩:=ht.2.2.2 0 (by omega);obtain⟨r3,g3⟩:=ht.2.2.2 1 (by omega);clear h2 aT ht lQ kA tK cE eQ;generalize decide (z<0)=s1 at *;generalize decide ((D:Int)<0)=s2 at *)))
  go_wp2_with fail;refine bodyPost_ret (v := .tuple #[.agg #[.bool s1,.slice p1 k1 c1],.agg #[.bool s2,.slice p2 k2 c2]]) ?_ rfl ?_
  ·simp[results,Tryz.results127,go_sem,r0,r1,r2,r3]
  ·exact⟨⟨_,_,rfl,aG.out.1,aG.out.2.1⟩,aG.out.2.2⟩
theorem q9c(a:BA)(q:Rat)(w:World)(h:a.data.toList=qat q)(dM:a.size≤5000):
  Calls Tryz.prog 127 #[.string a] w fun e w'=>(∃v1 v2,e = .returned (.tuple #[v1,v2])∧qcp w' v1 q.num∧qcp w' v2 (q.den:Int))∧Below w.heap.size w w':=
 q1g a q.num q.den w (by rw[h,qee]) dM
theorem qjp(z:Int)(d:Nat)(hd:0<d):(mkRat z d).num=(if decide (z<0)=true then -((z.natAbs/Nat.gcd z.natAbs d:Nat):Int) else((z.natAbs/Nat.gcd z.natAbs d:Nat):Int))∧(mkRat z d).den=d/Nat.gcd z.natAbs d:=by
 have yA:0<Nat.gcd z.natAbs d:=Nat.gcd_pos_of_pos_right _ hd;obtain⟨n,h1,h2,h3⟩:=qft z (Nat.gcd z.natAbs d) yA (Nat.gcd_dvd_left _ _);have hD:d/Nat.gcd z.natAbs d*Nat.gcd z.natAbs d=d:=Nat.div_mul_cancel (Nat.gcd_dvd_right _ _)
 have Bq:d/Nat.gcd z.natAbs d≠0:=by
  have:0<d/Nat.gcd z.natAbs d:=Nat.div_pos (Nat.le_of_dvd hd (Nat.gcd_dvd_right _ _)) yA;omega
 have rV:n.natAbs.Coprime (d/Nat.gcd z.natAbs d):=by
  rw[h2];exact Nat.coprime_div_gcd_div_gcd yA
 have hq:mkRat z d=mkRat n (d/Nat.gcd z.natAbs d):=by
  refine(Rat.mkRat_eq_iff (by omega) Bq).2 ?_
  conv=>lhs;rw[←h1]
  conv=>rhs;rw[←hD]
  rw[Int.natCast_mul]
  grind
 obtain⟨e1,e2⟩:=qlv _ n _ Bq rV hq;rw[e1,e2];refine⟨?_,rfl⟩;rw[←h2];rcases Int.lt_or_le z 0 with h|h
 ·have:=h3.2 h
  rw[zas h,if_pos rfl];omega
 ·have:¬n<0:=fun e=>by have:=h3.1 e;omega
  rw[zar (by omega),if_neg (by decide)];omega
def qlg(w:World)(na:Bool)(ta:Value)(nb:Bool)(tb:Value)(W:World):Prop:=
 Below w.heap.size w W∧Own W w.heap.size 2 (qid na ta)∧Own W (w.heap.size+1) 2 (qid nb tb)
theorem qlg.later{w:World}{na nb:Bool}{ta tb:Value}{W W':World}(h:qlg w na ta nb tb W)(hb:Below W.heap.size W W'):qlg w na ta nb tb W':=by
 obtain⟨h1,h2,h3⟩:=h;have:=h3.1;exact⟨h1.trans (hb.mono h1.size),h2.later (hb.mono (by omega)),h3.later (hb.mono (by omega))⟩
theorem qkg(w:World)(na:Bool)(ta:Value)(nb:Bool)(tb:Value):
  qlg w na ta nb tb ((w.alloc (.cells #[.bool na,ta] 179)).alloc (.cells #[.bool nb,tb] 179)):=by
 have h1:=qd0 w na ta;have h2:=qd0 (w.alloc (.cells #[.bool na,ta] 179)) nb tb;rw[zao] at h2;exact⟨(zam _ _).alloc (by rw[zao];omega) _,qi3 h1 _,h2⟩
theorem qax{w:World}{na nb:Bool}{ta tb:Value}{W:World}(h:qlg w na ta nb tb W):
  W.cell? ⟨w.heap.size,0,none⟩=some (.bool na)∧W.cell? ⟨w.heap.size,1,none⟩=some ta∧W.cell? ⟨w.heap.size+1,0,none⟩=some (.bool nb)∧W.cell? ⟨w.heap.size+1,1,none⟩=some tb:=
 ⟨(h.2.1.2 0 (by omega)).1,(h.2.1.2 1 (by omega)).1,(h.2.2.2 0 (by omega)).1,(h.2.2.2 1 (by omega)).1⟩
theorem qm3{w:World}{na nb:Bool}{ta tb:Value}{W:World}(h:qlg w na ta nb tb W):
  W.frozen? ⟨w.heap.size,0,none⟩=false∧W.frozen? ⟨w.heap.size,1,none⟩=false∧W.frozen? ⟨w.heap.size+1,0,none⟩=false∧W.frozen? ⟨w.heap.size+1,1,none⟩=false:=
 ⟨(h.2.1.2 0 (by omega)).2,(h.2.1.2 1 (by omega)).2,(h.2.2.2 0 (by omega)).2,(h.2.2.2 1 (by omega)).2⟩
def qhj(w:World)(na:Bool)(ta:Value)(nb:Bool)(tb:Value)(m n:Nat)(W:World):Prop:=qlg w na ta nb tb W∧DN W ta m∧DN W tb n
theorem qhj.later{w:World}{na nb:Bool}{ta tb:Value}{m n:Nat}{W W':World}(h:qhj w na ta nb tb m n W)(hb:Below W.heap.size W W'):qhj w na ta nb tb m n W':=⟨h.1.later hb,h.2.1.later hb,h.2.2.later hb⟩
theorem q1h{n k:Nat}(h:dl n≤k):(qfr n).length≤9*k:=by
 refine qbm (9*k) n ?_;have h2:=qb6 D9 n qa2;have h3:D9^(qaf D9 n).length≤D9^k:=Nat.pow_le_pow_right (by decide) h;have h4:D9^k=10^(9*k):=by rw[Nat.pow_mul];rfl
 rw[←h4];exact Nat.lt_of_lt_of_le h2 h3
theorem qh3{z:Int}(h:dl z.natAbs≤900):(qa1 z).length≤10000:=by
 unfold qa1
 have h5:(qaw z.natAbs).length≤8101:=by
  unfold qaw;split
  ·simp
  ·exact Nat.le_trans (q1h h) (by omega)
 rw[List.length_append];have h6:(if z<0 then([45]:List UInt8) else[]).length≤1:=by split<;>simp
 omega
theorem qlh(va vb:Value)(x:Int)(D0:Nat)(w:World)(ha:qcp w va x)(hb:qcp w vb (D0:Int))(Bq:0<D0)(pZ:dl x.natAbs≤900)(pY:dl D0≤900):
  Calls Tryz.prog 133 #[va,vb] w fun e w'=>(∃t:BA,e = .returned (.string t)∧t.data.toList=qat (mkRat x D0))∧Below w.heap.size w w':=by
 obtain⟨pa,ka,ca,rfl,uX,fV⟩:=ha.parts;obtain⟨pb,kb,cb,rfl,oA,gV⟩:=hb.parts;clear uX oA;rw[Int.natAbs_natCast] at gV;have hsb:decide ((D0:Int)<0)=false:=zar (by omega);rw[hsb];have gR:=hid fV;have gH:=hid gV;have nI:=hid pZ;have kZ:=hid pY;clear ha hb fV gV hsb pZ pY;have Lp:=qjp x D0 Bq;have gD:=hid Lp.1;obtain⟨D,hDD⟩:∃D,D=D0/Nat.gcd x.natAbs D0:=⟨_,rfl⟩;have Br:Hid ((mkRat x D0).den=D):=hid (by rw[Lp.2,hDD]);have sR:Hid (0<Nat.gcd x.natAbs D0):=hid (Nat.gcd_pos_of_pos_right _ Bq);have pO:Hid (dl D≤900):=hid (Nat.le_trans (qow (by rw[hDD];exact Nat.div_le_self _ _)) kZ.out);have iH:Hid (dl (x.natAbs/Nat.gcd x.natAbs D0)≤900):=hid (Nat.le_trans (qow (Nat.div_le_self _ _)) nI.out)
 have aU:Hid ((qa1 (mkRat x D0).num).length≤10000):=hid (by
  have h1:(mkRat x D0).num.natAbs=x.natAbs/Nat.gcd x.natAbs D0:=by
   rw[gD.out];split<;>simp only[Int.natAbs_neg,Int.natAbs_natCast]
  exact qh3 (by rw[h1];exact iH.out))
 have cF:Hid ((qa1 (D:Int)).length≤10000):=hid (qh3 (by rw[Int.natAbs_natCast];exact pO.out))
 have Bs:Hid (∀W,qhj w (decide (x<0)) (.slice pa ka ca) false (.slice pb kb cb) x.natAbs D0 W→Calls Tryz.prog 128 #[(.slice pa ka ca),(.slice pb kb cb)] W fun e w'=>(∃v',e = .returned v'∧DN w' v' (Nat.gcd x.natAbs D0))∧qhj w (decide (x<0)) (.slice pa ka ca) false (.slice pb kb cb) x.natAbs D0 w'):=hid fun W hW=>
  (qve _ _ _ _ W hW.2.1 hW.2.2 nI.out kZ.out).mono fun _ _ ⟨h1,h2⟩=>⟨h1,hW.later h2⟩
 have sS:Hid (∀W v,qhj w (decide (x<0)) (.slice pa ka ca) false (.slice pb kb cb) x.natAbs D0 W→DN W v (Nat.gcd x.natAbs D0)→Calls Tryz.prog 174 #[(.slice pa ka ca),v] W fun e w'=>(∃vq vr,e = .returned (.tuple #[vq,vr])∧DN w' vq (x.natAbs/Nat.gcd x.natAbs D0)∧DN w' vr (x.natAbs % Nat.gcd x.natAbs D0))∧DN w' v (Nat.gcd x.natAbs D0)∧qhj w (decide (x<0)) (.slice pa ka ca) false (.slice pb kb cb) x.natAbs D0 w'):=hid fun W v hW hv=>
  (qle _ _ _ _ W hW.2.1 hv sR.out nI.out).mono fun _ _ ⟨h1,h2⟩=>⟨h1,hv.later h2,hW.later h2⟩
 have sT:Hid (∀W v,qhj w (decide (x<0)) (.slice pa ka ca) false (.slice pb kb cb) x.natAbs D0 W→DN W v (Nat.gcd x.natAbs D0)→Calls Tryz.prog 174 #[(.slice pb kb cb),v] W fun e w'=>(∃vq vr,e = .returned (.tuple #[vq,vr])∧DN w' vq D∧DN w' vr (D0 % Nat.gcd x.natAbs D0))∧Below W.heap.size W w'∧qhj w (decide (x<0)) (.slice pa ka ca) false (.slice pb kb cb) x.natAbs D0 w'):=hid fun W v hW hv=>
  (qle _ _ _ _ W hW.2.2 hv sR.out kZ.out).mono fun _ _ ⟨⟨vq,vr,h0,h1,h3⟩,h2⟩=>⟨⟨vq,vr,h0,by rw[hDD];exact h1,h3⟩,h2,hW.later h2⟩
 have fS:Hid (∀W v,qhj w (decide (x<0)) (.slice pa ka ca) false (.slice pb kb cb) x.natAbs D0 W→DN W v (x.natAbs/Nat.gcd x.natAbs D0)→Calls Tryz.prog 182 #[.bool (decide (x<0)),v] W fun e w'=>(∃v,e = .returned v∧qcp w' v (mkRat x D0).num)∧Below W.heap.size W w'):=hid fun W v hW hv=>by
  have h:=qg1 (decide (x<0)) v _ W hv;rw[qah _ _ qa2] at h;rw[gD.out];exact h
 have iW:Hid (∀W v,qcp W v (mkRat x D0).num→Calls Tryz.prog 136 #[v] W fun e w'=>(∃t:BA,e = .returned (.string t)∧t.data.toList=qa1 (mkRat x D0).num)∧Below W.heap.size W w'):=hid fun W v hv=>q1e v _ W hv (by
  have h1:(mkRat x D0).num.natAbs=x.natAbs/Nat.gcd x.natAbs D0:=by
   rw[gD.out];split<;>simp only[Int.natAbs_neg,Int.natAbs_natCast]
  rw[h1];have:=iH.out;omega)
 clear Lp hDD Bq;generalize decide (x<0)=sx at *;have aO:=hid (qkg w sx (.slice pa ka ca) false (.slice pb kb cb));have HP:Hid (qhj w sx (.slice pa ka ca) false (.slice pb kb cb) x.natAbs D0 ((w.alloc (.cells #[.bool sx,.slice pa ka ca] 179)).alloc (.cells #[.bool false,.slice pb kb cb] 179))):=hid ⟨aO.out,gR.out.later aO.out.1,gH.out.later aO.out.1⟩;have kL:=qax HP.out.1;go_enter Tryz.func133,Tryz.ntmps133;go_wp2_with fail;clear kL;refine(Bs.out _ HP.out).mono ?_;rintro e w2 ⟨⟨vg,rfl,hg⟩,hp⟩;have HG:=hid hg;have uM:=hid hp;have aA:=qax hp.1;clear hg hp Bs;go_wp2_with fail;refine(sS.out _ _ uM.out HG.out).mono ?_;rintro e w3 ⟨⟨vp,vpr,rfl,hq,_⟩,hg,hp⟩;have kY:=hid hq;have Kg:=hid hg;have De:=hid hp;clear aA;have aA:=qax hp.1;clear hq hg hp sS uM HG;go_wp2_with fail;refine(sT.out _ _ De.out Kg.out).mono ?_;rintro e w4 ⟨⟨vq,vqr,rfl,hq,_⟩,hb,hp⟩;have kM:=hid hq;have Bt:=hid (kY.out.later hb);have xJ:=hid hp;clear aA;have aA:=qax hp.1;clear hq hb hp sT De Kg kY;go_wp2_with fail;refine(fS.out _ _ xJ.out Bt.out).mono ?_;rintro e w5 ⟨⟨vs,rfl,hs⟩,hb⟩;have Aw:=hid hs;have Ts:=hid (kM.out.later hb);have lJ:=hid (xJ.out.1.1.trans (hb.mono xJ.out.1.1.size));clear hs hb aA fS Bt kM xJ;go_wp2_with fail;refine(iW.out _ _ Aw.out).mono ?_;rintro e w6 ⟨⟨t1,rfl,fB⟩,hb⟩;have cE:=hid fB;have yW:=Ts.out.later hb;have lK:=hid (lJ.out.trans (hb.mono lJ.out.size));obtain⟨p6,k6,c6,rfl,Ff⟩:=qf1 yW;have Tt:=hid yW
 have eH:Hid (t1.size≤10000):=hid (by
  have h:=congrArg List.length fB;have h2:t1.data.toList.length=t1.size:=by simp
  rw[←h2,h];exact aU.out)
 clear fB hb Aw Ts lJ iW;have Lq:¬9223372036854775807<t1.size+1:=by have:=eH.out;omega
 by_cases hD:D=1
 ·have qU:qaf D9 D=[1]:=by rw[hD];exact qdh (by omega) (by decide)
  have kA:k6=1:=by rw[Ff];unfold dl;rw[qU];rfl
  have aC:∃b o,p6=some ⟨b,o,none⟩∧w6.cell? ⟨b,o,none⟩=some (.int .i64 1):=by
   obtain⟨_,p',c',he,_,_,hc⟩:=yW;rw[qU] at he hc;cases he
   rcases hc with h0|⟨b,o,h1,h2⟩
   ·cases h0
   ·exact⟨b,o,h1,by have:=h2 0 (by simp);unfold dv at this;simpa using this⟩
  obtain⟨b,o,rfl,aC⟩:=aC;have aS:Hid (t1.data.toList=qat (mkRat x D0)):=hid (by rw[qee,Br.out,if_pos hD,List.append_nil];exact cE.out);clear yW Ff qU;subst kA;have g1:(((1:Nat):Int)==1)=true:=rfl;go_wp2_with fail;go_ret;exact⟨⟨_,rfl,aS.out⟩,lK.out⟩
 ·have Bu:Hid (∀W,DN W (.slice p6 k6 c6) D→Calls Tryz.prog 182 #[.bool false,.slice p6 k6 c6] W fun e w'=>(∃v,e = .returned v∧qcp w' v (D:Int))∧Below W.heap.size W w'):=hid fun W hW=>by
   have h:=qg1 false _ _ W hW;rw[qah _ _ qa2] at h;exact h
  have dW:Hid (∀W v,qcp W v (D:Int)→Calls Tryz.prog 136 #[v] W fun e w'=>(∃t:BA,e = .returned (.string t)∧t.data.toList=qa1 (D:Int))∧Below W.heap.size W w'):=hid fun W v hv=>q1e v (D:Int) W hv (by rw[Int.natAbs_natCast];have:=pO.out;omega)
  have aS:Hid (∀t2:BA,t2.data.toList=qa1 (D:Int)→(t1++⟨#[47]⟩++t2).data.toList=qat (mkRat x D0)):=hid fun t2 h2=>by
   rw[qee,Br.out,if_neg hD,←cE.out,←qbs,←h2];simp
  have Bv:=hid cF.out
  have Aa:(¬k6=1)∨(k6=1∧∃b o d,p6=some ⟨b,o,none⟩∧w6.cell? ⟨b,o,none⟩=some (.int .i64 ((d:Nat):Int))∧d≠1):=by
   by_cases h:k6=1
   ·refine .inr ⟨h, ?_⟩
    have qV:dl D=1:=by rw[←Ff];exact h
    obtain⟨h0,h9⟩:=qld qV;have qU:qaf D9 D=[D]:=qdh h0 (by rw[qbo];exact h9);obtain⟨_,p',c',he,_,_,hc⟩:=yW;rw[qU] at he hc;cases he
    rcases hc with h0'|⟨b,o,h1,h2⟩
    ·cases h0'
    ·exact⟨b,o,D,h1,by have:=h2 0 (by simp);unfold dv at this;simpa using this,hD⟩
   ·exact .inl h
  clear yW Ff hD;rcases Aa with hk|⟨hk,b,o,d,rfl,aC,hd⟩
  ·have g1:((k6:Int)==1)=false:=zat (by omega)
   go_wp2_with fail;refine(Bu.out _ Tt.out).mono ?_;rintro e w7 ⟨⟨v7,rfl,h7⟩,Bw⟩;have H7:=hid h7;have kX:=hid (lK.out.trans (Bw.mono lK.out.size));clear h7 Bw;go_wp2_with fail;refine(dW.out _ _ H7.out).mono ?_;rintro e w8 ⟨⟨t2,rfl,iS⟩,Bx⟩;have rO:=hid (kX.out.trans (Bx.mono kX.out.size));have cY:=hid (aS.out t2 iS)
   have Lr:t2.size≤10000:=by
    have h:=congrArg List.length iS;have h2:t2.data.toList.length=t2.size:=by simp
    rw[←h2,h];exact Bv.out
   have Bz:¬9223372036854775807<(t1++⟨#[47]⟩:BA).size+t2.size:=by rw[ByteArray.size_append];show ¬9223372036854775807<t1.size+1+t2.size;have:=eH.out;omega
   have Ca:¬9223372036854775807<t1.size+1+t2.size:=by have:=eH.out;omega
   clear iS Bx;go_wp2_with fail;go_ret;exact⟨⟨_,rfl,cY.out⟩,rO.out⟩
  ·have g1:(((1:Nat):Int)==1)=true:=rfl
   have g2:((d:Int)==1)=false:=zat (by omega);subst hk;go_wp2_with fail;refine(Bu.out _ Tt.out).mono ?_;rintro e w7 ⟨⟨v7,rfl,h7⟩,Bw⟩;have H7:=hid h7;have kX:=hid (lK.out.trans (Bw.mono lK.out.size));clear h7 Bw;go_wp2_with fail;refine(dW.out _ _ H7.out).mono ?_;rintro e w8 ⟨⟨t2,rfl,iS⟩,Bx⟩;have rO:=hid (kX.out.trans (Bx.mono kX.out.size));have cY:=hid (aS.out t2 iS)
   have Lr:t2.size≤10000:=by
    have h:=congrArg List.length iS;have h2:t2.data.toList.length=t2.size:=by simp
    rw[←h2,h];exact Bv.out
   have Bz:¬9223372036854775807<(t1++⟨#[47]⟩:BA).size+t2.size:=by rw[ByteArray.size_append];show ¬9223372036854775807<t1.size+1+t2.size;have:=eH.out;omega
   have Ca:¬9223372036854775807<t1.size+1+t2.size:=by have:=eH.out;omega
   clear iS Bx;go_wp2_with fail;go_ret;exact⟨⟨_,rfl,cY.out⟩,rO.out⟩
theorem q1i{W:World}{v:Value}{n g h:Nat}{b1 b2:Bool}{p1 p2:Option Addr}{k1 c1 k2 c2:Nat}(hv:DN W v n)(e0:W.cell? ⟨g,0,none⟩=some (.bool b1))(e1:W.cell? ⟨g,1,none⟩=some (.slice p1 k1 c1))(e2:W.cell? ⟨h,0,none⟩=some (.bool b2))(e3:W.cell? ⟨h,1,none⟩=some (.slice p2 k2 c2))(hne:g≠h)(x0 x1 x2 x3:Value):
  DN ((((W.setCell ⟨g,0,none⟩ x0).setCell ⟨g,1,none⟩ x1).setCell ⟨h,0,none⟩ x2).setCell ⟨h,1,none⟩ x3) v n:=by
 have k:∀(V:World) (g i g' j:Nat) (x:Value),(g,i)≠(g',j)→(V.setCell ⟨g,i,none⟩ x).cell? ⟨g',j,none⟩=V.cell? ⟨g',j,none⟩:=fun V g i g' j x hne=>World.cell?_setCell_other _ _ _ _ (by intro e;injection e with e1 e2;exact hne (by rw[e1,e2]));refine(((hv.setOther e0 (by intro k z h;cases h)).setOther (u := .slice p1 k1 c1) ?_ (by intro k z h;cases h)).setOther (u := .bool b2) ?_ (by intro k z h;cases h)).setOther (u := .slice p2 k2 c2) ?_ (by intro k z h;cases h)
 ·rw[k _ _ _ _ _ _ (by simp)];exact e1
 ·rw[k _ _ _ _ _ _ (by simp[hne]),k _ _ _ _ _ _ (by simp[hne])];exact e2
 ·rw[k _ _ _ _ _ _ (by simp),k _ _ _ _ _ _ (by simp[hne]),k _ _ _ _ _ _ (by simp[hne])];exact e3
theorem qtf{w W:World}{na nb n1 n2:Bool}{ta tb t1 t2:Value}(h:qlg w na ta nb tb W):
  qlg w n1 t1 n2 t2 ((((W.setCell ⟨w.heap.size,0,none⟩ (.bool n1)).setCell ⟨w.heap.size,1,none⟩ t1).setCell ⟨w.heap.size+1,0,none⟩ (.bool n2)).setCell ⟨w.heap.size+1,1,none⟩ t2):=by
 obtain⟨hb,o1,o2⟩:=h;refine⟨(((hb.setCell (p:=⟨w.heap.size,0,none⟩) (zap _) _).setCell (p:=⟨w.heap.size,1,none⟩) (zap _) _).setCell (p:=⟨w.heap.size+1,0,none⟩) (show w.heap.size≤w.heap.size+1 by omega) _).setCell (p:=⟨w.heap.size+1,1,none⟩) (show w.heap.size≤w.heap.size+1 by omega) _, ?_, ?_⟩
 ·refine((((o1.set 0 (by omega) (.bool n1)).set 1 (by omega) t1).setOther (by omega) 0 (.bool n2)).setOther (by omega) 1 t2).congr fun i hi => ?_
  unfold qid
  match i,hi with
  | 0,_=>rfl
  | 1,_=>rfl
 ·refine((((o2.setOther (by omega) 0 (.bool n1)).setOther (by omega) 1 t1).set 0 (by omega) (.bool n2)).set 1 (by omega) t2).congr fun i hi => ?_
  unfold qid
  match i,hi with
  | 0,_=>rfl
  | 1,_=>rfl
theorem qcp.partsN{w:World}{v:Value}{n:Nat}(h:qcp w v (n:Int)):∃p k c,v = .agg #[.bool false,.slice p k c]∧DN w (.slice p k c) n:=by
 obtain⟨p,k,c,rfl,_,hd⟩:=h.parts;rw[zar (by omega)];rw[Int.natAbs_natCast] at hd;exact⟨p,k,c,rfl,hd⟩
theorem qtg{w W:World}{na nb n1:Bool}{pa pb p1 p2:Option Addr}{ka ca kb cb k1 c1 k2 c2:Nat}{x:Int}{D0:Nat}(h:qlg w na (.slice pa ka ca) nb (.slice pb kb cb) W)(h1:qcp W (.agg #[.bool n1,.slice p1 k1 c1]) x)(h2:qcp W (.agg #[.bool false,.slice p2 k2 c2]) (D0:Int)):
  qhj w n1 (.slice p1 k1 c1) false (.slice p2 k2 c2) x.natAbs D0 ((((W.setCell ⟨w.heap.size,0,none⟩ (.bool n1)).setCell ⟨w.heap.size,1,none⟩ (.slice p1 k1 c1)).setCell ⟨w.heap.size+1,0,none⟩ (.bool false)).setCell ⟨w.heap.size+1,1,none⟩ (.slice p2 k2 c2)):=by
 obtain⟨e0,e1,e2,e3⟩:=qax h;obtain⟨v1,he1,d1⟩:=h1;obtain⟨v2,he2,d2⟩:=h2;cases he1
 cases he2
 rw[Int.natAbs_natCast] at d2;exact⟨qtf h,q1i d1 e0 e1 e2 e3 (by omega) _ _ _ _,q1i d2 e0 e1 e2 e3 (by omega) _ _ _ _⟩
theorem qrn(va vb:Value)(x0:Int)(D0:Nat)(w:World)(ha:qcp w va x0)(hb:qcp w vb (-(D0:Int)))(Bq:0<D0)(pZ:dl x0.natAbs≤900)(pY:dl D0≤900):
  Calls Tryz.prog 133 #[va,vb] w fun e w'=>(∃t:BA,e = .returned (.string t)∧t.data.toList=qat (mkRat (-x0) D0))∧Below w.heap.size w w':=by
 have lO:=hid ha;have HIB:=hid hb;obtain⟨pa,ka,ca,rfl,uX,fV⟩:=ha.parts;obtain⟨pb,kb,cb,rfl,oA,gV⟩:=hb.parts;clear uX oA fV gV ha hb;have hsb:decide (-(D0:Int)<0)=true:=zas (by omega);rw[hsb] at *;obtain⟨x,hx⟩:∃x,x = -x0:=⟨_,rfl⟩;have nI:Hid (dl x.natAbs≤900):=hid (by rw[hx,Int.natAbs_neg];exact pZ);have kZ:=hid pY;have xH:Hid (∀W,Below w.heap.size w W→Calls Tryz.prog 181 #[.agg #[.bool (decide (x0<0)),.slice pa ka ca]] W fun e w'=>(∃v,e = .returned v∧qcp w' v x)∧Below W.heap.size W w'):=hid fun W hW=>by rw[hx];exact q6e _ _ W (lO.out.later hW)
 have xI:Hid (∀W,Below w.heap.size w W→Calls Tryz.prog 181 #[.agg #[.bool true,.slice pb kb cb]] W fun e w'=>(∃v,e = .returned v∧qcp w' v (D0:Int))∧Below W.heap.size W w'):=hid fun W hW=>by
  have h:=q6e _ _ W (HIB.out.later hW);rw[Int.neg_neg,zas (show -(D0:Int)<0 by omega)] at h;exact h
 have HXX:=hid hx;rw[←hx];clear pZ pY hsb hx;generalize decide (x0<0)=s0 at *;have hD0':=Bq;have aO:=hid (qkg w s0 (.slice pa ka ca) true (.slice pb kb cb));have kL:=qax aO.out;go_enter Tryz.func133,Tryz.ntmps133;go_wp2_with fail;clear kL;generalize (w.alloc (.cells #[.bool s0,.slice pa ka ca] 179)).alloc (.cells #[.bool true,.slice pb kb cb] 179)=w0 at *;have cG:Hid (qlg w s0 (.slice pa ka ca) true (.slice pb kb cb) w0.drew):=hid (aO.out.later ((zan _ _).drew));have fC:=qax cG.out;have hB0:=cG.out.1
 go_region_with (first
   | (go_at_call 181;first
     | ((with_reducible refine(xH.out _ (by first|exact hBM|exact hB0)).mono ?_);rintro e wN ⟨⟨vN,rfl,hn⟩,Fg⟩;have oZ:=hid hn;have Nl:=hid Fg;have gJ:Hid (qlg w s0 (.slice pa ka ca) true (.slice pb kb cb) wN):=hid (by first|exact gT.out.later Fg|exact cG.out.later Fg);have hBN:=gJ.out.1;have hcN:=qax gJ.out;have hfN:=qm3 gJ.out;obtain⟨p1,k1,c1,rfl,kA,_⟩:=hn.parts;clear hn Fg kA)
     | ((with_reducible refine(xI.out _ (by first|exact hBN|exact hB0)).mono ?_);rintro e wM ⟨⟨vM,rfl,hn⟩,hbm⟩;have Gw:=hid hn;have HBM:=hid hbm;have gT:Hid (qlg w s0 (.slice pa ka ca) true (.slice pb kb cb) wM):=hid (by first|exact gJ.out.later hbm|exact cG.out.later hbm);have hBM:=gT.out.1;have hcM:=qax gT.out;have hfM:=qm3 gT.out;obtain⟨p2,k2,c2,rfl,_⟩:=hn.partsN;clear hn hbm)))
 all_goals
  have HP:Hid (qhj w (decide (x<0)) (.slice p1 k1 c1) false (.slice p2 k2 c2) x.natAbs D0 _):=hid (by first|exact qtg gT.out (oZ.out.later HBM.out) Gw.out|exact qtg gJ.out oZ.out (Gw.out.later Nl.out));have kL:=qax HP.out.1;clear oZ Gw Nl HBM gJ gT hcN hcM hfN hfM hBN hBM fC hB0 cG aO xH xI lO HIB;have Lp:=qjp x D0 Bq;have gD:=hid Lp.1;obtain⟨D,hDD⟩:∃D,D=D0/Nat.gcd x.natAbs D0:=⟨_,rfl⟩;have Br:Hid ((mkRat x D0).den=D):=hid (by rw[Lp.2,hDD]);have sR:Hid (0<Nat.gcd x.natAbs D0):=hid (Nat.gcd_pos_of_pos_right _ Bq);have pO:Hid (dl D≤900):=hid (Nat.le_trans (qow (by rw[hDD];exact Nat.div_le_self _ _)) kZ.out);have iH:Hid (dl (x.natAbs/Nat.gcd x.natAbs D0)≤900):=hid (Nat.le_trans (qow (Nat.div_le_self _ _)) nI.out)
  have aU:Hid ((qa1 (mkRat x D0).num).length≤10000):=hid (by
   have h1:(mkRat x D0).num.natAbs=x.natAbs/Nat.gcd x.natAbs D0:=by
    rw[gD.out];split<;>simp only[Int.natAbs_neg,Int.natAbs_natCast]
   exact qh3 (by rw[h1];exact iH.out))
  have cF:Hid ((qa1 (D:Int)).length≤10000):=hid (qh3 (by rw[Int.natAbs_natCast];exact pO.out))
  have Bs:Hid (∀W,qhj w (decide (x<0)) (.slice p1 k1 c1) false (.slice p2 k2 c2) x.natAbs D0 W→Calls Tryz.prog 128 #[(.slice p1 k1 c1),(.slice p2 k2 c2)] W fun e w'=>(∃v',e = .returned v'∧DN w' v' (Nat.gcd x.natAbs D0))∧qhj w (decide (x<0)) (.slice p1 k1 c1) false (.slice p2 k2 c2) x.natAbs D0 w'):=hid fun W hW=>
   (qve _ _ _ _ W hW.2.1 hW.2.2 nI.out kZ.out).mono fun _ _ ⟨h1,h2⟩=>⟨h1,hW.later h2⟩
  have sS:Hid (∀W v,qhj w (decide (x<0)) (.slice p1 k1 c1) false (.slice p2 k2 c2) x.natAbs D0 W→DN W v (Nat.gcd x.natAbs D0)→Calls Tryz.prog 174 #[(.slice p1 k1 c1),v] W fun e w'=>(∃vq vr,e = .returned (.tuple #[vq,vr])∧DN w' vq (x.natAbs/Nat.gcd x.natAbs D0)∧DN w' vr (x.natAbs % Nat.gcd x.natAbs D0))∧DN w' v (Nat.gcd x.natAbs D0)∧qhj w (decide (x<0)) (.slice p1 k1 c1) false (.slice p2 k2 c2) x.natAbs D0 w'):=hid fun W v hW hv=>
   (qle _ _ _ _ W hW.2.1 hv sR.out nI.out).mono fun _ _ ⟨h1,h2⟩=>⟨h1,hv.later h2,hW.later h2⟩
  have sT:Hid (∀W v,qhj w (decide (x<0)) (.slice p1 k1 c1) false (.slice p2 k2 c2) x.natAbs D0 W→DN W v (Nat.gcd x.natAbs D0)→Calls Tryz.prog 174 #[(.slice p2 k2 c2),v] W fun e w'=>(∃vq vr,e = .returned (.tuple #[vq,vr])∧DN w' vq D∧DN w' vr (D0 % Nat.gcd x.natAbs D0))∧Below W.heap.size W w'∧qhj w (decide (x<0)) (.slice p1 k1 c1) false (.slice p2 k2 c2) x.natAbs D0 w'):=hid fun W v hW hv=>
   (qle _ _ _ _ W hW.2.2 hv sR.out kZ.out).mono fun _ _ ⟨⟨vq,vr,h0,h1,h3⟩,h2⟩=>⟨⟨vq,vr,h0,by rw[hDD];exact h1,h3⟩,h2,hW.later h2⟩
  have fS:Hid (∀W v,qhj w (decide (x<0)) (.slice p1 k1 c1) false (.slice p2 k2 c2) x.natAbs D0 W→DN W v (x.natAbs/Nat.gcd x.natAbs D0)→Calls Tryz.prog 182 #[.bool (decide (x<0)),v] W fun e w'=>(∃v,e = .returned v∧qcp w' v (mkRat x D0).num)∧Below W.heap.size W w'):=hid fun W v hW hv=>by
   have h:=qg1 (decide (x<0)) v _ W hv;rw[qah _ _ qa2] at h;rw[gD.out];exact h
  have iW:Hid (∀W v,qcp W v (mkRat x D0).num→Calls Tryz.prog 136 #[v] W fun e w'=>(∃t:BA,e = .returned (.string t)∧t.data.toList=qa1 (mkRat x D0).num)∧Below W.heap.size W w'):=hid fun W v hv=>q1e v _ W hv (by
   have h1:(mkRat x D0).num.natAbs=x.natAbs/Nat.gcd x.natAbs D0:=by
    rw[gD.out];split<;>simp only[Int.natAbs_neg,Int.natAbs_natCast]
   rw[h1];have:=iH.out;omega)
  clear Lp hDD Bq;go_wp2_with fail;clear kL;refine(Bs.out _ HP.out).mono ?_;rintro e w2 ⟨⟨vg,rfl,hg⟩,hp⟩;have HG:=hid hg;have uM:=hid hp;have aA:=qax hp.1;clear hg hp Bs;go_wp2_with fail;refine(sS.out _ _ uM.out HG.out).mono ?_;rintro e w3 ⟨⟨vp,vpr,rfl,hq,_⟩,hg,hp⟩;have kY:=hid hq;have Kg:=hid hg;have De:=hid hp;clear aA;have aA:=qax hp.1;clear hq hg hp sS uM HG;go_wp2_with fail;refine(sT.out _ _ De.out Kg.out).mono ?_;rintro e w4 ⟨⟨vq,vqr,rfl,hq,_⟩,hb,hp⟩;have kM:=hid hq;have Bt:=hid (kY.out.later hb);have xJ:=hid hp;clear aA;have aA:=qax hp.1;clear hq hb hp sT De Kg kY;go_wp2_with fail;refine(fS.out _ _ xJ.out Bt.out).mono ?_;rintro e w5 ⟨⟨vs,rfl,hs⟩,hb⟩;have Aw:=hid hs;have Ts:=hid (kM.out.later hb);have lJ:=hid (xJ.out.1.1.trans (hb.mono xJ.out.1.1.size));clear hs hb aA fS Bt kM xJ;go_wp2_with fail;refine(iW.out _ _ Aw.out).mono ?_;rintro e w6 ⟨⟨t1,rfl,fB⟩,hb⟩;have cE:=hid fB;have yW:=Ts.out.later hb;have lK:=hid (lJ.out.trans (hb.mono lJ.out.size));obtain⟨p6,k6,c6,rfl,Ff⟩:=qf1 yW;have Tt:=hid yW
  have eH:Hid (t1.size≤10000):=hid (by
   have h:=congrArg List.length fB;have h2:t1.data.toList.length=t1.size:=by simp
   rw[←h2,h];exact aU.out)
  clear fB hb Aw Ts lJ iW;have Lq:¬9223372036854775807<t1.size+1:=by have:=eH.out;omega
  by_cases hD:D=1
  ·have qU:qaf D9 D=[1]:=by rw[hD];exact qdh (by omega) (by decide)
   have kA:k6=1:=by rw[Ff];unfold dl;rw[qU];rfl
   have aC:∃b o,p6=some ⟨b,o,none⟩∧w6.cell? ⟨b,o,none⟩=some (.int .i64 1):=by
    obtain⟨_,p',c',he,_,_,hc⟩:=yW;rw[qU] at he hc;cases he
    rcases hc with h0|⟨b,o,h1,h2⟩
    ·cases h0
    ·exact⟨b,o,h1,by have:=h2 0 (by simp);unfold dv at this;simpa using this⟩
   obtain⟨b,o,rfl,aC⟩:=aC;have aS:Hid (t1.data.toList=qat (mkRat x D0)):=hid (by rw[qee,Br.out,if_pos hD,List.append_nil];exact cE.out);clear yW Ff qU;subst kA;have g1:(((1:Nat):Int)==1)=true:=rfl;go_wp2_with fail;go_ret;exact⟨⟨_,rfl,aS.out⟩,lK.out⟩
  ·have Bu:Hid (∀W,DN W (.slice p6 k6 c6) D→Calls Tryz.prog 182 #[.bool false,.slice p6 k6 c6] W fun e w'=>(∃v,e = .returned v∧qcp w' v (D:Int))∧Below W.heap.size W w'):=hid fun W hW=>by
    have h:=qg1 false _ _ W hW;rw[qah _ _ qa2] at h;exact h
   have dW:Hid (∀W v,qcp W v (D:Int)→Calls Tryz.prog 136 #[v] W fun e w'=>(∃t:BA,e = .returned (.string t)∧t.data.toList=qa1 (D:Int))∧Below W.heap.size W w'):=hid fun W v hv=>q1e v (D:Int) W hv (by rw[Int.natAbs_natCast];have:=pO.out;omega)
   have aS:Hid (∀t2:BA,t2.data.toList=qa1 (D:Int)→(t1++⟨#[47]⟩++t2).data.toList=qat (mkRat x D0)):=hid fun t2 h2=>by
    rw[qee,Br.out,if_neg hD,←cE.out,←qbs,←h2];simp
   have Bv:=hid cF.out
   have Aa:(¬k6=1)∨(k6=1∧∃b o d,p6=some ⟨b,o,none⟩∧w6.cell? ⟨b,o,none⟩=some (.int .i64 ((d:Nat):Int))∧d≠1):=by
    by_cases h:k6=1
    ·refine .inr ⟨h, ?_⟩
     have qV:dl D=1:=by rw[←Ff];exact h
     obtain⟨h0,h9⟩:=qld qV;have qU:qaf D9 D=[D]:=qdh h0 (by rw[qbo];exact h9);obtain⟨_,p',c',he,_,_,hc⟩:=yW;rw[qU] at he hc;cases he
     rcases hc with h0'|⟨b,o,h1,h2⟩
     ·cases h0'
     ·exact⟨b,o,D,h1,by have:=h2 0 (by simp);unfold dv at this;simpa using this,hD⟩
    ·exact .inl h
   clear yW Ff hD;rcases Aa with hk|⟨hk,b,o,d,rfl,aC,hd⟩
   ·have g1:((k6:Int)==1)=false:=zat (by omega)
    go_wp2_with fail;refine(Bu.out _ Tt.out).mono ?_;rintro e w7 ⟨⟨v7,rfl,h7⟩,Bw⟩;have H7:=hid h7;have kX:=hid (lK.out.trans (Bw.mono lK.out.size));clear h7 Bw;go_wp2_with fail;refine(dW.out _ _ H7.out).mono ?_;rintro e w8 ⟨⟨t2,rfl,iS⟩,Bx⟩;have rO:=hid (kX.out.trans (Bx.mono kX.out.size));have cY:=hid (aS.out t2 iS)
    have Lr:t2.size≤10000:=by
     have h:=congrArg List.length iS;have h2:t2.data.toList.length=t2.size:=by simp
     rw[←h2,h];exact Bv.out
    have Bz:¬9223372036854775807<(t1++⟨#[47]⟩:BA).size+t2.size:=by rw[ByteArray.size_append];show ¬9223372036854775807<t1.size+1+t2.size;have:=eH.out;omega
    have Ca:¬9223372036854775807<t1.size+1+t2.size:=by have:=eH.out;omega
    clear iS Bx;go_wp2_with fail;go_ret;exact⟨⟨_,rfl,cY.out⟩,rO.out⟩
   ·have g1:(((1:Nat):Int)==1)=true:=rfl
    have g2:((d:Int)==1)=false:=zat (by omega);subst hk;go_wp2_with fail;refine(Bu.out _ Tt.out).mono ?_;rintro e w7 ⟨⟨v7,rfl,h7⟩,Bw⟩;have H7:=hid h7;have kX:=hid (lK.out.trans (Bw.mono lK.out.size));clear h7 Bw;go_wp2_with fail;refine(dW.out _ _ H7.out).mono ?_;rintro e w8 ⟨⟨t2,rfl,iS⟩,Bx⟩;have rO:=hid (kX.out.trans (Bx.mono kX.out.size));have cY:=hid (aS.out t2 iS)
    have Lr:t2.size≤10000:=by
     have h:=congrArg List.length iS;have h2:t2.data.toList.length=t2.size:=by simp
     rw[←h2,h];exact Bv.out
    have Bz:¬9223372036854775807<(t1++⟨#[47]⟩:BA).size+t2.size:=by rw[ByteArray.size_append];show ¬9223372036854775807<t1.size+1+t2.size;have:=eH.out;omega
    have Ca:¬9223372036854775807<t1.size+1+t2.size:=by have:=eH.out;omega
    clear iS Bx;go_wp2_with fail;go_ret;exact⟨⟨_,rfl,cY.out⟩,rO.out⟩
def q6h(f:Bool)(z:Int)(D:Nat):Value:=if f then .tuple #[.int .i64 z,.int .i64 D,.bool true] else .tuple #[.int .i64 0,.int .i64 0,.bool false]
theorem qli(n:Nat):(qfr n).length≤(qaw n).length:=by
 unfold qaw;split
 ·rename_i e;rw[e,qcu];simp
 ·exact zap _
theorem qvi(a t:BA)(neg:Bool)(N D:Nat)(z:Int)(w:World)(hz:z=if neg then -(N:Int) else(N:Int))(hs:a.data.toList=(if neg then[45] else[])++t.data.toList)(ht:t.data.toList=qa1 (N:Int)++(if D=1 then[] else 47::qaw D))(dM:a.size≤20):
  Calls Tryz.prog 131 #[.string a] w fun e w'=>e = .returned (q6h (decide ((qaw N).length≤9)&&(decide (D=1)||decide ((qaw D).length≤9))) z D)∧w'=w:=by
 obtain⟨zX,Dn⟩:=qjo t (N:Int) D ht;have hNl:(qa1 (N:Int)).length=(qaw N).length:=by rw[qbs]
 have hN0:=qvg (N:Int)
 have aF:a.size=(if neg then 1 else 0)+t.size:=by
  have h:=congrArg List.length hs;rw[List.length_append] at h;have e1:a.data.toList.length=a.size:=by simp
  have e2:t.data.toList.length=t.size:=by simp
  rw[e1,e2] at h;rw[h];cases neg<;>rfl
 have tR:t.size=(qaw N).length+(if D=1 then 0 else 1+(qaw D).length):=by
  have h:=congrArg List.length ht;have e2:t.data.toList.length=t.size:=by simp
  rw[List.length_append,e2,hNl] at h;rw[h];split
  ·rfl
  ·rw[List.length_cons];omega
 have rQ:0<t.size:=by omega
 have gF:0<a.size:=by omega
 have fC:((a[0]'gF).toNat:Int)=45∧neg=true∨((a[0]'gF).toNat:Int)≠45∧neg=false:=by
  have h1:a.data.toList[0]'(by simpa using gF)=a[0]'gF:=qdm a 0 gF;cases neg
  ·right
   refine⟨?_,rfl⟩;have h2:a.data.toList=t.data.toList:=hs
   have h3:isD (a[0]'gF)=true:=by
    rw[←h1];simp only[h2,ht,qbs];rw[List.getElem_append_left (by omega)];exact qhb _ _ (List.getElem_mem _)
   unfold isD at h3;have:=of_decide_eq_true h3;omega
  ·left
   refine⟨?_,rfl⟩;rw[←h1];simp only[hs];rfl
 have vS:∀h:0<a.size,((a[0]'h).toNat:Int)=((a[0]'gF).toNat:Int):=fun _=>rfl
 have pF:Hid (neg=true→(a.extract 1 a.size)=t):=hid fun h=>by
  apply qb7;rw[Lib.extract_data,hs,if_pos h];simp;rw[List.take_of_length_le (by simp[aF,h])]
 have gJ:Hid (neg=false→a=t):=hid fun h=>by
  apply qb7;rw[hs,h];rfl
 obtain⟨K,hKe⟩:∃K,K=sl t.data.toList:=⟨_,rfl⟩;have bH:=hid (fun W=>qqf t W (by omega));rw[←hKe] at bH zX Dn
 have hD:(D=1∧K=t.size)∨(D≠1∧K+1≤t.size):=by
  by_cases h:D=1
  ·exact .inl ⟨h,(zX h).1⟩
  ·exact .inr ⟨h,(Dn h).1⟩
 have Nj:(t.extract 0 K).data.toList=qa1 (N:Int):=by
  by_cases h:D=1
  ·rw[Lib.extract_from_zero,(zX h).1,List.take_of_length_le (by simp)];exact(zX h).2
  ·exact(Dn h).2.1
 have hKN:K=(qaw N).length:=by
  have h1:=congrArg List.length Nj;rw[hNl,Lib.extract_from_zero,List.length_take] at h1;have e2:t.data.toList.length=t.size:=by simp
  omega
 have hVN:K≤9→∀W,Calls Tryz.prog 178 #[.string (t.extract 0 K)] W fun e w'=>e = .returned (.int .i64 (N:Int))∧w'=W:=fun h W=>by
  have h1:=qqe (t.extract 0 K) W (by rw[Nj,qbs];exact qhb _) (by rw[ByteArray.size_extract];omega);rw[Nj,qbs,qf6] at h1;exact h1
 have hVD:D≠1→t.size-K≤10→∀W,Calls Tryz.prog 178 #[.string (t.extract (K+1) t.size)] W fun e w'=>e = .returned (.int .i64 (D:Int))∧w'=W:=fun h hl W=>by
  have h1:=qqe (t.extract (K+1) t.size) W (by rw[(Dn h).2.2,qbs];exact qhb _) (by rw[ByteArray.size_extract];omega);rw[(Dn h).2.2,qbs,qf6] at h1;exact h1
 obtain⟨fits,Cb⟩:∃f,f=(decide ((qaw N).length≤9)&&(decide (D=1)||decide ((qaw D).length≤9))):=⟨_,rfl⟩
 have dQ:Hid (fits=decide (¬9<K∧¬10<t.size-K)):=hid (by
  rw[Cb];by_cases h:D=1
  ·rw[if_pos h] at tR
   simp only[h,decide_true,Bool.true_or,Bool.and_true,decide_eq_decide];omega
  ·rw[if_neg h] at tR
   simp only[h,decide_false,Bool.false_or,←Bool.decide_and,decide_eq_decide]
   omega)
 rw[←Cb];have HZ:=hid hz;clear hz;have hna:¬20<a.size:=by omega
 have hga:0<a.size:=gF
 have hNi:K≤9→(N:Int)≤999999999:=fun h=>by
  have h1:=qgf N
  have h2:(qfr N).length≤9:=by
   have:=qli N;omega
  have h3:=Nat.pow_le_pow_right (show 0<10 by omega) h2;omega
 have Oj:=hid hNi;have Bp:t.size≤20:=by omega
 have hKle:K≤t.size:=by omega
 generalize ((a[0]'gF).toNat:Int)=ch at *;clear hs ht zX Dn hNl hN0 aF tR dM hKe Nj hKN Cb hNi;rcases fC with⟨h1,h2⟩|⟨h1,h2⟩
 ·subst h1 h2
  have hext:=pF.out rfl;have hb:((45:Int)==45)=true:=rfl;by_cases hK:9<K
  ·have HF:Hid (fits=false):=hid (by rw[dQ.out];exact zar (by omega))
   have g1:decide ((9:Int)<(K:Int))=true:=zas (by omega);go_enter Tryz.func131,Tryz.ntmps131;go_wp2_with fail;refine(bH.out _).mono ?_;rintro e w1 ⟨rfl,rfl⟩;go_wp2_with fail
   go_ret3
   exact⟨by rw[HF.out];rfl,rfl⟩
  ·by_cases hL:10<t.size-K
   ·have HF:Hid (fits=false):=hid (by rw[dQ.out];exact zar (by omega))
    have g2:(10:Int)<(t.size:Int)-(K:Int):=by omega
    go_enter Tryz.func131,Tryz.ntmps131;go_wp2_with fail;refine(bH.out _).mono ?_;rintro e w1 ⟨rfl,rfl⟩;go_wp2_with fail
    go_ret3
    exact⟨by rw[HF.out];rfl,rfl⟩
   ·have HF:Hid (fits=true):=hid (by rw[dQ.out];exact zas (by omega))
    have g2:¬(10:Int)<(t.size:Int)-(K:Int):=by omega
    have oZ:=hid (fun W=>hVN (by omega) W);have hNb:(N:Int)≤999999999:=Oj.out (by omega);rcases hD with⟨uY,hKt⟩|⟨uY,hKt⟩
    ·have rN:=hid uY
     have g3:¬K<t.size:=by omega
     clear uY hKt hVD hVN;go_enter Tryz.func131,Tryz.ntmps131;go_wp2_with fail;refine(bH.out _).mono ?_;rintro e w1 ⟨rfl,rfl⟩;go_wp2_with fail;refine(oZ.out _).mono ?_;rintro e w1 ⟨rfl,rfl⟩;go_wp2_with fail
     go_ret3
     exact⟨by have e:=HZ.out;simp only[if_true,Bool.false_eq_true,if_false] at e;rw[HF.out,rN.out,e];rfl,rfl⟩
    ·have Kh:=hid (fun W=>hVD uY (by omega) W)
     have g3:K<t.size:=by omega
     have g4:K+1≤t.size:=by omega
     have g5:(0:Int)≤(K:Int)+1:=by omega
     have g6:((K:Int)+1).toNat=K+1:=by omega
     clear uY hVD hVN;go_enter Tryz.func131,Tryz.ntmps131;go_wp2_with fail;refine(bH.out _).mono ?_;rintro e w1 ⟨rfl,rfl⟩;go_wp2_with fail;refine(oZ.out _).mono ?_;rintro e w1 ⟨rfl,rfl⟩;go_wp2_with fail;refine(Kh.out _).mono ?_;rintro e w1 ⟨rfl,rfl⟩;go_wp2_with fail
     go_ret3
     exact⟨by have e:=HZ.out;simp only[if_true,Bool.false_eq_true,if_false] at e;rw[HF.out,e];rfl,rfl⟩
 ·subst h2
  have kO:=gJ.out rfl;have hb:(ch==45)=false:=zat h1;subst a;clear h1;by_cases hK:9<K
  ·have HF:Hid (fits=false):=hid (by rw[dQ.out];exact zar (by omega))
   have g1:decide ((9:Int)<(K:Int))=true:=zas (by omega);go_enter Tryz.func131,Tryz.ntmps131;go_wp2_with fail;refine(bH.out _).mono ?_;rintro e w1 ⟨rfl,rfl⟩;go_wp2_with fail
   go_ret3
   exact⟨by rw[HF.out];rfl,rfl⟩
  ·by_cases hL:10<t.size-K
   ·have HF:Hid (fits=false):=hid (by rw[dQ.out];exact zar (by omega))
    have g2:(10:Int)<(t.size:Int)-(K:Int):=by omega
    go_enter Tryz.func131,Tryz.ntmps131;go_wp2_with fail;refine(bH.out _).mono ?_;rintro e w1 ⟨rfl,rfl⟩;go_wp2_with fail
    go_ret3
    exact⟨by rw[HF.out];rfl,rfl⟩
   ·have HF:Hid (fits=true):=hid (by rw[dQ.out];exact zas (by omega))
    have g2:¬(10:Int)<(t.size:Int)-(K:Int):=by omega
    have oZ:=hid (fun W=>hVN (by omega) W);have hNb:(N:Int)≤999999999:=Oj.out (by omega);rcases hD with⟨uY,hKt⟩|⟨uY,hKt⟩
    ·have rN:=hid uY
     have g3:¬K<t.size:=by omega
     clear uY hKt hVD hVN;go_enter Tryz.func131,Tryz.ntmps131;go_wp2_with fail;refine(bH.out _).mono ?_;rintro e w1 ⟨rfl,rfl⟩;go_wp2_with fail;refine(oZ.out _).mono ?_;rintro e w1 ⟨rfl,rfl⟩;go_wp2_with fail
     go_ret3
     exact⟨by have e:=HZ.out;simp only[if_true,Bool.false_eq_true,if_false] at e;rw[HF.out,rN.out,e];rfl,rfl⟩
    ·have Kh:=hid (fun W=>hVD uY (by omega) W)
     have g3:K<t.size:=by omega
     have g4:K+1≤t.size:=by omega
     have g5:(0:Int)≤(K:Int)+1:=by omega
     have g6:((K:Int)+1).toNat=K+1:=by omega
     clear uY hVD hVN;go_enter Tryz.func131,Tryz.ntmps131;go_wp2_with fail;refine(bH.out _).mono ?_;rintro e w1 ⟨rfl,rfl⟩;go_wp2_with fail;refine(oZ.out _).mono ?_;rintro e w1 ⟨rfl,rfl⟩;go_wp2_with fail;refine(Kh.out _).mono ?_;rintro e w1 ⟨rfl,rfl⟩;go_wp2_with fail
     go_ret3
     exact⟨by have e:=HZ.out;simp only[if_true,Bool.false_eq_true,if_false] at e;rw[HF.out,e];rfl,rfl⟩
theorem qgs(a:BA)(q:Rat)(h:a.data.toList=qat q):a.size=(if q.num<0 then 1 else 0)+(qaw q.num.natAbs).length+(if q.den=1 then 0 else 1+(qaw q.den).length):=by
 have h1:=congrArg List.length h;have h2:a.data.toList.length=a.size:=by simp
 rw[h2] at h1;rw[h1];unfold qat;rw[List.length_append,List.length_append]
 congr 1
 ·congr 1
  split<;>rfl
 ·split
  ·rfl
  ·rw[List.length_cons];omega
theorem q6i(a:BA)(q:Rat)(w:World)(h:a.data.toList=qat q)(dM:a.size≤5000):
  Calls Tryz.prog 131 #[.string a] w fun e w'=>e = .returned (q6h (qa3 q 9) q.num q.den)∧w'=w:=by
 have hs:=qgs a q h;by_cases hl:a.size≤20
 ·have hc:=qvi a ⟨(qaw q.num.natAbs++(if q.den=1 then[] else 47::qaw q.den)).toArray⟩ (decide (q.num<0)) q.num.natAbs q.den q.num w (by
   rcases Int.lt_or_le q.num 0 with h1|h1
   ·rw[zas h1,if_pos rfl];omega
   ·rw[zar (by omega),if_neg (by decide)];omega) (by
   rw[h];unfold qat;rw[List.append_assoc];rcases Int.lt_or_le q.num 0 with h1|h1
   ·rw[if_pos h1,zas h1];rfl
   ·rw[if_neg (by omega),zar (by omega)];rfl) (by rw[qbs]) hl
  exact hc
 ·have HF:Hid (qa3 q 9=false):=hid (by
   cases hf:qa3 q 9
   ·rfl
   ·exfalso
    unfold qa3 at hf;rw[Bool.and_eq_true,Bool.or_eq_true] at hf;obtain⟨h1,h2⟩:=hf;have h1:=of_decide_eq_true h1;rcases h2 with h2|h2
    ·have h2:=of_decide_eq_true h2
     rw[if_pos h2] at hs;split at hs<;>omega
    ·have h2:=of_decide_eq_true h2
     split at hs<;>split at hs<;>omega)
  have Kz:¬a.size≤20:=hl;have hgt2:20<a.size:=by omega
  clear h hs hl;go_enter Tryz.func131,Tryz.ntmps131;go_wp2_with fail
  go_ret3
  exact⟨by rw[HF.out];rfl,rfl⟩
theorem q1j(n:Nat):(pd (qrm n 1) n).reverse=qaw n:=by
 rcases zav n with e|e
 ·subst e
  have h:qrm 0 1=1:=by unfold qrm;rw[qcu];rfl
  rw[h];rfl
 ·rw[q6g n e]
  unfold qaw;rw[if_neg (by omega)]
theorem qth(n:Int)(d g:Nat)(hd:0<d)(hg:g=Nat.gcd n.natAbs d):n.tdiv (g:Int)=(mkRat n d).num∧d/g=(mkRat n d).den∧(mkRat n d).num.natAbs≤n.natAbs∧(mkRat n d).den≤d:=by
 obtain⟨h1,h2⟩:=qjp n d hd;rw[←hg] at h1 h2;have dF:n.natAbs/g≤n.natAbs:=Nat.div_le_self _ _;have h3:d/g≤d:=Nat.div_le_self _ _;rw[h1,h2];refine⟨?_,rfl, ?_,h3⟩
 ·rcases Int.lt_or_le n 0 with h|h
  ·rw[zas h,if_pos rfl,Int.natCast_ediv,Int.ofNat_natAbs_of_nonpos (by omega)]
   rw[show n = -(-n) by omega,Int.neg_tdiv,Int.tdiv_eq_ediv_of_nonneg (by omega),Int.neg_neg]
  ·rw[zar (by omega),if_neg (by decide),Int.natCast_ediv,Int.natAbs_of_nonneg h,Int.tdiv_eq_ediv_of_nonneg h]
 ·split
  ·rw[Int.natAbs_neg,Int.natAbs_natCast];exact dF
  ·rw[Int.natAbs_natCast];exact dF
theorem of9(n:Int)(d:Nat)(w:World)(hd:0<d)(hn:n.natAbs≤4000000000000000000)(zW:d≤4000000000000000000):
  Calls Tryz.prog 132 #[.int .i64 n,.int .i64 d] w fun e w'=>(∃t:BA,e = .returned (.string t)∧t.data.toList=qat (mkRat n d))∧Below w.heap.size w w':=by
 have dR : -4000000000000000000≤n:=by omega
 have jC:n≤4000000000000000000:=by omega
 have qV:(0:Int)<(d:Int):=by omega
 have Nv:(d:Int)≤4000000000000000000:=by omega
 obtain⟨g,hg⟩:∃g,g=Nat.gcd n.natAbs d:=⟨_,rfl⟩;have yA:0<g:=by rw[hg];exact Nat.gcd_pos_of_pos_right _ hd
 have Qy:=hid (fun W=>zac n.natAbs d W (by omega) (by omega));have Eo:max n (0-n)=(n.natAbs:Int):=by omega
 have hmax2:max n (-n)=(n.natAbs:Int):=by omega
 rw[←hg] at Qy;obtain⟨q1,q2,q3,q4⟩:=qth n d g hd hg;have nZ:((g:Int)==0)=false:=zat (by omega);have Kx:(d:Int)/(g:Int)=(((mkRat n d).den:Nat):Int):=by rw[←q2];exact(Int.natCast_ediv d g).symm
 have hqd2:(d:Int).tdiv (g:Int)=(((mkRat n d).den:Nat):Int):=by rw[Int.tdiv_eq_ediv_of_nonneg (by omega)];exact Kx
 have hgi:(0:Int)<(g:Int):=by omega
 generalize hqe:mkRat n d=q at *;have hn9:n≤9223372036854775807:=by omega
 have hN1 : -4000000000000000000≤q.num:=by omega
 have hN2:q.num≤4000000000000000000:=by omega
 have hD2:((q.den:Nat):Int)≤4000000000000000000:=by omega
 have hmax3:max q.num (0-q.num)=(q.num.natAbs:Int):=by omega
 have hmax4:max q.num (-q.num)=(q.num.natAbs:Int):=by omega
 have HDN:Hid (∀W,Calls Tryz.prog 180 #[.int .i64 (q.num.natAbs:Nat),.int .i64 1] W fun e w'=>(∃t:BA,e = .returned (.string t)∧t.data.toList=qaw q.num.natAbs)∧w'=W):=hid fun W=>by
  have h:=qnp q.num.natAbs 1 W (by omega) (by omega);rw[q1j] at h;exact h
 have rN:Hid (∀W,Calls Tryz.prog 180 #[.int .i64 (q.den:Nat),.int .i64 1] W fun e w'=>(∃t:BA,e = .returned (.string t)∧t.data.toList=qaw q.den)∧w'=W):=hid fun W=>by
  have h:=qnp q.den 1 W (by omega) (by omega);rw[q1j] at h;exact h
 have oE:Hid ((qaw q.num.natAbs).length≤100):=hid (by
  unfold qaw;split
  ·simp
  ·exact Nat.le_trans (qbm 19 _ (by omega)) (by omega))
 have mK:Hid ((qaw q.den).length≤100):=hid (by
  unfold qaw;split
  ·simp
  ·exact Nat.le_trans (qbm 19 _ (by omega)) (by omega))
 have qD:Hid (qat q=(if q.num<0 then[45] else[])++qaw q.num.natAbs++(if q.den=1 then[] else 47::qaw q.den)):=hid rfl;have hDp:0<q.den:=q.den_pos;generalize qat q=rt at *;generalize q.num.natAbs=NA at *;generalize q.num=N at *;generalize q.den=D at *;clear hqe hg q2 q3 q4 hn hd zW;go_enter Tryz.func132,Tryz.ntmps132;go_wp2_with fail;refine(Qy.out _).mono ?_;rintro e w1 ⟨rfl,bB⟩;have aQ:=hid bB;clear bB Qy;go_wp2_with fail
 go_quiet (fail)
 rcases Int.lt_or_le N 0 with hs|hs
 ·have g2:N<0:=hs
  go_wp2_with fail;refine(HDN.out _).mono ?_;rintro e w2 ⟨⟨t1,rfl,fB⟩,rfl⟩
  have eW:t1.size≤100:=by
   have h:=congrArg List.length fB;have h2:t1.data.toList.length=t1.size:=by simp
   rw[←h2,h];exact oE.out
  have Lq:¬9223372036854775807<1+t1.size:=by omega
  have hov5:¬9223372036854775807<1+t1.size+1:=by omega
  have hov6:¬9223372036854775807<t1.size+1:=by omega
  have uY:D=1∨D≠1:=by omega
  rcases uY with e|e
  ·have g3:¬1<D:=by omega
   have aS:Hid ((⟨#[45]⟩++t1:BA).data.toList=rt):=hid (by rw[qD.out,if_pos hs,if_pos e,List.append_nil,←fB];simp);clear fB;go_wp2_with fail;go_ret;exact⟨⟨_,rfl,aS.out⟩,below_drewN aQ.out _⟩
  ·have g3:1<D:=by omega
   have aS:Hid (∀t2:BA,t2.data.toList=qaw D→((⟨#[45]⟩++t1:BA)++⟨#[47]⟩++t2).data.toList=rt):=hid fun t2 h2=>by rw[qD.out,if_pos hs,if_neg e,←fB,←h2];simp
   clear fB e;go_wp2_with fail;refine(rN.out _).mono ?_;rintro e w1 ⟨⟨t2,rfl,iS⟩,rfl⟩;have cY:=hid (aS.out t2 iS)
   have jF:t2.size≤100:=by
    have h:=congrArg List.length iS;have h2:t2.data.toList.length=t2.size:=by simp
    rw[←h2,h];exact mK.out
   have Bz:¬9223372036854775807<1+t1.size+1+t2.size:=by omega
   have Ca:¬9223372036854775807<t1.size+1+t2.size:=by omega
   have hov4:¬9223372036854775807<0+t1.size+1+t2.size:=by omega
   clear iS;go_wp2_with fail;go_ret;exact⟨⟨_,rfl,cY.out⟩,below_drewN aQ.out _⟩
 ·have g2:¬N<0:=by omega
  go_wp2_with fail;refine(HDN.out _).mono ?_;rintro e w2 ⟨⟨t1,rfl,fB⟩,rfl⟩
  have eW:t1.size≤100:=by
   have h:=congrArg List.length fB;have h2:t1.data.toList.length=t1.size:=by simp
   rw[←h2,h];exact oE.out
  have Lq:¬9223372036854775807<1+t1.size:=by omega
  have hov5:¬9223372036854775807<1+t1.size+1:=by omega
  have hov6:¬9223372036854775807<t1.size+1:=by omega
  have uY:D=1∨D≠1:=by omega
  rcases uY with e|e
  ·have g3:¬1<D:=by omega
   have aS:Hid ((⟨#[]⟩++t1:BA).data.toList=rt):=hid (by rw[qD.out,if_neg (show ¬N<0 by omega),if_pos e,List.append_nil,←fB];simp);clear fB;go_wp2_with fail;go_ret;exact⟨⟨_,rfl,aS.out⟩,below_drewN aQ.out _⟩
  ·have g3:1<D:=by omega
   have aS:Hid (∀t2:BA,t2.data.toList=qaw D→((⟨#[]⟩++t1:BA)++⟨#[47]⟩++t2).data.toList=rt):=hid fun t2 h2=>by rw[qD.out,if_neg (show ¬N<0 by omega),if_neg e,←fB,←h2];simp
   clear fB e;go_wp2_with fail;refine(rN.out _).mono ?_;rintro e w1 ⟨⟨t2,rfl,iS⟩,rfl⟩;have cY:=hid (aS.out t2 iS)
   have jF:t2.size≤100:=by
    have h:=congrArg List.length iS;have h2:t2.data.toList.length=t2.size:=by simp
    rw[←h2,h];exact mK.out
   have Bz:¬9223372036854775807<1+t1.size+1+t2.size:=by omega
   have Ca:¬9223372036854775807<t1.size+1+t2.size:=by omega
   have hov4:¬9223372036854775807<0+t1.size+1+t2.size:=by omega
   clear iS;go_wp2_with fail;go_ret;exact⟨⟨_,rfl,cY.out⟩,below_drewN aQ.out _⟩
theorem qm4(q:Rat):qat q=[48]↔q.num=0:=by
 constructor
 ·intro h
  unfold qat at h;have h1:=congrArg List.length h;rw[List.length_append,List.length_append] at h1;have h2:=List.length_pos_iff.2 (qje q.num.natAbs)
  have h3:¬q.num<0:=by
   intro h3;rw[if_pos h3] at h1;simp at h1;omega
  have h4:q.den=1:=by
   by_cases e:q.den=1
   ·exact e
   ·rw[if_neg e] at h1
    simp at h1;omega
  rw[if_neg h3,if_pos h4,List.nil_append,List.append_nil] at h;have h5:=congrArg (qaz 0) h;rw[qf6] at h5;have h6:qaz 0 [48]=0:=rfl;omega
 ·intro h
  have hd:q.den=1:=by
   have:=q.reduced;rw[h] at this
   simpa using this
  unfold qat;rw[h,hd,if_neg (by decide),if_pos rfl];rfl
theorem qti(q:Rat)(a:BA)(h:a.data.toList=qat q)(hs:0<a.size):(q.num<0→((a[0]'hs).toNat:Int)=45)∧(¬q.num<0→((a[0]'hs).toNat:Int)≠45):=by
 have h1:a.data.toList[0]'(by simpa using hs)=a[0]'hs:=qdm a 0 hs;constructor
 ·intro hn
  rw[←h1];simp only[h,qat];simp only[if_pos hn];rfl
 ·intro hn
  have h3:isD (a[0]'hs)=true:=by
   rw[←h1];have h2:a.data.toList=qaw q.num.natAbs++(if q.den=1 then[] else 47::qaw q.den):=by rw[h];unfold qat;rw[if_neg hn,List.nil_append]
   have h4:=List.length_pos_iff.2 (qje q.num.natAbs);simp only[h2];rw[List.getElem_append_left h4];exact qhb _ _ (List.getElem_mem _)
  unfold isD at h3;have:=of_decide_eq_true h3;omega
theorem qox(q:Rat)(a:BA)(h:a.data.toList=qat q):0<a.size:=by
 have h1:=qgs a q h;have:=List.length_pos_iff.2 (qje q.num.natAbs);omega
theorem qtj{q:Rat}(h:q.num=0):sgn q=0:=by unfold sgn;rw[if_neg (by omega),if_pos h]
theorem zad(a:BA)(q:Rat)(w:World)(h:a.data.toList=qat q):
  Calls Tryz.prog 81 #[.string a] w fun e w'=>e = .returned (.int .i64 (sgn q))∧w'=w:=by
 have gF:=qox q a h;obtain⟨t1,t2⟩:=qti q a h gF;have vS:∀h':0<a.size,((a[0]'h').toNat:Int)=((a[0]'gF).toNat:Int):=fun _=>rfl;generalize ((a[0]'gF).toNat:Int)=ch at *;by_cases hz:q.num=0
 ·have he:a.toList=[48]:=by rw[ByteArray.toList_eq,h];exact(qm4 q).2 hz
  have HE:Hid (sgn q=0):=hid (qtj hz);clear t1 t2 h hz;go_enter Tryz.func81,Tryz.ntmps81;go_wp2_with fail;go_ret;exact⟨qa0 HE.out.symm,rfl⟩
 ·have he:(a.toList==[48])=false:=zat (by rw[ByteArray.toList_eq,h];exact fun e=>hz ((qm4 q).1 e))
  by_cases hn:q.num<0
  ·have HE:Hid (sgn q = -1):=hid (by unfold sgn;rw[if_pos hn])
   have nS:=t1 hn;subst nS;clear t1 t2 h hz hn;go_enter Tryz.func81,Tryz.ntmps81;go_wp2_with fail;go_ret;exact⟨qa0 HE.out.symm,rfl⟩
  ·have HE:Hid (sgn q=1):=hid (by unfold sgn;rw[if_neg hn,if_neg hz])
   have nS:(ch==45)=false:=zat (t2 hn);clear t1 t2 h hz hn;go_enter Tryz.func81,Tryz.ntmps81;go_wp2_with fail;go_ret;exact⟨qa0 HE.out.symm,rfl⟩
def rt(q:Rat):BA:=⟨(qat q).toArray⟩
theorem qdv(q:Rat):(rt q).data.toList=qat q:=by unfold rt;simp
theorem q1k{t:BA}{q:Rat}(h:t.data.toList=qat q):t=rt q:=qb7 (by rw[h,qdv])
def sm(q:Rat)(k:Nat):Prop:=q.num.natAbs<10^k∧q.den<10^k
theorem qg2{q:Rat}{j k:Nat}(h:sm q j)(hk:j≤k):sm q k:=
 ⟨Nat.lt_of_lt_of_le h.1 (Nat.pow_le_pow_right (by decide) hk),Nat.lt_of_lt_of_le h.2 (Nat.pow_le_pow_right (by decide) hk)⟩
theorem qnq{n k:Nat}(h:n<10^k):(qaw n).length≤k+1:=by
 unfold qaw;split
 ·simp
 ·have:=qbm k n h;omega
theorem qh4{n k:Nat}(h:(qaw n).length≤k):n<10^k:=by
 have h1:=qgf n;have h2:=qli n;exact Nat.lt_of_lt_of_le h1 (Nat.pow_le_pow_right (by decide) (by omega))
theorem qe2{q:Rat}{k:Nat}(h:sm q k):(rt q).size≤2*k+4:=by
 have h1:=qgs (rt q) q (qdv q);have h2:=qnq h.1;have h3:=qnq h.2;rw[h1];split<;>split<;>omega
theorem qdq{n k:Nat}(h:n<10^k)(hk:k≤8100):dl n≤900:=by
 refine qb2 qa2 ?_
 have key:∀e:Nat,k≤9*e→10^k≤D9^e:=fun e he=>by
  rw[show D9=10^9 from rfl,←Nat.pow_mul];exact Nat.pow_le_pow_right (by decide) he
 exact Nat.lt_of_lt_of_le h (key 900 (by omega))
theorem qnr{n:Int}{d k:Nat}(hd:0<d)(h1:n.natAbs<10^k)(h2:d<10^k):sm (mkRat n d) k:=by
 obtain⟨_,_,h3,h4⟩:=qth n d _ hd rfl;exact⟨Nat.lt_of_le_of_lt h3 h1,Nat.lt_of_le_of_lt h4 h2⟩
theorem qd9{m n a b:Nat}(h1:m<10^a)(h2:n<10^b):m*n<10^(a+b):=by
 rw[Nat.pow_add];exact Nat.mul_lt_mul'' h1 h2
theorem q9d{p q:Rat}{a b:Nat}(hp:sm p a)(hq:sm q b):sm (p+q) (a+b+1):=by
 rw[Rat.add_def'];have h1:=qd9 hp.1 hq.2;have h2:=qd9 hq.1 hp.2;have h3:=qd9 hp.2 hq.2;rw[Nat.add_comm b a] at h2;have h4:(10:Nat)^(a+b+1)=10^(a+b)*10:=Nat.pow_succ ..;refine qnr (Nat.mul_pos p.den_pos q.den_pos) ?_ ?_
 ·have h5:(p.num*(q.den:Int)+q.num*(p.den:Int)).natAbs≤p.num.natAbs*q.den+q.num.natAbs*p.den:=by
   refine Nat.le_trans (Int.natAbs_add_le _ _) ?_;rw[Int.natAbs_mul,Int.natAbs_mul,Int.natAbs_natCast,Int.natAbs_natCast];exact zap _
  omega
 ·omega
theorem q1l{p q:Rat}{a b:Nat}(hp:sm p a)(hq:sm q b):sm (p*q) (a+b):=by
 rw[Rat.mul_def'];refine qnr (Nat.mul_pos p.den_pos q.den_pos) ?_ (qd9 hp.2 hq.2);rw[Int.natAbs_mul];exact qd9 hp.1 hq.1
theorem q9e{q:Rat}{a:Nat}(h:sm q a):sm (-q) a:=by
 refine⟨?_,h.2⟩;rw[Rat.neg_num,Int.natAbs_neg];exact h.1
theorem qwz{q:Rat}(h:0<q.num):q⁻¹ = mkRat (q.den:Int) q.num.natAbs:=by
 rw[Rat.inv_def];obtain⟨n,hn⟩:=Int.eq_ofNat_of_zero_le (show(0:Int)≤q.num by omega);rw[hn,Int.natAbs_natCast];rfl
theorem qw0{q:Rat}(h:q.num<0):q⁻¹ = mkRat (-(q.den:Int)) q.num.natAbs:=by
 rw[Rat.inv_def];obtain⟨n,hn⟩:=Int.eq_ofNat_of_zero_le (show(0:Int) ≤ -q.num by omega);have h2:q.num = -(n:Int):=by omega
 rw[h2,Int.natAbs_neg,Int.natAbs_natCast]
 match n,h2 with
 | 0,h2=>exact absurd h2 (by omega)
 | n+1,_=>rfl
theorem q6j{q:Rat}{a:Nat}(h:sm q a)(hq:q.num≠0):sm q⁻¹ a:=by
 have hp:0<q.num.natAbs:=by omega
 rcases Int.lt_or_le q.num 0 with h1|h1
 ·rw[qw0 h1]
  exact qnr hp (by rw[Int.natAbs_neg,Int.natAbs_natCast];exact h.2) h.1
 ·rw[qwz (by omega)]
  exact qnr hp (by rw[Int.natAbs_natCast];exact h.2) h.1
theorem q6k{p q:Rat}{a b:Nat}(hp:sm p a)(hq:sm q b)(h:q.num≠0):sm (p/q) (a+b):=by
 rw[Rat.div_def];exact q1l hp (q6j hq h)
theorem qoy{q:Rat}{k:Nat}(h:qa3 q k=true)(hk:1≤k):sm q k:=by
 unfold qa3 at h;rw[Bool.and_eq_true,Bool.or_eq_true] at h;obtain⟨h1,h2⟩:=h;refine⟨qh4 (of_decide_eq_true h1), ?_⟩;rcases h2 with h2|h2
 ·rw[of_decide_eq_true h2]
  exact Nat.lt_of_lt_of_le (by decide:1<10^1) (Nat.pow_le_pow_right (by decide) hk)
 ·exact qh4 (of_decide_eq_true h2)
theorem q4x{q:Rat}(h:q.num=0):q=0:=Rat.num_eq_zero.1 h
theorem qoz(q:Rat)(h:¬q.num<0)(h0:q.num≠0):qat (-q)=45::qat q:=by
 unfold qat;rw[Rat.neg_num,Rat.neg_den,if_pos (by omega),if_neg h,Int.natAbs_neg];rfl
theorem qm5(q:Rat)(h:q.num<0):qat q=45::qat (-q):=by
 have h1:=qoz (-q) (by rw[Rat.neg_num];omega) (by rw[Rat.neg_num];omega);rw[Rat.neg_neg] at h1;exact h1
theorem q1m(q:Rat)(h:q.num<0):(rt q).extract 1 (rt q).size=rt (-q):=by
 refine qb7 ?_;rw[Lib.extract_data,qdv,qdv,qm5 q h,List.take_of_length_le]
 ·rfl
 ·have h1:=congrArg List.length (qdv q)
  rw[qm5 q h] at h1;simp at h1 ⊢;omega
theorem q4y(q:Rat)(h:¬q.num<0)(h0:q.num≠0):(⟨#[45]⟩++rt q:BA)=rt (-q):=by
 refine qb7 ?_;rw[qdv,qoz q h h0];simp[qdv]
theorem qmi(q:Rat)(z:Int)(hz:sgn q=z)(w:World):
  Calls Tryz.prog 81 #[.string (rt q)] w fun e w'=>e = .returned (.int .i64 z)∧w'=w:=by
 rw[←hz];exact zad (rt q) q w (qdv q)
theorem q1n{q:Rat}(h:q.num<0):sgn q = -1:=by unfold sgn;rw[if_pos h]
theorem q7t{q:Rat}(h:0<q.num):sgn q=1:=by unfold sgn;rw[if_neg (by omega),if_neg (by omega)]
theorem q9f{q:Rat}:0<(rt q).size:=qox q (rt q) (qdv q)
theorem q9g(q:Rat)(w:World)(hs:(rt q).size≤5000):
  Calls Tryz.prog 130 #[.string (rt q)] w fun e w'=>e = .returned (.string (rt (-q)))∧w'=w:=by
 have hp:0<(rt q).size:=q9f;rcases Int.lt_or_le q.num 0 with h|h
 ·have HS:=hid (fun W=>qmi q _ (q1n h) W)
  have HT:=hid (q1m q h);clear h;generalize rt (-q)=t2 at *;generalize rt q=t at *
  have iD:∀W:World,(Instr.slice 26 (.string t) (some (.int .i64 1)) none none).run Tryz.prog W = .ok (.string t2) W:=fun W=>by
   have h:=run_slice_string_l W 26 t Tryz.underlying26 .i64 1 (by omega) (by omega);rw[show(1:Int).toNat=1 from rfl,HT.out] at h;exact h
  go_enter Tryz.func130,Tryz.ntmps130;go_wp2_with fail;refine(HS.out _).mono ?_;rintro e w1 ⟨rfl,rfl⟩;go_wp2_with fail;go_ret;exact⟨rfl,rfl⟩
 ·by_cases h0:q.num=0
  ·have HS:=hid (fun W=>qmi q _ (qtj h0) W)
   have HT:Hid (rt (-q)=rt q):=hid (by rw[q4x h0];rfl);clear h h0;generalize rt (-q)=t2 at *;generalize rt q=t at *;go_enter Tryz.func130,Tryz.ntmps130;go_wp2_with fail;refine(HS.out _).mono ?_;rintro e w1 ⟨rfl,rfl⟩;go_wp2_with fail;refine(HS.out _).mono ?_;rintro e w1 ⟨rfl,rfl⟩;go_wp2_with fail;go_ret;exact⟨congrArg (fun x=>Ending.returned (Value.string x)) HT.out.symm,rfl⟩
  ·have HS:=hid (fun W=>qmi q _ (q7t (by omega)) W)
   have HT:=hid (q4y q (by omega) h0);clear h h0;generalize rt (-q)=t2 at *;generalize rt q=t at *;have Cy:¬9223372036854775807<1+t.size:=by omega
   go_enter Tryz.func130,Tryz.ntmps130;go_wp2_with fail;refine(HS.out _).mono ?_;rintro e w1 ⟨rfl,rfl⟩;go_wp2_with fail;refine(HS.out _).mono ?_;rintro e w1 ⟨rfl,rfl⟩;go_wp2_with fail;go_ret;exact⟨congrArg (fun x=>Ending.returned (Value.string x)) HT.out,rfl⟩
def q95(q:Rat):Rat:=if q.num<0 then -q else q
theorem q9h(q:Rat)(w:World):
  Calls Tryz.prog 175 #[.string (rt q)] w fun e w'=>e = .returned (.string (rt (q95 q)))∧w'=w:=by
 have hp:0<(rt q).size:=q9f;unfold q95;rcases Int.lt_or_le q.num 0 with h|h
 ·have HS:=hid (fun W=>qmi q _ (q1n h) W)
  have HT:=hid (q1m q h);rw[if_pos h];clear h;generalize rt (-q)=t2 at *;generalize rt q=t at *
  have iD:∀W:World,(Instr.slice 26 (.string t) (some (.int .i64 1)) none none).run Tryz.prog W = .ok (.string t2) W:=fun W=>by
   have h:=run_slice_string_l W 26 t Tryz.underlying26 .i64 1 (by omega) (by omega);rw[show(1:Int).toNat=1 from rfl,HT.out] at h;exact h
  go_enter Tryz.func175,Tryz.ntmps175;go_wp2_with fail;refine(HS.out _).mono ?_;rintro e w1 ⟨rfl,rfl⟩;go_wp2_with fail;go_ret;exact⟨rfl,rfl⟩
 ·rw[if_neg (by omega)]
  have HS:Hid (∀W:World,Calls Tryz.prog 81 #[.string (rt q)] W fun e w'=>(∃z:Int,0≤z∧e = .returned (.int .i64 z))∧w'=W):=hid fun W=>(qmi q _ rfl W).mono fun _ _ ⟨h1,h2⟩=>⟨⟨_,by unfold sgn;rw[if_neg (by omega)];split<;>omega,h1⟩,h2⟩;clear h;generalize rt q=t at *;go_enter Tryz.func175,Tryz.ntmps175;go_wp2_with fail;refine(HS.out _).mono ?_;rintro e w1 ⟨⟨z,hz,rfl⟩,rfl⟩;go_wp2_with fail;go_ret;exact⟨rfl,rfl⟩
theorem q1o(c:UInt8)(l:List UInt8):sl (c::l)=if c=47 then 0 else sl l+1:=by
 unfold sl;rw[List.findIdx_cons];by_cases h:c=47
 ·rw[if_pos h,h];rfl
 ·rw[if_neg h]
  have:(c==47)=false:=zat h;rw[this];rfl
theorem qm6:∀l:List UInt8,Lib.indexByte l 47=if sl l<l.length then(sl l:Int) else -1
 | []=>rfl
 | c::l=>by
  have ih:=qm6 l;have dF:=q4w l;unfold Lib.indexByte;rw[q1o,List.length_cons];by_cases h:c=47
  ·rw[h,if_pos rfl,if_pos (by decide),if_pos (by omega)];rfl
  ·have hb:(c==47)=false:=zat h
   rw[hb,if_neg (by decide),if_neg h,ih];by_cases h2:sl l<l.length
   ·have:((sl l:Int) == -1)=false:=zat (by omega)
    rw[if_pos h2,this,if_neg (by decide),if_pos (by omega)];omega
   ·rw[if_neg h2,if_pos (by decide),if_neg (by omega)]
theorem q9i(l:List UInt8):Lib.cut l [47]=if sl l<l.length then(l.take (sl l),l.drop (sl l+1),true) else(l,[],false):=by
 unfold Lib.cut;rw[Lib.index_one,qm6];by_cases h:sl l<l.length
 ·rw[if_pos h,if_pos h,if_pos (by omega)];rfl
 ·rw[if_neg h,if_neg h,if_neg (by omega)]
theorem qw1{l:List UInt8}(h:sl l<l.length):l=l.take (sl l)++47::l.drop (sl l+1):=by
 induction l with
 | nil=>simp at h
 | cons d l ih=>
  rw[q1o] at h ⊢;by_cases e:d=47
  ·rw[if_pos e,e];rfl
  ·rw[if_neg e] at h ⊢
   rw[List.take_succ_cons,List.drop_succ_cons,List.cons_append,←ih (by simpa using h)]
theorem q7u{c:UInt8}(h:isD c=true):∃d,d<10∧c=dig d∧c.toNat-48=d:=by
 rw[ql5] at h;refine⟨c.toNat-48,by omega, ?_,rfl⟩;apply UInt8.toNat_inj.1;rw[qis];omega
theorem qh5:∀(l:List UInt8) (a:Nat),(0<a∨(l≠[]∧l.head? ≠ some 48))→(∀c ∈ l,isD c=true)→0<qaz a l
 | [],a,h,_=>by
  rcases h with h|h
  ·exact h
  ·exact absurd rfl h.1
 | c::l,a,h,hd=>by
  rw[qge];refine qh5 l _ (.inl ?_) (fun x hx=>hd x (List.mem_cons_of_mem _ hx));rcases h with h|h
  ·omega
  ·have h1:=(ql5 c).1 (hd c (List.mem_cons_self ..))
   have h2:c≠48:=fun e=>h.2 (by rw[e];rfl);have h3:c.toNat≠48:=fun e=>h2 (UInt8.toNat_inj.1 (by rw[e];rfl));omega
theorem qtk:∀r:List UInt8,(∀c ∈ r,isD c=true)→r.reverse.head? ≠ some 48→qfr (qaz 0 r.reverse)=r.reverse
 | [],_,_=>by rw[List.reverse_nil];exact qcu
 | c::r,hd,hh=>by
  obtain⟨d,h1,h2,h3⟩:=q7u (hd c (List.mem_cons_self ..));rw[List.reverse_cons] at hh ⊢;have hr:∀x ∈ r,isD x=true:=fun x hx=>hd x (List.mem_cons_of_mem _ hx)
  have hh2:r.reverse.head? ≠ some 48:=by
   intro e;apply hh;cases hq:r.reverse with
   | nil=>rw[hq] at e;cases e
   | cons x y=>rw[hq] at e;exact e
  have ih:=qtk r hr hh2
  have hp:0<qaz 0 (r.reverse++[c]):=by
   refine qh5 _ 0 (.inr ⟨by simp,hh⟩) ?_;intro x hx;rcases List.mem_append.1 hx with e|e
   ·exact hr x (List.mem_reverse.1 e)
   ·rw[List.mem_singleton.1 e];exact hd c (List.mem_cons_self ..)
  rw[qta,h3] at hp ⊢;rw[qdn hp,show(qaz 0 r.reverse*10+d)/10=qaz 0 r.reverse by omega,ih,h2]
  congr 2
  exact qq6 (by omega)
theorem qlj:qaw 1=[49]:=by
 unfold qaw;rw[if_neg (by decide),qdn (by decide),show 1/10=0 from rfl,qcu];rfl
theorem qe3{l:List UInt8}(h:qbd l=true):qaw (qaz 0 l)=l:=by
 have ha:=qd8 h;obtain⟨hne,hd⟩:=(qep l).1 ha;unfold qbd at h;rw[Bool.and_eq_true,Bool.or_eq_true,beq_iff_eq] at h;rcases h.2 with e|e
 ·rw[e];rfl
 ·have hh:l.head? ≠ some 48:=by simpa using e
  have hp:=qh5 l 0 (.inr ⟨hne,hh⟩) hd;unfold qaw;rw[if_neg (by omega)];have h1:=qtk l.reverse (fun c hc=>hd c (List.mem_reverse.1 hc)) (by rw[List.reverse_reverse];exact hh);rw[List.reverse_reverse] at h1;exact h1
structure qic(s t:BA)(neg:Bool)(A B:List UInt8)(f:Bool):Prop where
 whole:s.data.toList=(if neg then[45] else[])++t.data.toList
 plus:neg=false→Lib.hasPrefix s.data.toList [45]=false
 top:t.data.toList.take (sl t.data.toList)=A
 bot:t.data.toList.drop (sl t.data.toList+1)=B
 found:decide (sl t.data.toList<t.data.toList.length)=f
theorem qic.sign{s t:BA}{neg:Bool}{A B:List UInt8}{f:Bool}(h:qic s t neg A B f):Lib.hasPrefix s.data.toList [45]=neg∧Lib.trimPrefix s.data.toList [45]=t.data.toList:=by
 have hw:=h.whole;cases neg
 ·have hp:=h.plus rfl
  refine⟨hp, ?_⟩;unfold Lib.trimPrefix;rw[hp,if_neg (by decide),hw];rfl
 ·have hp:Lib.hasPrefix s.data.toList [45]=true:=by
   rw[hw];rfl
  refine⟨hp, ?_⟩;unfold Lib.trimPrefix;rw[hp,if_pos rfl,hw];rfl
theorem qic.cut{s t:BA}{neg:Bool}{A B:List UInt8}{f:Bool}(h:qic s t neg A B f):Lib.cut (Lib.trimPrefix s.data.toList [45]) [47]=(A,if f then B else[],f):=by
 rw[h.sign.2,q9i,←h.top,←h.bot,←h.found];by_cases hk:sl t.data.toList<t.data.toList.length
 ·rw[if_pos hk,zas hk];rfl
 ·rw[if_neg hk,zar hk,List.take_of_length_le (by omega)];rfl
theorem qic.check{s t:BA}{neg:Bool}{A B:List UInt8}{f:Bool}(h:qic s t neg A B f):qaa s.data.toList =
  if !qbd A||(neg&&A==[48]) then 1
  else if f&&(!qbd B||B==[48]||B==[49]) then 1
  else if 600<A.length∨(f=true∧600<B.length) then 4
  else if qk7 s.data.toList=s.data.toList then 0 else 1:=by
 unfold qaa;rw[h.cut,h.sign.1];cases f
 ·simp only[Bool.false_and,Bool.false_eq_true,if_false,List.length_nil,false_and,or_false,Nat.not_lt_zero]
 ·simp only[Bool.true_and,if_true,true_and]
theorem qic.num{s t:BA}{neg:Bool}{A B:List UInt8}{f:Bool}(h:qic s t neg A B f)(hA:qbd A=true)(hB:f=true→qbd B=true∧B≠[48]):
  qav s.data.toList=mkRat (if neg then -(qaz 0 A:Int) else(qaz 0 A:Int)) (if f then qaz 0 B else 1):=by
 have h1:qcl s.data.toList=(neg,A,if f then B else[49]):=by
  unfold qcl;rw[h.cut,h.sign.1];cases f<;>rfl
 have h2:qj9 (if f then B else[49])=true∧qaz 0 (if f then B else[49])≠0∧qaz 0 (if f then B else[49])=(if f then qaz 0 B else 1):=by
  cases f
  ·exact⟨rfl,show qaz 0 [49]≠0 by decide,rfl⟩
  ·obtain⟨h2,h3⟩:=hB rfl
   exact⟨qd8 h2,qhw h2 h3,rfl⟩
 unfold qav qfw;rw[h1];simp only[];rw[qd8 hA,h2.1,zas h2.2.1];simp only[Bool.and_self,if_true,Option.getD_some];rw[qwp,h2.2.2]
theorem qvj{a d:Nat}(hd:0<d)(h:d/Nat.gcd a d=d):Nat.gcd a d=1:=by
 have hg:0<Nat.gcd a d:=Nat.gcd_pos_of_pos_right _ hd;have h1:=Nat.div_mul_cancel (Nat.gcd_dvd_right a d);rw[h] at h1;have h2:d*Nat.gcd a d=d*1:=by omega
 exact Nat.eq_of_mul_eq_mul_left hd h2
theorem q1p{m n:Nat}(h:qaw m=qaw n):m=n:=by rw[←qf6 m,h,qf6]
theorem q1q{l l' r r':List UInt8}(hl:∀c ∈ l,c≠47)(hl':∀c ∈ l',c≠47)(h:l++47::r=l'++47::r'):l=l'∧r=r':=by
 have h1:=congrArg sl h;rw[q1f _ _ hl,q1f _ _ hl'] at h1;obtain⟨h2,h3⟩:=List.append_inj h h1;exact⟨h2,by injection h3⟩
theorem qic.lowest{s t:BA}{neg:Bool}{A B:List UInt8}{f:Bool}(h:qic s t neg A B f)(hA:qbd A=true)(hz:neg=true→A≠[48])(hB:f=true→qbd B=true∧B≠[48]∧B≠[49])(hlA:A.length≤600)(hlB:f=true→B.length≤600):
  qk7 s.data.toList=s.data.toList↔(f=true→Nat.gcd (qaz 0 A) (qaz 0 B)=1):=by
 have Tu:=h.num hA (fun e=>⟨(hB e).1,(hB e).2.1⟩);have eA:=qe3 hA;obtain⟨a,ha⟩:∃a,a=qaz 0 A:=⟨_,rfl⟩;obtain⟨d,tM⟩:∃d,d=(if f then qaz 0 B else 1):=⟨_,rfl⟩;obtain⟨z,tO⟩:∃z:Int,z=if neg then -(a:Int) else(a:Int):=⟨_,rfl⟩
 rw[←ha,←tO,←tM] at Tu;rw[←ha] at eA;have hza:z.natAbs=a:=by rw[tO];cases neg<;>simp
 have hd:0<d:=by
  rw[tM];cases f
  ·exact Nat.zero_lt_one
  ·exact Nat.pos_of_ne_zero (qhw (hB rfl).1 (hB rfl).2.1)
 have Nt:z<0↔neg=true:=by
  rw[tO];cases neg
  ·simp
  ·have h1:=qhw hA (hz rfl)
   rw[←ha] at h1;simp;omega
 have qV:f=true→d≠1:=by
  intro e e1;have h1:=qe3 (hB e).1;rw[tM,if_pos e] at e1;rw[e1] at h1;exact(hB e).2.2 (h1.symm.trans qlj)
 have hs:s.data.toList=(if z<0 then[45] else[])++qaw z.natAbs++(if d=1 then[] else 47::qaw d):=by
  rw[h.whole,hza,eA]
  have e1:(if z<0 then([45]:List UInt8) else[])=if neg then[45] else[]:=by
   by_cases e:neg=true
   ·rw[if_pos e,if_pos (Nt.2 e)]
   ·rw[if_neg e,if_neg (fun e2=>e (Nt.1 e2))]
  rw[e1,List.append_assoc]
  congr 1
  have Ls:=h.found;cases f
  ·have hk:¬sl t.data.toList<t.data.toList.length:=of_decide_eq_false Ls
   have e2:=h.top;rw[List.take_of_length_le (by omega)] at e2;rw[if_pos (by rw[tM];rfl),List.append_nil,e2]
  ·have hk:sl t.data.toList<t.data.toList.length:=of_decide_eq_true Ls
   have e2:=qw1 hk;rw[h.top,h.bot] at e2;rw[if_neg (qV rfl)]
   have e3:qaw d=B:=by
    rw[tM,if_pos rfl];exact qe3 (hB rfl).1
   rw[e3];exact e2
 unfold qk7;rw[Tu];obtain⟨p1,p2⟩:=qjp z d hd;rw[hza] at p1 p2
 have hgcd:(f=true→Nat.gcd (qaz 0 A) (qaz 0 B)=1)↔Nat.gcd a d=1:=by
  rw[tM,←ha];cases f
  ·simp
  ·simp
 rw[hgcd];constructor
 ·intro ht
  split at ht
  ·rename_i bZ
   have h3:(mkRat z d).den=d:=by
    rw[hs] at ht;unfold qat at ht;have g1:∀x:Int,∀c ∈ (if x<0 then([45]:List UInt8) else[])++qaw x.natAbs,c≠47:=fun x=>qmh x;by_cases e1:d=1
    ·rw[if_pos e1,List.append_nil] at ht
     by_cases e2:(mkRat z d).den=1
     ·rw[e2,e1]
     ·rw[if_neg e2] at ht
      exfalso;refine g1 z 47 ?_ rfl;rw[←ht];simp
    ·rw[if_neg e1] at ht
     by_cases e2:(mkRat z d).den=1
     ·rw[if_pos e2,List.append_nil] at ht
      exfalso;refine g1 (mkRat z d).num 47 ?_ rfl;rw[ht];simp
     ·rw[if_neg e2] at ht
      exact q1p (q1q (g1 _) (g1 _) ht).2
   rw[p2] at h3;exact qvj hd h3
  ·exfalso
   rw[hs] at ht;have h4:=congrArg List.length ht;have h5:=List.length_pos_iff.2 (qje z.natAbs);simp at h4;omega
 ·intro hg
  rw[hg,Nat.div_one] at p1 p2
  have e1:(mkRat z d).num=z:=by
   rw[p1,←hza];rcases Int.lt_or_le z 0 with e|e
   ·rw[zas e,if_pos rfl];omega
   ·rw[zar (by omega),if_neg (by decide)];omega
  have bZ:qa3 (mkRat z d) 600=true:=by
   unfold qa3;rw[e1,p2,hza,eA,Bool.and_eq_true,Bool.or_eq_true];refine⟨zas hlA, ?_⟩;cases f
   ·exact .inl (zas tM)
   ·refine .inr (zas ?_)
    rw[tM,if_pos rfl,qe3 (hB rfl).1];exact hlB rfl
  rw[if_pos bZ,hs];unfold qat;rw[e1,p2]
end Go.Proofs.YtclimablgihlhaaGreatDoor
