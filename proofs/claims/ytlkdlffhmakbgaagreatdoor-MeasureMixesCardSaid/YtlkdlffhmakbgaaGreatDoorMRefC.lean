/- The reference's divDigits for all numbers, and common, the greatest common divisor. -/
import Derived.Test.YtlkdlffhmakbgaaGreatDoorMRefA
import Derived.Test.YtlkdlffhmakbgaaGreatDoorMNumRead
import Derived.Deep.RegionHeld3
import Derived.Test.YtlkdlffhmakbgaaGreatDoorMWrite
import Derived.Lib.Strings
import Derived.Lib.Split
import Derived.Test.YtlkdlffhmakbgaaGreatDoorMText
set_option linter.all false
namespace Go.Proofs.YtlkdlffhmakbgaaGreatDoor
open Go.RowKit
set_option maxRecDepth 100000
set_option maxHeartbeats 8000000
theorem qlt(va vb:Value)(m n:Nat)(w:World)(ha:DN w va m)(hb:DN w vb n)(hn:0<n)(hl:dl m≤900):
  Calls Tryz.prog 119 #[va,vb] w fun e w'=>(∃vq vr,e = .returned (.tuple #[vq,vr])∧DN w' vq (m/n)∧DN w' vr (m % n))∧Below w.heap.size w w':=by
 by_cases h1:m<n∨dl n=1
 ·exact qqa va vb m n w ha hb h1 (by omega)
 ·have h2:dl n≠0:=by
   unfold dl;intro e;have:=(qe4 qbg).1 (List.length_eq_zero_iff.1 e);omega
  exact qr5 va vb m n (dl n-2) w ha hb (by omega) (by omega) hl
theorem qf6{w:World}{v:Value}{n:Nat}(h:DN w v n):∃p k c,v = .slice p k c∧k=dl n:=by
 obtain⟨_,p,c,rfl,_⟩:=h;exact⟨p,_,c,rfl,rfl⟩
theorem q2k:dl 0=0:=by unfold dl;rw[qat];rfl
theorem qxo{n:Nat}:0<dl n↔0<n:=by
 constructor
 ·intro h
  rcases qas n with e|e
  ·rw[e,q2k] at h;omega
  ·exact e
 ·intro h
  unfold dl;rw[qfx _ _ qbg h];simp
theorem qpf{m n:Nat}(h:m≤n):dl m≤dl n:=qak qbg h
theorem qv2(va vb:Value)(m n:Nat)(w:World)(ha:DN w va m)(hb:DN w vb n)(hl:dl m≤900)(pN:dl n≤900):
  Calls Tryz.prog 71 #[va,vb] w fun e w'=>(∃v',e = .returned v'∧DN w' v' (Nat.gcd m n))∧Below w.heap.size w w':=by
 obtain⟨pa,ka,ca,rfl,tS⟩:=qf6 ha;obtain⟨pb,kb,cb,rfl,nP⟩:=qf6 hb;have HA:=hid ha;have HB:=hid hb;have HL:=hid (And.intro hl pN);have HKB:=hid nP;clear ha hb tS nP hl pN;go_enter Tryz.func71,Tryz.ntmps71;go_wp2_with fail
 go_loopg [0,1] n (fun k s0 s1 wr=>∃(x:Nat) (p:Option Addr) (j c:Nat),s1 = .slice p j c∧Hid (DN wr s0 x)∧Hid (DN wr (.slice p j c) k)∧Hid (j=dl k)∧Hid (dl x≤900∧dl k≤900)∧Hid (Nat.gcd x k=Nat.gcd m n)∧Hid (Below w.heap.size w wr))
 case atStart=>exact⟨m,pb,kb,cb,rfl,HA,HB,HKB,HL,hid rfl,hid (qaa _ _)⟩
 case round=>
  obtain⟨x,p,j,c,rfl,HX,HY,HJ,qV,HG,bM⟩:=hrel;obtain⟨k,uS⟩:∃k,k=gk:=⟨_,rfl⟩;subst gk;obtain⟨s0,iA⟩:∃s0,s0=u0:=⟨_,rfl⟩;subst u0;rcases qas k with e|hk
  ·subst e
   have Is:j=0:=by rw[HJ.out,q2k]
   subst Is;have HE:Hid (Nat.gcd m n=x):=hid (by rw[←HG.out,Nat.gcd_zero_right]);go_wp2_with fail;go_ret;exact⟨⟨_,rfl,by rw[HE.out];exact HX.out⟩,bM.out⟩
  ·have Is:0<j:=by rw[HJ.out];exact qxo.2 hk
   have HD:=hid (qlt s0 (.slice p j c) x k wr HX.out HY.out hk qV.out.1);go_wp2_with fail;refine HD.out.mono ?_;rintro e w1 ⟨⟨vq,vr,rfl,_,hr⟩,aZ⟩;obtain⟨p2,k2,c2,rfl,oH⟩:=qf6 hr;have HR:=hid hr;have cK:=hid oH;have cZ:Hid (Below w.heap.size w w1):=hid (bM.out.trans (aZ.mono bM.out.size));have HY2:Hid (DN w1 (.slice p j c) k):=hid (HY.out.later aZ);have mW:Hid (Nat.gcd k (x % k)=Nat.gcd m n):=hid (by rw[←HG.out,Nat.gcd_comm x k,Nat.gcd_rec k x,Nat.gcd_comm]);have aY:x % k<k:=Nat.mod_lt _ hk;have HLL2:Hid (dl k≤900∧dl (x % k)≤900):=hid ⟨qV.out.2,Nat.le_trans (qpf (Nat.le_of_lt aY)) qV.out.2⟩;clear hr aZ HD oH;go_wp2_with fail
   go_roundg (x % k)
   case measure=>exact aY
   case rel=>exact⟨k,p2,k2,c2,rfl,HY2,HR,cK,HLL2,mW,cZ⟩
theorem qtw(a:Nat)(l:List UInt8)(c:UInt8):qbd a (l++[c])=qbd a l*10+(c.toNat-48):=by
 unfold qbd;rw[List.foldl_append];rfl
theorem qqt(s:BA)(w:World)(hd:∀c ∈ s.data.toList,isD c=true)(hl:s.size≤18):
  Calls Tryz.prog 120 #[.string s] w fun e w'=>e = .returned (.int .i64 (qbd 0 s.data.toList:Nat))∧w'=w:=by
 have HD:=hid hd;have iW:=hid (qcx s);clear hd;go_enter Tryz.func120,Tryz.ntmps120;go_wp2_with fail
 go_loopw [3,4] (fun n i wr=>∃k a:Nat,k≤s.size∧i = .int .i64 k∧n = .int .i64 a∧Hid (a=qbd 0 (s.data.toList.take k))∧wr=w) (fun _ i _=>s.size-(intOf i).toNat)
 case atStart=>exact⟨0,0,Nat.zero_le _,rfl,rfl,hid rfl,rfl⟩
 case round=>
  obtain⟨k,a,hk,rfl,rfl,HA,rfl⟩:=hrel;by_cases pV:k<s.size
  ·have hcd:isD (s[k]'pV)=true:=HD.out _ (by rw[←qdv s k pV];exact List.getElem_mem _)
   have hc:48≤(s[k]'pV).toNat∧(s[k]'pV).toNat≤57:=by simpa [isD] using hcd
   have oJ:a<1000000000000000000:=by
    have h1:=qft (s.data.toList.take k) (fun c hc=>HD.out c (List.mem_of_mem_take hc));rw[←HA.out] at h1;have h2:(s.data.toList.take k).length≤17:=by rw[List.length_take];omega
    have h3:=Nat.pow_le_pow_right (show 0<10 by omega) h2;omega
   have mC:Hid (10*a+((s[k]'pV).toNat-48)=qbd 0 (s.data.toList.take (k+1))):=hid (by rw[iW.out k pV,qtw,←HA.out,Nat.mul_comm])
   have hab2:(a:Int)≤99999999999999999:=by
    have h1:=qft (s.data.toList.take k) (fun c hc=>HD.out c (List.mem_of_mem_take hc));rw[←HA.out] at h1;have h2:(s.data.toList.take k).length≤17:=by rw[List.length_take];omega
    have h3:=Nat.pow_le_pow_right (show 0<10 by omega) h2;omega
   have pH:∀h:k<s.size,((s[k]'h).toNat:Int)=((s[k]'pV).toNat:Int):=fun h=>rfl;clear hcd oJ;generalize (s[k]'pV).toNat=c at *;obtain⟨h1,h2⟩:=hc;obtain⟨d,hd⟩:∃d,d=10*a+(c-48):=⟨_,rfl⟩;have Lp:10*(a:Int)+(c:Int)-48=(d:Int):=by omega
   rw[←hd] at mC;clear hd;go_wp2_with fail;go_roundw
   case rel=>exact⟨k+1,d,by omega,by go_num,rfl,mC,trivial⟩
   case measure=>simp[intOf];omega
  ·have uS:k=s.size:=by omega
   have HE:Hid (a=qbd 0 s.data.toList):=hid (by rw[HA.out,List.take_of_length_le (by simp;omega)]);clear uS;go_wp2_with fail;go_ret;exact⟨qa1 (by rw[HE.out]),rfl⟩
def sl(l:List UInt8):Nat:=l.findIdx (· == 47)
theorem q5t(l:List UInt8):sl l≤l.length:=List.findIdx_le_length
theorem zaq{s:BA}{k:Nat}(h:k<s.size)(hc:(s[k]'h).toNat=47)(hb:∀c ∈ s.data.toList.take k,c≠47):sl s.data.toList=k:=by
 unfold sl;have hk:k<s.data.toList.length:=by simpa using h
 have h2:s.data.toList[k]=47:=by rw[qdv s k h];exact UInt8.toNat_inj.1 hc
 rw[List.findIdx_eq hk];refine⟨by rw[h2];rfl,fun j hj => ?_⟩;have:=hb (s.data.toList[j]'(by omega)) (by rw[List.mem_take_iff_getElem];exact⟨j,by omega,rfl⟩)
 simpa using this
theorem qv3{l:List UInt8}(hb:∀c ∈ l,c≠47):sl l=l.length:=by
 unfold sl;rw[List.findIdx_eq_length];intro c hc
 simpa using hb c hc
theorem qqu(s:BA)(w:World)(hl:s.size≤1073741824):
  Calls Tryz.prog 68 #[.string s] w fun e w'=>e = .returned (.int .i64 (sl s.data.toList:Nat))∧w'=w:=by
 have iW:=hid (qcx s);have HAT:Hid (∀k,∀h:k<s.size,(s[k]'h).toNat=47→(∀c ∈ s.data.toList.take k,c≠47)→sl s.data.toList=k):=hid fun k h h1 h2=>zaq h h1 h2
 have sR:Hid ((∀c ∈ s.data.toList.take s.size,c≠47)→sl s.data.toList=s.size):=hid fun h=>by
  rw[List.take_of_length_le (by simp)] at h;rw[qv3 h];simp
 generalize sl s.data.toList=res at *;go_enter Tryz.func68,Tryz.ntmps68;go_wp2_with fail
 go_loopw [3] (fun i wr=>∃k:Nat,k≤s.size∧i = .int .i64 k∧Hid (∀c ∈ s.data.toList.take k,c≠47)∧wr=w) (fun i _=>s.size-(intOf i).toNat)
 case atStart=>exact⟨0,Nat.zero_le _,rfl,hid (by simp),rfl⟩
 case round=>
  obtain⟨k,hk,rfl,HD,rfl⟩:=hrel;by_cases pV:k<s.size
  ·have pH:∀h:k<s.size,((s[k]'h).toNat:Int)=((s[k]'pV).toNat:Int):=fun h=>rfl
   have HA:=hid (HAT.out k pV)
   have nM:Hid ((s[k]'pV).toNat≠47→∀c ∈ s.data.toList.take (k+1),c≠47):=hid fun h=>by
    rw[iW.out k pV];intro c hc;rcases List.mem_append.1 hc with hc|hc
    ·exact HD.out c hc
    ·rw[List.mem_singleton.1 hc]
     intro e;exact h (by rw[e];rfl)
   generalize (s[k]'pV).toNat=c at *;by_cases h:c=47
   ·subst h
    have HE:=hid (HA.out rfl HD.out);have hb:(((47:Nat):Int)==47)=true:=rfl;clear HA nM;go_wp2_with fail;go_ret;exact⟨qa1 (by rw[HE.out]),rfl⟩
   ·have hb:((c:Int)==47)=false:=qam (by omega)
    have HD3:=hid (nM.out h);clear HA nM h;go_wp2_with fail;go_roundw
    case rel=>exact⟨k+1,by omega,by go_num,HD3,trivial⟩
    case measure=>simp[intOf];omega
  ·have uS:k=s.size:=by omega
   have HE:Hid (res=s.size):=hid (sR.out (by rw[←uS];exact HD.out));clear uS;go_wp2_with fail;go_ret;exact⟨qa1 (by rw[HE.out]),rfl⟩
theorem q76(s:BA)(k:Nat)(h:k<s.size)(hb:isD (s[k]'h)=false):s.data.toList.all isD=false:=by
 rw[List.all_eq_false];exact⟨s[k]'h,by rw[←qdv s k h];exact List.getElem_mem _,by simp[hb]⟩
theorem q77(s:BA)(w:World)(hl:s.size≤1073741824):
  Calls Tryz.prog 117 #[.string s] w fun e w'=>e = .returned (.bool (s.data.toList.all isD))∧w'=w:=by
 have iW:=hid (qcx s);have kP:=hid (q76 s)
 have oW:Hid ((∀c ∈ s.data.toList.take s.size,isD c=true)→s.data.toList.all isD=true):=hid fun h=>by
  rw[List.take_of_length_le (by simp)] at h;exact List.all_eq_true.2 h
 generalize s.data.toList.all isD=res at *;go_enter Tryz.func117,Tryz.ntmps117;go_wp2_with fail
 go_loopw [3] (fun i wr=>∃k:Nat,k≤s.size∧i = .int .i64 k∧Hid (∀c ∈ s.data.toList.take k,isD c=true)∧wr=w) (fun i _=>s.size-(intOf i).toNat)
 case atStart=>exact⟨0,Nat.zero_le _,rfl,hid (by simp),rfl⟩
 case round=>
  obtain⟨k,hk,rfl,HD,rfl⟩:=hrel;by_cases pV:k<s.size
  ·have pH:∀h:k<s.size,((s[k]'h).toNat:Int)=((s[k]'pV).toNat:Int):=fun h=>rfl
   by_cases hd:isD (s[k]'pV)=true
   ·have h1:48≤(s[k]'pV).toNat∧(s[k]'pV).toNat≤57:=by simpa [isD] using hd
    have nM:Hid (∀c ∈ s.data.toList.take (k+1),isD c=true):=hid (by
     rw[iW.out k pV];intro c hc;rcases List.mem_append.1 hc with hc|hc
     ·exact HD.out c hc
     ·rw[List.mem_singleton.1 hc];exact hd)
    clear hd;generalize (s[k]'pV).toNat=c at *;obtain⟨h48,h57⟩:=h1;have g1:decide ((c:Int)<48)=false:=qaf (by omega);have g2:decide ((57:Int)<(c:Int))=false:=qaf (by omega);go_wp2_with fail;go_roundw
    case rel=>exact⟨k+1,by omega,by go_num,nM,trivial⟩
    case measure=>simp[intOf];omega
   ·have hd':isD (s[k]'pV)=false:=by simpa using hd
    have aV:=hid (kP.out k pV hd')
    have hr:(s[k]'pV).toNat<48∨57<(s[k]'pV).toNat:=by
     unfold isD at hd';have:=of_decide_eq_false hd';omega
    clear hd hd';generalize (s[k]'pV).toNat=c at *;rcases Nat.lt_or_ge c 48 with hr'|hr'
    ·have g1:decide ((c:Int)<48)=true:=qag (by omega)
     clear hr;go_wp2_with fail;go_ret;exact⟨qa9 aV.out.symm,rfl⟩
    ·have g1:decide ((c:Int)<48)=false:=qaf (by omega)
     have g2:decide ((57:Int)<(c:Int))=true:=qag (by omega);clear hr;go_wp2_with fail;go_ret;exact⟨qa9 aV.out.symm,rfl⟩
  ·have uS:k=s.size:=by omega
   have HE:=hid (oW.out (by rw[←uS];exact HD.out));clear uS;go_wp2_with fail;go_ret;exact⟨qa9 HE.out.symm,rfl⟩
theorem qtx(s:BA):(s.size=0→qbs s.data.toList=false)∧(s.size=1→qbs s.data.toList=s.data.toList.all isD)∧
  (∀h:1<s.size,(s[0]'(by omega)).toNat=48→qbs s.data.toList=false)∧(∀h:1<s.size,(s[0]'(by omega)).toNat≠48→qbs s.data.toList=s.data.toList.all isD):=by
 have e:s.data.toList.length=s.size:=by simp
 unfold qbs qj7;refine⟨fun h => ?_,fun h => ?_,fun h hc => ?_,fun h hc => ?_⟩
 ·have:s.data.toList=[]:=List.length_eq_zero_iff.1 (by omega)
  rw[this];rfl
 ·obtain⟨c,hc⟩:=List.length_eq_one_iff.1 (e.trans h)
  rw[hc];by_cases h2:c=48
  ·subst h2;decide
  ·simp[h2]
 ·have h2:s.data.toList[0]? = some 48:=by rw[qap (by omega),qdv s 0 (by omega)];exact congrArg some (UInt8.toNat_inj.1 hc)
  clear hc;generalize s.data.toList=l at *
  match l,e,h2 with
  | [],e,_=>simp at e;omega
  | [c],e,_=>simp at e;omega
  | a::b::r,_,h2=>simp at h2;subst h2;simp
 ·have h2:∃c,s.data.toList[0]? = some c∧c≠48:=⟨_,by rw[qap (by omega),qdv s 0 (by omega)],fun e=>hc (by rw[e];rfl)⟩
  obtain⟨c,h2,h3⟩:=h2;clear hc;generalize s.data.toList=l at *
  match l,e,h2 with
  | [],e,_=>simp at e;omega
  | a::r,_,h2=>simp at h2;subst h2;simp[h3]
theorem qjf(s:BA)(w:World)(hl:s.size≤1073741824):
  Calls Tryz.prog 69 #[.string s] w fun e w'=>e = .returned (.bool (qbs s.data.toList))∧w'=w:=by
 have yK:=hid (q77 s w hl);obtain⟨p0,p1,p2,p3⟩:=qtx s;rcases(show s.size=0∨s.size=1∨1<s.size by omega) with h|h|h
 ·have HE:=hid (p0 h)
  have g1:((s.size:Int)==0)=true:=beq_iff_eq.2 (by omega);clear p0 p1 p2 p3 h;go_enter Tryz.func69,Tryz.ntmps69;go_wp2_with fail;go_ret;exact⟨qa9 HE.out.symm,rfl⟩
 ·have HE:=hid (p1 h)
  rw[←HE.out] at yK;have g1:((s.size:Int)==0)=false:=qam (by omega);have g2:decide ((1:Int)<(s.size:Int))=false:=qaf (by omega);clear p0 p1 p2 p3 h;go_enter Tryz.func69,Tryz.ntmps69;go_wp2_with fail;refine yK.out.mono ?_;rintro e w1 ⟨rfl,rfl⟩;go_wp2_with fail;go_ret;exact⟨rfl,rfl⟩
 ·have g1:((s.size:Int)==0)=false:=qam (by omega)
  have g2:decide ((1:Int)<(s.size:Int))=true:=qag (by omega);have iA:0<s.size:=by omega
  have pH:∀h':0<s.size,((s[0]'h').toNat:Int)=((s[0]'iA).toNat:Int):=fun h=>rfl;have q2:=p2 h;have q3:=p3 h;clear p0 p1 p2 p3;generalize (s[0]'iA).toNat=c at *;by_cases hc:c=48
  ·have HE:=hid (q2 hc)
   subst hc;have g3:(((48:Nat):Int)==48)=true:=rfl;clear q2 q3;go_enter Tryz.func69,Tryz.ntmps69;go_wp2_with fail;go_ret;exact⟨qa9 HE.out.symm,rfl⟩
  ·have HE:=hid (q3 hc)
   rw[←HE.out] at yK;have g3:((c:Int)==48)=false:=qam (by omega);clear q2 q3 hc;go_enter Tryz.func69,Tryz.ntmps69;go_wp2_with fail;refine yK.out.mono ?_;rintro e w1 ⟨rfl,rfl⟩;go_wp2_with fail;go_ret;exact⟨rfl,rfl⟩
def qdb(w:World)(v:Value)(z:Int):Prop:=∃vw,v = .agg #[.bool (decide (z<0)),vw]∧DN w vw z.natAbs
theorem qdb.later{w w':World}{v:Value}{z:Int}(h:qdb w v z)(hb:Below w.heap.size w w'):qdb w' v z:=by
 obtain⟨vw,h1,h2⟩:=h;exact⟨vw,h1,h2.later hb⟩
theorem qg3(neg:Bool)(vw:Value)(l:List Nat)(w:World)(h:Dgs w vw l):
  Calls Tryz.prog 124 #[.bool neg,vw] w fun e w'=>(∃v,e = .returned v∧qdb w' v (if neg then -(val D9 l:Int) else(val D9 l:Int)))∧Below w.heap.size w w':=by
 have HT:Hid (∀W,Below w.heap.size w W→Calls Tryz.prog 169 #[vw] W fun e w'=>(∃v',e = .returned v'∧∀o,DN (w.alloc o) v' (val D9 l))∧W=w'):=hid fun W hW=>(q6s vw l W (h.later hW)).mono fun _ _ ⟨⟨v',he,hv⟩,hw⟩=>⟨⟨v',he,fun o=>hv _ (h.later (qad _ _))⟩,hw⟩;clear h;generalize val D9 l=n at *;go_enter Tryz.func124,Tryz.ntmps124;go_wp2_with fail;refine(HT.out _ (qad _ _)).mono ?_;rintro e w1 ⟨⟨v',rfl,hv⟩,rfl⟩;obtain⟨p,k,c,rfl,hk⟩:=qf6 (hv (.cells #[] 0));have tA:=hid hv;have HK:=hid hk;clear hv hk;have HB:∀o,Below w.heap.size w (w.alloc o):=fun o=>(qaa _ w).alloc (qac _) o;have cO:=tA.out;cases neg
 ·have HE:Hid (decide ((n:Int)<0)=false):=hid (qaf (by omega))
  have jH:=hid cO;clear cO;go_wp2_with fail;refine bodyPost_ret (v := .agg #[.bool false,.slice p k c]) ?_ rfl ?_
  ·simp[results,Tryz.results124,go_sem]
  ·exact⟨⟨_,rfl,.slice p k c,by simp only[Bool.false_eq_true,if_false,HE.out],by simp only[Bool.false_eq_true,if_false,Int.natAbs_natCast];exact jH.out _⟩,HB _⟩
 ·have jH:=hid cO
  clear cO;rcases qas k with e|e
  ·have rT:n=0:=by
    rcases qas n with h|h
    ·exact h
    ·have:=qxo.2 h;have:=HK.out;omega
   have HN:=hid rT;clear rT;subst e;have g:decide ((0:Int)<((0:Nat):Int))=false:=rfl;go_wp2_with fail;refine bodyPost_ret (v := .agg #[.bool false,.slice p 0 c]) ?_ rfl ?_
   ·simp[results,Tryz.results124,go_sem]
   ·exact⟨⟨_,rfl,_,by simp only[if_true,HN.out];rfl,by simp only[if_true,Int.natAbs_neg,Int.natAbs_natCast];exact jH.out _⟩,HB _⟩
  ·have g:decide ((0:Int)<(k:Int))=true:=qag (by omega)
   have HE:Hid (decide (-(n:Int)<0)=true):=hid (qag (by have:=qxo.1 (by rw[←HK.out];exact e);omega));clear e;go_wp2_with fail;refine bodyPost_ret (v := .agg #[.bool true,.slice p k c]) ?_ rfl ?_
   ·have:=of_decide_eq_true g
    simp[results,Tryz.results124,go_sem];omega
   ·exact⟨⟨_,rfl,.slice p k c,by simp only[if_true,HE.out],by simp only[if_true,Int.natAbs_neg,Int.natAbs_natCast];exact jH.out _⟩,HB _⟩
theorem DN.setOther{W:World}{v:Value}{n:Nat}{p:Addr}{x u:Value}(h:DN W v n)(hp:W.cell? p=some u)(hu:∀k z,u ≠ .int k z):DN (W.setCell p x) v n:=by
 obtain⟨h1,a,c,rfl,h2,h3,h4⟩:=h;refine⟨h1,a,c,rfl,h2,h3, ?_⟩;rcases h4 with h4|⟨b,o,rfl,h5⟩
 ·exact .inl h4
 ·refine .inr ⟨b,o,rfl,fun i hi => ?_⟩
  rw[World.cell?_setCell_other _ _ _ _ ?_]
  ·exact h5 i hi
  ·intro e
   rw[e,h5 i hi] at hp;cases hp
   exact hu _ _ rfl
def qiq(b:Bool)(v:Value)(i:Nat):Value:=if i=0 then .bool b else v
theorem qeq{W:World}{g:Nat}{sg:Bool}{t:Value}{z:Int}(h:qdb W (.agg #[.bool sg,t]) z)(r:Own W g 2 (qiq false (.slice none 0 0))):
  qdb ((W.setCell ⟨g,0,none⟩ (.bool sg)).setCell ⟨g,1,none⟩ t) (.agg #[.bool sg,t]) z:=by
 obtain⟨v,e,hv⟩:=h;refine⟨v,e, ?_⟩;refine(hv.setOther (r.2 0 (by omega)).1 (by intro k z h;cases h)).setOther (u := .slice none 0 0) ?_ (by intro k z h;cases h);rw[World.cell?_setCell_other _ _ _ _ (by intro h;injection h with _ h;cases h)];exact(r.2 1 (by omega)).1
theorem qdb.parts{w:World}{v:Value}{z:Int}(h:qdb w v z):∃p k c,v = .agg #[.bool (decide (z<0)),.slice p k c]∧k=dl z.natAbs∧DN w (.slice p k c) z.natAbs:=by
 obtain⟨vw,rfl,hv⟩:=h;obtain⟨p,k,c,rfl,hk⟩:=qf6 hv;exact⟨p,k,c,rfl,hk,hv⟩
def qfm(w:World)(na:Bool)(ta:Value)(nb:Bool)(tb:Value)(W:World):Prop:=
 Below w.heap.size w W∧Own W w.heap.size 2 (qiq na ta)∧Own W (w.heap.size+1) 2 (qiq nb tb)∧Own W (w.heap.size+1+1) 2 (qiq false (.slice none 0 0))
theorem qfm.later{w:World}{na nb:Bool}{ta tb:Value}{W W':World}(h:qfm w na ta nb tb W)(hb:Below W.heap.size W W'):qfm w na ta nb tb W':=by
 obtain⟨h1,h2,h3,h4⟩:=h;have:=h4.1;exact⟨h1.trans (hb.mono h1.size),h2.later (hb.mono (by omega)),h3.later (hb.mono (by omega)),h4.later (hb.mono (by omega))⟩
theorem qib{w W:World}{na nb:Bool}{ta tb:Value}{f:FuncId}{args:Array Value}{P:Ending→World→Prop}(hW:qfm w na ta nb tb W)
  (h:Calls Tryz.prog f args W fun e w'=>P e w'∧Below W.heap.size W w'):Calls Tryz.prog f args W fun e w'=>P e w'∧qfm w na ta nb tb w':=
 h.mono fun _ _ ⟨h1,h2⟩=>⟨h1,hW.later h2⟩
theorem qeb(V:World)(n:Bool)(t:Value):Own (V.alloc (.cells #[.bool n,t] 122)) V.heap.size 2 (qiq n t):=by
 refine⟨by rw[qab];omega,fun i hi => ?_⟩;rw[World.cell?_alloc_at _ _ _ _ rfl,World.frozen?_alloc_at _ _ _ _ rfl]
 match i,hi with
 | 0,_=>exact⟨rfl,rfl⟩
 | 1,_=>exact⟨rfl,rfl⟩
theorem qjg{w:World}{g n:Nat}{f:Nat→Value}(h:Own w g n f)(o:Obj):Own (w.alloc o) g n f:=h.later ((qaa _ _).alloc h.1 _)
theorem qty(w:World)(na:Bool)(ta:Value)(nb:Bool)(tb:Value):
  qfm w na ta nb tb (((w.alloc (.cells #[.bool na,ta] 122)).alloc (.cells #[.bool nb,tb] 122)).alloc (.cells #[.bool false,.slice none 0 0] 122)):=by
 have h1:=qeb w na ta;have h2:=qeb (w.alloc (.cells #[.bool na,ta] 122)) nb tb;have h3:=qeb ((w.alloc (.cells #[.bool na,ta] 122)).alloc (.cells #[.bool nb,tb] 122)) false (.slice none 0 0);rw[qab] at h2 h3;rw[qab] at h3;refine⟨((qad _ _).alloc (by rw[qab];omega) _).alloc (by rw[qab,qab];omega) _, ?_, ?_,h3⟩
 ·exact qjg (qjg h1 _) _
 ·exact qjg h2 _
theorem qbv{w:World}{na nb:Bool}{ta tb:Value}{W:World}(h:qfm w na ta nb tb W):
  W.cell? ⟨w.heap.size,0,none⟩=some (.bool na)∧W.cell? ⟨w.heap.size,1,none⟩=some ta∧W.cell? ⟨w.heap.size+1,0,none⟩=some (.bool nb)∧W.cell? ⟨w.heap.size+1,1,none⟩=some tb:=
 ⟨(h.2.1.2 0 (by omega)).1,(h.2.1.2 1 (by omega)).1,(h.2.2.1.2 0 (by omega)).1,(h.2.2.1.2 1 (by omega)).1⟩
theorem qr6{w W:World}{na nb:Bool}{ta tb:Value}(h:qfm w na ta nb tb W):
  (W.cell? ⟨w.heap.size+1+1,0,none⟩=some (.bool false)∧W.frozen? ⟨w.heap.size+1+1,0,none⟩=false)∧(W.cell? ⟨w.heap.size+1+1,1,none⟩=some (.slice none 0 0)∧W.frozen? ⟨w.heap.size+1+1,1,none⟩=false):=
 ⟨h.2.2.2.2 0 (by omega),h.2.2.2.2 1 (by omega)⟩
theorem qfn{W:World}{g1 g2:Nat}{c0 c1 c2 c3:Option Value}(h:W.cell? ⟨g1,0,none⟩=c0∧W.cell? ⟨g1,1,none⟩=c1∧W.cell? ⟨g2,0,none⟩=c2∧W.cell? ⟨g2,1,none⟩=c3){g o:Nat}(h1:g≠g1)(h2:g≠g2)(x:Value):
  (W.setCell ⟨g,o,none⟩ x).cell? ⟨g1,0,none⟩=c0∧(W.setCell ⟨g,o,none⟩ x).cell? ⟨g1,1,none⟩=c1∧(W.setCell ⟨g,o,none⟩ x).cell? ⟨g2,0,none⟩=c2∧(W.setCell ⟨g,o,none⟩ x).cell? ⟨g2,1,none⟩=c3:=by
 have k:∀(a i:Nat),g≠a→(W.setCell ⟨g,o,none⟩ x).cell? ⟨a,i,none⟩=W.cell? ⟨a,i,none⟩:=fun a i h=>World.cell?_setCell_other _ _ _ _ (by intro e;injection e with e;exact h e);rw[k _ _ h1,k _ _ h1,k _ _ h2,k _ _ h2];exact h
theorem qfo{w W:World}{g:Nat}(h:Below w.heap.size w W)(hg:w.heap.size≤g)(x y:Value):Below w.heap.size w ((W.setCell ⟨g,0,none⟩ x).setCell ⟨g,1,none⟩ y):=(h.setCell hg _).setCell hg _
theorem qzs(x y:Int):(if(decide (x<0) != decide (y<0)) then -((x.natAbs*y.natAbs:Nat):Int) else((x.natAbs*y.natAbs:Nat):Int))=x*y:=by
 rcases Int.lt_or_le x 0 with h1|h1<;>rcases Int.lt_or_le y 0 with h2|h2
 ·rw[qag h1,qag h2,if_neg (by decide),Int.natCast_mul,Int.ofNat_natAbs_of_nonpos (by omega),Int.ofNat_natAbs_of_nonpos (by omega),Int.neg_mul_neg]
 ·rw[qag h1,qaf (by omega),if_pos (by decide),Int.natCast_mul,Int.ofNat_natAbs_of_nonpos (by omega),Int.natAbs_of_nonneg h2,Int.neg_mul,Int.neg_neg]
 ·rw[qaf (by omega),qag h2,if_pos (by decide),Int.natCast_mul,Int.natAbs_of_nonneg h1,Int.ofNat_natAbs_of_nonpos (by omega),Int.mul_neg,Int.neg_neg]
 ·rw[qaf (by omega),qaf (by omega),if_neg (by decide),Int.natCast_mul,Int.natAbs_of_nonneg h1,Int.natAbs_of_nonneg h2]
theorem q9z(va vb:Value)(x y:Int)(w:World)(ha:qdb w va x)(hb:qdb w vb y)(pQ:dl x.natAbs≤1000)(pP:dl y.natAbs≤1000):
  Calls Tryz.prog 76 #[va,vb] w fun e w'=>(∃v,e = .returned v∧qdb w' v (x*y))∧Below w.heap.size w w':=by
 obtain⟨pa,ka,ca,rfl,tS,fN⟩:=ha.parts;obtain⟨pb,kb,cb,rfl,nP,gL⟩:=hb.parts;clear tS nP;have gF:=hid fN;have fV:=hid gL;have lQ:=qzs x y;clear ha hb fN gL;have HX:Hid (∃sx,decide (x<0)=sx):=hid ⟨_,rfl⟩;have Ju:Hid ((if(decide (x<0) != decide (y<0)) then -((x.natAbs*y.natAbs:Nat):Int) else((x.natAbs*y.natAbs:Nat):Int))=x*y):=hid lQ;clear lQ HX;generalize decide (x<0)=sx at *;generalize decide (y<0)=sy at *;have aM:=hid (qty w sx (.slice pa ka ca) sy (.slice pb kb cb))
 have yY:Hid (∀W,qfm w sx (.slice pa ka ca) sy (.slice pb kb cb) W→Calls Tryz.prog 128 #[.slice pa ka ca,.slice pb kb cb] W fun e w'=>(∃v',e = .returned v'∧DN w' v' (x.natAbs*y.natAbs))∧qfm w sx (.slice pa ka ca) sy (.slice pb kb cb) w'):=hid fun W hW=>qib hW (by
  have h:=zap _ _ _ _ W (gF.out.later hW.1) (fV.out.later hW.1) pQ pP;rw[qar _ _ qbg,qar _ _ qbg] at h
  exact h)
 have dV:Hid (∀W v,qfm w sx (.slice pa ka ca) sy (.slice pb kb cb) W→DN W v (x.natAbs*y.natAbs)→Calls Tryz.prog 124 #[.bool (sx != sy),v] W fun e w'=>(∃v',e = .returned v'∧qdb w' v' (x*y))∧qfm w sx (.slice pa ka ca) sy (.slice pb kb cb) w'):=hid fun W v hW hv=>qib hW (by
  have h:=qg3 (sx != sy) v _ W hv;rw[qar _ _ qbg,Ju.out] at h
  exact h)
 clear pQ pP;go_enter Tryz.func76,Tryz.ntmps76;go_wp2_with fail;generalize ((w.alloc (.cells #[.bool sx,.slice pa ka ca] 122)).alloc (.cells #[.bool sy,.slice pb kb cb] 122)).alloc (.cells #[.bool false,.slice none 0 0] 122)=w0 at *;have bX:Hid (qfm w sx (.slice pa ka ca) sy (.slice pb kb cb) w0.drew):=hid (aM.out.later ((qaa _ _).drew))
 go_region_held3 (fun W=>W.cell? ⟨w.heap.size,0,none⟩=some (.bool sx)∧W.cell? ⟨w.heap.size,1,none⟩=some (.slice pa ka ca)∧W.cell? ⟨w.heap.size+1,0,none⟩=some (.bool sy)∧W.cell? ⟨w.heap.size+1,1,none⟩=some (.slice pb kb cb)) (first|exact qbv fG.out|exact qbv fX.out|exact qbv bX.out|exact qfn (qfn (qbv fG.out) (by omega) (by omega) _) (by omega) (by omega) _)
  (first
   | (go_at_call 128;((with_reducible refine(yY.out _ bX.out).mono ?_);rintro e wN ⟨⟨vN,rfl,hn⟩,ht⟩;have oR:=hid hn;have fX:=hid ht;clear hn ht))
   | (go_at_call 124;((refine(dV.out _ _ fX.out oR.out).mono ?_);rintro e wP ⟨⟨vP,rfl,hn⟩,ht⟩;obtain⟨pt,kt,ct,rfl,hk,_⟩:=hn.parts;have oS:=hid hn;have fG:=hid ht;clear hn ht hk;generalize iJ:decide (x*y<0)=sg at *;clear iJ;obtain⟨⟨r0,g0⟩,⟨r1,g1⟩⟩:=qr6 fG.out)))
 have aF:=hid (qeq oS.out fG.out.2.2.2);have aG:=hid (qfo fG.out.1 (show w.heap.size≤w.heap.size+1+1 by omega) (.bool sg) (.slice pt kt ct));go_wp2_with fail;refine bodyPost_ret (v := .agg #[.bool sg,.slice pt kt ct]) ?_ rfl ?_
 ·simp[results,Tryz.results76,go_sem,r0,r1]
 ·exact⟨⟨_,rfl,aF.out⟩,aG.out⟩
theorem q2l(x y:Int)(h:decide (x<0)=decide (y<0)):(if decide (x<0)=true then -((x.natAbs+y.natAbs:Nat):Int) else((x.natAbs+y.natAbs:Nat):Int))=x+y:=by
 rcases Int.lt_or_le x 0 with h1|h1
 ·have h2:y<0:=by rw[qag h1] at h;exact of_decide_eq_true h.symm
  rw[qag h1,if_pos rfl];omega
 ·have h2:¬y<0:=by rw[qaf (by omega)] at h;exact of_decide_eq_false h.symm
  rw[qaf (by omega),if_neg (by decide)];omega
theorem qqv(x y:Int)(h:decide (x<0)≠decide (y<0))(dY:y.natAbs≤x.natAbs):(if decide (x<0)=true then -((x.natAbs-y.natAbs:Nat):Int) else((x.natAbs-y.natAbs:Nat):Int))=x+y:=by
 rcases Int.lt_or_le x 0 with h1|h1
 ·have h2:¬y<0:=fun h2=>h (by rw[qag h1,qag h2])
  rw[qag h1,if_pos rfl];omega
 ·have h2:y<0:=by
   rcases Int.lt_or_le y 0 with h2|h2
   ·exact h2
   ·exact absurd (by rw[qaf (by omega),qaf (by omega)]) h
  rw[qaf (by omega),if_neg (by decide)];omega
theorem zar(va vb:Value)(x y:Int)(w:World)(ha:qdb w va x)(hb:qdb w vb y)(pQ:dl x.natAbs≤1000)(pP:dl y.natAbs≤1000):
  Calls Tryz.prog 75 #[va,vb] w fun e w'=>(∃v,e = .returned v∧qdb w' v (x+y))∧Below w.heap.size w w':=by
 obtain⟨pa,ka,ca,rfl,tS,fN⟩:=ha.parts;obtain⟨pb,kb,cb,rfl,nP,gL⟩:=hb.parts;clear tS nP;have gF:=hid fN;have fV:=hid gL;have aS:=hid (q2l x y);have Du:=hid (qqv x y);have uT:Hid (decide (x<0)≠decide (y<0)→x.natAbs≤y.natAbs→(if decide (y<0)=true then -((y.natAbs-x.natAbs:Nat):Int) else((y.natAbs-x.natAbs:Nat):Int))=x+y):=hid fun h dY=>by rw[Int.add_comm];exact qqv y x (Ne.symm h) dY
 clear ha hb fN gL;generalize decide (x<0)=sx at *;generalize decide (y<0)=sy at *;have aM:=hid (qty w sx (.slice pa ka ca) sy (.slice pb kb cb))
 have dV:Hid (∀s n l W v,(if s=true then -((n:Nat):Int) else(n:Int))=x+y→qfm w sx (.slice pa ka ca) sy (.slice pb kb cb) W→Dgs W v l→val D9 l=n→Calls Tryz.prog 124 #[.bool s,v] W fun e w'=>(∃v',e = .returned v'∧qdb w' v' (x+y))∧qfm w sx (.slice pa ka ca) sy (.slice pb kb cb) w'):=hid fun s n l W v hs hW hv hl=>qib hW (by
  have h:=qg3 s v l W hv;rw[hl,hs] at h
  exact h)
 by_cases Gm:sx=sy
 ·have tJ:Hid (∀W,qfm w sx (.slice pa ka ca) sy (.slice pb kb cb) W→Calls Tryz.prog 125 #[.slice pa ka ca,.slice pb kb cb] W fun e w'=>(∃v' l',e = .returned v'∧Dgs w' v' l'∧val D9 l'=x.natAbs+y.natAbs)∧qfm w sx (.slice pa ka ca) sy (.slice pb kb cb) w'):=hid fun W hW=>qib hW (by
   have h:=za6 _ _ _ _ W (gF.out.later hW.1) (fV.out.later hW.1) pQ pP;rw[qar _ _ qbg,qar _ _ qbg] at h
   exact h.mono fun _ _ ⟨⟨v',l',h1,h2,h3,_⟩,h4⟩=>⟨⟨v',l',h1,h2,h3⟩,h4⟩)
  have HS:=hid (aS.out Gm);clear aS Du uT pQ pP;have Pk:(sx==sy)=true:=by rw[Gm];exact beq_self_eq_true _
  clear Gm;go_enter Tryz.func75,Tryz.ntmps75;go_wp2_with fail;generalize ((w.alloc (.cells #[.bool sx,.slice pa ka ca] 122)).alloc (.cells #[.bool sy,.slice pb kb cb] 122)).alloc (.cells #[.bool false,.slice none 0 0] 122)=w0 at *;have bX:Hid (qfm w sx (.slice pa ka ca) sy (.slice pb kb cb) w0.drew):=hid (aM.out.later ((qaa _ _).drew))
  go_region_held3 (fun W=>W.cell? ⟨w.heap.size,0,none⟩=some (.bool sx)∧W.cell? ⟨w.heap.size,1,none⟩=some (.slice pa ka ca)∧W.cell? ⟨w.heap.size+1,0,none⟩=some (.bool sy)∧W.cell? ⟨w.heap.size+1,1,none⟩=some (.slice pb kb cb)) (first|exact qbv fG.out|exact qbv fX.out|exact qbv bX.out|exact qfn (qfn (qbv fG.out) (by omega) (by omega) _) (by omega) (by omega) _)
   (first
    | (go_at_call 125;((with_reducible refine(tJ.out _ bX.out).mono ?_);rintro e wN ⟨⟨vN,lN,rfl,hn,hl⟩,ht⟩;have oR:=hid hn;have kQ:=hid hl;have fX:=hid ht;clear hn ht hl))
    | (go_at_call 124;((refine(dV.out sx (x.natAbs+y.natAbs) lN _ _ HS.out fX.out oR.out kQ.out).mono ?_);rintro e wP ⟨⟨vP,rfl,hn⟩,ht⟩;obtain⟨pt,kt,ct,rfl,hk,_⟩:=hn.parts;have oS:=hid hn;have fG:=hid ht;clear hn ht hk;generalize iJ:decide (x+y<0)=sg at *;clear iJ;obtain⟨⟨r0,g0⟩,⟨r1,g1⟩⟩:=qr6 fG.out)))
  have aF:=hid (qeq oS.out fG.out.2.2.2);have aG:=hid (qfo fG.out.1 (show w.heap.size≤w.heap.size+1+1 by omega) (.bool sg) (.slice pt kt ct));go_wp2_with fail;refine bodyPost_ret (v := .agg #[.bool sg,.slice pt kt ct]) ?_ rfl ?_
  ·simp[results,Tryz.results75,go_sem,r0,r1]
  ·exact⟨⟨_,rfl,aF.out⟩,aG.out⟩
 ·have Pk:(sx==sy)=false:=qam Gm
  have oV:Hid (∀W,qfm w sx (.slice pa ka ca) sy (.slice pb kb cb) W→Calls Tryz.prog 126 #[.slice pa ka ca,.slice pb kb cb] W fun e w'=>e = .returned (.int .i64 (qex x.natAbs y.natAbs))∧qfm w sx (.slice pa ka ca) sy (.slice pb kb cb) w'):=hid fun W hW=>qib hW (qr3 _ _ _ _ W (gF.out.later hW.1) (fV.out.later hW.1));by_cases dY:y.natAbs≤x.natAbs
  ·have tJ:Hid (∀W,qfm w sx (.slice pa ka ca) sy (.slice pb kb cb) W→Calls Tryz.prog 127 #[.slice pa ka ca,.slice pb kb cb] W fun e w'=>(∃v' l',e = .returned v'∧Dgs w' v' l'∧val D9 l'=x.natAbs-y.natAbs)∧qfm w sx (.slice pa ka ca) sy (.slice pb kb cb) w'):=hid fun W hW=>qib hW (by
    have h:=za3 _ _ _ _ W (gF.out.later hW.1) (fV.out.later hW.1) dY pQ
    exact h.mono fun _ _ ⟨⟨v',h1,h2⟩,h4⟩=>⟨⟨v',_,h1,h2,qar _ _ qbg⟩,h4⟩)
   have HS:=hid (Du.out Gm dY);obtain⟨cc,fR⟩:∃cc,qex x.natAbs y.natAbs=cc:=⟨_,rfl⟩;rw[fR] at oV
   have eY:(0:Int)≤cc:=by
    rcases(show x.natAbs=y.natAbs∨y.natAbs<x.natAbs by omega) with h|h
    ·have:=qet (x:=(x.natAbs:Int)) (y:=y.natAbs) (by omega);unfold qex at fR;omega
    ·have:=qcr (x:=(x.natAbs:Int)) (y:=y.natAbs) (by omega);unfold qex at fR;omega
   clear aS Du uT pQ pP Gm dY fR;go_enter Tryz.func75,Tryz.ntmps75;go_wp2_with fail;generalize ((w.alloc (.cells #[.bool sx,.slice pa ka ca] 122)).alloc (.cells #[.bool sy,.slice pb kb cb] 122)).alloc (.cells #[.bool false,.slice none 0 0] 122)=w0 at *;refine(oV.out _ aM.out).mono ?_;rintro e w1 ⟨rfl,ht⟩;have bX:Hid (qfm w sx (.slice pa ka ca) sy (.slice pb kb cb) w1.drew):=hid (ht.later ((qaa _ _).drew));have aA:=qbv ht;clear ht;go_wp2_with fail
   go_region_held3 (fun W=>W.cell? ⟨w.heap.size,0,none⟩=some (.bool sx)∧W.cell? ⟨w.heap.size,1,none⟩=some (.slice pa ka ca)∧W.cell? ⟨w.heap.size+1,0,none⟩=some (.bool sy)∧W.cell? ⟨w.heap.size+1,1,none⟩=some (.slice pb kb cb)) (first|exact qbv fG.out|exact qbv fX.out|exact qbv bX.out|exact qfn (qfn (qbv fG.out) (by omega) (by omega) _) (by omega) (by omega) _)
    (first
     | (go_at_call 127;((with_reducible refine(tJ.out _ bX.out).mono ?_);rintro e wN ⟨⟨vN,lN,rfl,hn,hl⟩,ht⟩;have oR:=hid hn;have kQ:=hid hl;have fX:=hid ht;clear hn ht hl))
     | (go_at_call 124;((refine(dV.out sx (x.natAbs-y.natAbs) lN _ _ HS.out fX.out oR.out kQ.out).mono ?_);rintro e wP ⟨⟨vP,rfl,hn⟩,ht⟩;obtain⟨pt,kt,ct,rfl,hk,_⟩:=hn.parts;have oS:=hid hn;have fG:=hid ht;clear hn ht hk;generalize iJ:decide (x+y<0)=sg at *;clear iJ;obtain⟨⟨r0,g0⟩,⟨r1,g1⟩⟩:=qr6 fG.out)))
   have aF:=hid (qeq oS.out fG.out.2.2.2);have aG:=hid (qfo fG.out.1 (show w.heap.size≤w.heap.size+1+1 by omega) (.bool sg) (.slice pt kt ct));go_wp2_with fail;refine bodyPost_ret (v := .agg #[.bool sg,.slice pt kt ct]) ?_ rfl ?_
   ·simp[results,Tryz.results75,go_sem,r0,r1]
   ·exact⟨⟨_,rfl,aF.out⟩,aG.out⟩
  ·have Jv:x.natAbs≤y.natAbs:=by omega
   have tJ:Hid (∀W,qfm w sx (.slice pa ka ca) sy (.slice pb kb cb) W→Calls Tryz.prog 127 #[.slice pb kb cb,.slice pa ka ca] W fun e w'=>(∃v' l',e = .returned v'∧Dgs w' v' l'∧val D9 l'=y.natAbs-x.natAbs)∧qfm w sx (.slice pa ka ca) sy (.slice pb kb cb) w'):=hid fun W hW=>qib hW (by
    have h:=za3 _ _ _ _ W (fV.out.later hW.1) (gF.out.later hW.1) Jv pP
    exact h.mono fun _ _ ⟨⟨v',h1,h2⟩,h4⟩=>⟨⟨v',_,h1,h2,qar _ _ qbg⟩,h4⟩)
   have HS:=hid (uT.out Gm Jv);obtain⟨cc,fR⟩:∃cc,qex x.natAbs y.natAbs=cc:=⟨_,rfl⟩;rw[fR] at oV
   have eY:¬(0:Int)≤cc:=by
    have:=qdf (x:=(x.natAbs:Int)) (y:=y.natAbs) (by omega);unfold qex at fR;omega
   clear aS Du uT pQ pP Gm dY Jv fR;go_enter Tryz.func75,Tryz.ntmps75;go_wp2_with fail;generalize ((w.alloc (.cells #[.bool sx,.slice pa ka ca] 122)).alloc (.cells #[.bool sy,.slice pb kb cb] 122)).alloc (.cells #[.bool false,.slice none 0 0] 122)=w0 at *;refine(oV.out _ aM.out).mono ?_;rintro e w1 ⟨rfl,ht⟩;have bX:Hid (qfm w sx (.slice pa ka ca) sy (.slice pb kb cb) w1.drew):=hid (ht.later ((qaa _ _).drew));have aA:=qbv ht;clear ht;go_wp2_with fail
   go_region_held3 (fun W=>W.cell? ⟨w.heap.size,0,none⟩=some (.bool sx)∧W.cell? ⟨w.heap.size,1,none⟩=some (.slice pa ka ca)∧W.cell? ⟨w.heap.size+1,0,none⟩=some (.bool sy)∧W.cell? ⟨w.heap.size+1,1,none⟩=some (.slice pb kb cb)) (first|exact qbv fG.out|exact qbv fX.out|exact qbv bX.out|exact qfn (qfn (qbv fG.out) (by omega) (by omega) _) (by omega) (by omega) _)
    (first
     | (go_at_call 127;((with_reducible refine(tJ.out _ bX.out).mono ?_);rintro e wN ⟨⟨vN,lN,rfl,hn,hl⟩,ht⟩;have oR:=hid hn;have kQ:=hid hl;have fX:=hid ht;clear hn ht hl))
     | (go_at_call 124;((refine(dV.out sy (y.natAbs-x.natAbs) lN _ _ HS.out fX.out oR.out kQ.out).mono ?_);rintro e wP ⟨⟨vP,rfl,hn⟩,ht⟩;obtain⟨pt,kt,ct,rfl,hk,_⟩:=hn.parts;have oS:=hid hn;have fG:=hid ht;clear hn ht hk;generalize iJ:decide (x+y<0)=sg at *;clear iJ;obtain⟨⟨r0,g0⟩,⟨r1,g1⟩⟩:=qr6 fG.out)))
   have aF:=hid (qeq oS.out fG.out.2.2.2);have aG:=hid (qfo fG.out.1 (show w.heap.size≤w.heap.size+1+1 by omega) (.bool sg) (.slice pt kt ct));go_wp2_with fail;refine bodyPost_ret (v := .agg #[.bool sg,.slice pt kt ct]) ?_ rfl ?_
   ·simp[results,Tryz.results75,go_sem,r0,r1]
   ·exact⟨⟨_,rfl,aF.out⟩,aG.out⟩
theorem qzt(x:Int):(if(!decide (x<0))=true then -((x.natAbs:Nat):Int) else((x.natAbs:Nat):Int)) = -x:=by
 rcases Int.lt_or_le x 0 with h|h
 ·rw[qag h,if_neg (by decide)];omega
 ·rw[qaf (by omega),if_pos (by decide)];omega
theorem q6u(va:Value)(x:Int)(w:World)(ha:qdb w va x):
  Calls Tryz.prog 123 #[va] w fun e w'=>(∃v,e = .returned v∧qdb w' v (-x))∧Below w.heap.size w w':=by
 obtain⟨pa,ka,ca,rfl,tS,fN⟩:=ha.parts;clear tS;have gF:=hid fN;have iW:=hid (qzt x);clear ha fN;generalize decide (x<0)=sx at *
 have dV:Hid (∀W,Below w.heap.size w W→Calls Tryz.prog 124 #[.bool (!sx),.slice pa ka ca] W fun e w'=>(∃v',e = .returned v'∧qdb w' v' (-x))∧Below W.heap.size W w'):=hid fun W hW=>by
  have h:=qg3 (!sx) _ _ W (gF.out.later hW);rw[qar _ _ qbg,iW.out] at h;exact h
 have dM:Hid (Below w.heap.size w ((w.alloc (.cells #[.bool sx,.slice pa ka ca] 122)).alloc (.cells #[.bool false,.slice none 0 0] 122))):=hid ((qad _ _).alloc (by rw[qab];omega) _);have mV:=hid (qeb (w.alloc (.cells #[.bool sx,.slice pa ka ca] 122)) false (.slice none 0 0));rw[qab] at mV;go_enter Tryz.func123,Tryz.ntmps123;go_wp2_with fail;generalize (w.alloc (.cells #[.bool sx,.slice pa ka ca] 122)).alloc (.cells #[.bool false,.slice none 0 0] 122)=w0 at *;refine(dV.out _ dM.out).mono ?_;rintro e w1 ⟨⟨v1,rfl,h1⟩,aZ⟩;obtain⟨pt,kt,ct,rfl,hk,_⟩:=h1.parts;have HV:=hid h1;have ho:Own w1 (w.heap.size+1) 2 (qiq false (.slice none 0 0)):=mV.out.later (aZ.mono mV.out.1);have HO:=hid ho;have HB:=hid (dM.out.trans (aZ.mono dM.out.size));obtain⟨r0,g0⟩:=ho.2 0 (by omega);obtain⟨r1,g1⟩:=ho.2 1 (by omega);clear h1 aZ hk ho;generalize iJ:decide (-x<0)=sg at *;clear iJ;have aF:=hid (qeq HV.out HO.out);have aG:=hid (qfo HB.out (show w.heap.size≤w.heap.size+1 by omega) (.bool sg) (.slice pt kt ct));go_wp2_with fail;refine bodyPost_ret (v := .agg #[.bool sg,.slice pt kt ct]) ?_ rfl ?_
 ·simp[results,Tryz.results123,go_sem,r0,r1]
 ·exact⟨⟨_,rfl,aF.out⟩,aG.out⟩
theorem qzu(lo:List Nat)(k m:Nat)(h:lo.length=k):val D9 (lo++[m % 1000000000])+D9^(k+1)*(m/1000000000)=val D9 lo+D9^k*m:=by
 rw[qed,h,Nat.pow_succ,Nat.mul_assoc,Nat.add_assoc,←Nat.mul_add,qb2,Nat.mod_add_div]
theorem q6v(n:Nat)(w:World)(hn:n<9223372036854775808):
  Calls Tryz.prog 85 #[.int .i64 n] w fun e w'=>(∃v,e = .returned v∧qdb w' v (n:Int))∧Below w.heap.size w w':=by
 have aM:Hid (Below w.heap.size w (w.alloc (.cells #[.bool false,.slice none 0 0] 122))):=hid (qad _ _);have mV:=hid (qeb w false (.slice none 0 0));have hni:(n:Int)≤9223372036854775807:=by omega
 have kA:=hid hn;clear hn;go_enter Tryz.func85,Tryz.ntmps85;go_wp2_with fail;generalize rC:w.alloc (.cells #[.bool false,.slice none 0 0] 122)=w0 at *;have HG:Hid (w.heap.size<w0.heap.size):=hid (by rw[←rC,qab];omega);clear rC
 go_loopw [0,3] (fun x v wr=>∃m k:Nat,∃lo:List Nat,x = .int .i64 m∧Hid (m≤n)∧Hid (lo.length=k)∧Hid (∀d ∈ lo,d<D9)∧Hid (val D9 lo+D9^k*m=n)∧Hid (wr.ownsRow w0.heap.size 3 1 v k ((zi lo).map (Value.int .i64)))∧Hid (Below w0.heap.size w0 wr)) (fun x _ _=>(intOf x).toNat)
 case atStart=>exact⟨n,0,[],rfl,hid (qac _),hid rfl,hid (by simp),hid (by simp),hid (World.ownsRow_nil _ _ _ _),hid (qaa _ _)⟩
 case round=>
  obtain⟨m,k,lo,rfl,HM,HL,lF,HV,bF,HB⟩:=hrel;rcases qas m with e|hm
  ·subst e
   have cO:Hid (val D9 lo=n):=hid (by have:=HV.out;rw[Nat.mul_zero] at this;exact this);have yK:=hid (qjd bF.out HL.out lF.out);have dV:=hid (qg3 false _ lo wr yK.out);rw[cO.out] at dV;have aK:Hid (Below w.heap.size w wr):=hid (aM.out.trans (HB.out.mono (by have:=HG.out;omega)));have ho:Own wr w.heap.size 2 (qiq false (.slice none 0 0)):=mV.out.later (HB.out.mono (by have:=HG.out;omega));have HO:=hid ho;clear ho;have hz:(((0:Nat):Int) != 0)=false:=rfl;have eK:decide ((n:Int)<0)=false:=qaf (by omega);go_wp2_with fail;refine dV.out.mono ?_;rintro e w1 ⟨⟨v1,rfl,h1⟩,aZ⟩;obtain⟨pt,kt,ct,rfl,hk,_⟩:=h1.parts;have sM:=hid h1;have ho:Own w1 w.heap.size 2 (qiq false (.slice none 0 0)):=HO.out.later (aZ.mono HO.out.1);have fB:=hid ho;have aP:=hid (aK.out.trans (aZ.mono aK.out.size));obtain⟨r0,g0⟩:=ho.2 0 (by omega);obtain⟨r1,g1⟩:=ho.2 1 (by omega);clear h1 aZ hk ho;generalize iJ:decide ((if false=true then -(n:Int) else(n:Int))<0)=sg at *;clear iJ;have aF:=hid (qeq sM.out fB.out);have aG:=hid (qfo aP.out (qac _) (.bool sg) (.slice pt kt ct));go_wp2_with fail;refine bodyPost_ret (v := .agg #[.bool sg,.slice pt kt ct]) ?_ rfl ?_
   ·simp[results,Tryz.results85,go_sem,r0,r1]
   ·exact⟨⟨_,rfl,aF.out⟩,aG.out⟩
  ·have hk:k≤1000:=by
    rcases Nat.lt_or_ge k 3 with h|h
    ·omega
    ·exfalso
     have h1:D9^3≤D9^k:=Nat.pow_le_pow_right (by decide) h;have h2:D9^k*1≤D9^k*m:=Nat.mul_le_mul_left _ hm;have h3:=HV.out;have h4:=kA.out;have h5:D9^3=1000000000000000000000000000:=by decide
     omega
   have Li:m<9223372036854775808:=by have h1:=HM.out;have h2:=kA.out;omega
   have hz:((m:Int) != 0)=true:=by simp;omega
   have eU:(m:Int).tmod 1000000000=((m % 1000000000:Nat):Int):=by rw[Int.tmod_eq_emod_of_nonneg (by omega)];omega
   have fL:(m:Int)/1000000000=((m/1000000000:Nat):Int):=by omega
   have nQ:m % 1000000000≤999999999:=by omega
   have eV:Hid (m/1000000000≤n):=hid (by have:=HM.out;omega);have aY:m/1000000000<m:=by omega
   have lS:=hid aY;have uU:Hid ((lo++[m % 1000000000]).length=k+1):=hid (by rw[List.length_append,HL.out];rfl);have jC:Hid (∀d ∈ lo++[m % 1000000000],d<D9):=hid (qf5 lF.out (by rw[qb2];omega));have cO:Hid (val D9 (lo++[m % 1000000000])+D9^(k+1)*(m/1000000000)=n):=hid (by rw[qzu lo k m HL.out];exact HV.out);have HZ:Hid (zi (lo++[m % 1000000000])=zi lo++[((m % 1000000000:Nat):Int)]):=hid (qh9 _ _);have hmi:(m:Int)≤9223372036854775807:=by omega
   clear aY Li;generalize m % 1000000000=d at *;generalize hq:m/1000000000=q at *;clear hq;go_wp2_with (at_builtin;refine qhu rfl _ _ rfl w0 _ w0.heap.size k _ (zi lo) _ (by rfl) bF.out HB.out (qac _) (by rfl) (by omega) ?_);rintro v' w2 hown' hbw';have fH:Hid (w2.ownsRow w0.heap.size 3 1 v' (k+1) ((zi (lo++[d])).map (Value.int .i64))):=hid (by rw[HZ.out,List.map_append];exact hown');have cZ:=hid hbw';clear hown' hbw' bF HB;go_wp2_with fail;go_roundw
   case rel=>exact⟨q,k+1,_,rfl,eV,uU,jC,cO,fH,cZ⟩
   case measure=>simp[intOf];have:=lS.out;omega
theorem zas(a b:Nat)(w:World)(ha:a<9223372036854775808)(hb:b<9223372036854775808):
  Calls Tryz.prog 121 #[.int .i64 a,.int .i64 b] w fun e w'=>e = .returned (.int .i64 (Nat.gcd a b:Nat))∧Below w.heap.size w w':=by
 have hai:(a:Int)≤9223372036854775807:=by omega
 have hbi:(b:Int)≤9223372036854775807:=by omega
 clear ha hb;go_enter Tryz.func121,Tryz.ntmps121;go_wp2_with fail
 go_loopw [0,1] (fun u v wr=>∃x y:Nat,u = .int .i64 x∧v = .int .i64 y∧(x:Int)≤9223372036854775807∧(y:Int)≤9223372036854775807∧Hid (Nat.gcd x y=Nat.gcd a b)∧Hid (Below w.heap.size w wr)) (fun _ v _=>(intOf v).toNat)
 case atStart=>exact⟨a,b,rfl,rfl,hai,hbi,hid rfl,hid (qaa _ _)⟩
 case round=>
  obtain⟨x,y,rfl,rfl,hx,hy,HG,HB⟩:=hrel;rcases qas y with e|h
  ·subst e
   have HE:Hid (Nat.gcd a b=x):=hid (by rw[←HG.out,Nat.gcd_zero_right]);have hd:decide ((0:Int)<((0:Nat):Int))=false:=rfl;go_wp2_with fail;go_ret;exact⟨qa1 (by rw[HE.out]),HB.out⟩
  ·have hd:(0:Int)<(y:Int):=by omega
   have hz:((y:Int)==0)=false:=qam (by omega);have t3:(x:Int) % (y:Int)=((x % y:Nat):Int):=(Int.natCast_emod x y).symm;have t4:(x:Int).tmod (y:Int)=((x % y:Nat):Int):=by rw[Int.tmod_eq_emod_of_nonneg (by omega)];exact t3
   have mW:Hid (Nat.gcd y (x % y)=Nat.gcd a b):=hid (by rw[←HG.out,Nat.gcd_comm x y,Nat.gcd_rec y x,Nat.gcd_comm]);have aY:x % y<y:=Nat.mod_lt _ h;have lS:=hid aY;have hr:((x % y:Nat):Int)≤9223372036854775807:=by omega
   clear aY h;generalize x % y=r at *;go_wp2_with fail
   go_quiet (fail)
   go_wp2_with fail;go_roundw
   case rel=>exact⟨y,r,rfl,rfl,hy,hr,mW,hid (below_drewN HB.out _)⟩
   case measure=>simp[intOf];have:=lS.out;omega
def q2m:Value→Nat
 | .string s=>s.size
 | _=>0
theorem q78(d:Nat)(h:d<10):((⟨#[48,49,50,51,52,53,54,55,56,57]⟩:BA).extract d (d+1)).data.toList=[dig d]:=by
 match d,h with
 | 0,_=>rfl
 | 1,_=>rfl
 | 2,_=>rfl
 | 3,_=>rfl
 | 4,_=>rfl
 | 5,_=>rfl
 | 6,_=>rfl
 | 7,_=>rfl
 | 8,_=>rfl
 | 9,_=>rfl
def qr7(n least:Nat):Nat:=max least (qff n).length
theorem qtz{n least k:Nat}:k<qr7 n least↔0<n/10^k∨k<least:=by
 unfold qr7
 have h1:0<n/10^k↔k<(qff n).length:=by
  constructor
  ·intro h
   rcases Nat.lt_or_ge k (qff n).length with h2|h2
   ·exact h2
   ·exfalso
    have h3:=qe6 n;have h4:10^(qff n).length≤10^k:=Nat.pow_le_pow_right (by omega) h2;rw[Nat.div_eq_of_lt (by omega)] at h;omega
  ·intro h
   rcases qas (n/10^k) with h2|h2
   ·exfalso
    have h3:n<10^k:=by
     rcases Nat.lt_or_ge n (10^k) with h4|h4
     ·exact h4
     ·have:=Nat.div_pos h4 (Nat.pow_pos (by omega));omega
    have:=qb0 k n h3;omega
   ·exact h2
 rw[h1];omega
theorem qn4(n least:Nat)(w:World)(hn:n<9223372036854775808)(hl:least≤9):
  Calls Tryz.prog 122 #[.int .i64 n,.int .i64 least] w fun e w'=>(∃t:BA,e = .returned (.string t)∧t.data.toList=(pd (qr7 n least) n).reverse)∧w'=w:=by
 have hni:(n:Int)≤9223372036854775807:=by omega
 have HK:Hid (qr7 n least≤100):=hid (by
  unfold qr7;have:=qb0 19 n (by omega)
  omega)
 clear hn;go_enter Tryz.func122,Tryz.ntmps122;go_wp2_with fail
 go_loopw [0,5] (fun u v wr=>∃m k:Nat,∃s:BA,u = .int .i64 m∧v = .string s∧(m:Int)≤9223372036854775807∧Hid (m=n/10^k)∧Hid (k≤qr7 n least)∧s.size=k∧Hid (s.data.toList=(pd k n).reverse)∧wr=w) (fun _ v _=>qr7 n least-q2m v)
 case atStart=>exact⟨n,0,⟨#[]⟩,rfl,rfl,hni,hid (by simp),hid (Nat.zero_le _),rfl,hid rfl,rfl⟩
 case round=>
  obtain⟨m,k,s,rfl,rfl,hm,HM,HKL,dK,HS,rfl⟩:=hrel;have sS:=hid dK;have hs100:(s.size:Int)≤100:=by have h1:=HKL.out;have h2:=HK.out;omega
  by_cases hc:k<qr7 n least
  ·have Mc:=hc
   rw[qtz,←HM.out] at Mc;have eU:(m:Int).tmod 10=((m % 10:Nat):Int):=by rw[Int.tmod_eq_emod_of_nonneg (by omega)];omega
   have fL:(m:Int)/10=((m/10:Nat):Int):=by omega
   have HT:=hid (q78 (m % 10) (by omega));have yK:Hid (dig (m % 10)=dig (n/10^k)):=hid (by rw[←HM.out];exact qrk (by omega));have eV:Hid (m/10=n/10^(k+1)):=hid (by rw[HM.out,Nat.div_div_eq_div_mul,Nat.pow_succ]);have hd:((m % 10:Nat):Int)≤9:=by omega
   have hq:((m/10:Nat):Int)≤9223372036854775807:=by omega
   have HC:=hid hc;have qN:m % 10<10:=Nat.mod_lt _ (by omega)
   have hslc:∀w:World,(Instr.slice 9 (.string ⟨#[48,49,50,51,52,53,54,55,56,57]⟩) (some (.int .i64 ((m % 10:Nat):Int))) (some (.int .i64 (((m % 10:Nat):Int)+1))) none).run Tryz.prog w = .ok (.string ((⟨#[48,49,50,51,52,53,54,55,56,57]⟩:BA).extract (m % 10) (m % 10+1))) w:=fun w=>
    run_slice_string w 9 _ .i64 .i64 _ _ Tryz.underlying9 (by omega) (by omega) (by show((m % 10:Nat):Int)+1≤10;omega)
   have fR:0<m∨(¬0<m∧s.size<least):=by
    rcases Mc with h|h
    ·exact .inl h
    ·rcases qas m with h2|h2
     ·exact .inr ⟨by omega,by omega⟩
     ·exact .inl h2
   clear hc Mc dK qN;generalize (⟨#[48,49,50,51,52,53,54,55,56,57]⟩:BA).extract (m % 10) (m % 10+1)=ch at *;generalize sN:m % 10=d at *;generalize Cm:m/10=q at *;have HD0:=hid (And.intro sN Cm);clear sN Cm
   have cL:Hid ((ch++s).data.toList=(pd (k+1) n).reverse):=hid (by
    rw[qu4,List.reverse_append,←HS.out];have h1:=HT.out;rw[yK.out] at h1;show(ch++s).data.toList=[dig (n/10^k)]++s.data.toList
    rw[←h1];simp)
   have xJ:Hid ((ch++s).size=k+1):=hid (by
    have h1:=congrArg List.length cL.out;rw[List.length_reverse,qle] at h1
    simpa using h1)
   have HSZ3:Hid ((ch++s).size=s.size+1):=hid (by rw[xJ.out,sS.out])
   have Cr:¬9223372036854775807<ch.size+s.size:=by
    have h1:=congrArg List.length HT.out;have h2:ch.size=1:=by simpa using h1
    omega
   have oE:(q:Int)≤9223372036854775807:=hq;rcases fR with g1|⟨g1,g2⟩
   all_goals
    go_wp2_with fail;go_roundw
    case rel=>exact⟨q,k+1,ch++s,by go_num,rfl,oE,eV,hid HC.out,xJ.out,cL,trivial⟩
    case measure=>show qr7 n least-(ch++s).size<qr7 n least-s.size;rw[xJ.out];have:=HC.out;have:=sS.out;omega
  ·have Mc:=hc
   rw[qtz,←HM.out] at Mc;have HE:Hid (qr7 n least=k):=hid (by have:=HKL.out;omega);have mT:m=0:=by omega
   subst m;have g2:¬s.size<least:=by omega
   clear Mc hc dK;go_wp2_with fail;go_ret;exact⟨⟨s,rfl,by rw[HE.out];exact HS.out⟩,rfl⟩
theorem qqw:∀(k h d:Nat),0<h→d<10^k→qff (h*10^k+d)=qff h++(pd k d).reverse
 | 0,h,d,_,hd=>by
  have:d=0:=by simpa using hd
  subst this;simp[pd]
 | k+1,h,d,hh,hd=>by
  have hp:0<h*10^(k+1):=Nat.mul_pos hh (Nat.pow_pos (by omega))
  have e1:(h*10^(k+1)+d)/10=h*10^k+d/10:=by
   rw[Nat.pow_succ,←Nat.mul_assoc];omega
  have e2:dig (h*10^(k+1)+d)=dig d:=qrk (by rw[Nat.pow_succ,←Nat.mul_assoc];omega);rw[qdk (by omega),e1,e2,qqw k h (d/10) hh (by rw[Nat.pow_succ] at hd;omega),pd,List.reverse_cons,List.append_assoc]
theorem q6w(d:Nat)(h:0<d):(pd (qr7 d 1) d).reverse=qff d:=by
 have e:qr7 d 1=(qff d).length:=by
  unfold qr7
  have:0<(qff d).length:=by
   rw[qdk h];simp
  omega
 have key:∀k n,(qff n).length=k→(pd k n).reverse=qff n:=by
  intro k
  induction k with
  | zero=>intro n h;rw[List.length_eq_zero_iff.1 h];rfl
  | succ k ih=>
   intro n hn
   have rT:0<n:=by
    rcases qas n with e|e
    ·rw[e,qcy] at hn;cases hn
    ·exact e
   rw[qdk rT,List.length_append] at hn;rw[pd,List.reverse_cons,ih (n/10) (by simpa using hn),←qdk rT]
 rw[e];exact key _ d rfl
theorem q2n{d:Nat}(h:d<1000000000):qr7 d 9=9:=by
 unfold qr7;have:=qb0 9 d (by omega);omega
def qbf(z:Int):List UInt8:=(if z<0 then[45] else[])++qax z.natAbs
theorem q2o{l:List Nat}{N:Nat}(h:l.length=N+1):qbn D9 l N=l.getD N 0:=by
 rw[qbx,qdj D9 l (N+1) (by omega)];omega
theorem q2p(va:Value)(z:Int)(w:World)(ha:qdb w va z)(hl:dl z.natAbs≤1000):
  Calls Tryz.prog 84 #[va] w fun e w'=>(∃t:BA,e = .returned (.string t)∧t.data.toList=qbf z)∧Below w.heap.size w w':=by
 obtain⟨pa,ka,ca,rfl,tS,fN⟩:=ha.parts;have dM:Hid (∀o,Below w.heap.size w (w.alloc o)):=hid fun o=>(qaa _ w).alloc (qac _) o;rcases qas ka with e|kV
 ·have hz:z.natAbs=0:=by
   rcases qas z.natAbs with h|h
   ·exact h
   ·have:=qxo.2 h;omega
  have cU:z=0:=by omega
  subst cU e;clear fN ha hl tS hz;have sO:((((0:Nat):Int))==0)=true:=rfl;go_enter Tryz.func84,Tryz.ntmps84;go_wp2_with fail;go_ret;exact⟨⟨⟨#[48]⟩,rfl,rfl⟩,dM.out _⟩
 ·obtain⟨N,hN⟩:∃N,ka=N+1:=⟨ka-1,by omega⟩
  obtain⟨hd,p,c,he,bO,bG,aA⟩:=fN;have hLl:(qan D9 z.natAbs).length=N+1:=by rw[←hN];exact tS.symm
  have HV:Hid (qbn D9 (qan D9 z.natAbs) 0=z.natAbs):=hid (by rw[high_zero,qar _ _ qbg])
  have jI:(qan D9 z.natAbs).getD N 0≠0:=by
   have hne:qan D9 z.natAbs≠[]:=by intro e;rw[e] at hLl;simp at hLl
   have e1:=List.dropLast_concat_getLast hne;have h1:=qiw qbg e1.symm
   have:(qan D9 z.natAbs).getD N 0=(qan D9 z.natAbs).getLast hne:=by
    rw[List.getLast_eq_getElem,qba,qap (by omega)];simp[hLl]
   rw[this];exact h1
  rw[hLl] at he aA bO
  injection he with he1 he2 he3
  subst he1 he3;rcases aA with h0|⟨b,o,rfl,aB⟩
  ·omega
  have bL:Hid (∀W,Below w.heap.size w W→∀i,i<N+1→W.cell? ⟨b,o+i,none⟩=some (.int .i64 ((qan D9 z.natAbs).getD i 0:Nat))):=hid fun W hW i hi=>by
   have h1:=aB i hi;rw[hW.cell (p:=⟨b,o+i,none⟩) (qae w _ h1)];exact h1
  have hNb:N≤1000:=by omega
  have HZ:Hid (qax z.natAbs=qff z.natAbs):=hid (by
   unfold qax;rw[if_neg];intro e;rw[e,qat] at hLl
   cases hLl)
  have HD:=hid hd;have HLl:=hid hLl;have Rp:=hid (Nat.pos_of_ne_zero jI)
  have Ju:Hid (decide (z<0)=true∧z<0∨decide (z<0)=false∧¬z<0):=hid (by
   rcases Int.lt_or_le z 0 with h|h
   ·exact .inl ⟨qag h,h⟩
   ·exact .inr ⟨qaf (by omega),by omega⟩)
  have hni:((N:Int)+1)-1=(N:Int):=by omega
  have hni2:((N:Int)+1)-2=(N:Int)-1:=by omega
  clear hd aB jI hLl kV tS ha hl hN bO bG;generalize qan D9 z.natAbs=l at *;generalize decide (z<0)=sx at *;have HT9:Hid (l.getD N 0<1000000000):=hid (by have:=qaz (b:=D9) (by decide) HD.out N;rw[qb2] at this;exact this);have lI:Hid (∀i,i<N+1→(w.alloc (.cells #[.bool sx,.slice (some ⟨b,o,none⟩) (N+1) ca] 122)).cell? ⟨b,o+i,none⟩=some (.int .i64 (l.getD i 0:Nat))):=hid fun i hi=>bL.out _ (dM.out _) i hi;have bM:=hid (dM.out (.cells #[.bool sx,.slice (some ⟨b,o,none⟩) (N+1) ca] 122));have aC:=lI.out N (by omega);have Rq:=hid (fun W=>qn4 (l.getD N 0) 1 W (by have:=HT9.out;omega) (by omega));have Eo:=hid (q2o HLl.out);have sO:(((N:Int)+1)==0)=false:=qam (by omega);have zT:=hid (q6w (l.getD N 0) Rp.out);have HP9:Hid ((qff (l.getD N 0)).length≤9):=hid (qb0 9 _ (by have:=HT9.out;omega));generalize htp:l.getD N 0=tp at *;have fG:=hid htp;clear htp;go_enter Tryz.func84,Tryz.ntmps84;go_wp2_with fail;refine(Rq.out _).mono ?_;rintro e w1 ⟨⟨t1,rfl,eW⟩,rfl⟩;rw[zT.out] at eW;have cV:=hid eW
  have dN:Hid (t1.size≤9):=hid (by
                      have h1:=congrArg List.length eW;have h2:t1.size=(qff tp).length:=by simpa using h1
                      rw[h2];exact HP9.out)
  clear eW aC Rq;go_wp2_with fail;have cY:∀o,(w.alloc o).cell? ⟨w.heap.size,1,none⟩=(w.alloc o).cell? ⟨w.heap.size,1,none⟩:=fun _=>rfl;clear cY
  go_loopw [3,4] (fun s i wr=>∃k:Nat,∃s':BA,k≤N∧s = .string s'∧i = .int .i64 ((k:Int)-1)∧Hid (s'.data.toList=qff (qbn D9 l k))∧Hid (0<qbn D9 l k)∧s'.size≤9*(N+1-k)∧wr=w.alloc (.cells #[.bool sx,.slice (some ⟨b,o,none⟩) (N+1) ca] 122)) (fun _ i _=>(intOf i+1).toNat)
  case atStart=>exact⟨N,t1,qac _,rfl,by go_num,hid (by rw[Eo.out];exact cV.out),hid (by rw[Eo.out];exact Rp.out),by have:=dN.out;omega,rfl⟩
  case round=>
   obtain⟨k,s,hk,rfl,rfl,HS,HH,dK,rfl⟩:=hrel;rcases k with _|j
   ·rw[HV.out] at HS
    have hni3:((0:Nat):Int)-1 = -1:=rfl;have Cr:¬9223372036854775807<1+s.size:=by omega
    rcases Ju.out with⟨h1,h2⟩|⟨h1,h2⟩
    ·subst h1
     have aV:Hid (((⟨#[45]⟩:BA)++s).data.toList=qbf z):=hid (by
      unfold qbf;rw[if_pos h2,HZ.out,←HS.out]
      simp)
     clear h2;go_wp2_with fail;go_ret;exact⟨⟨_,rfl,aV.out⟩,bM.out⟩
    ·subst h1
     have aV:Hid (s.data.toList=qbf z):=hid (by
      unfold qbf;rw[if_neg (by omega),HZ.out,←HS.out]
      simp)
     clear h2;go_wp2_with fail;go_ret;exact⟨⟨_,rfl,aV.out⟩,bM.out⟩
   ·have jN:((j+1:Nat):Int)-1=(j:Int):=by omega
    simp only[jN];have aC:=lI.out j (by omega);have nQ:l.getD j 0<1000000000:=by have:=qaz (b:=D9) (by decide) HD.out j;rw[qb2] at this;exact this
    have Qq:=hid (qbx D9 l j)
    have Rq:Hid (∀W,Calls Tryz.prog 122 #[.int .i64 (l.getD j 0:Nat),.int .i64 9] W fun e w'=>(∃t:BA,e = .returned (.string t)∧t.data.toList=(pd 9 (l.getD j 0)).reverse)∧w'=W):=hid fun W=>by
     have h:=qn4 (l.getD j 0) 9 W (by omega) (by omega);rw[q2n nQ] at h;exact h
    have HBLK:=hid (qqw 9 (qbn D9 l (j+1)) (l.getD j 0) HH.out (by omega));have HD9:Hid (l.getD j 0<1000000000):=hid nQ;clear nQ;generalize l.getD j 0=d at *;go_wp2_with fail;refine(Rq.out _).mono ?_;rintro e w1 ⟨⟨t2,rfl,gT⟩,rfl⟩
    have cL:Hid ((s++t2).data.toList=qff (qbn D9 l j)):=hid (by
     rw[Qq.out,Nat.add_comm,Nat.mul_comm D9];have h1:=HBLK.out;rw[show(10:Nat)^9=D9 from rfl] at h1
     rw[h1,←HS.out,←gT];simp)
    have h9:t2.size=9:=by
     have h1:=congrArg List.length gT;rw[List.length_reverse,qle] at h1
     simpa using h1
    have Cr:¬9223372036854775807<s.size+t2.size:=by omega
    have Db:Hid (0<qbn D9 l j):=hid (by rw[Qq.out];have:=Nat.mul_pos (show 0<D9 by decide) HH.out;omega);have sS:Hid ((s++t2).size≤9*(N+1-j)):=hid (by rw[ByteArray.size_append];omega);clear gT aC Rq;go_wp2_with fail;go_roundw
    case rel=>exact⟨j,s++t2,by omega,rfl,by go_num,cL,Db,sS.out,trivial⟩
    case measure=>simp[intOf]
theorem qqx(r:List UInt8)(k:Nat)(h:k≤r.length):qbd 0 r=qbd 0 (r.take (r.length-k))*10^k+qbd 0 (r.drop (r.length-k)):=by
 conv=>lhs;rw[←List.take_append_drop (r.length-k) r]
 rw[qkl,qjo,List.length_drop]
 congr 3
 omega
theorem qca{x y:BA}(h:x.data.toList=y.data.toList):x=y:=by
 obtain⟨⟨l⟩⟩:=x;obtain⟨⟨m⟩⟩:=y;simp at h;rw[h]
theorem qqy{lo:List Nat}{k a b n:Nat}(hl:lo.length=k)(h:val D9 lo+D9^k*(a*10^9+b)=n):val D9 (lo++[b])+D9^(k+1)*a=n:=by
 rw[qed,hl,Nat.pow_succ,←h,Nat.mul_add,Nat.mul_assoc,show(10:Nat)^9=D9 from rfl,Nat.mul_comm a D9];omega
theorem qv4(s t:BA)(neg:Bool)(w:World)(hs:s.data.toList=(if neg then[45] else[])++t.data.toList)(hd:∀c ∈ t.data.toList,isD c=true)(ht:0<t.size)(dK:s.size≤10000):
  Calls Tryz.prog 118 #[.string s] w fun e w'=>(∃v,e = .returned v∧qdb w' v (if neg then -(qbd 0 t.data.toList:Int) else(qbd 0 t.data.toList:Int)))∧Below w.heap.size w w':=by
 have aE:s.size=(if neg then 1 else 0)+t.size:=by
  have h:=congrArg List.length hs;rw[List.length_append] at h;have e1:s.data.toList.length=s.size:=by simp
  have e2:t.data.toList.length=t.size:=by simp
  rw[e1,e2] at h;rw[h];cases neg<;>rfl
 have iA:0<s.size:=by omega
 have eY:((s[0]'iA).toNat:Int)=45∧neg=true∨((s[0]'iA).toNat:Int)≠45∧neg=false:=by
  have h1:s.data.toList[0]'(by simpa using iA)=s[0]'iA:=qdv s 0 iA;cases neg
  ·right
   refine⟨?_,rfl⟩;have h2:s.data.toList=t.data.toList:=hs;have h3:isD (s[0]'iA)=true:=hd _ (by rw[←h1,←h2];exact List.getElem_mem _);unfold isD at h3;have:=of_decide_eq_true h3;omega
  ·left
   refine⟨?_,rfl⟩;rw[←h1];simp only[hs];rfl
 have pH:∀h:0<s.size,((s[0]'h).toNat:Int)=((s[0]'iA).toNat:Int):=fun _=>rfl
 have oU:Hid (neg=true→(s.extract 1 s.size)=t):=hid fun h=>by
  apply qca;rw[Lib.extract_data,hs,if_pos h];simp;rw[List.take_of_length_le (by simp[aE,h])]
 have fX:Hid (neg=false→s=t):=hid fun h=>by
  apply qca;rw[hs,h];rfl
 generalize ((s[0]'iA).toNat:Int)=ch at *;have aM:Hid (Below w.heap.size w (w.alloc (.cells #[.bool false,.slice none 0 0] 122))):=hid (qad _ _);have mV:=hid (qeb w false (.slice none 0 0));have HD:=hid hd;have Jw:t.size≤10000:=by omega
 have bX:=hid ht;have Jk:(0:Int)<(s.size:Int):=by omega
 clear hs aE hd ht;rcases eY with⟨h1,h2⟩|⟨h1,h2⟩
 ·subst h1 h2
  have hext:=oU.out rfl;have hb:((45:Int)==45)=true:=rfl;go_enter Tryz.func118,Tryz.ntmps118;go_wp2_with fail;generalize rC:w.alloc (.cells #[.bool false,.slice none 0 0] 122)=w0 at *;have HG:Hid (w.heap.size<w0.heap.size):=hid (by rw[←rC,qab];omega);clear rC
  go_loopw [0,4] (fun u v wr=>∃r:BA,∃k:Nat,∃lo:List Nat,u = .string r∧r.size≤10000∧k≤10000∧9*k+r.size≤10000∧Hid (0<r.size)∧Hid (lo.length=k)∧Hid (∀d ∈ lo,d<D9)∧Hid (∀c ∈ r.data.toList,isD c=true)∧Hid (val D9 lo+D9^k*qbd 0 r.data.toList=qbd 0 t.data.toList)∧Hid (wr.ownsRow w0.heap.size 3 1 v k ((zi lo).map (Value.int .i64)))∧Hid (Below w0.heap.size w0 wr)) (fun u _ _=>q2m u)
  case atStart=>exact⟨t,0,[],rfl,Jw,by omega,by omega,bX,hid rfl,hid (by simp),HD,hid (by simp),hid (World.ownsRow_nil _ _ _ _),hid (qaa _ _)⟩
  case round=>
   obtain⟨r,k,lo,rfl,hr,hk,hrk,sH,HL,lF,cJ,HV,bF,HB⟩:=hrel;by_cases hc:9<r.size
   ·have HA:Hid ((r.extract (r.size-9) r.size).data.toList=r.data.toList.drop (r.data.toList.length-9)):=hid (by
     rw[Lib.extract_data,List.take_of_length_le (by simp)];simp)
    have aW:Hid ((r.extract 0 (r.size-9)).data.toList=r.data.toList.take (r.data.toList.length-9)):=hid (by
     rw[Lib.extract_from_zero];simp)
    have e9:(r.size:Int)-9=((r.size-9:Nat):Int):=by omega
    have oL:Hid ((r.extract (r.size-9) r.size).size=9):=hid (by
     have h:=congrArg List.length HA.out;rw[List.length_drop] at h;have h2:r.data.toList.length=r.size:=by simp
     have h3:(r.extract (r.size-9) r.size).data.toList.length=(r.extract (r.size-9) r.size).size:=by simp
     omega)
    have cP:Hid ((r.extract 0 (r.size-9)).size=r.size-9):=hid (by
     have h:=congrArg List.length aW.out;rw[List.length_take] at h;have h2:r.data.toList.length=r.size:=by simp
     have h3:(r.extract 0 (r.size-9)).data.toList.length=(r.extract 0 (r.size-9)).size:=by simp
     omega)
    have gD:=hid (qqx r.data.toList 9 (by simp;omega));rw[←HA.out,←aW.out] at gD;have gF:Hid (∀c ∈ (r.extract (r.size-9) r.size).data.toList,isD c=true):=hid fun c hc=>cJ.out c (by rw[HA.out] at hc;exact List.mem_of_mem_drop hc);have fV:Hid (∀c ∈ (r.extract 0 (r.size-9)).data.toList,isD c=true):=hid fun c hc=>cJ.out c (by rw[aW.out] at hc;exact List.mem_of_mem_take hc);have mS:(0:Int)≤((r.size-9:Nat):Int):=by omega
    have pN:((r.size-9:Nat):Int)≤(r.size:Int):=by omega
    have Md:r.size-9≤r.size:=by omega
    have iT:=hid (fun W=>qqt (r.extract (r.size-9) r.size) W gF.out (by rw[oL.out];omega));have nK:=hid (qft (r.extract (r.size-9) r.size).data.toList gF.out);have wQ:Hid (r.size-9<r.size):=hid (by omega);have Jx:Hid (0<r.size-9):=hid (by omega);have aZ:((r.size-9:Nat):Int).toNat=r.size-9:=by omega
    have h9k:9*(k+1)+(r.size-9)≤10000:=by omega
    clear HA aW;generalize hra:r.extract (r.size-9) r.size=ra at *;generalize Fx:r.extract 0 (r.size-9)=rb at *;generalize hm:r.size-9=m9 at *;generalize xP:qbd 0 ra.data.toList=iB at *;have HM:=hid (And.intro hm xP);clear hm xP
    have nQ:iB<1000000000:=by
     have h:=nK.out;have h2:ra.data.toList.length=9:=by have:=oL.out;simpa using this
     rw[h2] at h;exact h
    have uU:Hid ((lo++[iB]).length=k+1):=hid (by rw[List.length_append,HL.out];rfl);have jC:Hid (∀d ∈ lo++[iB],d<D9):=hid (qf5 lF.out (by rw[qb2];exact nQ));have cO:Hid (val D9 (lo++[iB])+D9^(k+1)*qbd 0 rb.data.toList=qbd 0 t.data.toList):=hid (qqy HL.out (by rw[←gD.out];exact HV.out));have HZ:Hid (zi (lo++[iB])=zi lo++[((iB:Nat):Int)]):=hid (qh9 _ _);clear HV gD nK nQ;go_wp2_with fail;refine(iT.out _).mono ?_;rintro e w1 ⟨rfl,rfl⟩;go_wp2_with (at_builtin;refine qhu rfl _ _ rfl w0 _ w0.heap.size k _ (zi lo) _ (by rfl) bF.out HB.out (qac _) (by rfl) (by omega) ?_);rintro v' w2 hown' hbw';have fH:Hid (w2.ownsRow w0.heap.size 3 1 v' (k+1) ((zi (lo++[iB])).map (Value.int .i64))):=hid (by rw[HZ.out,List.map_append];exact hown');have cZ:=hid hbw';clear hown' hbw' bF HB iT;go_wp2_with fail;go_roundw
    case rel=>exact⟨rb,k+1,_,rfl,by rw[cP.out];omega,by omega,by rw[cP.out];omega,hid (by rw[cP.out];exact Jx.out),uU,jC,fV,cO,fH,cZ⟩
    case measure=>show rb.size<r.size;rw[cP.out];exact wQ.out
   ·have iT:=hid (fun W=>qqt r W cJ.out (by omega))
    have nK:=hid (qft r.data.toList cJ.out);have hngt:¬9<r.size:=hc;obtain⟨iB,xP⟩:∃d,d=qbd 0 r.data.toList:=⟨_,rfl⟩
    have nQ:iB<1000000000:=by
     have h:=nK.out;have h2:r.data.toList.length≤9:=by simp;omega
     have h3:=Nat.pow_le_pow_right (show 0<10 by omega) h2;omega
    have uU:Hid ((lo++[iB]).length=k+1):=hid (by rw[List.length_append,HL.out];rfl);have jC:Hid (∀d ∈ lo++[iB],d<D9):=hid (qf5 lF.out (by rw[qb2];exact nQ));have cO:Hid (val D9 (lo++[iB])=qbd 0 t.data.toList):=hid (by rw[qed,HL.out,xP];exact HV.out);have HZ:Hid (zi (lo++[iB])=zi lo++[((iB:Nat):Int)]):=hid (qh9 _ _);rw[←xP] at iT
    have dV:Hid (∀W v,Dgs W v (lo++[iB])→Calls Tryz.prog 124 #[.bool true,v] W fun e w'=>(∃v,e = .returned v∧qdb w' v (if true=true then -(qbd 0 t.data.toList:Int) else(qbd 0 t.data.toList:Int)))∧Below W.heap.size W w'):=hid fun W v hv=>by
     have h:=qg3 true v (lo++[iB]) W hv;rw[cO.out] at h;exact h
    clear HV nK nQ xP hc;generalize sO:(if true=true then -(qbd 0 t.data.toList:Int) else(qbd 0 t.data.toList:Int))=z at *;have HZZ:=hid sO;clear sO;go_wp2_with fail;refine(iT.out _).mono ?_;rintro e w1 ⟨rfl,rfl⟩;go_wp2_with (at_builtin;refine qhu rfl _ _ rfl w0 _ w0.heap.size k _ (zi lo) _ (by rfl) bF.out HB.out (qac _) (by rfl) (by omega) ?_);rintro v' w2 hown' hbw';have yK:Hid (Dgs w2 v' (lo++[iB])):=hid (qjd (by rw[HZ.out,List.map_append];exact hown') uU.out jC.out);have aK:Hid (Below w.heap.size w w2):=hid (aM.out.trans (hbw'.mono (by have:=HG.out;omega)));have HO:Hid (Own w2 w.heap.size 2 (qiq false (.slice none 0 0))):=hid (mV.out.later (hbw'.mono (by have:=HG.out;omega)));clear hown' hbw' bF HB iT;go_wp2_with fail;refine(dV.out _ _ yK.out).mono ?_;rintro e w3 ⟨⟨v3,rfl,h3⟩,cN⟩;obtain⟨pt,kt,ct,rfl,hk3,_⟩:=h3.parts;have sM:=hid h3;have ho:Own w3 w.heap.size 2 (qiq false (.slice none 0 0)):=HO.out.later (cN.mono HO.out.1);have fB:=hid ho;have bR:=hid (aK.out.trans (cN.mono aK.out.size));obtain⟨r0,g0⟩:=ho.2 0 (by omega);obtain⟨r1,g1⟩:=ho.2 1 (by omega);clear h3 cN hk3 ho;generalize iJ:decide (z<0)=sg at *;clear iJ;have aF:=hid (qeq sM.out fB.out);have aG:=hid (qfo bR.out (qac _) (.bool sg) (.slice pt kt ct));go_wp2_with fail;refine bodyPost_ret (v := .agg #[.bool sg,.slice pt kt ct]) ?_ rfl ?_
    ·simp[results,Tryz.results118,go_sem,r0,r1]
    ·exact⟨⟨_,rfl,by have e:=HZZ.out;simp only[if_true,Bool.false_eq_true,if_false] at e;rw[e];exact aF.out⟩,aG.out⟩
 ·subst h2
  have jT:=fX.out rfl;have hb:(ch==45)=false:=qam h1;subst s;clear h1;go_enter Tryz.func118,Tryz.ntmps118;go_wp2_with fail;generalize rC:w.alloc (.cells #[.bool false,.slice none 0 0] 122)=w0 at *;have HG:Hid (w.heap.size<w0.heap.size):=hid (by rw[←rC,qab];omega);clear rC
  go_loopw [0,4] (fun u v wr=>∃r:BA,∃k:Nat,∃lo:List Nat,u = .string r∧r.size≤10000∧k≤10000∧9*k+r.size≤10000∧Hid (0<r.size)∧Hid (lo.length=k)∧Hid (∀d ∈ lo,d<D9)∧Hid (∀c ∈ r.data.toList,isD c=true)∧Hid (val D9 lo+D9^k*qbd 0 r.data.toList=qbd 0 t.data.toList)∧Hid (wr.ownsRow w0.heap.size 3 1 v k ((zi lo).map (Value.int .i64)))∧Hid (Below w0.heap.size w0 wr)) (fun u _ _=>q2m u)
  case atStart=>exact⟨t,0,[],rfl,Jw,by omega,by omega,bX,hid rfl,hid (by simp),HD,hid (by simp),hid (World.ownsRow_nil _ _ _ _),hid (qaa _ _)⟩
  case round=>
   obtain⟨r,k,lo,rfl,hr,hk,hrk,sH,HL,lF,cJ,HV,bF,HB⟩:=hrel;by_cases hc:9<r.size
   ·have HA:Hid ((r.extract (r.size-9) r.size).data.toList=r.data.toList.drop (r.data.toList.length-9)):=hid (by
     rw[Lib.extract_data,List.take_of_length_le (by simp)];simp)
    have aW:Hid ((r.extract 0 (r.size-9)).data.toList=r.data.toList.take (r.data.toList.length-9)):=hid (by
     rw[Lib.extract_from_zero];simp)
    have e9:(r.size:Int)-9=((r.size-9:Nat):Int):=by omega
    have oL:Hid ((r.extract (r.size-9) r.size).size=9):=hid (by
     have h:=congrArg List.length HA.out;rw[List.length_drop] at h;have h2:r.data.toList.length=r.size:=by simp
     have h3:(r.extract (r.size-9) r.size).data.toList.length=(r.extract (r.size-9) r.size).size:=by simp
     omega)
    have cP:Hid ((r.extract 0 (r.size-9)).size=r.size-9):=hid (by
     have h:=congrArg List.length aW.out;rw[List.length_take] at h;have h2:r.data.toList.length=r.size:=by simp
     have h3:(r.extract 0 (r.size-9)).data.toList.length=(r.extract 0 (r.size-9)).size:=by simp
     omega)
    have gD:=hid (qqx r.data.toList 9 (by simp;omega));rw[←HA.out,←aW.out] at gD;have gF:Hid (∀c ∈ (r.extract (r.size-9) r.size).data.toList,isD c=true):=hid fun c hc=>cJ.out c (by rw[HA.out] at hc;exact List.mem_of_mem_drop hc);have fV:Hid (∀c ∈ (r.extract 0 (r.size-9)).data.toList,isD c=true):=hid fun c hc=>cJ.out c (by rw[aW.out] at hc;exact List.mem_of_mem_take hc);have mS:(0:Int)≤((r.size-9:Nat):Int):=by omega
    have pN:((r.size-9:Nat):Int)≤(r.size:Int):=by omega
    have Md:r.size-9≤r.size:=by omega
    have iT:=hid (fun W=>qqt (r.extract (r.size-9) r.size) W gF.out (by rw[oL.out];omega));have nK:=hid (qft (r.extract (r.size-9) r.size).data.toList gF.out);have wQ:Hid (r.size-9<r.size):=hid (by omega);have Jx:Hid (0<r.size-9):=hid (by omega);have aZ:((r.size-9:Nat):Int).toNat=r.size-9:=by omega
    have h9k:9*(k+1)+(r.size-9)≤10000:=by omega
    clear HA aW;generalize hra:r.extract (r.size-9) r.size=ra at *;generalize Fx:r.extract 0 (r.size-9)=rb at *;generalize hm:r.size-9=m9 at *;generalize xP:qbd 0 ra.data.toList=iB at *;have HM:=hid (And.intro hm xP);clear hm xP
    have nQ:iB<1000000000:=by
     have h:=nK.out;have h2:ra.data.toList.length=9:=by have:=oL.out;simpa using this
     rw[h2] at h;exact h
    have uU:Hid ((lo++[iB]).length=k+1):=hid (by rw[List.length_append,HL.out];rfl);have jC:Hid (∀d ∈ lo++[iB],d<D9):=hid (qf5 lF.out (by rw[qb2];exact nQ));have cO:Hid (val D9 (lo++[iB])+D9^(k+1)*qbd 0 rb.data.toList=qbd 0 t.data.toList):=hid (qqy HL.out (by rw[←gD.out];exact HV.out));have HZ:Hid (zi (lo++[iB])=zi lo++[((iB:Nat):Int)]):=hid (qh9 _ _);clear HV gD nK nQ;go_wp2_with fail;refine(iT.out _).mono ?_;rintro e w1 ⟨rfl,rfl⟩;go_wp2_with (at_builtin;refine qhu rfl _ _ rfl w0 _ w0.heap.size k _ (zi lo) _ (by rfl) bF.out HB.out (qac _) (by rfl) (by omega) ?_);rintro v' w2 hown' hbw';have fH:Hid (w2.ownsRow w0.heap.size 3 1 v' (k+1) ((zi (lo++[iB])).map (Value.int .i64))):=hid (by rw[HZ.out,List.map_append];exact hown');have cZ:=hid hbw';clear hown' hbw' bF HB iT;go_wp2_with fail;go_roundw
    case rel=>exact⟨rb,k+1,_,rfl,by rw[cP.out];omega,by omega,by rw[cP.out];omega,hid (by rw[cP.out];exact Jx.out),uU,jC,fV,cO,fH,cZ⟩
    case measure=>show rb.size<r.size;rw[cP.out];exact wQ.out
   ·have iT:=hid (fun W=>qqt r W cJ.out (by omega))
    have nK:=hid (qft r.data.toList cJ.out);have hngt:¬9<r.size:=hc;obtain⟨iB,xP⟩:∃d,d=qbd 0 r.data.toList:=⟨_,rfl⟩
    have nQ:iB<1000000000:=by
     have h:=nK.out;have h2:r.data.toList.length≤9:=by simp;omega
     have h3:=Nat.pow_le_pow_right (show 0<10 by omega) h2;omega
    have uU:Hid ((lo++[iB]).length=k+1):=hid (by rw[List.length_append,HL.out];rfl);have jC:Hid (∀d ∈ lo++[iB],d<D9):=hid (qf5 lF.out (by rw[qb2];exact nQ));have cO:Hid (val D9 (lo++[iB])=qbd 0 t.data.toList):=hid (by rw[qed,HL.out,xP];exact HV.out);have HZ:Hid (zi (lo++[iB])=zi lo++[((iB:Nat):Int)]):=hid (qh9 _ _);rw[←xP] at iT
    have dV:Hid (∀W v,Dgs W v (lo++[iB])→Calls Tryz.prog 124 #[.bool false,v] W fun e w'=>(∃v,e = .returned v∧qdb w' v (if false=true then -(qbd 0 t.data.toList:Int) else(qbd 0 t.data.toList:Int)))∧Below W.heap.size W w'):=hid fun W v hv=>by
     have h:=qg3 false v (lo++[iB]) W hv;rw[cO.out] at h;exact h
    clear HV nK nQ xP hc;generalize sO:(if false=true then -(qbd 0 t.data.toList:Int) else(qbd 0 t.data.toList:Int))=z at *;have HZZ:=hid sO;clear sO;go_wp2_with fail;refine(iT.out _).mono ?_;rintro e w1 ⟨rfl,rfl⟩;go_wp2_with (at_builtin;refine qhu rfl _ _ rfl w0 _ w0.heap.size k _ (zi lo) _ (by rfl) bF.out HB.out (qac _) (by rfl) (by omega) ?_);rintro v' w2 hown' hbw';have yK:Hid (Dgs w2 v' (lo++[iB])):=hid (qjd (by rw[HZ.out,List.map_append];exact hown') uU.out jC.out);have aK:Hid (Below w.heap.size w w2):=hid (aM.out.trans (hbw'.mono (by have:=HG.out;omega)));have HO:Hid (Own w2 w.heap.size 2 (qiq false (.slice none 0 0))):=hid (mV.out.later (hbw'.mono (by have:=HG.out;omega)));clear hown' hbw' bF HB iT;go_wp2_with fail;refine(dV.out _ _ yK.out).mono ?_;rintro e w3 ⟨⟨v3,rfl,h3⟩,cN⟩;obtain⟨pt,kt,ct,rfl,hk3,_⟩:=h3.parts;have sM:=hid h3;have ho:Own w3 w.heap.size 2 (qiq false (.slice none 0 0)):=HO.out.later (cN.mono HO.out.1);have fB:=hid ho;have bR:=hid (aK.out.trans (cN.mono aK.out.size));obtain⟨r0,g0⟩:=ho.2 0 (by omega);obtain⟨r1,g1⟩:=ho.2 1 (by omega);clear h3 cN hk3 ho;generalize iJ:decide (z<0)=sg at *;clear iJ;have aF:=hid (qeq sM.out fB.out);have aG:=hid (qfo bR.out (qac _) (.bool sg) (.slice pt kt ct));go_wp2_with fail;refine bodyPost_ret (v := .agg #[.bool sg,.slice pt kt ct]) ?_ rfl ?_
    ·simp[results,Tryz.results118,go_sem,r0,r1]
    ·exact⟨⟨_,rfl,by have e:=HZZ.out;simp only[if_true,Bool.false_eq_true,if_false] at e;rw[e];exact aF.out⟩,aG.out⟩
theorem qer(q:Rat):qa2 q=qbf q.num++(if q.den=1 then[] else 47::qax q.den):=by unfold qa2 qbf;rfl
theorem q6x(c:UInt8)(h:isD c=true):c≠47:=by
 intro e;subst e;revert h;decide
theorem qm1(z:Int):∀c ∈ qbf z,c≠47:=by
 intro c hc;unfold qbf at hc;rcases List.mem_append.1 hc with h|h
 ·split at h
  ·rw[List.mem_singleton.1 h];decide
  ·cases h
 ·exact q6x c (qez _ c h)
theorem qb6(n:Nat):qbf (n:Int)=qax n:=by
 unfold qbf;rw[if_neg (by omega),Int.natAbs_natCast];rfl
theorem qqz(l r:List UInt8)(h:∀c ∈ l,c≠47):sl (l++47::r)=l.length:=by
 unfold sl
 induction l with
 | nil=>rw[List.nil_append,List.findIdx_cons];rfl
 | cons a l ih=>
  have ha:(a==47)=false:=by simpa using h a (by simp)
  rw[List.cons_append,List.findIdx_cons,ha,ih (fun c hc=>h c (by simp[hc]))];rfl
theorem qv5(z:Int):0<(qbf z).length:=by
 unfold qbf;have:=List.length_pos_iff.2 (qgq z.natAbs);rw[List.length_append];omega
theorem qv6(s:BA)(z:Int)(w:World)(hs:s.data.toList=qbf z)(dK:s.size≤10000):
  Calls Tryz.prog 118 #[.string s] w fun e w'=>(∃v,e = .returned v∧qdb w' v z)∧Below w.heap.size w w':=by
 have h:=qv4 s ⟨(qax z.natAbs).toArray⟩ (decide (z<0)) w (by
  rw[hs];unfold qbf;rcases Int.lt_or_le z 0 with h|h
  ·rw[if_pos h,qag h];rfl
  ·rw[if_neg (by omega),qaf (by omega)];rfl) (fun c hc=>qez _ c hc) (by
  have:=List.length_pos_iff.2 (qgq z.natAbs)
  simpa [ByteArray.size] using this) dK
 have e:(if decide (z<0)=true then -(qbd 0 (⟨(qax z.natAbs).toArray⟩:BA).data.toList:Int) else(qbd 0 (⟨(qax z.natAbs).toArray⟩:BA).data.toList:Int))=z:=by
  show(if decide (z<0)=true then -(qbd 0 (qax z.natAbs):Int) else(qbd 0 (qax z.natAbs):Int))=z;rw[qdw];rcases Int.lt_or_le z 0 with h|h
  ·rw[qag h,if_pos rfl];omega
  ·rw[qaf (by omega),if_neg (by decide)];omega
 rw[e] at h;exact h
def qnh(w W:World):Prop:=Below w.heap.size w W∧Own W w.heap.size 2 (qiq false (.slice none 0 0))∧Own W (w.heap.size+1) 2 (qiq false (.slice none 0 0))
theorem qnh.later{w W W':World}(h:qnh w W)(hb:Below W.heap.size W W'):qnh w W':=by
 obtain⟨h1,h2,h3⟩:=h;have:=h3.1;exact⟨h1.trans (hb.mono h1.size),h2.later (hb.mono (by omega)),h3.later (hb.mono (by omega))⟩
theorem qt0(w:World):qnh w ((w.alloc (.cells #[.bool false,.slice none 0 0] 122)).alloc (.cells #[.bool false,.slice none 0 0] 122)):=by
 have h1:=qeb w false (.slice none 0 0);have h2:=qeb (w.alloc (.cells #[.bool false,.slice none 0 0] 122)) false (.slice none 0 0);rw[qab] at h2;exact⟨(qad _ _).alloc (by rw[qab];omega) _,qjg h1 _,h2⟩
theorem qlu{w W:World}(h:qnh w W){s1 s2:Bool}{t1 t2:Value}{z1 z2:Int}(h1:qdb W (.agg #[.bool s1,t1]) z1)(h2:qdb W (.agg #[.bool s2,t2]) z2):
  let W':=(((W.setCell ⟨w.heap.size,0,none⟩ (.bool s1)).setCell ⟨w.heap.size,1,none⟩ t1).setCell ⟨w.heap.size+1,0,none⟩ (.bool s2)).setCell ⟨w.heap.size+1,1,none⟩ t2
  qdb W' (.agg #[.bool s1,t1]) z1∧qdb W' (.agg #[.bool s2,t2]) z2∧Below w.heap.size w W':=by
 obtain⟨hb,o1,o2⟩:=h;have k:∀(V:World) (g i g' j:Nat) (x:Value),(g,i)≠(g',j)→(V.setCell ⟨g,i,none⟩ x).cell? ⟨g',j,none⟩=V.cell? ⟨g',j,none⟩:=fun V g i g' j x hne=>World.cell?_setCell_other _ _ _ _ (by intro e;injection e with e1 e2;exact hne (by rw[e1,e2]))
 have key:∀v n,DN W v n→DN ((((W.setCell ⟨w.heap.size,0,none⟩ (.bool s1)).setCell ⟨w.heap.size,1,none⟩ t1).setCell ⟨w.heap.size+1,0,none⟩ (.bool s2)).setCell ⟨w.heap.size+1,1,none⟩ t2) v n:=by
  intro v n hv;refine(((hv.setOther (o1.2 0 (by omega)).1 (by intro k z h;cases h)).setOther (u := .slice none 0 0) ?_ (by intro k z h;cases h)).setOther (u := .bool false) ?_ (by intro k z h;cases h)).setOther (u := .slice none 0 0) ?_ (by intro k z h;cases h)
  ·rw[k _ _ _ _ _ _ (by simp)];exact(o1.2 1 (by omega)).1
  ·rw[k _ _ _ _ _ _ (by simp),k _ _ _ _ _ _ (by simp)];exact(o2.2 0 (by omega)).1
  ·rw[k _ _ _ _ _ _ (by simp),k _ _ _ _ _ _ (by simp),k _ _ _ _ _ _ (by simp)];exact(o2.2 1 (by omega)).1
 obtain⟨v1,e1,d1⟩:=h1;obtain⟨v2,e2,d2⟩:=h2;exact⟨⟨v1,e1,key _ _ d1⟩,⟨v2,e2,key _ _ d2⟩,(((hb.setCell (p:=⟨w.heap.size,0,none⟩) (qac _) _).setCell (p:=⟨w.heap.size,1,none⟩) (qac _) _).setCell (p:=⟨w.heap.size+1,0,none⟩) (show w.heap.size≤w.heap.size+1 by omega) _).setCell (p:=⟨w.heap.size+1,1,none⟩) (show w.heap.size≤w.heap.size+1 by omega) _⟩
theorem qjw(a:BA)(z:Int)(D:Nat)(h:a.data.toList=qbf z++(if D=1 then[] else 47::qax D)):
  (D=1→sl a.data.toList=a.size∧a.data.toList=qbf z)∧
  (D≠1→sl a.data.toList+1≤a.size∧(a.extract 0 (sl a.data.toList)).data.toList=qbf z∧(a.extract (sl a.data.toList+1) a.size).data.toList=qbf (D:Int)):=by
 constructor
 ·intro hd
  rw[if_pos hd,List.append_nil] at h;refine⟨?_,h⟩;rw[h,qv3 (qm1 _),←h];simp
 ·intro hd
  rw[if_neg hd] at h;have hs:sl a.data.toList=(qbf z).length:=by rw[h];exact qqz _ _ (qm1 _)
  have aE:a.size=(qbf z).length+(1+(qax D).length):=by
   have h1:=congrArg List.length h;rw[List.length_append,List.length_cons] at h1;have h2:a.data.toList.length=a.size:=by simp
   omega
  refine⟨by omega, ?_, ?_⟩
  ·rw[Lib.extract_from_zero,hs,h,List.take_left]
  ·rw[Lib.extract_data,hs,h,qb6,List.take_of_length_le (by simp;omega)]
   rw[show(qbf z).length+1=(qbf z++[47]).length by simp,show qbf z++47::qax D=(qbf z++[47])++qax D by simp,List.drop_left]
theorem q2q(a:BA)(z:Int)(D:Nat)(w:World)(h:a.data.toList=qbf z++(if D=1 then[] else 47::qax D))(dK:a.size≤5000):
  Calls Tryz.prog 70 #[.string a] w fun e w'=>(∃v1 v2,e = .returned (.tuple #[v1,v2])∧qdb w' v1 z∧qdb w' v2 (D:Int))∧Below w.heap.size w w':=by
 obtain⟨yJ,Ca⟩:=qjw a z D h;have aT:=hid (fun W=>qqu a W (by omega));have Rs:sl a.data.toList≤a.size:=by have:=q5t a.data.toList;simpa using this
 have aM:=hid (qt0 w);clear h;by_cases hd:D=1
 ·obtain⟨h1,h2⟩:=yJ hd
  rw[h1] at aT;have Rt:=hid hd;have HPZ:Hid (∀W,Calls Tryz.prog 118 #[.string a] W fun e w'=>(∃v,e = .returned v∧qdb w' v z)∧Below W.heap.size W w'):=hid fun W=>qv6 a z W h2 (by omega);have xM:=hid (fun W=>q6v 1 W (by omega));clear yJ Ca h1 h2 hd Rs;have Pk:((a.size:Int)==(a.size:Int))=true:=beq_self_eq_true _;go_enter Tryz.func70,Tryz.ntmps70;go_wp2_with fail;generalize (w.alloc (.cells #[.bool false,.slice none 0 0] 122)).alloc (.cells #[.bool false,.slice none 0 0] 122)=w0 at *;refine(aT.out _).mono ?_;rintro e w1 ⟨rfl,rfl⟩;go_wp2_with fail;refine(HPZ.out _).mono ?_;rintro e w2 ⟨⟨v1,rfl,h1⟩,aZ⟩;have cV:Hid (qnh w w2):=hid (aM.out.later aZ);have gS:=hid h1;clear h1 aZ;go_wp2_with fail;refine(xM.out _).mono ?_;rintro e w3 ⟨⟨v2,rfl,h2⟩,aR⟩;have ht:=cV.out.later aR;have mI:=gS.out.later aR;obtain⟨p1,k1,c1,rfl,jN,_⟩:=mI.parts;obtain⟨p2,k2,c2,rfl,oH,_⟩:=h2.parts;have aF:=hid (qlu ht mI h2);obtain⟨r0,g0⟩:=ht.2.1.2 0 (by omega);obtain⟨r1,g1⟩:=ht.2.1.2 1 (by omega);obtain⟨r2,g2⟩:=ht.2.2.2 0 (by omega);obtain⟨r3,g3⟩:=ht.2.2.2 1 (by omega);have qY:Hid (((1:Nat):Int)=(D:Int)):=hid (by rw[Rt.out]);clear h2 aR ht mI jN oH cV gS;generalize decide (z<0)=s1 at *;generalize decide (((1:Nat):Int)<0)=s2 at *;go_wp2_with fail;refine bodyPost_ret (v := .tuple #[.agg #[.bool s1,.slice p1 k1 c1],.agg #[.bool s2,.slice p2 k2 c2]]) ?_ rfl ?_
  ·simp[results,Tryz.results70,go_sem,r0,r1,r2,r3]
  ·exact⟨⟨_,_,rfl,aF.out.1,by rw[←qY.out];exact aF.out.2.1⟩,aF.out.2.2⟩
 ·obtain⟨h1,h2,h3⟩:=Ca hd
  obtain⟨K,hK⟩:∃K,K=sl a.data.toList:=⟨_,rfl⟩;rw[←hK] at aT h1 h2 h3;have Bq:Hid (∀W,Calls Tryz.prog 118 #[.string (a.extract 0 K)] W fun e w'=>(∃v,e = .returned v∧qdb w' v z)∧Below W.heap.size W w'):=hid fun W=>qv6 _ z W h2 (by rw[ByteArray.size_extract];omega);have yC:Hid (∀W,Calls Tryz.prog 118 #[.string (a.extract (K+1) a.size)] W fun e w'=>(∃v,e = .returned v∧qdb w' v (D:Int))∧Below W.heap.size W w'):=hid fun W=>qv6 _ _ W h3 (by rw[ByteArray.size_extract];omega);have Pk:((K:Int)==(a.size:Int))=false:=qam (by omega);have hKi:(K:Int)+1≤(a.size:Int):=by omega
  have hKn:K+1≤a.size:=h1;have hK0:(0:Int)≤(K:Int)+1:=by omega
  have hKb:(K:Int)≤5000:=by omega
  have hKw:IntKind.i64.wrap ((K:Int)+1)=(K:Int)+1:=by rw[IntKind.wrap_i64];omega
  have hKl:K≤a.size:=by omega
  have hKlt:K<a.size:=by omega
  have hKt:((K:Int)+1).toNat=K+1:=by omega
  have dO:∀W:World,(Instr.slice 9 (.string a) none (some (.int .i64 (K:Int))) none).run Tryz.prog W = .ok (.string (a.extract 0 K)) W:=fun W=>run_slice_string_h W 9 a Tryz.underlying9 .i64 (K:Int) (by omega) (by omega)
  have fS:∀W:World,(Instr.slice 9 (.string a) (some (.int .i64 ((K:Int)+1))) none none).run Tryz.prog W = .ok (.string (a.extract (K+1) a.size)) W:=fun W=>by
   have h:=run_slice_string_l W 9 a Tryz.underlying9 .i64 ((K:Int)+1) (by omega) (by omega);rw[hKt] at h;exact h
  clear yJ Ca h1 h2 h3 hd Rs hK;go_enter Tryz.func70,Tryz.ntmps70;go_wp2_with fail;generalize (w.alloc (.cells #[.bool false,.slice none 0 0] 122)).alloc (.cells #[.bool false,.slice none 0 0] 122)=w0 at *;refine(aT.out _).mono ?_;rintro e w1 ⟨rfl,rfl⟩;go_wp2_with fail;have oU:Hid (qnh w w1.drew):=hid (aM.out.later ((qaa _ _).drew));have wS:Hid (w.heap.size≤w1.drew.heap.size):=hid oU.out.1.size
  go_region_held3 (fun W=>w.heap.size≤W.heap.size) (first|exact cL.out|exact dN.out|exact wS.out|(have hz:=cL.out;simpa using hz))
   (first
    | (go_at_call 118;first
      | ((with_reducible refine(Bq.out _).mono ?_);rintro e w2 ⟨⟨v1,rfl,h1⟩,aZ⟩;have cV:Hid (qnh w w2):=hid (oU.out.later aZ);have dN:Hid (w.heap.size≤w2.heap.size):=hid cV.out.1.size;have gS:=hid h1;clear h1 aZ)
      | ((with_reducible refine(yC.out _).mono ?_);rintro e w3 ⟨⟨v2,rfl,h2⟩,aR⟩;have ht:=cV.out.later aR;have mI:=gS.out.later aR;obtain⟨p1,k1,c1,rfl,jN,_⟩:=mI.parts;obtain⟨p2,k2,c2,rfl,oH,_⟩:=h2.parts;have aF:=hid (qlu ht mI h2);have cL:Hid (w.heap.size≤w3.heap.size):=hid ht.1.size;obtain⟨r0,g0⟩:=ht.2.1.2 0 (by omega);obtain⟨r1,g1⟩:=ht.2.1.2 1 (by omega);obtain⟨r2,g2⟩:=ht.2.2.2 0 (by omega);obtain⟨r3,g3⟩:=ht.2.2.2 1 (by omega);clear h2 aR ht mI jN oH cV gS;generalize decide (z<0)=s1 at *;generalize decide ((D:Int)<0)=s2 at *)))
  go_wp2_with fail;refine bodyPost_ret (v := .tuple #[.agg #[.bool s1,.slice p1 k1 c1],.agg #[.bool s2,.slice p2 k2 c2]]) ?_ rfl ?_
  ·simp[results,Tryz.results70,go_sem,r0,r1,r2,r3]
  ·exact⟨⟨_,_,rfl,aF.out.1,aF.out.2.1⟩,aF.out.2.2⟩
theorem q90(a:BA)(q:Rat)(w:World)(h:a.data.toList=qa2 q)(dK:a.size≤5000):
  Calls Tryz.prog 70 #[.string a] w fun e w'=>(∃v1 v2,e = .returned (.tuple #[v1,v2])∧qdb w' v1 q.num∧qdb w' v2 (q.den:Int))∧Below w.heap.size w w':=
 q2q a q.num q.den w (by rw[h,qer]) dK
theorem qjx(z:Int)(d:Nat)(hd:0<d):(mkRat z d).num=(if decide (z<0)=true then -((z.natAbs/Nat.gcd z.natAbs d:Nat):Int) else((z.natAbs/Nat.gcd z.natAbs d:Nat):Int))∧(mkRat z d).den=d/Nat.gcd z.natAbs d:=by
 have rE:0<Nat.gcd z.natAbs d:=Nat.gcd_pos_of_pos_right _ hd;obtain⟨n,h1,h2,h3⟩:=qfy z (Nat.gcd z.natAbs d) rE (Nat.gcd_dvd_left _ _);have hD:d/Nat.gcd z.natAbs d*Nat.gcd z.natAbs d=d:=Nat.div_mul_cancel (Nat.gcd_dvd_right _ _)
 have Ai:d/Nat.gcd z.natAbs d≠0:=by
  have:0<d/Nat.gcd z.natAbs d:=Nat.div_pos (Nat.le_of_dvd hd (Nat.gcd_dvd_right _ _)) rE;omega
 have rF:n.natAbs.Coprime (d/Nat.gcd z.natAbs d):=by
  rw[h2];exact Nat.coprime_div_gcd_div_gcd rE
 have hq:mkRat z d=mkRat n (d/Nat.gcd z.natAbs d):=by
  refine(Rat.mkRat_eq_iff (by omega) Ai).2 ?_
  conv=>lhs;rw[←h1]
  conv=>rhs;rw[←hD]
  rw[Int.natCast_mul]
  grind
 obtain⟨e1,e2⟩:=qma _ n _ Ai rF hq;rw[e1,e2];refine⟨?_,rfl⟩;rw[←h2];rcases Int.lt_or_le z 0 with h|h
 ·have:=h3.2 h
  rw[qag h,if_pos rfl];omega
 ·have:¬n<0:=fun e=>by have:=h3.1 e;omega
  rw[qaf (by omega),if_neg (by decide)];omega
def qlv(w:World)(na:Bool)(ta:Value)(nb:Bool)(tb:Value)(W:World):Prop:=
 Below w.heap.size w W∧Own W w.heap.size 2 (qiq na ta)∧Own W (w.heap.size+1) 2 (qiq nb tb)
theorem qlv.later{w:World}{na nb:Bool}{ta tb:Value}{W W':World}(h:qlv w na ta nb tb W)(hb:Below W.heap.size W W'):qlv w na ta nb tb W':=by
 obtain⟨h1,h2,h3⟩:=h;have:=h3.1;exact⟨h1.trans (hb.mono h1.size),h2.later (hb.mono (by omega)),h3.later (hb.mono (by omega))⟩
theorem qku(w:World)(na:Bool)(ta:Value)(nb:Bool)(tb:Value):
  qlv w na ta nb tb ((w.alloc (.cells #[.bool na,ta] 122)).alloc (.cells #[.bool nb,tb] 122)):=by
 have h1:=qeb w na ta;have h2:=qeb (w.alloc (.cells #[.bool na,ta] 122)) nb tb;rw[qab] at h2;exact⟨(qad _ _).alloc (by rw[qab];omega) _,qjg h1 _,h2⟩
theorem qbb{w:World}{na nb:Bool}{ta tb:Value}{W:World}(h:qlv w na ta nb tb W):
  W.cell? ⟨w.heap.size,0,none⟩=some (.bool na)∧W.cell? ⟨w.heap.size,1,none⟩=some ta∧W.cell? ⟨w.heap.size+1,0,none⟩=some (.bool nb)∧W.cell? ⟨w.heap.size+1,1,none⟩=some tb:=
 ⟨(h.2.1.2 0 (by omega)).1,(h.2.1.2 1 (by omega)).1,(h.2.2.2 0 (by omega)).1,(h.2.2.2 1 (by omega)).1⟩
theorem qni{w:World}{na nb:Bool}{ta tb:Value}{W:World}(h:qlv w na ta nb tb W):
  W.frozen? ⟨w.heap.size,0,none⟩=false∧W.frozen? ⟨w.heap.size,1,none⟩=false∧W.frozen? ⟨w.heap.size+1,0,none⟩=false∧W.frozen? ⟨w.heap.size+1,1,none⟩=false:=
 ⟨(h.2.1.2 0 (by omega)).2,(h.2.1.2 1 (by omega)).2,(h.2.2.2 0 (by omega)).2,(h.2.2.2 1 (by omega)).2⟩
def qhk(w:World)(na:Bool)(ta:Value)(nb:Bool)(tb:Value)(m n:Nat)(W:World):Prop:=qlv w na ta nb tb W∧DN W ta m∧DN W tb n
theorem qhk.later{w:World}{na nb:Bool}{ta tb:Value}{m n:Nat}{W W':World}(h:qhk w na ta nb tb m n W)(hb:Below W.heap.size W W'):qhk w na ta nb tb m n W':=⟨h.1.later hb,h.2.1.later hb,h.2.2.later hb⟩
theorem q2r{n k:Nat}(h:dl n≤k):(qff n).length≤9*k:=by
 refine qb0 (9*k) n ?_;have h2:=qch D9 n qbg;have h3:D9^(qan D9 n).length≤D9^k:=Nat.pow_le_pow_right (by decide) h;have h4:D9^k=10^(9*k):=by rw[Nat.pow_mul];rfl
 rw[←h4];exact Nat.lt_of_lt_of_le h2 h3
theorem qic{z:Int}(h:dl z.natAbs≤900):(qbf z).length≤10000:=by
 unfold qbf
 have h5:(qax z.natAbs).length≤8101:=by
  unfold qax;split
  ·simp
  ·exact Nat.le_trans (q2r h) (by omega)
 rw[List.length_append];have h6:(if z<0 then([45]:List UInt8) else[]).length≤1:=by split<;>simp
 omega
theorem qlw(va vb:Value)(x:Int)(D0:Nat)(w:World)(ha:qdb w va x)(hb:qdb w vb (D0:Int))(Ai:0<D0)(pQ:dl x.natAbs≤900)(pP:dl D0≤900):
  Calls Tryz.prog 74 #[va,vb] w fun e w'=>(∃t:BA,e = .returned (.string t)∧t.data.toList=qa2 (mkRat x D0))∧Below w.heap.size w w':=by
 obtain⟨pa,ka,ca,rfl,tS,fN⟩:=ha.parts;obtain⟨pb,kb,cb,rfl,nP,gL⟩:=hb.parts;clear tS nP;rw[Int.natAbs_natCast] at gL;have hsb:decide ((D0:Int)<0)=false:=qaf (by omega);rw[hsb];have gF:=hid fN;have fV:=hid gL;have jO:=hid pQ;have kN:=hid pP;clear ha hb fN gL hsb pQ pP;have Jy:=qjx x D0 Ai;have fT:=hid Jy.1;obtain⟨D,hDD⟩:∃D,D=D0/Nat.gcd x.natAbs D0:=⟨_,rfl⟩;have Aj:Hid ((mkRat x D0).den=D):=hid (by rw[Jy.2,hDD]);have rY:Hid (0<Nat.gcd x.natAbs D0):=hid (Nat.gcd_pos_of_pos_right _ Ai);have pJ:Hid (dl D≤900):=hid (Nat.le_trans (qpf (by rw[hDD];exact Nat.div_le_self _ _)) kN.out);have hJ:Hid (dl (x.natAbs/Nat.gcd x.natAbs D0)≤900):=hid (Nat.le_trans (qpf (Nat.div_le_self _ _)) jO.out)
 have aX:Hid ((qbf (mkRat x D0).num).length≤10000):=hid (by
  have h1:(mkRat x D0).num.natAbs=x.natAbs/Nat.gcd x.natAbs D0:=by
   rw[fT.out];split<;>simp only[Int.natAbs_neg,Int.natAbs_natCast]
  exact qic (by rw[h1];exact hJ.out))
 have bW:Hid ((qbf (D:Int)).length≤10000):=hid (qic (by rw[Int.natAbs_natCast];exact pJ.out))
 have Ak:Hid (∀W,qhk w (decide (x<0)) (.slice pa ka ca) false (.slice pb kb cb) x.natAbs D0 W→Calls Tryz.prog 71 #[(.slice pa ka ca),(.slice pb kb cb)] W fun e w'=>(∃v',e = .returned v'∧DN w' v' (Nat.gcd x.natAbs D0))∧qhk w (decide (x<0)) (.slice pa ka ca) false (.slice pb kb cb) x.natAbs D0 w'):=hid fun W hW=>
  (qv2 _ _ _ _ W hW.2.1 hW.2.2 jO.out kN.out).mono fun _ _ ⟨h1,h2⟩=>⟨h1,hW.later h2⟩
 have rZ:Hid (∀W v,qhk w (decide (x<0)) (.slice pa ka ca) false (.slice pb kb cb) x.natAbs D0 W→DN W v (Nat.gcd x.natAbs D0)→Calls Tryz.prog 119 #[(.slice pa ka ca),v] W fun e w'=>(∃vq vr,e = .returned (.tuple #[vq,vr])∧DN w' vq (x.natAbs/Nat.gcd x.natAbs D0)∧DN w' vr (x.natAbs % Nat.gcd x.natAbs D0))∧DN w' v (Nat.gcd x.natAbs D0)∧qhk w (decide (x<0)) (.slice pa ka ca) false (.slice pb kb cb) x.natAbs D0 w'):=hid fun W v hW hv=>
  (qlt _ _ _ _ W hW.2.1 hv rY.out jO.out).mono fun _ _ ⟨h1,h2⟩=>⟨h1,hv.later h2,hW.later h2⟩
 have sA:Hid (∀W v,qhk w (decide (x<0)) (.slice pa ka ca) false (.slice pb kb cb) x.natAbs D0 W→DN W v (Nat.gcd x.natAbs D0)→Calls Tryz.prog 119 #[(.slice pb kb cb),v] W fun e w'=>(∃vq vr,e = .returned (.tuple #[vq,vr])∧DN w' vq D∧DN w' vr (D0 % Nat.gcd x.natAbs D0))∧Below W.heap.size W w'∧qhk w (decide (x<0)) (.slice pa ka ca) false (.slice pb kb cb) x.natAbs D0 w'):=hid fun W v hW hv=>
  (qlt _ _ _ _ W hW.2.2 hv rY.out kN.out).mono fun _ _ ⟨⟨vq,vr,h0,h1,h3⟩,h2⟩=>⟨⟨vq,vr,h0,by rw[hDD];exact h1,h3⟩,h2,hW.later h2⟩
 have dV:Hid (∀W v,qhk w (decide (x<0)) (.slice pa ka ca) false (.slice pb kb cb) x.natAbs D0 W→DN W v (x.natAbs/Nat.gcd x.natAbs D0)→Calls Tryz.prog 124 #[.bool (decide (x<0)),v] W fun e w'=>(∃v,e = .returned v∧qdb w' v (mkRat x D0).num)∧Below W.heap.size W w'):=hid fun W v hW hv=>by
  have h:=qg3 (decide (x<0)) v _ W hv;rw[qar _ _ qbg] at h;rw[fT.out];exact h
 have iI:Hid (∀W v,qdb W v (mkRat x D0).num→Calls Tryz.prog 84 #[v] W fun e w'=>(∃t:BA,e = .returned (.string t)∧t.data.toList=qbf (mkRat x D0).num)∧Below W.heap.size W w'):=hid fun W v hv=>q2p v _ W hv (by
  have h1:(mkRat x D0).num.natAbs=x.natAbs/Nat.gcd x.natAbs D0:=by
   rw[fT.out];split<;>simp only[Int.natAbs_neg,Int.natAbs_natCast]
  rw[h1];have:=hJ.out;omega)
 clear Jy hDD Ai;generalize decide (x<0)=sx at *;have aM:=hid (qku w sx (.slice pa ka ca) false (.slice pb kb cb));have HP:Hid (qhk w sx (.slice pa ka ca) false (.slice pb kb cb) x.natAbs D0 ((w.alloc (.cells #[.bool sx,.slice pa ka ca] 122)).alloc (.cells #[.bool false,.slice pb kb cb] 122))):=hid ⟨aM.out,gF.out.later aM.out.1,fV.out.later aM.out.1⟩;have jS:=qbb HP.out.1;go_enter Tryz.func74,Tryz.ntmps74;go_wp2_with fail;clear jS;refine(Ak.out _ HP.out).mono ?_;rintro e w2 ⟨⟨vg,rfl,hg⟩,hp⟩;have HG:=hid hg;have tH:=hid hp;have aA:=qbb hp.1;clear hg hp Ak;go_wp2_with fail;refine(rZ.out _ _ tH.out HG.out).mono ?_;rintro e w3 ⟨⟨vp,vpr,rfl,hq,_⟩,hg,hp⟩;have kL:=hid hq;have Ik:=hid hg;have Bp:=hid hp;clear aA;have aA:=qbb hp.1;clear hq hg hp rZ tH HG;go_wp2_with fail;refine(sA.out _ _ Bp.out Ik.out).mono ?_;rintro e w4 ⟨⟨vq,vqr,rfl,hq,_⟩,hb,hp⟩;have jR:=hid hq;have Al:=hid (kL.out.later hb);have uK:=hid hp;clear aA;have aA:=qbb hp.1;clear hq hb hp sA Bp Ik kL;go_wp2_with fail;refine(dV.out _ _ uK.out Al.out).mono ?_;rintro e w5 ⟨⟨vs,rfl,hs⟩,hb⟩;have zL:=hid hs;have Ru:=hid (jR.out.later hb);have lG:=hid (uK.out.1.1.trans (hb.mono uK.out.1.1.size));clear hs hb aA dV Al jR uK;go_wp2_with fail;refine(iI.out _ _ zL.out).mono ?_;rintro e w6 ⟨⟨t1,rfl,eW⟩,hb⟩;have cV:=hid eW;have xQ:=Ru.out.later hb;have lH:=hid (lG.out.trans (hb.mono lG.out.size));obtain⟨p6,k6,c6,rfl,Cb⟩:=qf6 xQ;have Rv:=hid xQ
 have dN:Hid (t1.size≤10000):=hid (by
  have h:=congrArg List.length eW;have h2:t1.data.toList.length=t1.size:=by simp
  rw[←h2,h];exact aX.out)
 clear eW hb zL Ru lG iI;have Jz:¬9223372036854775807<t1.size+1:=by have:=dN.out;omega
 by_cases hD:D=1
 ·have qN:qan D9 D=[1]:=by rw[hD];exact qds (by omega) (by decide)
  have jN:k6=1:=by rw[Cb];unfold dl;rw[qN];rfl
  have aC:∃b o,p6=some ⟨b,o,none⟩∧w6.cell? ⟨b,o,none⟩=some (.int .i64 1):=by
   obtain⟨_,p',c',he,_,_,hc⟩:=xQ;rw[qN] at he hc;cases he
   rcases hc with h0|⟨b,o,h1,h2⟩
   ·cases h0
   ·exact⟨b,o,h1,by have:=h2 0 (by simp);unfold dv at this;simpa using this⟩
  obtain⟨b,o,rfl,aC⟩:=aC;have aV:Hid (t1.data.toList=qa2 (mkRat x D0)):=hid (by rw[qer,Aj.out,if_pos hD,List.append_nil];exact cV.out);clear xQ Cb qN;subst jN;have g1:(((1:Nat):Int)==1)=true:=rfl;go_wp2_with fail;go_ret;exact⟨⟨_,rfl,aV.out⟩,lH.out⟩
 ·have Ka:Hid (∀W,DN W (.slice p6 k6 c6) D→Calls Tryz.prog 124 #[.bool false,.slice p6 k6 c6] W fun e w'=>(∃v,e = .returned v∧qdb w' v (D:Int))∧Below W.heap.size W w'):=hid fun W hW=>by
   have h:=qg3 false _ _ W hW;rw[qar _ _ qbg] at h;exact h
  have fZ:Hid (∀W v,qdb W v (D:Int)→Calls Tryz.prog 84 #[v] W fun e w'=>(∃t:BA,e = .returned (.string t)∧t.data.toList=qbf (D:Int))∧Below W.heap.size W w'):=hid fun W v hv=>q2p v (D:Int) W hv (by rw[Int.natAbs_natCast];have:=pJ.out;omega)
  have aV:Hid (∀t2:BA,t2.data.toList=qbf (D:Int)→(t1++⟨#[47]⟩++t2).data.toList=qa2 (mkRat x D0)):=hid fun t2 h2=>by
   rw[qer,Aj.out,if_neg hD,←cV.out,←qb6,←h2];simp
  have Am:=hid bW.out
  have vJ:(¬k6=1)∨(k6=1∧∃b o d,p6=some ⟨b,o,none⟩∧w6.cell? ⟨b,o,none⟩=some (.int .i64 ((d:Nat):Int))∧d≠1):=by
   by_cases h:k6=1
   ·refine .inr ⟨h, ?_⟩
    have xO:dl D=1:=by rw[←Cb];exact h
    obtain⟨h0,h9⟩:=qls xO;have qN:qan D9 D=[D]:=qds h0 (by rw[qb2];exact h9);obtain⟨_,p',c',he,_,_,hc⟩:=xQ;rw[qN] at he hc;cases he
    rcases hc with h0'|⟨b,o,h1,h2⟩
    ·cases h0'
    ·exact⟨b,o,D,h1,by have:=h2 0 (by simp);unfold dv at this;simpa using this,hD⟩
   ·exact .inl h
  clear xQ Cb hD;rcases vJ with hk|⟨hk,b,o,d,rfl,aC,hd⟩
  ·have g1:((k6:Int)==1)=false:=qam (by omega)
   go_wp2_with fail;refine(Ka.out _ Rv.out).mono ?_;rintro e w7 ⟨⟨v7,rfl,h7⟩,An⟩;have H7:=hid h7;have kK:=hid (lH.out.trans (An.mono lH.out.size));clear h7 An;go_wp2_with fail;refine(fZ.out _ _ H7.out).mono ?_;rintro e w8 ⟨⟨t2,rfl,gT⟩,Ao⟩;have qZ:=hid (kK.out.trans (Ao.mono kK.out.size));have cK:=hid (aV.out t2 gT)
   have Kb:t2.size≤10000:=by
    have h:=congrArg List.length gT;have h2:t2.data.toList.length=t2.size:=by simp
    rw[←h2,h];exact Am.out
   have Ap:¬9223372036854775807<(t1++⟨#[47]⟩:BA).size+t2.size:=by rw[ByteArray.size_append];show ¬9223372036854775807<t1.size+1+t2.size;have:=dN.out;omega
   have Aq:¬9223372036854775807<t1.size+1+t2.size:=by have:=dN.out;omega
   clear gT Ao;go_wp2_with fail;go_ret;exact⟨⟨_,rfl,cK.out⟩,qZ.out⟩
  ·have g1:(((1:Nat):Int)==1)=true:=rfl
   have g2:((d:Int)==1)=false:=qam (by omega);subst hk;go_wp2_with fail;refine(Ka.out _ Rv.out).mono ?_;rintro e w7 ⟨⟨v7,rfl,h7⟩,An⟩;have H7:=hid h7;have kK:=hid (lH.out.trans (An.mono lH.out.size));clear h7 An;go_wp2_with fail;refine(fZ.out _ _ H7.out).mono ?_;rintro e w8 ⟨⟨t2,rfl,gT⟩,Ao⟩;have qZ:=hid (kK.out.trans (Ao.mono kK.out.size));have cK:=hid (aV.out t2 gT)
   have Kb:t2.size≤10000:=by
    have h:=congrArg List.length gT;have h2:t2.data.toList.length=t2.size:=by simp
    rw[←h2,h];exact Am.out
   have Ap:¬9223372036854775807<(t1++⟨#[47]⟩:BA).size+t2.size:=by rw[ByteArray.size_append];show ¬9223372036854775807<t1.size+1+t2.size;have:=dN.out;omega
   have Aq:¬9223372036854775807<t1.size+1+t2.size:=by have:=dN.out;omega
   clear gT Ao;go_wp2_with fail;go_ret;exact⟨⟨_,rfl,cK.out⟩,qZ.out⟩
theorem q2s{W:World}{v:Value}{n g h:Nat}{b1 b2:Bool}{p1 p2:Option Addr}{k1 c1 k2 c2:Nat}(hv:DN W v n)(e0:W.cell? ⟨g,0,none⟩=some (.bool b1))(e1:W.cell? ⟨g,1,none⟩=some (.slice p1 k1 c1))(e2:W.cell? ⟨h,0,none⟩=some (.bool b2))(e3:W.cell? ⟨h,1,none⟩=some (.slice p2 k2 c2))(hne:g≠h)(x0 x1 x2 x3:Value):
  DN ((((W.setCell ⟨g,0,none⟩ x0).setCell ⟨g,1,none⟩ x1).setCell ⟨h,0,none⟩ x2).setCell ⟨h,1,none⟩ x3) v n:=by
 have k:∀(V:World) (g i g' j:Nat) (x:Value),(g,i)≠(g',j)→(V.setCell ⟨g,i,none⟩ x).cell? ⟨g',j,none⟩=V.cell? ⟨g',j,none⟩:=fun V g i g' j x hne=>World.cell?_setCell_other _ _ _ _ (by intro e;injection e with e1 e2;exact hne (by rw[e1,e2]));refine(((hv.setOther e0 (by intro k z h;cases h)).setOther (u := .slice p1 k1 c1) ?_ (by intro k z h;cases h)).setOther (u := .bool b2) ?_ (by intro k z h;cases h)).setOther (u := .slice p2 k2 c2) ?_ (by intro k z h;cases h)
 ·rw[k _ _ _ _ _ _ (by simp)];exact e1
 ·rw[k _ _ _ _ _ _ (by simp[hne]),k _ _ _ _ _ _ (by simp[hne])];exact e2
 ·rw[k _ _ _ _ _ _ (by simp),k _ _ _ _ _ _ (by simp[hne]),k _ _ _ _ _ _ (by simp[hne])];exact e3
theorem qt1{w W:World}{na nb n1 n2:Bool}{ta tb t1 t2:Value}(h:qlv w na ta nb tb W):
  qlv w n1 t1 n2 t2 ((((W.setCell ⟨w.heap.size,0,none⟩ (.bool n1)).setCell ⟨w.heap.size,1,none⟩ t1).setCell ⟨w.heap.size+1,0,none⟩ (.bool n2)).setCell ⟨w.heap.size+1,1,none⟩ t2):=by
 obtain⟨hb,o1,o2⟩:=h;refine⟨(((hb.setCell (p:=⟨w.heap.size,0,none⟩) (qac _) _).setCell (p:=⟨w.heap.size,1,none⟩) (qac _) _).setCell (p:=⟨w.heap.size+1,0,none⟩) (show w.heap.size≤w.heap.size+1 by omega) _).setCell (p:=⟨w.heap.size+1,1,none⟩) (show w.heap.size≤w.heap.size+1 by omega) _, ?_, ?_⟩
 ·refine((((o1.set 0 (by omega) (.bool n1)).set 1 (by omega) t1).setOther (by omega) 0 (.bool n2)).setOther (by omega) 1 t2).congr fun i hi => ?_
  unfold qiq
  match i,hi with
  | 0,_=>rfl
  | 1,_=>rfl
 ·refine((((o2.setOther (by omega) 0 (.bool n1)).setOther (by omega) 1 t1).set 0 (by omega) (.bool n2)).set 1 (by omega) t2).congr fun i hi => ?_
  unfold qiq
  match i,hi with
  | 0,_=>rfl
  | 1,_=>rfl
theorem qdb.partsN{w:World}{v:Value}{n:Nat}(h:qdb w v (n:Int)):∃p k c,v = .agg #[.bool false,.slice p k c]∧DN w (.slice p k c) n:=by
 obtain⟨p,k,c,rfl,_,hd⟩:=h.parts;rw[qaf (by omega)];rw[Int.natAbs_natCast] at hd;exact⟨p,k,c,rfl,hd⟩
theorem qt2{w W:World}{na nb n1:Bool}{pa pb p1 p2:Option Addr}{ka ca kb cb k1 c1 k2 c2:Nat}{x:Int}{D0:Nat}(h:qlv w na (.slice pa ka ca) nb (.slice pb kb cb) W)(h1:qdb W (.agg #[.bool n1,.slice p1 k1 c1]) x)(h2:qdb W (.agg #[.bool false,.slice p2 k2 c2]) (D0:Int)):
  qhk w n1 (.slice p1 k1 c1) false (.slice p2 k2 c2) x.natAbs D0 ((((W.setCell ⟨w.heap.size,0,none⟩ (.bool n1)).setCell ⟨w.heap.size,1,none⟩ (.slice p1 k1 c1)).setCell ⟨w.heap.size+1,0,none⟩ (.bool false)).setCell ⟨w.heap.size+1,1,none⟩ (.slice p2 k2 c2)):=by
 obtain⟨e0,e1,e2,e3⟩:=qbb h;obtain⟨v1,he1,d1⟩:=h1;obtain⟨v2,he2,d2⟩:=h2;cases he1
 cases he2
 rw[Int.natAbs_natCast] at d2;exact⟨qt1 h,q2s d1 e0 e1 e2 e3 (by omega) _ _ _ _,q2s d2 e0 e1 e2 e3 (by omega) _ _ _ _⟩
theorem qr8(va vb:Value)(x0:Int)(D0:Nat)(w:World)(ha:qdb w va x0)(hb:qdb w vb (-(D0:Int)))(Ai:0<D0)(pQ:dl x0.natAbs≤900)(pP:dl D0≤900):
  Calls Tryz.prog 74 #[va,vb] w fun e w'=>(∃t:BA,e = .returned (.string t)∧t.data.toList=qa2 (mkRat (-x0) D0))∧Below w.heap.size w w':=by
 have HIA:=hid ha;have HIB:=hid hb;obtain⟨pa,ka,ca,rfl,tS,fN⟩:=ha.parts;obtain⟨pb,kb,cb,rfl,nP,gL⟩:=hb.parts;clear tS nP fN gL ha hb;have hsb:decide (-(D0:Int)<0)=true:=qag (by omega);rw[hsb] at *;obtain⟨x,hx⟩:∃x,x = -x0:=⟨_,rfl⟩;have jO:Hid (dl x.natAbs≤900):=hid (by rw[hx,Int.natAbs_neg];exact pQ);have kN:=hid pP;have oN:Hid (∀W,Below w.heap.size w W→Calls Tryz.prog 123 #[.agg #[.bool (decide (x0<0)),.slice pa ka ca]] W fun e w'=>(∃v,e = .returned v∧qdb w' v x)∧Below W.heap.size W w'):=hid fun W hW=>by rw[hx];exact q6u _ _ W (HIA.out.later hW)
 have uJ:Hid (∀W,Below w.heap.size w W→Calls Tryz.prog 123 #[.agg #[.bool true,.slice pb kb cb]] W fun e w'=>(∃v,e = .returned v∧qdb w' v (D0:Int))∧Below W.heap.size W w'):=hid fun W hW=>by
  have h:=q6u _ _ W (HIB.out.later hW);rw[Int.neg_neg,qag (show -(D0:Int)<0 by omega)] at h;exact h
 have HXX:=hid hx;rw[←hx];clear pQ pP hsb hx;generalize decide (x0<0)=s0 at *;have hD0':=Ai;have aM:=hid (qku w s0 (.slice pa ka ca) true (.slice pb kb cb));have jS:=qbb aM.out;go_enter Tryz.func74,Tryz.ntmps74;go_wp2_with fail;clear jS;generalize (w.alloc (.cells #[.bool s0,.slice pa ka ca] 122)).alloc (.cells #[.bool true,.slice pb kb cb] 122)=w0 at *;have bX:Hid (qlv w s0 (.slice pa ka ca) true (.slice pb kb cb) w0.drew):=hid (aM.out.later ((qaa _ _).drew));have eY:=qbb bX.out;have hB0:=bX.out.1
 go_region_with (first
   | (go_at_call 123;first
     | ((with_reducible refine(oN.out _ (by first|exact hBM|exact hB0)).mono ?_);rintro e wN ⟨⟨vN,rfl,hn⟩,hbn⟩;have oR:=hid hn;have Ld:=hid hbn;have fX:Hid (qlv w s0 (.slice pa ka ca) true (.slice pb kb cb) wN):=hid (by first|exact gH.out.later hbn|exact bX.out.later hbn);have hBN:=fX.out.1;have hcN:=qbb fX.out;have hfN:=qni fX.out;obtain⟨p1,k1,c1,rfl,jN,_⟩:=hn.parts;clear hn hbn jN)
     | ((with_reducible refine(uJ.out _ (by first|exact hBN|exact hB0)).mono ?_);rintro e wM ⟨⟨vM,rfl,hn⟩,hbm⟩;have Fl:=hid hn;have HBM:=hid hbm;have gH:Hid (qlv w s0 (.slice pa ka ca) true (.slice pb kb cb) wM):=hid (by first|exact fX.out.later hbm|exact bX.out.later hbm);have hBM:=gH.out.1;have hcM:=qbb gH.out;have hfM:=qni gH.out;obtain⟨p2,k2,c2,rfl,_⟩:=hn.partsN;clear hn hbm)))
 all_goals
  have HP:Hid (qhk w (decide (x<0)) (.slice p1 k1 c1) false (.slice p2 k2 c2) x.natAbs D0 _):=hid (by first|exact qt2 gH.out (oR.out.later HBM.out) Fl.out|exact qt2 fX.out oR.out (Fl.out.later Ld.out));have jS:=qbb HP.out.1;clear oR Fl Ld HBM fX gH hcN hcM hfN hfM hBN hBM eY hB0 bX aM oN uJ HIA HIB;have Jy:=qjx x D0 Ai;have fT:=hid Jy.1;obtain⟨D,hDD⟩:∃D,D=D0/Nat.gcd x.natAbs D0:=⟨_,rfl⟩;have Aj:Hid ((mkRat x D0).den=D):=hid (by rw[Jy.2,hDD]);have rY:Hid (0<Nat.gcd x.natAbs D0):=hid (Nat.gcd_pos_of_pos_right _ Ai);have pJ:Hid (dl D≤900):=hid (Nat.le_trans (qpf (by rw[hDD];exact Nat.div_le_self _ _)) kN.out);have hJ:Hid (dl (x.natAbs/Nat.gcd x.natAbs D0)≤900):=hid (Nat.le_trans (qpf (Nat.div_le_self _ _)) jO.out)
  have aX:Hid ((qbf (mkRat x D0).num).length≤10000):=hid (by
   have h1:(mkRat x D0).num.natAbs=x.natAbs/Nat.gcd x.natAbs D0:=by
    rw[fT.out];split<;>simp only[Int.natAbs_neg,Int.natAbs_natCast]
   exact qic (by rw[h1];exact hJ.out))
  have bW:Hid ((qbf (D:Int)).length≤10000):=hid (qic (by rw[Int.natAbs_natCast];exact pJ.out))
  have Ak:Hid (∀W,qhk w (decide (x<0)) (.slice p1 k1 c1) false (.slice p2 k2 c2) x.natAbs D0 W→Calls Tryz.prog 71 #[(.slice p1 k1 c1),(.slice p2 k2 c2)] W fun e w'=>(∃v',e = .returned v'∧DN w' v' (Nat.gcd x.natAbs D0))∧qhk w (decide (x<0)) (.slice p1 k1 c1) false (.slice p2 k2 c2) x.natAbs D0 w'):=hid fun W hW=>
   (qv2 _ _ _ _ W hW.2.1 hW.2.2 jO.out kN.out).mono fun _ _ ⟨h1,h2⟩=>⟨h1,hW.later h2⟩
  have rZ:Hid (∀W v,qhk w (decide (x<0)) (.slice p1 k1 c1) false (.slice p2 k2 c2) x.natAbs D0 W→DN W v (Nat.gcd x.natAbs D0)→Calls Tryz.prog 119 #[(.slice p1 k1 c1),v] W fun e w'=>(∃vq vr,e = .returned (.tuple #[vq,vr])∧DN w' vq (x.natAbs/Nat.gcd x.natAbs D0)∧DN w' vr (x.natAbs % Nat.gcd x.natAbs D0))∧DN w' v (Nat.gcd x.natAbs D0)∧qhk w (decide (x<0)) (.slice p1 k1 c1) false (.slice p2 k2 c2) x.natAbs D0 w'):=hid fun W v hW hv=>
   (qlt _ _ _ _ W hW.2.1 hv rY.out jO.out).mono fun _ _ ⟨h1,h2⟩=>⟨h1,hv.later h2,hW.later h2⟩
  have sA:Hid (∀W v,qhk w (decide (x<0)) (.slice p1 k1 c1) false (.slice p2 k2 c2) x.natAbs D0 W→DN W v (Nat.gcd x.natAbs D0)→Calls Tryz.prog 119 #[(.slice p2 k2 c2),v] W fun e w'=>(∃vq vr,e = .returned (.tuple #[vq,vr])∧DN w' vq D∧DN w' vr (D0 % Nat.gcd x.natAbs D0))∧Below W.heap.size W w'∧qhk w (decide (x<0)) (.slice p1 k1 c1) false (.slice p2 k2 c2) x.natAbs D0 w'):=hid fun W v hW hv=>
   (qlt _ _ _ _ W hW.2.2 hv rY.out kN.out).mono fun _ _ ⟨⟨vq,vr,h0,h1,h3⟩,h2⟩=>⟨⟨vq,vr,h0,by rw[hDD];exact h1,h3⟩,h2,hW.later h2⟩
  have dV:Hid (∀W v,qhk w (decide (x<0)) (.slice p1 k1 c1) false (.slice p2 k2 c2) x.natAbs D0 W→DN W v (x.natAbs/Nat.gcd x.natAbs D0)→Calls Tryz.prog 124 #[.bool (decide (x<0)),v] W fun e w'=>(∃v,e = .returned v∧qdb w' v (mkRat x D0).num)∧Below W.heap.size W w'):=hid fun W v hW hv=>by
   have h:=qg3 (decide (x<0)) v _ W hv;rw[qar _ _ qbg] at h;rw[fT.out];exact h
  have iI:Hid (∀W v,qdb W v (mkRat x D0).num→Calls Tryz.prog 84 #[v] W fun e w'=>(∃t:BA,e = .returned (.string t)∧t.data.toList=qbf (mkRat x D0).num)∧Below W.heap.size W w'):=hid fun W v hv=>q2p v _ W hv (by
   have h1:(mkRat x D0).num.natAbs=x.natAbs/Nat.gcd x.natAbs D0:=by
    rw[fT.out];split<;>simp only[Int.natAbs_neg,Int.natAbs_natCast]
   rw[h1];have:=hJ.out;omega)
  clear Jy hDD Ai;go_wp2_with fail;clear jS;refine(Ak.out _ HP.out).mono ?_;rintro e w2 ⟨⟨vg,rfl,hg⟩,hp⟩;have HG:=hid hg;have tH:=hid hp;have aA:=qbb hp.1;clear hg hp Ak;go_wp2_with fail;refine(rZ.out _ _ tH.out HG.out).mono ?_;rintro e w3 ⟨⟨vp,vpr,rfl,hq,_⟩,hg,hp⟩;have kL:=hid hq;have Ik:=hid hg;have Bp:=hid hp;clear aA;have aA:=qbb hp.1;clear hq hg hp rZ tH HG;go_wp2_with fail;refine(sA.out _ _ Bp.out Ik.out).mono ?_;rintro e w4 ⟨⟨vq,vqr,rfl,hq,_⟩,hb,hp⟩;have jR:=hid hq;have Al:=hid (kL.out.later hb);have uK:=hid hp;clear aA;have aA:=qbb hp.1;clear hq hb hp sA Bp Ik kL;go_wp2_with fail;refine(dV.out _ _ uK.out Al.out).mono ?_;rintro e w5 ⟨⟨vs,rfl,hs⟩,hb⟩;have zL:=hid hs;have Ru:=hid (jR.out.later hb);have lG:=hid (uK.out.1.1.trans (hb.mono uK.out.1.1.size));clear hs hb aA dV Al jR uK;go_wp2_with fail;refine(iI.out _ _ zL.out).mono ?_;rintro e w6 ⟨⟨t1,rfl,eW⟩,hb⟩;have cV:=hid eW;have xQ:=Ru.out.later hb;have lH:=hid (lG.out.trans (hb.mono lG.out.size));obtain⟨p6,k6,c6,rfl,Cb⟩:=qf6 xQ;have Rv:=hid xQ
  have dN:Hid (t1.size≤10000):=hid (by
   have h:=congrArg List.length eW;have h2:t1.data.toList.length=t1.size:=by simp
   rw[←h2,h];exact aX.out)
  clear eW hb zL Ru lG iI;have Jz:¬9223372036854775807<t1.size+1:=by have:=dN.out;omega
  by_cases hD:D=1
  ·have qN:qan D9 D=[1]:=by rw[hD];exact qds (by omega) (by decide)
   have jN:k6=1:=by rw[Cb];unfold dl;rw[qN];rfl
   have aC:∃b o,p6=some ⟨b,o,none⟩∧w6.cell? ⟨b,o,none⟩=some (.int .i64 1):=by
    obtain⟨_,p',c',he,_,_,hc⟩:=xQ;rw[qN] at he hc;cases he
    rcases hc with h0|⟨b,o,h1,h2⟩
    ·cases h0
    ·exact⟨b,o,h1,by have:=h2 0 (by simp);unfold dv at this;simpa using this⟩
   obtain⟨b,o,rfl,aC⟩:=aC;have aV:Hid (t1.data.toList=qa2 (mkRat x D0)):=hid (by rw[qer,Aj.out,if_pos hD,List.append_nil];exact cV.out);clear xQ Cb qN;subst jN;have g1:(((1:Nat):Int)==1)=true:=rfl;go_wp2_with fail;go_ret;exact⟨⟨_,rfl,aV.out⟩,lH.out⟩
  ·have Ka:Hid (∀W,DN W (.slice p6 k6 c6) D→Calls Tryz.prog 124 #[.bool false,.slice p6 k6 c6] W fun e w'=>(∃v,e = .returned v∧qdb w' v (D:Int))∧Below W.heap.size W w'):=hid fun W hW=>by
    have h:=qg3 false _ _ W hW;rw[qar _ _ qbg] at h;exact h
   have fZ:Hid (∀W v,qdb W v (D:Int)→Calls Tryz.prog 84 #[v] W fun e w'=>(∃t:BA,e = .returned (.string t)∧t.data.toList=qbf (D:Int))∧Below W.heap.size W w'):=hid fun W v hv=>q2p v (D:Int) W hv (by rw[Int.natAbs_natCast];have:=pJ.out;omega)
   have aV:Hid (∀t2:BA,t2.data.toList=qbf (D:Int)→(t1++⟨#[47]⟩++t2).data.toList=qa2 (mkRat x D0)):=hid fun t2 h2=>by
    rw[qer,Aj.out,if_neg hD,←cV.out,←qb6,←h2];simp
   have Am:=hid bW.out
   have vJ:(¬k6=1)∨(k6=1∧∃b o d,p6=some ⟨b,o,none⟩∧w6.cell? ⟨b,o,none⟩=some (.int .i64 ((d:Nat):Int))∧d≠1):=by
    by_cases h:k6=1
    ·refine .inr ⟨h, ?_⟩
     have xO:dl D=1:=by rw[←Cb];exact h
     obtain⟨h0,h9⟩:=qls xO;have qN:qan D9 D=[D]:=qds h0 (by rw[qb2];exact h9);obtain⟨_,p',c',he,_,_,hc⟩:=xQ;rw[qN] at he hc;cases he
     rcases hc with h0'|⟨b,o,h1,h2⟩
     ·cases h0'
     ·exact⟨b,o,D,h1,by have:=h2 0 (by simp);unfold dv at this;simpa using this,hD⟩
    ·exact .inl h
   clear xQ Cb hD;rcases vJ with hk|⟨hk,b,o,d,rfl,aC,hd⟩
   ·have g1:((k6:Int)==1)=false:=qam (by omega)
    go_wp2_with fail;refine(Ka.out _ Rv.out).mono ?_;rintro e w7 ⟨⟨v7,rfl,h7⟩,An⟩;have H7:=hid h7;have kK:=hid (lH.out.trans (An.mono lH.out.size));clear h7 An;go_wp2_with fail;refine(fZ.out _ _ H7.out).mono ?_;rintro e w8 ⟨⟨t2,rfl,gT⟩,Ao⟩;have qZ:=hid (kK.out.trans (Ao.mono kK.out.size));have cK:=hid (aV.out t2 gT)
    have Kb:t2.size≤10000:=by
     have h:=congrArg List.length gT;have h2:t2.data.toList.length=t2.size:=by simp
     rw[←h2,h];exact Am.out
    have Ap:¬9223372036854775807<(t1++⟨#[47]⟩:BA).size+t2.size:=by rw[ByteArray.size_append];show ¬9223372036854775807<t1.size+1+t2.size;have:=dN.out;omega
    have Aq:¬9223372036854775807<t1.size+1+t2.size:=by have:=dN.out;omega
    clear gT Ao;go_wp2_with fail;go_ret;exact⟨⟨_,rfl,cK.out⟩,qZ.out⟩
   ·have g1:(((1:Nat):Int)==1)=true:=rfl
    have g2:((d:Int)==1)=false:=qam (by omega);subst hk;go_wp2_with fail;refine(Ka.out _ Rv.out).mono ?_;rintro e w7 ⟨⟨v7,rfl,h7⟩,An⟩;have H7:=hid h7;have kK:=hid (lH.out.trans (An.mono lH.out.size));clear h7 An;go_wp2_with fail;refine(fZ.out _ _ H7.out).mono ?_;rintro e w8 ⟨⟨t2,rfl,gT⟩,Ao⟩;have qZ:=hid (kK.out.trans (Ao.mono kK.out.size));have cK:=hid (aV.out t2 gT)
    have Kb:t2.size≤10000:=by
     have h:=congrArg List.length gT;have h2:t2.data.toList.length=t2.size:=by simp
     rw[←h2,h];exact Am.out
    have Ap:¬9223372036854775807<(t1++⟨#[47]⟩:BA).size+t2.size:=by rw[ByteArray.size_append];show ¬9223372036854775807<t1.size+1+t2.size;have:=dN.out;omega
    have Aq:¬9223372036854775807<t1.size+1+t2.size:=by have:=dN.out;omega
    clear gT Ao;go_wp2_with fail;go_ret;exact⟨⟨_,rfl,cK.out⟩,qZ.out⟩
def q6y(f:Bool)(z:Int)(D:Nat):Value:=if f then .tuple #[.int .i64 z,.int .i64 D,.bool true] else .tuple #[.int .i64 0,.int .i64 0,.bool false]
theorem qlx(n:Nat):(qff n).length≤(qax n).length:=by
 unfold qax;split
 ·rename_i e;rw[e,qcy];simp
 ·exact qac _
theorem qv7(a t:BA)(neg:Bool)(N D:Nat)(z:Int)(w:World)(hz:z=if neg then -(N:Int) else(N:Int))(hs:a.data.toList=(if neg then[45] else[])++t.data.toList)(ht:t.data.toList=qbf (N:Int)++(if D=1 then[] else 47::qax D))(dK:a.size≤20):
  Calls Tryz.prog 72 #[.string a] w fun e w'=>e = .returned (q6y (decide ((qax N).length≤9)&&(decide (D=1)||decide ((qax D).length≤9))) z D)∧w'=w:=by
 obtain⟨yJ,Ca⟩:=qjw t (N:Int) D ht;have hNl:(qbf (N:Int)).length=(qax N).length:=by rw[qb6]
 have hN0:=qv5 (N:Int)
 have aE:a.size=(if neg then 1 else 0)+t.size:=by
  have h:=congrArg List.length hs;rw[List.length_append] at h;have e1:a.data.toList.length=a.size:=by simp
  have e2:t.data.toList.length=t.size:=by simp
  rw[e1,e2] at h;rw[h];cases neg<;>rfl
 have sQ:t.size=(qax N).length+(if D=1 then 0 else 1+(qax D).length):=by
  have h:=congrArg List.length ht;have e2:t.data.toList.length=t.size:=by simp
  rw[List.length_append,e2,hNl] at h;rw[h];split
  ·rfl
  ·rw[List.length_cons];omega
 have rB:0<t.size:=by omega
 have iA:0<a.size:=by omega
 have eY:((a[0]'iA).toNat:Int)=45∧neg=true∨((a[0]'iA).toNat:Int)≠45∧neg=false:=by
  have h1:a.data.toList[0]'(by simpa using iA)=a[0]'iA:=qdv a 0 iA;cases neg
  ·right
   refine⟨?_,rfl⟩;have h2:a.data.toList=t.data.toList:=hs
   have h3:isD (a[0]'iA)=true:=by
    rw[←h1];simp only[h2,ht,qb6];rw[List.getElem_append_left (by omega)];exact qez _ _ (List.getElem_mem _)
   unfold isD at h3;have:=of_decide_eq_true h3;omega
  ·left
   refine⟨?_,rfl⟩;rw[←h1];simp only[hs];rfl
 have pH:∀h:0<a.size,((a[0]'h).toNat:Int)=((a[0]'iA).toNat:Int):=fun _=>rfl
 have oU:Hid (neg=true→(a.extract 1 a.size)=t):=hid fun h=>by
  apply qca;rw[Lib.extract_data,hs,if_pos h];simp;rw[List.take_of_length_le (by simp[aE,h])]
 have fX:Hid (neg=false→a=t):=hid fun h=>by
  apply qca;rw[hs,h];rfl
 obtain⟨K,hKe⟩:∃K,K=sl t.data.toList:=⟨_,rfl⟩;have aT:=hid (fun W=>qqu t W (by omega));rw[←hKe] at aT yJ Ca
 have hD:(D=1∧K=t.size)∨(D≠1∧K+1≤t.size):=by
  by_cases h:D=1
  ·exact .inl ⟨h,(yJ h).1⟩
  ·exact .inr ⟨h,(Ca h).1⟩
 have Cs:(t.extract 0 K).data.toList=qbf (N:Int):=by
  by_cases h:D=1
  ·rw[Lib.extract_from_zero,(yJ h).1,List.take_of_length_le (by simp)];exact(yJ h).2
  ·exact(Ca h).2.1
 have hKN:K=(qax N).length:=by
  have h1:=congrArg List.length Cs;rw[hNl,Lib.extract_from_zero,List.length_take] at h1;have e2:t.data.toList.length=t.size:=by simp
  omega
 have hVN:K≤9→∀W,Calls Tryz.prog 120 #[.string (t.extract 0 K)] W fun e w'=>e = .returned (.int .i64 (N:Int))∧w'=W:=fun h W=>by
  have h1:=qqt (t.extract 0 K) W (by rw[Cs,qb6];exact qez _) (by rw[ByteArray.size_extract];omega);rw[Cs,qb6,qdw] at h1;exact h1
 have hVD:D≠1→t.size-K≤10→∀W,Calls Tryz.prog 120 #[.string (t.extract (K+1) t.size)] W fun e w'=>e = .returned (.int .i64 (D:Int))∧w'=W:=fun h hl W=>by
  have h1:=qqt (t.extract (K+1) t.size) W (by rw[(Ca h).2.2,qb6];exact qez _) (by rw[ByteArray.size_extract];omega);rw[(Ca h).2.2,qb6,qdw] at h1;exact h1
 obtain⟨fits,Ar⟩:∃f,f=(decide ((qax N).length≤9)&&(decide (D=1)||decide ((qax D).length≤9))):=⟨_,rfl⟩
 have dJ:Hid (fits=decide (¬9<K∧¬10<t.size-K)):=hid (by
  rw[Ar];by_cases h:D=1
  ·rw[if_pos h] at sQ
   simp only[h,decide_true,Bool.true_or,Bool.and_true,decide_eq_decide];omega
  ·rw[if_neg h] at sQ
   simp only[h,decide_false,Bool.false_or,←Bool.decide_and,decide_eq_decide]
   omega)
 rw[←Ar];have HZ:=hid hz;clear hz;have hna:¬20<a.size:=by omega
 have Rw:0<a.size:=iA
 have hNi:K≤9→(N:Int)≤999999999:=fun h=>by
  have h1:=qe6 N
  have h2:(qff N).length≤9:=by
   have:=qlx N;omega
  have h3:=Nat.pow_le_pow_right (show 0<10 by omega) h2;omega
 have Me:=hid hNi;have Jw:t.size≤20:=by omega
 have hKle:K≤t.size:=by omega
 generalize ((a[0]'iA).toNat:Int)=ch at *;clear hs ht yJ Ca hNl hN0 aE sQ dK hKe Cs hKN Ar hNi;rcases eY with⟨h1,h2⟩|⟨h1,h2⟩
 ·subst h1 h2
  have hext:=oU.out rfl;have hb:((45:Int)==45)=true:=rfl;by_cases hK:9<K
  ·have HF:Hid (fits=false):=hid (by rw[dJ.out];exact qaf (by omega))
   have g1:decide ((9:Int)<(K:Int))=true:=qag (by omega);go_enter Tryz.func72,Tryz.ntmps72;go_wp2_with fail;refine(aT.out _).mono ?_;rintro e w1 ⟨rfl,rfl⟩;go_wp2_with fail
   go_ret3
   exact⟨by rw[HF.out];rfl,rfl⟩
  ·by_cases hL:10<t.size-K
   ·have HF:Hid (fits=false):=hid (by rw[dJ.out];exact qaf (by omega))
    have g2:(10:Int)<(t.size:Int)-(K:Int):=by omega
    go_enter Tryz.func72,Tryz.ntmps72;go_wp2_with fail;refine(aT.out _).mono ?_;rintro e w1 ⟨rfl,rfl⟩;go_wp2_with fail
    go_ret3
    exact⟨by rw[HF.out];rfl,rfl⟩
   ·have HF:Hid (fits=true):=hid (by rw[dJ.out];exact qag (by omega))
    have g2:¬(10:Int)<(t.size:Int)-(K:Int):=by omega
    have oR:=hid (fun W=>hVN (by omega) W);have hNb:(N:Int)≤999999999:=Me.out (by omega);rcases hD with⟨tT,hKt⟩|⟨tT,hKt⟩
    ·have qY:=hid tT
     have g3:¬K<t.size:=by omega
     clear tT hKt hVD hVN;go_enter Tryz.func72,Tryz.ntmps72;go_wp2_with fail;refine(aT.out _).mono ?_;rintro e w1 ⟨rfl,rfl⟩;go_wp2_with fail;refine(oR.out _).mono ?_;rintro e w1 ⟨rfl,rfl⟩;go_wp2_with fail
     go_ret3
     exact⟨by have e:=HZ.out;simp only[if_true,Bool.false_eq_true,if_false] at e;rw[HF.out,qY.out,e];rfl,rfl⟩
    ·have Il:=hid (fun W=>hVD tT (by omega) W)
     have g3:K<t.size:=by omega
     have g4:K+1≤t.size:=by omega
     have g5:(0:Int)≤(K:Int)+1:=by omega
     have g6:((K:Int)+1).toNat=K+1:=by omega
     clear tT hVD hVN;go_enter Tryz.func72,Tryz.ntmps72;go_wp2_with fail;refine(aT.out _).mono ?_;rintro e w1 ⟨rfl,rfl⟩;go_wp2_with fail;refine(oR.out _).mono ?_;rintro e w1 ⟨rfl,rfl⟩;go_wp2_with fail;refine(Il.out _).mono ?_;rintro e w1 ⟨rfl,rfl⟩;go_wp2_with fail
     go_ret3
     exact⟨by have e:=HZ.out;simp only[if_true,Bool.false_eq_true,if_false] at e;rw[HF.out,e];rfl,rfl⟩
 ·subst h2
  have jT:=fX.out rfl;have hb:(ch==45)=false:=qam h1;subst a;clear h1;by_cases hK:9<K
  ·have HF:Hid (fits=false):=hid (by rw[dJ.out];exact qaf (by omega))
   have g1:decide ((9:Int)<(K:Int))=true:=qag (by omega);go_enter Tryz.func72,Tryz.ntmps72;go_wp2_with fail;refine(aT.out _).mono ?_;rintro e w1 ⟨rfl,rfl⟩;go_wp2_with fail
   go_ret3
   exact⟨by rw[HF.out];rfl,rfl⟩
  ·by_cases hL:10<t.size-K
   ·have HF:Hid (fits=false):=hid (by rw[dJ.out];exact qaf (by omega))
    have g2:(10:Int)<(t.size:Int)-(K:Int):=by omega
    go_enter Tryz.func72,Tryz.ntmps72;go_wp2_with fail;refine(aT.out _).mono ?_;rintro e w1 ⟨rfl,rfl⟩;go_wp2_with fail
    go_ret3
    exact⟨by rw[HF.out];rfl,rfl⟩
   ·have HF:Hid (fits=true):=hid (by rw[dJ.out];exact qag (by omega))
    have g2:¬(10:Int)<(t.size:Int)-(K:Int):=by omega
    have oR:=hid (fun W=>hVN (by omega) W);have hNb:(N:Int)≤999999999:=Me.out (by omega);rcases hD with⟨tT,hKt⟩|⟨tT,hKt⟩
    ·have qY:=hid tT
     have g3:¬K<t.size:=by omega
     clear tT hKt hVD hVN;go_enter Tryz.func72,Tryz.ntmps72;go_wp2_with fail;refine(aT.out _).mono ?_;rintro e w1 ⟨rfl,rfl⟩;go_wp2_with fail;refine(oR.out _).mono ?_;rintro e w1 ⟨rfl,rfl⟩;go_wp2_with fail
     go_ret3
     exact⟨by have e:=HZ.out;simp only[if_true,Bool.false_eq_true,if_false] at e;rw[HF.out,qY.out,e];rfl,rfl⟩
    ·have Il:=hid (fun W=>hVD tT (by omega) W)
     have g3:K<t.size:=by omega
     have g4:K+1≤t.size:=by omega
     have g5:(0:Int)≤(K:Int)+1:=by omega
     have g6:((K:Int)+1).toNat=K+1:=by omega
     clear tT hVD hVN;go_enter Tryz.func72,Tryz.ntmps72;go_wp2_with fail;refine(aT.out _).mono ?_;rintro e w1 ⟨rfl,rfl⟩;go_wp2_with fail;refine(oR.out _).mono ?_;rintro e w1 ⟨rfl,rfl⟩;go_wp2_with fail;refine(Il.out _).mono ?_;rintro e w1 ⟨rfl,rfl⟩;go_wp2_with fail
     go_ret3
     exact⟨by have e:=HZ.out;simp only[if_true,Bool.false_eq_true,if_false] at e;rw[HF.out,e];rfl,rfl⟩
theorem qgv(a:BA)(q:Rat)(h:a.data.toList=qa2 q):a.size=(if q.num<0 then 1 else 0)+(qax q.num.natAbs).length+(if q.den=1 then 0 else 1+(qax q.den).length):=by
 have h1:=congrArg List.length h;have h2:a.data.toList.length=a.size:=by simp
 rw[h2] at h1;rw[h1];unfold qa2;rw[List.length_append,List.length_append]
 congr 1
 ·congr 1
  split<;>rfl
 ·split
  ·rfl
  ·rw[List.length_cons];omega
theorem q6z(a:BA)(q:Rat)(w:World)(h:a.data.toList=qa2 q)(dK:a.size≤5000):
  Calls Tryz.prog 72 #[.string a] w fun e w'=>e = .returned (q6y (qby q 9) q.num q.den)∧w'=w:=by
 have hs:=qgv a q h;by_cases hl:a.size≤20
 ·have hc:=qv7 a ⟨(qax q.num.natAbs++(if q.den=1 then[] else 47::qax q.den)).toArray⟩ (decide (q.num<0)) q.num.natAbs q.den q.num w (by
   rcases Int.lt_or_le q.num 0 with h1|h1
   ·rw[qag h1,if_pos rfl];omega
   ·rw[qaf (by omega),if_neg (by decide)];omega) (by
   rw[h];unfold qa2;rw[List.append_assoc];rcases Int.lt_or_le q.num 0 with h1|h1
   ·rw[if_pos h1,qag h1];rfl
   ·rw[if_neg (by omega),qaf (by omega)];rfl) (by rw[qb6]) hl
  exact hc
 ·have HF:Hid (qby q 9=false):=hid (by
   cases hf:qby q 9
   ·rfl
   ·exfalso
    unfold qby at hf;rw[Bool.and_eq_true,Bool.or_eq_true] at hf;obtain⟨h1,h2⟩:=hf;have h1:=of_decide_eq_true h1;rcases h2 with h2|h2
    ·have h2:=of_decide_eq_true h2
     rw[if_pos h2] at hs;split at hs<;>omega
    ·have h2:=of_decide_eq_true h2
     split at hs<;>split at hs<;>omega)
  have Jk:¬a.size≤20:=hl;have hgt2:20<a.size:=by omega
  clear h hs hl;go_enter Tryz.func72,Tryz.ntmps72;go_wp2_with fail
  go_ret3
  exact⟨by rw[HF.out];rfl,rfl⟩
theorem q2t(n:Nat):(pd (qr7 n 1) n).reverse=qax n:=by
 rcases qas n with e|e
 ·subst e
  have h:qr7 0 1=1:=by unfold qr7;rw[qcy];rfl
  rw[h];rfl
 ·rw[q6w n e]
  unfold qax;rw[if_neg (by omega)]
theorem qt3(n:Int)(d g:Nat)(hd:0<d)(hg:g=Nat.gcd n.natAbs d):n.tdiv (g:Int)=(mkRat n d).num∧d/g=(mkRat n d).den∧(mkRat n d).num.natAbs≤n.natAbs∧(mkRat n d).den≤d:=by
 obtain⟨h1,h2⟩:=qjx n d hd;rw[←hg] at h1 h2;have dY:n.natAbs/g≤n.natAbs:=Nat.div_le_self _ _;have h3:d/g≤d:=Nat.div_le_self _ _;rw[h1,h2];refine⟨?_,rfl, ?_,h3⟩
 ·rcases Int.lt_or_le n 0 with h|h
  ·rw[qag h,if_pos rfl,Int.natCast_ediv,Int.ofNat_natAbs_of_nonpos (by omega)]
   rw[show n = -(-n) by omega,Int.neg_tdiv,Int.tdiv_eq_ediv_of_nonneg (by omega),Int.neg_neg]
  ·rw[qaf (by omega),if_neg (by decide),Int.natCast_ediv,Int.natAbs_of_nonneg h,Int.tdiv_eq_ediv_of_nonneg h]
 ·split
  ·rw[Int.natAbs_neg,Int.natAbs_natCast];exact dY
  ·rw[Int.natAbs_natCast];exact dY
theorem of9(n:Int)(d:Nat)(w:World)(hd:0<d)(hn:n.natAbs≤4000000000000000000)(Lz:d≤4000000000000000000):
  Calls Tryz.prog 73 #[.int .i64 n,.int .i64 d] w fun e w'=>(∃t:BA,e = .returned (.string t)∧t.data.toList=qa2 (mkRat n d))∧Below w.heap.size w w':=by
 have dZ : -4000000000000000000≤n:=by omega
 have lW:n≤4000000000000000000:=by omega
 have xO:(0:Int)<(d:Int):=by omega
 have Lp:(d:Int)≤4000000000000000000:=by omega
 obtain⟨g,hg⟩:∃g,g=Nat.gcd n.natAbs d:=⟨_,rfl⟩;have rE:0<g:=by rw[hg];exact Nat.gcd_pos_of_pos_right _ hd
 have Ot:=hid (fun W=>zas n.natAbs d W (by omega) (by omega));have Dc:max n (0-n)=(n.natAbs:Int):=by omega
 have hmax2:max n (-n)=(n.natAbs:Int):=by omega
 rw[←hg] at Ot;obtain⟨q1,q2,q3,q4⟩:=qt3 n d g hd hg;have nO:((g:Int)==0)=false:=qam (by omega);have Jj:(d:Int)/(g:Int)=(((mkRat n d).den:Nat):Int):=by rw[←q2];exact(Int.natCast_ediv d g).symm
 have hqd2:(d:Int).tdiv (g:Int)=(((mkRat n d).den:Nat):Int):=by rw[Int.tdiv_eq_ediv_of_nonneg (by omega)];exact Jj
 have hgi:(0:Int)<(g:Int):=by omega
 generalize hqe:mkRat n d=q at *;have hn9:n≤9223372036854775807:=by omega
 have hN1 : -4000000000000000000≤q.num:=by omega
 have hN2:q.num≤4000000000000000000:=by omega
 have hD2:((q.den:Nat):Int)≤4000000000000000000:=by omega
 have hmax3:max q.num (0-q.num)=(q.num.natAbs:Int):=by omega
 have hmax4:max q.num (-q.num)=(q.num.natAbs:Int):=by omega
 have HDN:Hid (∀W,Calls Tryz.prog 122 #[.int .i64 (q.num.natAbs:Nat),.int .i64 1] W fun e w'=>(∃t:BA,e = .returned (.string t)∧t.data.toList=qax q.num.natAbs)∧w'=W):=hid fun W=>by
  have h:=qn4 q.num.natAbs 1 W (by omega) (by omega);rw[q2t] at h;exact h
 have qY:Hid (∀W,Calls Tryz.prog 122 #[.int .i64 (q.den:Nat),.int .i64 1] W fun e w'=>(∃t:BA,e = .returned (.string t)∧t.data.toList=qax q.den)∧w'=W):=hid fun W=>by
  have h:=qn4 q.den 1 W (by omega) (by omega);rw[q2t] at h;exact h
 have kQ:Hid ((qax q.num.natAbs).length≤100):=hid (by
  unfold qax;split
  ·simp
  ·exact Nat.le_trans (qb0 19 _ (by omega)) (by omega))
 have lF:Hid ((qax q.den).length≤100):=hid (by
  unfold qax;split
  ·simp
  ·exact Nat.le_trans (qb0 19 _ (by omega)) (by omega))
 have pU:Hid (qa2 q=(if q.num<0 then[45] else[])++qax q.num.natAbs++(if q.den=1 then[] else 47::qax q.den)):=hid rfl;have hDp:0<q.den:=q.den_pos;generalize qa2 q=rt at *;generalize q.num.natAbs=NA at *;generalize q.num=N at *;generalize q.den=D at *;clear hqe hg q2 q3 q4 hn hd Lz;go_enter Tryz.func73,Tryz.ntmps73;go_wp2_with fail;refine(Ot.out _).mono ?_;rintro e w1 ⟨rfl,aZ⟩;have aP:=hid aZ;clear aZ Ot;go_wp2_with fail
 go_quiet (fail)
 rcases Int.lt_or_le N 0 with hs|hs
 ·have g2:N<0:=hs
  go_wp2_with fail;refine(HDN.out _).mono ?_;rintro e w2 ⟨⟨t1,rfl,eW⟩,rfl⟩
  have dO:t1.size≤100:=by
   have h:=congrArg List.length eW;have h2:t1.data.toList.length=t1.size:=by simp
   rw[←h2,h];exact kQ.out
  have Jz:¬9223372036854775807<1+t1.size:=by omega
  have hov5:¬9223372036854775807<1+t1.size+1:=by omega
  have hov6:¬9223372036854775807<t1.size+1:=by omega
  have tT:D=1∨D≠1:=by omega
  rcases tT with e|e
  ·have g3:¬1<D:=by omega
   have aV:Hid ((⟨#[45]⟩++t1:BA).data.toList=rt):=hid (by rw[pU.out,if_pos hs,if_pos e,List.append_nil,←eW];simp);clear eW;go_wp2_with fail;go_ret;exact⟨⟨_,rfl,aV.out⟩,below_drewN aP.out _⟩
  ·have g3:1<D:=by omega
   have aV:Hid (∀t2:BA,t2.data.toList=qax D→((⟨#[45]⟩++t1:BA)++⟨#[47]⟩++t2).data.toList=rt):=hid fun t2 h2=>by rw[pU.out,if_pos hs,if_neg e,←eW,←h2];simp
   clear eW e;go_wp2_with fail;refine(qY.out _).mono ?_;rintro e w1 ⟨⟨t2,rfl,gT⟩,rfl⟩;have cK:=hid (aV.out t2 gT)
   have fS:t2.size≤100:=by
    have h:=congrArg List.length gT;have h2:t2.data.toList.length=t2.size:=by simp
    rw[←h2,h];exact lF.out
   have Ap:¬9223372036854775807<1+t1.size+1+t2.size:=by omega
   have Aq:¬9223372036854775807<t1.size+1+t2.size:=by omega
   have hov4:¬9223372036854775807<0+t1.size+1+t2.size:=by omega
   clear gT;go_wp2_with fail;go_ret;exact⟨⟨_,rfl,cK.out⟩,below_drewN aP.out _⟩
 ·have g2:¬N<0:=by omega
  go_wp2_with fail;refine(HDN.out _).mono ?_;rintro e w2 ⟨⟨t1,rfl,eW⟩,rfl⟩
  have dO:t1.size≤100:=by
   have h:=congrArg List.length eW;have h2:t1.data.toList.length=t1.size:=by simp
   rw[←h2,h];exact kQ.out
  have Jz:¬9223372036854775807<1+t1.size:=by omega
  have hov5:¬9223372036854775807<1+t1.size+1:=by omega
  have hov6:¬9223372036854775807<t1.size+1:=by omega
  have tT:D=1∨D≠1:=by omega
  rcases tT with e|e
  ·have g3:¬1<D:=by omega
   have aV:Hid ((⟨#[]⟩++t1:BA).data.toList=rt):=hid (by rw[pU.out,if_neg (show ¬N<0 by omega),if_pos e,List.append_nil,←eW];simp);clear eW;go_wp2_with fail;go_ret;exact⟨⟨_,rfl,aV.out⟩,below_drewN aP.out _⟩
  ·have g3:1<D:=by omega
   have aV:Hid (∀t2:BA,t2.data.toList=qax D→((⟨#[]⟩++t1:BA)++⟨#[47]⟩++t2).data.toList=rt):=hid fun t2 h2=>by rw[pU.out,if_neg (show ¬N<0 by omega),if_neg e,←eW,←h2];simp
   clear eW e;go_wp2_with fail;refine(qY.out _).mono ?_;rintro e w1 ⟨⟨t2,rfl,gT⟩,rfl⟩;have cK:=hid (aV.out t2 gT)
   have fS:t2.size≤100:=by
    have h:=congrArg List.length gT;have h2:t2.data.toList.length=t2.size:=by simp
    rw[←h2,h];exact lF.out
   have Ap:¬9223372036854775807<1+t1.size+1+t2.size:=by omega
   have Aq:¬9223372036854775807<t1.size+1+t2.size:=by omega
   have hov4:¬9223372036854775807<0+t1.size+1+t2.size:=by omega
   clear gT;go_wp2_with fail;go_ret;exact⟨⟨_,rfl,cK.out⟩,below_drewN aP.out _⟩
theorem qnj(q:Rat):qa2 q=[48]↔q.num=0:=by
 constructor
 ·intro h
  unfold qa2 at h;have h1:=congrArg List.length h;rw[List.length_append,List.length_append] at h1;have h2:=List.length_pos_iff.2 (qgq q.num.natAbs)
  have h3:¬q.num<0:=by
   intro h3;rw[if_pos h3] at h1;simp at h1;omega
  have h4:q.den=1:=by
   by_cases e:q.den=1
   ·exact e
   ·rw[if_neg e] at h1
    simp at h1;omega
  rw[if_neg h3,if_pos h4,List.nil_append,List.append_nil] at h;have h5:=congrArg (qbd 0) h;rw[qdw] at h5;have h6:qbd 0 [48]=0:=rfl;omega
 ·intro h
  have hd:q.den=1:=by
   have:=q.reduced;rw[h] at this
   simpa using this
  unfold qa2;rw[h,hd,if_neg (by decide),if_pos rfl];rfl
theorem qt4(q:Rat)(a:BA)(h:a.data.toList=qa2 q)(hs:0<a.size):(q.num<0→((a[0]'hs).toNat:Int)=45)∧(¬q.num<0→((a[0]'hs).toNat:Int)≠45):=by
 have h1:a.data.toList[0]'(by simpa using hs)=a[0]'hs:=qdv a 0 hs;constructor
 ·intro hn
  rw[←h1];simp only[h,qa2];simp only[if_pos hn];rfl
 ·intro hn
  have h3:isD (a[0]'hs)=true:=by
   rw[←h1];have h2:a.data.toList=qax q.num.natAbs++(if q.den=1 then[] else 47::qax q.den):=by rw[h];unfold qa2;rw[if_neg hn,List.nil_append]
   have h4:=List.length_pos_iff.2 (qgq q.num.natAbs);simp only[h2];rw[List.getElem_append_left h4];exact qez _ _ (List.getElem_mem _)
  unfold isD at h3;have:=of_decide_eq_true h3;omega
theorem qpg(q:Rat)(a:BA)(h:a.data.toList=qa2 q):0<a.size:=by
 have h1:=qgv a q h;have:=List.length_pos_iff.2 (qgq q.num.natAbs);omega
theorem q2u{q:Rat}(h:q.num=0):sgn q=0:=by unfold sgn;rw[if_neg (by omega),if_pos h]
theorem zat(a:BA)(q:Rat)(w:World)(h:a.data.toList=qa2 q):
  Calls Tryz.prog 28 #[.string a] w fun e w'=>e = .returned (.int .i64 (sgn q))∧w'=w:=by
 have iA:=qpg q a h;obtain⟨t1,t2⟩:=qt4 q a h iA;have pH:∀h':0<a.size,((a[0]'h').toNat:Int)=((a[0]'iA).toNat:Int):=fun _=>rfl;generalize ((a[0]'iA).toNat:Int)=ch at *;by_cases hz:q.num=0
 ·have he:a.toList=[48]:=by rw[ByteArray.toList_eq,h];exact(qnj q).2 hz
  have HE:Hid (sgn q=0):=hid (q2u hz);clear t1 t2 h hz;go_enter Tryz.func28,Tryz.ntmps28;go_wp2_with fail;go_ret;exact⟨qa1 HE.out.symm,rfl⟩
 ·have he:(a.toList==[48])=false:=qam (by rw[ByteArray.toList_eq,h];exact fun e=>hz ((qnj q).1 e))
  by_cases hn:q.num<0
  ·have HE:Hid (sgn q = -1):=hid (by unfold sgn;rw[if_pos hn])
   have nI:=t1 hn;subst nI;clear t1 t2 h hz hn;go_enter Tryz.func28,Tryz.ntmps28;go_wp2_with fail;go_ret;exact⟨qa1 HE.out.symm,rfl⟩
  ·have HE:Hid (sgn q=1):=hid (by unfold sgn;rw[if_neg hn,if_neg hz])
   have nI:(ch==45)=false:=qam (t2 hn);clear t1 t2 h hz hn;go_enter Tryz.func28,Tryz.ntmps28;go_wp2_with fail;go_ret;exact⟨qa1 HE.out.symm,rfl⟩
def rt(q:Rat):BA:=⟨(qa2 q).toArray⟩
theorem qdi(q:Rat):(rt q).data.toList=qa2 q:=by unfold rt;simp
theorem q2v{t:BA}{q:Rat}(h:t.data.toList=qa2 q):t=rt q:=qca (by rw[h,qdi])
def sm(q:Rat)(k:Nat):Prop:=q.num.natAbs<10^k∧q.den<10^k
theorem qek{q:Rat}{j k:Nat}(h:sm q j)(hk:j≤k):sm q k:=
 ⟨Nat.lt_of_lt_of_le h.1 (Nat.pow_le_pow_right (by decide) hk),Nat.lt_of_lt_of_le h.2 (Nat.pow_le_pow_right (by decide) hk)⟩
theorem qn5{n k:Nat}(h:n<10^k):(qax n).length≤k+1:=by
 unfold qax;split
 ·simp
 ·have:=qb0 k n h;omega
theorem qid{n k:Nat}(h:(qax n).length≤k):n<10^k:=by
 have h1:=qe6 n;have h2:=qlx n;exact Nat.lt_of_lt_of_le h1 (Nat.pow_le_pow_right (by decide) (by omega))
theorem qgj{q:Rat}{k:Nat}(h:sm q k):(rt q).size≤2*k+4:=by
 have h1:=qgv (rt q) q (qdi q);have h2:=qn5 h.1;have h3:=qn5 h.2;rw[h1];split<;>split<;>omega
theorem qd0{n k:Nat}(h:n<10^k)(hk:k≤8100):dl n≤900:=by
 refine qce qbg ?_
 have key:∀e:Nat,k≤9*e→10^k≤D9^e:=fun e he=>by
  rw[show D9=10^9 from rfl,←Nat.pow_mul];exact Nat.pow_le_pow_right (by decide) he
 exact Nat.lt_of_lt_of_le h (key 900 (by omega))
theorem qn6{n:Int}{d k:Nat}(hd:0<d)(h1:n.natAbs<10^k)(h2:d<10^k):sm (mkRat n d) k:=by
 obtain⟨_,_,h3,h4⟩:=qt3 n d _ hd rfl;exact⟨Nat.lt_of_le_of_lt h3 h1,Nat.lt_of_le_of_lt h4 h2⟩
theorem qel{m n a b:Nat}(h1:m<10^a)(h2:n<10^b):m*n<10^(a+b):=by
 rw[Nat.pow_add];exact Nat.mul_lt_mul'' h1 h2
theorem q60{p q:Rat}{a b:Nat}(hp:sm p a)(hq:sm q b):sm (p+q) (a+b+1):=by
 rw[Rat.add_def'];have h1:=qel hp.1 hq.2;have h2:=qel hq.1 hp.2;have h3:=qel hp.2 hq.2;rw[Nat.add_comm b a] at h2;have h4:(10:Nat)^(a+b+1)=10^(a+b)*10:=Nat.pow_succ ..;refine qn6 (Nat.mul_pos p.den_pos q.den_pos) ?_ ?_
 ·have h5:(p.num*(q.den:Int)+q.num*(p.den:Int)).natAbs≤p.num.natAbs*q.den+q.num.natAbs*p.den:=by
   refine Nat.le_trans (Int.natAbs_add_le _ _) ?_;rw[Int.natAbs_mul,Int.natAbs_mul,Int.natAbs_natCast,Int.natAbs_natCast];exact qac _
  omega
 ·omega
theorem q2w{p q:Rat}{a b:Nat}(hp:sm p a)(hq:sm q b):sm (p*q) (a+b):=by
 rw[Rat.mul_def'];refine qn6 (Nat.mul_pos p.den_pos q.den_pos) ?_ (qel hp.2 hq.2);rw[Int.natAbs_mul];exact qel hp.1 hq.1
theorem qxp{q:Rat}(h:0<q.num):q⁻¹ = mkRat (q.den:Int) q.num.natAbs:=by
 rw[Rat.inv_def];obtain⟨n,hn⟩:=Int.eq_ofNat_of_zero_le (show(0:Int)≤q.num by omega);rw[hn,Int.natAbs_natCast];rfl
theorem qxq{q:Rat}(h:q.num<0):q⁻¹ = mkRat (-(q.den:Int)) q.num.natAbs:=by
 rw[Rat.inv_def];obtain⟨n,hn⟩:=Int.eq_ofNat_of_zero_le (show(0:Int) ≤ -q.num by omega);have h2:q.num = -(n:Int):=by omega
 rw[h2,Int.natAbs_neg,Int.natAbs_natCast]
 match n,h2 with
 | 0,h2=>exact absurd h2 (by omega)
 | n+1,_=>rfl
theorem q61{q:Rat}{a:Nat}(h:sm q a)(hq:q.num≠0):sm q⁻¹ a:=by
 have hp:0<q.num.natAbs:=by omega
 rcases Int.lt_or_le q.num 0 with h1|h1
 ·rw[qxq h1]
  exact qn6 hp (by rw[Int.natAbs_neg,Int.natAbs_natCast];exact h.2) h.1
 ·rw[qxp (by omega)]
  exact qn6 hp (by rw[Int.natAbs_natCast];exact h.2) h.1
theorem q62{p q:Rat}{a b:Nat}(hp:sm p a)(hq:sm q b)(h:q.num≠0):sm (p/q) (a+b):=by
 rw[Rat.div_def];exact q2w hp (q61 hq h)
theorem qph{q:Rat}{k:Nat}(h:qby q k=true)(hk:1≤k):sm q k:=by
 unfold qby at h;rw[Bool.and_eq_true,Bool.or_eq_true] at h;obtain⟨h1,h2⟩:=h;refine⟨qid (of_decide_eq_true h1), ?_⟩;rcases h2 with h2|h2
 ·rw[of_decide_eq_true h2]
  exact Nat.lt_of_lt_of_le (by decide:1<10^1) (Nat.pow_le_pow_right (by decide) hk)
 ·exact qid (of_decide_eq_true h2)
theorem qv8(q:Rat)(h:¬q.num<0)(h0:q.num≠0):qa2 (-q)=45::qa2 q:=by
 unfold qa2;rw[Rat.neg_num,Rat.neg_den,if_pos (by omega),if_neg h,Int.natAbs_neg];rfl
theorem qnk(q:Rat)(h:q.num<0):qa2 q=45::qa2 (-q):=by
 have h1:=qv8 (-q) (by rw[Rat.neg_num];omega) (by rw[Rat.neg_num];omega);rw[Rat.neg_neg] at h1;exact h1
theorem q79(q:Rat)(h:q.num<0):(rt q).extract 1 (rt q).size=rt (-q):=by
 refine qca ?_;rw[Lib.extract_data,qdi,qdi,qnk q h,List.take_of_length_le]
 ·rfl
 ·have h1:=congrArg List.length (qdi q)
  rw[qnk q h] at h1;simp at h1 ⊢;omega
theorem qr9(q:Rat)(z:Int)(hz:sgn q=z)(w:World):
  Calls Tryz.prog 28 #[.string (rt q)] w fun e w'=>e = .returned (.int .i64 z)∧w'=w:=by
 rw[←hz];exact zat (rt q) q w (qdi q)
theorem q8a{q:Rat}(h:q.num<0):sgn q = -1:=by unfold sgn;rw[if_pos h]
theorem zau{q:Rat}:0<(rt q).size:=qpg q (rt q) (qdi q)
def zak(q:Rat):Rat:=if q.num<0 then -q else q
theorem q91(q:Rat)(w:World):
  Calls Tryz.prog 86 #[.string (rt q)] w fun e w'=>e = .returned (.string (rt (zak q)))∧w'=w:=by
 have hp:0<(rt q).size:=zau;unfold zak;rcases Int.lt_or_le q.num 0 with h|h
 ·have HS:=hid (fun W=>qr9 q _ (q8a h) W)
  have HT:=hid (q79 q h);rw[if_pos h];clear h;generalize rt (-q)=t2 at *;generalize rt q=t at *
  have eS:∀W:World,(Instr.slice 39 (.string t) (some (.int .i64 1)) none none).run Tryz.prog W = .ok (.string t2) W:=fun W=>by
   have h:=run_slice_string_l W 39 t Tryz.underlying39 .i64 1 (by omega) (by omega);rw[show(1:Int).toNat=1 from rfl,HT.out] at h;exact h
  go_enter Tryz.func86,Tryz.ntmps86;go_wp2_with fail;refine(HS.out _).mono ?_;rintro e w1 ⟨rfl,rfl⟩;go_wp2_with fail;go_ret;exact⟨rfl,rfl⟩
 ·rw[if_neg (by omega)]
  have HS:Hid (∀W:World,Calls Tryz.prog 28 #[.string (rt q)] W fun e w'=>(∃z:Int,0≤z∧e = .returned (.int .i64 z))∧w'=W):=hid fun W=>(qr9 q _ rfl W).mono fun _ _ ⟨h1,h2⟩=>⟨⟨_,by unfold sgn;rw[if_neg (by omega)];split<;>omega,h1⟩,h2⟩;clear h;generalize rt q=t at *;go_enter Tryz.func86,Tryz.ntmps86;go_wp2_with fail;refine(HS.out _).mono ?_;rintro e w1 ⟨⟨z,hz,rfl⟩,rfl⟩;go_wp2_with fail;go_ret;exact⟨rfl,rfl⟩
theorem q2x(c:UInt8)(l:List UInt8):sl (c::l)=if c=47 then 0 else sl l+1:=by
 unfold sl;rw[List.findIdx_cons];by_cases h:c=47
 ·rw[if_pos h,h];rfl
 ·rw[if_neg h]
  have:(c==47)=false:=qam h;rw[this];rfl
theorem qnl:∀l:List UInt8,Lib.indexByte l 47=if sl l<l.length then(sl l:Int) else -1
 | []=>rfl
 | c::l=>by
  have ih:=qnl l;have dY:=q5t l;unfold Lib.indexByte;rw[q2x,List.length_cons];by_cases h:c=47
  ·rw[h,if_pos rfl,if_pos (by decide),if_pos (by omega)];rfl
  ·have hb:(c==47)=false:=qam h
   rw[hb,if_neg (by decide),if_neg h,ih];by_cases h2:sl l<l.length
   ·have:((sl l:Int) == -1)=false:=qam (by omega)
    rw[if_pos h2,this,if_neg (by decide),if_pos (by omega)];omega
   ·rw[if_neg h2,if_pos (by decide),if_neg (by omega)]
theorem q92(l:List UInt8):Lib.cut l [47]=if sl l<l.length then(l.take (sl l),l.drop (sl l+1),true) else(l,[],false):=by
 unfold Lib.cut;rw[Lib.index_one,qnl];by_cases h:sl l<l.length
 ·rw[if_pos h,if_pos h,if_pos (by omega)];rfl
 ·rw[if_neg h,if_neg h,if_neg (by omega)]
theorem qxr{l:List UInt8}(h:sl l<l.length):l=l.take (sl l)++47::l.drop (sl l+1):=by
 induction l with
 | nil=>simp at h
 | cons d l ih=>
  rw[q2x] at h ⊢;by_cases e:d=47
  ·rw[if_pos e,e];rfl
  ·rw[if_neg e] at h ⊢
   rw[List.take_succ_cons,List.drop_succ_cons,List.cons_append,←ih (by simpa using h)]
theorem q8b{c:UInt8}(h:isD c=true):∃d,d<10∧c=dig d∧c.toNat-48=d:=by
 rw[qmk] at h;refine⟨c.toNat-48,by omega, ?_,rfl⟩;apply UInt8.toNat_inj.1;rw[qi3];omega
theorem qie:∀(l:List UInt8) (a:Nat),(0<a∨(l≠[]∧l.head? ≠ some 48))→(∀c ∈ l,isD c=true)→0<qbd a l
 | [],a,h,_=>by
  rcases h with h|h
  ·exact h
  ·exact absurd rfl h.1
 | c::l,a,h,hd=>by
  rw[qge];refine qie l _ (.inl ?_) (fun x hx=>hd x (List.mem_cons_of_mem _ hx));rcases h with h|h
  ·omega
  ·have h1:=(qmk c).1 (hd c (List.mem_cons_self ..))
   have h2:c≠48:=fun e=>h.2 (by rw[e];rfl);have h3:c.toNat≠48:=fun e=>h2 (UInt8.toNat_inj.1 (by rw[e];rfl));omega
theorem qt5:∀r:List UInt8,(∀c ∈ r,isD c=true)→r.reverse.head? ≠ some 48→qff (qbd 0 r.reverse)=r.reverse
 | [],_,_=>by rw[List.reverse_nil];exact qcy
 | c::r,hd,hh=>by
  obtain⟨d,h1,h2,h3⟩:=q8b (hd c (List.mem_cons_self ..));rw[List.reverse_cons] at hh ⊢;have hr:∀x ∈ r,isD x=true:=fun x hx=>hd x (List.mem_cons_of_mem _ hx)
  have hh2:r.reverse.head? ≠ some 48:=by
   intro e;apply hh;cases hq:r.reverse with
   | nil=>rw[hq] at e;cases e
   | cons x y=>rw[hq] at e;exact e
  have ih:=qt5 r hr hh2
  have hp:0<qbd 0 (r.reverse++[c]):=by
   refine qie _ 0 (.inr ⟨by simp,hh⟩) ?_;intro x hx;rcases List.mem_append.1 hx with e|e
   ·exact hr x (List.mem_reverse.1 e)
   ·rw[List.mem_singleton.1 e];exact hd c (List.mem_cons_self ..)
  rw[qtw,h3] at hp ⊢;rw[qdk hp,show(qbd 0 r.reverse*10+d)/10=qbd 0 r.reverse by omega,ih,h2]
  congr 2
  exact qrk (by omega)
theorem qly:qax 1=[49]:=by
 unfold qax;rw[if_neg (by decide),qdk (by decide),show 1/10=0 from rfl,qcy];rfl
theorem qfa{l:List UInt8}(h:qbs l=true):qax (qbd 0 l)=l:=by
 have ha:=qej h;obtain⟨hne,hd⟩:=(qef l).1 ha;unfold qbs at h;rw[Bool.and_eq_true,Bool.or_eq_true,beq_iff_eq] at h;rcases h.2 with e|e
 ·rw[e];rfl
 ·have hh:l.head? ≠ some 48:=by simpa using e
  have hp:=qie l 0 (.inr ⟨hne,hh⟩) hd;unfold qax;rw[if_neg (by omega)];have h1:=qt5 l.reverse (fun c hc=>hd c (List.mem_reverse.1 hc)) (by rw[List.reverse_reverse];exact hh);rw[List.reverse_reverse] at h1;exact h1
structure qhl(s t:BA)(neg:Bool)(A B:List UInt8)(f:Bool):Prop where
 whole:s.data.toList=(if neg then[45] else[])++t.data.toList
 plus:neg=false→Lib.hasPrefix s.data.toList [45]=false
 top:t.data.toList.take (sl t.data.toList)=A
 bot:t.data.toList.drop (sl t.data.toList+1)=B
 found:decide (sl t.data.toList<t.data.toList.length)=f
theorem qhl.sign{s t:BA}{neg:Bool}{A B:List UInt8}{f:Bool}(h:qhl s t neg A B f):Lib.hasPrefix s.data.toList [45]=neg∧Lib.trimPrefix s.data.toList [45]=t.data.toList:=by
 have hw:=h.whole;cases neg
 ·have hp:=h.plus rfl
  refine⟨hp, ?_⟩;unfold Lib.trimPrefix;rw[hp,if_neg (by decide),hw];rfl
 ·have hp:Lib.hasPrefix s.data.toList [45]=true:=by
   rw[hw];rfl
  refine⟨hp, ?_⟩;unfold Lib.trimPrefix;rw[hp,if_pos rfl,hw];rfl
theorem qhl.cut{s t:BA}{neg:Bool}{A B:List UInt8}{f:Bool}(h:qhl s t neg A B f):Lib.cut (Lib.trimPrefix s.data.toList [45]) [47]=(A,if f then B else[],f):=by
 rw[h.sign.2,q92,←h.top,←h.bot,←h.found];by_cases hk:sl t.data.toList<t.data.toList.length
 ·rw[if_pos hk,qag hk];rfl
 ·rw[if_neg hk,qaf hk,List.take_of_length_le (by omega)];rfl
theorem qhl.check{s t:BA}{neg:Bool}{A B:List UInt8}{f:Bool}(h:qhl s t neg A B f):qah s.data.toList =
  if !qbs A||(neg&&A==[48]) then 1
  else if f&&(!qbs B||B==[48]||B==[49]) then 1
  else if 600<A.length∨(f=true∧600<B.length) then 4
  else if qlg s.data.toList=s.data.toList then 0 else 1:=by
 unfold qah;rw[h.cut,h.sign.1];cases f
 ·simp only[Bool.false_and,Bool.false_eq_true,if_false,List.length_nil,false_and,or_false,Nat.not_lt_zero]
 ·simp only[Bool.true_and,if_true,true_and]
theorem qhl.num{s t:BA}{neg:Bool}{A B:List UInt8}{f:Bool}(h:qhl s t neg A B f)(hA:qbs A=true)(hB:f=true→qbs B=true∧B≠[48]):
  qbc s.data.toList=mkRat (if neg then -(qbd 0 A:Int) else(qbd 0 A:Int)) (if f then qbd 0 B else 1):=by
 have h1:qcz s.data.toList=(neg,A,if f then B else[49]):=by
  unfold qcz;rw[h.cut,h.sign.1];cases f<;>rfl
 have h2:qj7 (if f then B else[49])=true∧qbd 0 (if f then B else[49])≠0∧qbd 0 (if f then B else[49])=(if f then qbd 0 B else 1):=by
  cases f
  ·exact⟨rfl,show qbd 0 [49]≠0 by decide,rfl⟩
  ·obtain⟨h2,h3⟩:=hB rfl
   exact⟨qej h2,qh0 h2 h3,rfl⟩
 unfold qbc qf1;rw[h1];simp only[];rw[qej hA,h2.1,qag h2.2.1];simp only[Bool.and_self,if_true,Option.getD_some];rw[qw8,h2.2.2]
theorem qv9{a d:Nat}(hd:0<d)(h:d/Nat.gcd a d=d):Nat.gcd a d=1:=by
 have hg:0<Nat.gcd a d:=Nat.gcd_pos_of_pos_right _ hd;have h1:=Nat.div_mul_cancel (Nat.gcd_dvd_right a d);rw[h] at h1;have h2:d*Nat.gcd a d=d*1:=by omega
 exact Nat.eq_of_mul_eq_mul_left hd h2
theorem q2y{m n:Nat}(h:qax m=qax n):m=n:=by rw[←qdw m,h,qdw]
theorem q2z{l l' r r':List UInt8}(hl:∀c ∈ l,c≠47)(hl':∀c ∈ l',c≠47)(h:l++47::r=l'++47::r'):l=l'∧r=r':=by
 have h1:=congrArg sl h;rw[qqz _ _ hl,qqz _ _ hl'] at h1;obtain⟨h2,h3⟩:=List.append_inj h h1;exact⟨h2,by injection h3⟩
theorem qhl.lowest{s t:BA}{neg:Bool}{A B:List UInt8}{f:Bool}(h:qhl s t neg A B f)(hA:qbs A=true)(hz:neg=true→A≠[48])(hB:f=true→qbs B=true∧B≠[48]∧B≠[49])(hlA:A.length≤600)(hlB:f=true→B.length≤600):
  qlg s.data.toList=s.data.toList↔(f=true→Nat.gcd (qbd 0 A) (qbd 0 B)=1):=by
 have Rx:=h.num hA (fun e=>⟨(hB e).1,(hB e).2.1⟩);have eA:=qfa hA;obtain⟨a,ha⟩:∃a,a=qbd 0 A:=⟨_,rfl⟩;obtain⟨d,sN⟩:∃d,d=(if f then qbd 0 B else 1):=⟨_,rfl⟩;obtain⟨z,sO⟩:∃z:Int,z=if neg then -(a:Int) else(a:Int):=⟨_,rfl⟩
 rw[←ha,←sO,←sN] at Rx;rw[←ha] at eA;have hza:z.natAbs=a:=by rw[sO];cases neg<;>simp
 have hd:0<d:=by
  rw[sN];cases f
  ·exact Nat.zero_lt_one
  ·exact Nat.pos_of_ne_zero (qh0 (hB rfl).1 (hB rfl).2.1)
 have Ln:z<0↔neg=true:=by
  rw[sO];cases neg
  ·simp
  ·have h1:=qh0 hA (hz rfl)
   rw[←ha] at h1;simp;omega
 have xO:f=true→d≠1:=by
  intro e e1;have h1:=qfa (hB e).1;rw[sN,if_pos e] at e1;rw[e1] at h1;exact(hB e).2.2 (h1.symm.trans qly)
 have hs:s.data.toList=(if z<0 then[45] else[])++qax z.natAbs++(if d=1 then[] else 47::qax d):=by
  rw[h.whole,hza,eA]
  have e1:(if z<0 then([45]:List UInt8) else[])=if neg then[45] else[]:=by
   by_cases e:neg=true
   ·rw[if_pos e,if_pos (Ln.2 e)]
   ·rw[if_neg e,if_neg (fun e2=>e (Ln.1 e2))]
  rw[e1,List.append_assoc]
  congr 1
  have Kc:=h.found;cases f
  ·have hk:¬sl t.data.toList<t.data.toList.length:=of_decide_eq_false Kc
   have e2:=h.top;rw[List.take_of_length_le (by omega)] at e2;rw[if_pos (by rw[sN];rfl),List.append_nil,e2]
  ·have hk:sl t.data.toList<t.data.toList.length:=of_decide_eq_true Kc
   have e2:=qxr hk;rw[h.top,h.bot] at e2;rw[if_neg (xO rfl)]
   have e3:qax d=B:=by
    rw[sN,if_pos rfl];exact qfa (hB rfl).1
   rw[e3];exact e2
 unfold qlg;rw[Rx];obtain⟨p1,p2⟩:=qjx z d hd;rw[hza] at p1 p2
 have hgcd:(f=true→Nat.gcd (qbd 0 A) (qbd 0 B)=1)↔Nat.gcd a d=1:=by
  rw[sN,←ha];cases f
  ·simp
  ·simp
 rw[hgcd];constructor
 ·intro ht
  split at ht
  ·rename_i bU
   have h3:(mkRat z d).den=d:=by
    rw[hs] at ht;unfold qa2 at ht;have g1:∀x:Int,∀c ∈ (if x<0 then([45]:List UInt8) else[])++qax x.natAbs,c≠47:=fun x=>qm1 x;by_cases e1:d=1
    ·rw[if_pos e1,List.append_nil] at ht
     by_cases e2:(mkRat z d).den=1
     ·rw[e2,e1]
     ·rw[if_neg e2] at ht
      exfalso;refine g1 z 47 ?_ rfl;rw[←ht];simp
    ·rw[if_neg e1] at ht
     by_cases e2:(mkRat z d).den=1
     ·rw[if_pos e2,List.append_nil] at ht
      exfalso;refine g1 (mkRat z d).num 47 ?_ rfl;rw[ht];simp
     ·rw[if_neg e2] at ht
      exact q2y (q2z (g1 _) (g1 _) ht).2
   rw[p2] at h3;exact qv9 hd h3
  ·exfalso
   rw[hs] at ht;have h4:=congrArg List.length ht;have h5:=List.length_pos_iff.2 (qgq z.natAbs);simp at h4;omega
 ·intro hg
  rw[hg,Nat.div_one] at p1 p2
  have e1:(mkRat z d).num=z:=by
   rw[p1,←hza];rcases Int.lt_or_le z 0 with e|e
   ·rw[qag e,if_pos rfl];omega
   ·rw[qaf (by omega),if_neg (by decide)];omega
  have bU:qby (mkRat z d) 600=true:=by
   unfold qby;rw[e1,p2,hza,eA,Bool.and_eq_true,Bool.or_eq_true];refine⟨qag hlA, ?_⟩;cases f
   ·exact .inl (qag sN)
   ·refine .inr (qag ?_)
    rw[sN,if_pos rfl,qfa (hB rfl).1];exact hlB rfl
  rw[if_pos bU,hs];unfold qa2;rw[e1,p2]
end Go.Proofs.YtlkdlffhmakbgaaGreatDoor
