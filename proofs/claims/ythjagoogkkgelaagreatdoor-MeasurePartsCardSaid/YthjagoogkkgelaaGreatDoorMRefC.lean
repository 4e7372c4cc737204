/- The reference's divDigits for all numbers, and common, the greatest common divisor. -/
import Derived.Test.YthjagoogkkgelaaGreatDoorMRefA
import Derived.Test.YthjagoogkkgelaaGreatDoorMNumRead
import Derived.Deep.RegionHeld3
import Derived.Test.YthjagoogkkgelaaGreatDoorMWrite
import Derived.Lib.Strings
import Derived.Lib.Split
import Derived.Test.YthjagoogkkgelaaGreatDoorMText
set_option linter.all false
namespace Go.Proofs.YthjagoogkkgelaaGreatDoor
open Go.RowKit
set_option maxRecDepth 100000
set_option maxHeartbeats 8000000
theorem qma(va vb:Value)(m n:Nat)(w:World)(ha:DN w va m)(hb:DN w vb n)(hn:0<n)(hl:dl m≤900):
  Calls Tryz.prog 177 #[va,vb] w fun e w'=>(∃vq vr,e = .returned (.tuple #[vq,vr])∧DN w' vq (m/n)∧DN w' vr (m % n))∧Below w.heap.size w w':=by
 by_cases h1:m<n∨dl n=1
 ·exact qqw va vb m n w ha hb h1 (by omega)
 ·have h2:dl n≠0:=by
   unfold dl;intro e;have:=(qe9 qa3).1 (List.length_eq_zero_iff.1 e);omega
  exact qsp va vb m n (dl n-2) w ha hb (by omega) (by omega) hl
theorem qgf{w:World}{v:Value}{n:Nat}(h:DN w v n):∃p k c,v = .slice p k c∧k=dl n:=by
 obtain⟨_,p,c,rfl,_⟩:=h;exact⟨p,_,c,rfl,rfl⟩
theorem q3u:dl 0=0:=by unfold dl;rw[qam];rfl
theorem qyh{n:Nat}:0<dl n↔0<n:=by
 constructor
 ·intro h
  rcases Nat.eq_zero_or_pos n with e|e
  ·rw[e,q3u] at h;omega
  ·exact e
 ·intro h
  unfold dl;rw[qf5 _ _ qa3 h];simp
theorem qp2{m n:Nat}(h:m≤n):dl m≤dl n:=qad qa3 h
theorem qwv(va vb:Value)(m n:Nat)(w:World)(ha:DN w va m)(hb:DN w vb n)(hl:dl m≤900)(hl2:dl n≤900):
  Calls Tryz.prog 131 #[va,vb] w fun e w'=>(∃v',e = .returned v'∧DN w' v' (Nat.gcd m n))∧Below w.heap.size w w':=by
 obtain⟨pa,ka,ca,rfl,hka⟩:=qgf ha;obtain⟨pb,kb,cb,rfl,hkb⟩:=qgf hb;have HA:=hid ha;have HB:=hid hb;have HL:=hid (And.intro hl hl2);have HKB:=hid hkb;clear ha hb hka hkb hl hl2;go_enter Tryz.func131,Tryz.ntmps131;go_wp2_with fail
 go_loopg [0,1] n (fun k s0 s1 wr=>∃(x:Nat) (p:Option Addr) (j c:Nat),s1 = .slice p j c∧Hid (DN wr s0 x)∧Hid (DN wr (.slice p j c) k)∧Hid (j=dl k)∧Hid (dl x≤900∧dl k≤900)∧Hid (Nat.gcd x k=Nat.gcd m n)∧Hid (Below w.heap.size w wr))
 case atStart=>exact⟨m,pb,kb,cb,rfl,HA,HB,HKB,HL,hid rfl,hid (Below.refl _ _)⟩
 case round=>
  obtain⟨x,p,j,c,rfl,HX,HY,HJ,HLL,HG,HBW⟩:=hrel;obtain⟨k,hke⟩:∃k,k=gk:=⟨_,rfl⟩;subst gk;obtain⟨s0,hs0⟩:∃s0,s0=u0:=⟨_,rfl⟩;subst u0;rcases Nat.eq_zero_or_pos k with e|hk
  ·subst e
   have hj0:j=0:=by rw[HJ.out,q3u]
   subst hj0;have HE:Hid (Nat.gcd m n=x):=hid (by rw[←HG.out,Nat.gcd_zero_right]);go_wp2_with fail;go_ret;exact⟨⟨_,rfl,by rw[HE.out];exact HX.out⟩,HBW.out⟩
  ·have hj0:0<j:=by rw[HJ.out];exact qyh.2 hk
   have HD:=hid (qma s0 (.slice p j c) x k wr HX.out HY.out hk HLL.out.1);go_wp2_with fail;refine HD.out.mono ?_;rintro e w1 ⟨⟨vq,vr,rfl,_,hr⟩,hb1⟩;obtain⟨p2,k2,c2,rfl,hk2⟩:=qgf hr;have HR:=hid hr;have HR2:=hid hk2;have HBW2:Hid (Below w.heap.size w w1):=hid (HBW.out.trans (hb1.mono HBW.out.size));have HY2:Hid (DN w1 (.slice p j c) k):=hid (HY.out.later hb1);have HG2:Hid (Nat.gcd k (x % k)=Nat.gcd m n):=hid (by rw[←HG.out,Nat.gcd_comm x k,Nat.gcd_rec k x,Nat.gcd_comm]);have hlt:x % k<k:=Nat.mod_lt _ hk;have HLL2:Hid (dl k≤900∧dl (x % k)≤900):=hid ⟨HLL.out.2,Nat.le_trans (qp2 (Nat.le_of_lt hlt)) HLL.out.2⟩;clear hr hb1 HD hk2;go_wp2_with fail
   go_roundg (x % k)
   case measure=>exact hlt
   case rel=>exact⟨k,p2,k2,c2,rfl,HY2,HR,HR2,HLL2,HG2,HBW2⟩
theorem qup(a:Nat)(l:List UInt8)(c:UInt8):qa0 a (l++[c])=qa0 a l*10+(c.toNat-48):=by
 unfold qa0;rw[List.foldl_append];rfl
theorem qrf(s:ByteArray)(w:World)(hd:∀c ∈ s.data.toList,isD c=true)(hl:s.size≤18):
  Calls Tryz.prog 181 #[.string s] w fun e w'=>e = .returned (.int .i64 (qa0 0 s.data.toList:Nat))∧w'=w:=by
 have HD:=hid hd;have HSN:=hid (qdk s);clear hd;go_enter Tryz.func181,Tryz.ntmps181;go_wp2_with fail
 go_loopw [3,4] (fun n i wr=>∃k a:Nat,k≤s.size∧i = .int .i64 k∧n = .int .i64 a∧Hid (a=qa0 0 (s.data.toList.take k))∧wr=w) (fun _ i _=>s.size-(intOf i).toNat)
 case atStart=>exact⟨0,0,Nat.zero_le _,rfl,rfl,hid rfl,rfl⟩
 case round=>
  obtain⟨k,a,hk,rfl,rfl,HA,rfl⟩:=hrel;by_cases hks:k<s.size
  ·have hcd:isD (s[k]'hks)=true:=HD.out _ (by rw[←qdr s k hks];exact List.getElem_mem _)
   have hc:48≤(s[k]'hks).toNat∧(s[k]'hks).toNat≤57:=by simpa [isD] using hcd
   have hab:a<1000000000000000000:=by
    have h1:=qfz (s.data.toList.take k) (fun c hc=>HD.out c (List.mem_of_mem_take hc));rw[←HA.out] at h1;have h2:(s.data.toList.take k).length≤17:=by rw[List.length_take];omega
    have h3:=Nat.pow_le_pow_right (show 0<10 by omega) h2;omega
   have HA2:Hid (10*a+((s[k]'hks).toNat-48)=qa0 0 (s.data.toList.take (k+1))):=hid (by rw[HSN.out k hks,qup,←HA.out,Nat.mul_comm])
   have hab2:(a:Int)≤99999999999999999:=by
    have h1:=qfz (s.data.toList.take k) (fun c hc=>HD.out c (List.mem_of_mem_take hc));rw[←HA.out] at h1;have h2:(s.data.toList.take k).length≤17:=by rw[List.length_take];omega
    have h3:=Nat.pow_le_pow_right (show 0<10 by omega) h2;omega
   have hci:∀h:k<s.size,((s[k]'h).toNat:Int)=((s[k]'hks).toNat:Int):=fun h=>rfl;clear hcd hab;generalize (s[k]'hks).toNat=c at *;obtain⟨h1,h2⟩:=hc;obtain⟨d,hd⟩:∃d,d=10*a+(c-48):=⟨_,rfl⟩;have hdi:10*(a:Int)+(c:Int)-48=(d:Int):=by omega
   rw[←hd] at HA2;clear hd;go_wp2_with fail;go_roundw
   case rel=>exact⟨k+1,d,by omega,by go_num,rfl,HA2,trivial⟩
   case measure=>simp[intOf];omega
  ·have hke:k=s.size:=by omega
   have HE:Hid (a=qa0 0 s.data.toList):=hid (by rw[HA.out,List.take_of_length_le (by simp;omega)]);clear hke;go_wp2_with fail;go_ret;exact⟨qa1 (by rw[HE.out]),rfl⟩
def sl(l:List UInt8):Nat:=l.findIdx (· == 47)
theorem q7a(l:List UInt8):sl l≤l.length:=List.findIdx_le_length
theorem zcf{s:ByteArray}{k:Nat}(h:k<s.size)(hc:(s[k]'h).toNat=47)(hb:∀c ∈ s.data.toList.take k,c≠47):sl s.data.toList=k:=by
 unfold sl;have hk:k<s.data.toList.length:=by simpa using h
 have h2:s.data.toList[k]=47:=by rw[qdr s k h];exact UInt8.toNat_inj.1 hc
 rw[List.findIdx_eq hk];refine⟨by rw[h2];rfl,fun j hj => ?_⟩;have:=hb (s.data.toList[j]'(by omega)) (by rw[List.mem_take_iff_getElem];exact⟨j,by omega,rfl⟩)
 simpa using this
theorem q3v{l:List UInt8}(hb:∀c ∈ l,c≠47):sl l=l.length:=by
 unfold sl;rw[List.findIdx_eq_length];intro c hc
 simpa using hb c hc
theorem qrg(s:ByteArray)(w:World)(hl:s.size≤1073741824):
  Calls Tryz.prog 128 #[.string s] w fun e w'=>e = .returned (.int .i64 (sl s.data.toList:Nat))∧w'=w:=by
 have HSN:=hid (qdk s);have HAT:Hid (∀k,∀h:k<s.size,(s[k]'h).toNat=47→(∀c ∈ s.data.toList.take k,c≠47)→sl s.data.toList=k):=hid fun k h h1 h2=>zcf h h1 h2
 have HNO:Hid ((∀c ∈ s.data.toList.take s.size,c≠47)→sl s.data.toList=s.size):=hid fun h=>by
  rw[List.take_of_length_le (by simp)] at h;rw[q3v h];simp
 generalize sl s.data.toList=res at *;go_enter Tryz.func128,Tryz.ntmps128;go_wp2_with fail
 go_loopw [3] (fun i wr=>∃k:Nat,k≤s.size∧i = .int .i64 k∧Hid (∀c ∈ s.data.toList.take k,c≠47)∧wr=w) (fun i _=>s.size-(intOf i).toNat)
 case atStart=>exact⟨0,Nat.zero_le _,rfl,hid (by simp),rfl⟩
 case round=>
  obtain⟨k,hk,rfl,HD,rfl⟩:=hrel;by_cases hks:k<s.size
  ·have hci:∀h:k<s.size,((s[k]'h).toNat:Int)=((s[k]'hks).toNat:Int):=fun h=>rfl
   have HA:=hid (HAT.out k hks)
   have HD2:Hid ((s[k]'hks).toNat≠47→∀c ∈ s.data.toList.take (k+1),c≠47):=hid fun h=>by
    rw[HSN.out k hks];intro c hc;rcases List.mem_append.1 hc with hc|hc
    ·exact HD.out c hc
    ·rw[List.mem_singleton.1 hc]
     intro e;exact h (by rw[e];rfl)
   generalize (s[k]'hks).toNat=c at *;by_cases h:c=47
   ·subst h
    have HE:=hid (HA.out rfl HD.out);have hb:(((47:Nat):Int)==47)=true:=rfl;clear HA HD2;go_wp2_with fail;go_ret;exact⟨qa1 (by rw[HE.out]),rfl⟩
   ·have hb:((c:Int)==47)=false:=beq_eq_false_iff_ne.2 (by omega)
    have HD3:=hid (HD2.out h);clear HA HD2 h;go_wp2_with fail;go_roundw
    case rel=>exact⟨k+1,by omega,by go_num,HD3,trivial⟩
    case measure=>simp[intOf];omega
  ·have hke:k=s.size:=by omega
   have HE:Hid (res=s.size):=hid (HNO.out (by rw[←hke];exact HD.out));clear hke;go_wp2_with fail;go_ret;exact⟨qa1 (by rw[HE.out]),rfl⟩
theorem q94(s:ByteArray)(k:Nat)(h:k<s.size)(hb:isD (s[k]'h)=false):s.data.toList.all isD=false:=by
 rw[List.all_eq_false];exact⟨s[k]'h,by rw[←qdr s k h];exact List.getElem_mem _,by simp[hb]⟩
theorem q95(s:ByteArray)(w:World)(hl:s.size≤1073741824):
  Calls Tryz.prog 175 #[.string s] w fun e w'=>e = .returned (.bool (s.data.toList.all isD))∧w'=w:=by
 have HSN:=hid (qdk s);have HBAD:=hid (q94 s)
 have HEND:Hid ((∀c ∈ s.data.toList.take s.size,isD c=true)→s.data.toList.all isD=true):=hid fun h=>by
  rw[List.take_of_length_le (by simp)] at h;exact List.all_eq_true.2 h
 generalize s.data.toList.all isD=res at *;go_enter Tryz.func175,Tryz.ntmps175;go_wp2_with fail
 go_loopw [3] (fun i wr=>∃k:Nat,k≤s.size∧i = .int .i64 k∧Hid (∀c ∈ s.data.toList.take k,isD c=true)∧wr=w) (fun i _=>s.size-(intOf i).toNat)
 case atStart=>exact⟨0,Nat.zero_le _,rfl,hid (by simp),rfl⟩
 case round=>
  obtain⟨k,hk,rfl,HD,rfl⟩:=hrel;by_cases hks:k<s.size
  ·have hci:∀h:k<s.size,((s[k]'h).toNat:Int)=((s[k]'hks).toNat:Int):=fun h=>rfl
   by_cases hd:isD (s[k]'hks)=true
   ·have h1:48≤(s[k]'hks).toNat∧(s[k]'hks).toNat≤57:=by simpa [isD] using hd
    have HD2:Hid (∀c ∈ s.data.toList.take (k+1),isD c=true):=hid (by
     rw[HSN.out k hks];intro c hc;rcases List.mem_append.1 hc with hc|hc
     ·exact HD.out c hc
     ·rw[List.mem_singleton.1 hc];exact hd)
    clear hd;generalize (s[k]'hks).toNat=c at *;obtain⟨h48,h57⟩:=h1;have g1:decide ((c:Int)<48)=false:=decide_eq_false (by omega);have g2:decide ((57:Int)<(c:Int))=false:=decide_eq_false (by omega);go_wp2_with fail;go_roundw
    case rel=>exact⟨k+1,by omega,by go_num,HD2,trivial⟩
    case measure=>simp[intOf];omega
   ·have hd':isD (s[k]'hks)=false:=by simpa using hd
    have HRES:=hid (HBAD.out k hks hd')
    have hr:(s[k]'hks).toNat<48∨57<(s[k]'hks).toNat:=by
     unfold isD at hd';have:=of_decide_eq_false hd';omega
    clear hd hd';generalize (s[k]'hks).toNat=c at *;rcases Nat.lt_or_ge c 48 with hr'|hr'
    ·have g1:decide ((c:Int)<48)=true:=decide_eq_true (by omega)
     clear hr;go_wp2_with fail;go_ret;exact⟨qbc HRES.out.symm,rfl⟩
    ·have g1:decide ((c:Int)<48)=false:=decide_eq_false (by omega)
     have g2:decide ((57:Int)<(c:Int))=true:=decide_eq_true (by omega);clear hr;go_wp2_with fail;go_ret;exact⟨qbc HRES.out.symm,rfl⟩
  ·have hke:k=s.size:=by omega
   have HE:=hid (HEND.out (by rw[←hke];exact HD.out));clear hke;go_wp2_with fail;go_ret;exact⟨qbc HE.out.symm,rfl⟩
theorem quq(s:ByteArray):(s.size=0→qbe s.data.toList=false)∧(s.size=1→qbe s.data.toList=s.data.toList.all isD)∧
  (∀h:1<s.size,(s[0]'(by omega)).toNat=48→qbe s.data.toList=false)∧(∀h:1<s.size,(s[0]'(by omega)).toNat≠48→qbe s.data.toList=s.data.toList.all isD):=by
 have e:s.data.toList.length=s.size:=by simp
 unfold qbe qkv;refine⟨fun h => ?_,fun h => ?_,fun h hc => ?_,fun h hc => ?_⟩
 ·have:s.data.toList=[]:=List.length_eq_zero_iff.1 (by omega)
  rw[this];rfl
 ·obtain⟨c,hc⟩:=List.length_eq_one_iff.1 (e.trans h)
  rw[hc];by_cases h2:c=48
  ·subst h2;decide
  ·simp[h2]
 ·have h2:s.data.toList[0]? = some 48:=by rw[List.getElem?_eq_getElem (by omega),qdr s 0 (by omega)];exact congrArg some (UInt8.toNat_inj.1 hc)
  clear hc;generalize s.data.toList=l at *
  match l,e,h2 with
  | [],e,_=>simp at e;omega
  | [c],e,_=>simp at e;omega
  | a::b::r,_,h2=>simp at h2;subst h2;simp
 ·have h2:∃c,s.data.toList[0]? = some c∧c≠48:=⟨_,by rw[List.getElem?_eq_getElem (by omega),qdr s 0 (by omega)],fun e=>hc (by rw[e];rfl)⟩
  obtain⟨c,h2,h3⟩:=h2;clear hc;generalize s.data.toList=l at *
  match l,e,h2 with
  | [],e,_=>simp at e;omega
  | a::r,_,h2=>simp at h2;subst h2;simp[h3]
theorem qjm(s:ByteArray)(w:World)(hl:s.size≤1073741824):
  Calls Tryz.prog 129 #[.string s] w fun e w'=>e = .returned (.bool (qbe s.data.toList))∧w'=w:=by
 have HDG:=hid (q95 s w hl);obtain⟨p0,p1,p2,p3⟩:=quq s;rcases(show s.size=0∨s.size=1∨1<s.size by omega) with h|h|h
 ·have HE:=hid (p0 h)
  have g1:((s.size:Int)==0)=true:=beq_iff_eq.2 (by omega);clear p0 p1 p2 p3 h;go_enter Tryz.func129,Tryz.ntmps129;go_wp2_with fail;go_ret;exact⟨qbc HE.out.symm,rfl⟩
 ·have HE:=hid (p1 h)
  rw[←HE.out] at HDG;have g1:((s.size:Int)==0)=false:=beq_eq_false_iff_ne.2 (by omega);have g2:decide ((1:Int)<(s.size:Int))=false:=decide_eq_false (by omega);clear p0 p1 p2 p3 h;go_enter Tryz.func129,Tryz.ntmps129;go_wp2_with fail;refine HDG.out.mono ?_;rintro e w1 ⟨rfl,rfl⟩;go_wp2_with fail;go_ret;exact⟨rfl,rfl⟩
 ·have g1:((s.size:Int)==0)=false:=beq_eq_false_iff_ne.2 (by omega)
  have g2:decide ((1:Int)<(s.size:Int))=true:=decide_eq_true (by omega);have hs0:0<s.size:=by omega
  have hci:∀h':0<s.size,((s[0]'h').toNat:Int)=((s[0]'hs0).toNat:Int):=fun h=>rfl;have q2:=p2 h;have q3:=p3 h;clear p0 p1 p2 p3;generalize (s[0]'hs0).toNat=c at *;by_cases hc:c=48
  ·have HE:=hid (q2 hc)
   subst hc;have g3:(((48:Nat):Int)==48)=true:=rfl;clear q2 q3;go_enter Tryz.func129,Tryz.ntmps129;go_wp2_with fail;go_ret;exact⟨qbc HE.out.symm,rfl⟩
  ·have HE:=hid (q3 hc)
   rw[←HE.out] at HDG;have g3:((c:Int)==48)=false:=beq_eq_false_iff_ne.2 (by omega);clear q2 q3 hc;go_enter Tryz.func129,Tryz.ntmps129;go_wp2_with fail;refine HDG.out.mono ?_;rintro e w1 ⟨rfl,rfl⟩;go_wp2_with fail;go_ret;exact⟨rfl,rfl⟩
def qct(w:World)(v:Value)(z:Int):Prop:=∃vw,v = .agg #[.bool (decide (z<0)),vw]∧DN w vw z.natAbs
theorem qct.later{w w':World}{v:Value}{z:Int}(h:qct w v z)(hb:Below w.heap.size w w'):qct w' v z:=by
 obtain⟨vw,h1,h2⟩:=h;exact⟨vw,h1,h2.later hb⟩
theorem qhj(neg:Bool)(vw:Value)(l:List Nat)(w:World)(h:Dgs w vw l):
  Calls Tryz.prog 185 #[.bool neg,vw] w fun e w'=>(∃v,e = .returned v∧qct w' v (if neg then -(val D9 l:Int) else(val D9 l:Int)))∧Below w.heap.size w w':=by
 have HT:Hid (∀W,Below w.heap.size w W→Calls Tryz.prog 208 #[vw] W fun e w'=>(∃v',e = .returned v'∧∀o,DN (w.alloc o) v' (val D9 l))∧W=w'):=hid fun W hW=>(q75 vw l W (h.later hW)).mono fun _ _ ⟨⟨v',he,hv⟩,hw⟩=>⟨⟨v',he,fun o=>hv _ (h.later ((Below.refl _ _).alloc (Nat.le_refl _) _))⟩,hw⟩;clear h;generalize val D9 l=n at *;go_enter Tryz.func185,Tryz.ntmps185;go_wp2_with fail;refine(HT.out _ ((Below.refl _ _).alloc (Nat.le_refl _) _)).mono ?_;rintro e w1 ⟨⟨v',rfl,hv⟩,rfl⟩;obtain⟨p,k,c,rfl,hk⟩:=qgf (hv (.cells #[] 0));have HV0:=hid hv;have HK:=hid hk;clear hv hk;have HB:∀o,Below w.heap.size w (w.alloc o):=fun o=>(Below.refl _ w).alloc (Nat.le_refl _) o;have HV2:=HV0.out;cases neg
 ·have HE:Hid (decide ((n:Int)<0)=false):=hid (decide_eq_false (by omega))
  have HV3:=hid HV2;clear HV2;go_wp2_with fail;refine bodyPost_ret (v := .agg #[.bool false,.slice p k c]) ?_ rfl ?_
  ·simp[results,Tryz.results185,go_sem]
  ·exact⟨⟨_,rfl,.slice p k c,by simp only[Bool.false_eq_true,if_false,HE.out],by simp only[Bool.false_eq_true,if_false,Int.natAbs_natCast];exact HV3.out _⟩,HB _⟩
 ·have HV3:=hid HV2
  clear HV2;rcases Nat.eq_zero_or_pos k with e|e
  ·have hn0:n=0:=by
    rcases Nat.eq_zero_or_pos n with h|h
    ·exact h
    ·have:=qyh.2 h;have:=HK.out;omega
   have HN:=hid hn0;clear hn0;subst e;have g:decide ((0:Int)<((0:Nat):Int))=false:=rfl;go_wp2_with fail;refine bodyPost_ret (v := .agg #[.bool false,.slice p 0 c]) ?_ rfl ?_
   ·simp[results,Tryz.results185,go_sem]
   ·exact⟨⟨_,rfl,_,by simp only[if_true,HN.out];rfl,by simp only[if_true,Int.natAbs_neg,Int.natAbs_natCast];exact HV3.out _⟩,HB _⟩
  ·have g:decide ((0:Int)<(k:Int))=true:=decide_eq_true (by omega)
   have HE:Hid (decide (-(n:Int)<0)=true):=hid (decide_eq_true (by have:=qyh.1 (by rw[←HK.out];exact e);omega));clear e;go_wp2_with fail;refine bodyPost_ret (v := .agg #[.bool true,.slice p k c]) ?_ rfl ?_
   ·have:=of_decide_eq_true g
    simp[results,Tryz.results185,go_sem];omega
   ·exact⟨⟨_,rfl,.slice p k c,by simp only[if_true,HE.out],by simp only[if_true,Int.natAbs_neg,Int.natAbs_natCast];exact HV3.out _⟩,HB _⟩
theorem DN.setOther{W:World}{v:Value}{n:Nat}{p:Addr}{x u:Value}(h:DN W v n)(hp:W.cell? p=some u)(hu:∀k z,u ≠ .int k z):DN (W.setCell p x) v n:=by
 obtain⟨h1,a,c,rfl,h2,h3,h4⟩:=h;refine⟨h1,a,c,rfl,h2,h3, ?_⟩;rcases h4 with h4|⟨b,o,rfl,h5⟩
 ·exact .inl h4
 ·refine .inr ⟨b,o,rfl,fun i hi => ?_⟩
  rw[World.cell?_setCell_other _ _ _ _ ?_]
  ·exact h5 i hi
  ·intro e
   rw[e,h5 i hi] at hp;cases hp
   exact hu _ _ rfl
def qiy(b:Bool)(v:Value)(i:Nat):Value:=if i=0 then .bool b else v
theorem qeo{W:World}{g:Nat}{sg:Bool}{t:Value}{z:Int}(h:qct W (.agg #[.bool sg,t]) z)(r:Own W g 2 (qiy false (.slice none 0 0))):
  qct ((W.setCell ⟨g,0,none⟩ (.bool sg)).setCell ⟨g,1,none⟩ t) (.agg #[.bool sg,t]) z:=by
 obtain⟨v,e,hv⟩:=h;refine⟨v,e, ?_⟩;refine(hv.setOther (r.2 0 (by omega)).1 (by intro k z h;cases h)).setOther (u := .slice none 0 0) ?_ (by intro k z h;cases h);rw[World.cell?_setCell_other _ _ _ _ (by intro h;injection h with _ h;cases h)];exact(r.2 1 (by omega)).1
theorem qct.parts{w:World}{v:Value}{z:Int}(h:qct w v z):∃p k c,v = .agg #[.bool (decide (z<0)),.slice p k c]∧k=dl z.natAbs∧DN w (.slice p k c) z.natAbs:=by
 obtain⟨vw,rfl,hv⟩:=h;obtain⟨p,k,c,rfl,hk⟩:=qgf hv;exact⟨p,k,c,rfl,hk,hv⟩
def qft(w:World)(na:Bool)(ta:Value)(nb:Bool)(tb:Value)(W:World):Prop:=
 Below w.heap.size w W∧Own W w.heap.size 2 (qiy na ta)∧Own W (w.heap.size+1) 2 (qiy nb tb)∧Own W (w.heap.size+1+1) 2 (qiy false (.slice none 0 0))
theorem qft.later{w:World}{na nb:Bool}{ta tb:Value}{W W':World}(h:qft w na ta nb tb W)(hb:Below W.heap.size W W'):qft w na ta nb tb W':=by
 obtain⟨h1,h2,h3,h4⟩:=h;have:=h4.1;exact⟨h1.trans (hb.mono h1.size),h2.later (hb.mono (by omega)),h3.later (hb.mono (by omega)),h4.later (hb.mono (by omega))⟩
theorem qim{w W:World}{na nb:Bool}{ta tb:Value}{f:FuncId}{args:Array Value}{P:Ending→World→Prop}(hW:qft w na ta nb tb W)
  (h:Calls Tryz.prog f args W fun e w'=>P e w'∧Below W.heap.size W w'):Calls Tryz.prog f args W fun e w'=>P e w'∧qft w na ta nb tb w':=
 h.mono fun _ _ ⟨h1,h2⟩=>⟨h1,hW.later h2⟩
theorem qd7(V:World)(n:Bool)(t:Value):Own (V.alloc (.cells #[.bool n,t] 185)) V.heap.size 2 (qiy n t):=by
 refine⟨by rw[World.size_alloc];omega,fun i hi => ?_⟩;rw[World.cell?_alloc_at _ _ _ _ rfl,World.frozen?_alloc_at _ _ _ _ rfl]
 match i,hi with
 | 0,_=>exact⟨rfl,rfl⟩
 | 1,_=>exact⟨rfl,rfl⟩
theorem qjn{w:World}{g n:Nat}{f:Nat→Value}(h:Own w g n f)(o:Obj):Own (w.alloc o) g n f:=h.later ((Below.refl _ _).alloc h.1 _)
theorem qur(w:World)(na:Bool)(ta:Value)(nb:Bool)(tb:Value):
  qft w na ta nb tb (((w.alloc (.cells #[.bool na,ta] 185)).alloc (.cells #[.bool nb,tb] 185)).alloc (.cells #[.bool false,.slice none 0 0] 185)):=by
 have h1:=qd7 w na ta;have h2:=qd7 (w.alloc (.cells #[.bool na,ta] 185)) nb tb;have h3:=qd7 ((w.alloc (.cells #[.bool na,ta] 185)).alloc (.cells #[.bool nb,tb] 185)) false (.slice none 0 0);rw[World.size_alloc] at h2 h3;rw[World.size_alloc] at h3;refine⟨(((Below.refl _ _).alloc (Nat.le_refl _) _).alloc (by rw[World.size_alloc];omega) _).alloc (by rw[World.size_alloc,World.size_alloc];omega) _, ?_, ?_,h3⟩
 ·exact qjn (qjn h1 _) _
 ·exact qjn h2 _
theorem qbg{w:World}{na nb:Bool}{ta tb:Value}{W:World}(h:qft w na ta nb tb W):
  W.cell? ⟨w.heap.size,0,none⟩=some (.bool na)∧W.cell? ⟨w.heap.size,1,none⟩=some ta∧W.cell? ⟨w.heap.size+1,0,none⟩=some (.bool nb)∧W.cell? ⟨w.heap.size+1,1,none⟩=some tb:=
 ⟨(h.2.1.2 0 (by omega)).1,(h.2.1.2 1 (by omega)).1,(h.2.2.1.2 0 (by omega)).1,(h.2.2.1.2 1 (by omega)).1⟩
theorem qsq{w W:World}{na nb:Bool}{ta tb:Value}(h:qft w na ta nb tb W):
  (W.cell? ⟨w.heap.size+1+1,0,none⟩=some (.bool false)∧W.frozen? ⟨w.heap.size+1+1,0,none⟩=false)∧(W.cell? ⟨w.heap.size+1+1,1,none⟩=some (.slice none 0 0)∧W.frozen? ⟨w.heap.size+1+1,1,none⟩=false):=
 ⟨h.2.2.2.2 0 (by omega),h.2.2.2.2 1 (by omega)⟩
theorem qfu{W:World}{g1 g2:Nat}{c0 c1 c2 c3:Option Value}(h:W.cell? ⟨g1,0,none⟩=c0∧W.cell? ⟨g1,1,none⟩=c1∧W.cell? ⟨g2,0,none⟩=c2∧W.cell? ⟨g2,1,none⟩=c3){g o:Nat}(h1:g≠g1)(h2:g≠g2)(x:Value):
  (W.setCell ⟨g,o,none⟩ x).cell? ⟨g1,0,none⟩=c0∧(W.setCell ⟨g,o,none⟩ x).cell? ⟨g1,1,none⟩=c1∧(W.setCell ⟨g,o,none⟩ x).cell? ⟨g2,0,none⟩=c2∧(W.setCell ⟨g,o,none⟩ x).cell? ⟨g2,1,none⟩=c3:=by
 have k:∀(a i:Nat),g≠a→(W.setCell ⟨g,o,none⟩ x).cell? ⟨a,i,none⟩=W.cell? ⟨a,i,none⟩:=fun a i h=>World.cell?_setCell_other _ _ _ _ (by intro e;injection e with e;exact h e);rw[k _ _ h1,k _ _ h1,k _ _ h2,k _ _ h2];exact h
theorem qfv{w W:World}{g:Nat}(h:Below w.heap.size w W)(hg:w.heap.size≤g)(x y:Value):Below w.heap.size w ((W.setCell ⟨g,0,none⟩ x).setCell ⟨g,1,none⟩ y):=(h.setCell hg _).setCell hg _
theorem q0t(x y:Int):(if(decide (x<0) != decide (y<0)) then -((x.natAbs*y.natAbs:Nat):Int) else((x.natAbs*y.natAbs:Nat):Int))=x*y:=by
 rcases Int.lt_or_le x 0 with h1|h1<;>rcases Int.lt_or_le y 0 with h2|h2
 ·rw[decide_eq_true h1,decide_eq_true h2,if_neg (by decide),Int.natCast_mul,Int.ofNat_natAbs_of_nonpos (by omega),Int.ofNat_natAbs_of_nonpos (by omega),Int.neg_mul_neg]
 ·rw[decide_eq_true h1,decide_eq_false (by omega),if_pos (by decide),Int.natCast_mul,Int.ofNat_natAbs_of_nonpos (by omega),Int.natAbs_of_nonneg h2,Int.neg_mul,Int.neg_neg]
 ·rw[decide_eq_false (by omega),decide_eq_true h2,if_pos (by decide),Int.natCast_mul,Int.natAbs_of_nonneg h1,Int.ofNat_natAbs_of_nonpos (by omega),Int.mul_neg,Int.neg_neg]
 ·rw[decide_eq_false (by omega),decide_eq_false (by omega),if_neg (by decide),Int.natCast_mul,Int.natAbs_of_nonneg h1,Int.natAbs_of_nonneg h2]
theorem zbd(va vb:Value)(x y:Int)(w:World)(ha:qct w va x)(hb:qct w vb y)(hlx:dl x.natAbs≤1000)(hly:dl y.natAbs≤1000):
  Calls Tryz.prog 138 #[va,vb] w fun e w'=>(∃v,e = .returned v∧qct w' v (x*y))∧Below w.heap.size w w':=by
 obtain⟨pa,ka,ca,rfl,hka,hda⟩:=ha.parts;obtain⟨pb,kb,cb,rfl,hkb,hdb⟩:=hb.parts;clear hka hkb;have HDA:=hid hda;have HDB:=hid hdb;have HST:=q0t x y;clear ha hb hda hdb;have HX:Hid (∃sx,decide (x<0)=sx):=hid ⟨_,rfl⟩;have HSGN:Hid ((if(decide (x<0) != decide (y<0)) then -((x.natAbs*y.natAbs:Nat):Int) else((x.natAbs*y.natAbs:Nat):Int))=x*y):=hid HST;clear HST HX;generalize decide (x<0)=sx at *;generalize decide (y<0)=sy at *;have HW0:=hid (qur w sx (.slice pa ka ca) sy (.slice pb kb cb))
 have HML:Hid (∀W,qft w sx (.slice pa ka ca) sy (.slice pb kb cb) W→Calls Tryz.prog 189 #[.slice pa ka ca,.slice pb kb cb] W fun e w'=>(∃v',e = .returned v'∧DN w' v' (x.natAbs*y.natAbs))∧qft w sx (.slice pa ka ca) sy (.slice pb kb cb) w'):=hid fun W hW=>qim hW (by
  have h:=zce _ _ _ _ W (HDA.out.later hW.1) (HDB.out.later hW.1) hlx hly;rw[qah _ _ qa3,qah _ _ qa3] at h
  exact h)
 have HSG:Hid (∀W v,qft w sx (.slice pa ka ca) sy (.slice pb kb cb) W→DN W v (x.natAbs*y.natAbs)→Calls Tryz.prog 185 #[.bool (sx != sy),v] W fun e w'=>(∃v',e = .returned v'∧qct w' v' (x*y))∧qft w sx (.slice pa ka ca) sy (.slice pb kb cb) w'):=hid fun W v hW hv=>qim hW (by
  have h:=qhj (sx != sy) v _ W hv;rw[qah _ _ qa3,HSGN.out] at h
  exact h)
 clear hlx hly;go_enter Tryz.func138,Tryz.ntmps138;go_wp2_with fail;generalize ((w.alloc (.cells #[.bool sx,.slice pa ka ca] 185)).alloc (.cells #[.bool sy,.slice pb kb cb] 185)).alloc (.cells #[.bool false,.slice none 0 0] 185)=w0 at *;have HT0:Hid (qft w sx (.slice pa ka ca) sy (.slice pb kb cb) w0.drew):=hid (HW0.out.later ((Below.refl _ _).drew))
 go_region_held3 (fun W=>W.cell? ⟨w.heap.size,0,none⟩=some (.bool sx)∧W.cell? ⟨w.heap.size,1,none⟩=some (.slice pa ka ca)∧W.cell? ⟨w.heap.size+1,0,none⟩=some (.bool sy)∧W.cell? ⟨w.heap.size+1,1,none⟩=some (.slice pb kb cb)) (first|exact qbg HTP.out|exact qbg HTN.out|exact qbg HT0.out|exact qfu (qfu (qbg HTP.out) (by omega) (by omega) _) (by omega) (by omega) _)
  (first
   | (go_at_call 189;((with_reducible refine(HML.out _ HT0.out).mono ?_);rintro e wN ⟨⟨vN,rfl,hn⟩,ht⟩;have HVN:=hid hn;have HTN:=hid ht;clear hn ht))
   | (go_at_call 185;((refine(HSG.out _ _ HTN.out HVN.out).mono ?_);rintro e wP ⟨⟨vP,rfl,hn⟩,ht⟩;obtain⟨pt,kt,ct,rfl,hk,_⟩:=hn.parts;have HVP:=hid hn;have HTP:=hid ht;clear hn ht hk;generalize hsg:decide (x*y<0)=sg at *;clear hsg;obtain⟨⟨r0,g0⟩,⟨r1,g1⟩⟩:=qsq HTP.out)))
 have HFIN:=hid (qeo HVP.out HTP.out.2.2.2);have HBEL:=hid (qfv HTP.out.1 (show w.heap.size≤w.heap.size+1+1 by omega) (.bool sg) (.slice pt kt ct));go_wp2_with fail;refine bodyPost_ret (v := .agg #[.bool sg,.slice pt kt ct]) ?_ rfl ?_
 ·simp[results,Tryz.results138,go_sem,r0,r1]
 ·exact⟨⟨_,rfl,HFIN.out⟩,HBEL.out⟩
theorem q3w(x y:Int)(h:decide (x<0)=decide (y<0)):(if decide (x<0)=true then -((x.natAbs+y.natAbs:Nat):Int) else((x.natAbs+y.natAbs:Nat):Int))=x+y:=by
 rcases Int.lt_or_le x 0 with h1|h1
 ·have h2:y<0:=by rw[decide_eq_true h1] at h;exact of_decide_eq_true h.symm
  rw[decide_eq_true h1,if_pos rfl];omega
 ·have h2:¬y<0:=by rw[decide_eq_false (by omega)] at h;exact of_decide_eq_false h.symm
  rw[decide_eq_false (by omega),if_neg (by decide)];omega
theorem qrh(x y:Int)(h:decide (x<0)≠decide (y<0))(hle:y.natAbs≤x.natAbs):(if decide (x<0)=true then -((x.natAbs-y.natAbs:Nat):Int) else((x.natAbs-y.natAbs:Nat):Int))=x+y:=by
 rcases Int.lt_or_le x 0 with h1|h1
 ·have h2:¬y<0:=fun h2=>h (by rw[decide_eq_true h1,decide_eq_true h2])
  rw[decide_eq_true h1,if_pos rfl];omega
 ·have h2:y<0:=by
   rcases Int.lt_or_le y 0 with h2|h2
   ·exact h2
   ·exact absurd (by rw[decide_eq_false (by omega),decide_eq_false (by omega)]) h
  rw[decide_eq_false (by omega),if_neg (by decide)];omega
theorem zcg(va vb:Value)(x y:Int)(w:World)(ha:qct w va x)(hb:qct w vb y)(hlx:dl x.natAbs≤1000)(hly:dl y.natAbs≤1000):
  Calls Tryz.prog 137 #[va,vb] w fun e w'=>(∃v,e = .returned v∧qct w' v (x+y))∧Below w.heap.size w w':=by
 obtain⟨pa,ka,ca,rfl,hka,hda⟩:=ha.parts;obtain⟨pb,kb,cb,rfl,hkb,hdb⟩:=hb.parts;clear hka hkb;have HDA:=hid hda;have HDB:=hid hdb;have HSAME:=hid (q3w x y);have HOTH:=hid (qrh x y);have HOTH2:Hid (decide (x<0)≠decide (y<0)→x.natAbs≤y.natAbs→(if decide (y<0)=true then -((y.natAbs-x.natAbs:Nat):Int) else((y.natAbs-x.natAbs:Nat):Int))=x+y):=hid fun h hle=>by rw[Int.add_comm];exact qrh y x (Ne.symm h) hle
 clear ha hb hda hdb;generalize decide (x<0)=sx at *;generalize decide (y<0)=sy at *;have HW0:=hid (qur w sx (.slice pa ka ca) sy (.slice pb kb cb))
 have HSG:Hid (∀s n l W v,(if s=true then -((n:Nat):Int) else(n:Int))=x+y→qft w sx (.slice pa ka ca) sy (.slice pb kb cb) W→Dgs W v l→val D9 l=n→Calls Tryz.prog 185 #[.bool s,v] W fun e w'=>(∃v',e = .returned v'∧qct w' v' (x+y))∧qft w sx (.slice pa ka ca) sy (.slice pb kb cb) w'):=hid fun s n l W v hs hW hv hl=>qim hW (by
  have h:=qhj s v l W hv;rw[hl,hs] at h
  exact h)
 by_cases heq:sx=sy
 ·have HAD:Hid (∀W,qft w sx (.slice pa ka ca) sy (.slice pb kb cb) W→Calls Tryz.prog 186 #[.slice pa ka ca,.slice pb kb cb] W fun e w'=>(∃v' l',e = .returned v'∧Dgs w' v' l'∧val D9 l'=x.natAbs+y.natAbs)∧qft w sx (.slice pa ka ca) sy (.slice pb kb cb) w'):=hid fun W hW=>qim hW (by
   have h:=zcn _ _ _ _ W (HDA.out.later hW.1) (HDB.out.later hW.1) hlx hly;rw[qah _ _ qa3,qah _ _ qa3] at h
   exact h.mono fun _ _ ⟨⟨v',l',h1,h2,h3,_⟩,h4⟩=>⟨⟨v',l',h1,h2,h3⟩,h4⟩)
  have HS:=hid (HSAME.out heq);clear HSAME HOTH HOTH2 hlx hly;have hbe:(sx==sy)=true:=by rw[heq];exact beq_self_eq_true _
  clear heq;go_enter Tryz.func137,Tryz.ntmps137;go_wp2_with fail;generalize ((w.alloc (.cells #[.bool sx,.slice pa ka ca] 185)).alloc (.cells #[.bool sy,.slice pb kb cb] 185)).alloc (.cells #[.bool false,.slice none 0 0] 185)=w0 at *;have HT0:Hid (qft w sx (.slice pa ka ca) sy (.slice pb kb cb) w0.drew):=hid (HW0.out.later ((Below.refl _ _).drew))
  go_region_held3 (fun W=>W.cell? ⟨w.heap.size,0,none⟩=some (.bool sx)∧W.cell? ⟨w.heap.size,1,none⟩=some (.slice pa ka ca)∧W.cell? ⟨w.heap.size+1,0,none⟩=some (.bool sy)∧W.cell? ⟨w.heap.size+1,1,none⟩=some (.slice pb kb cb)) (first|exact qbg HTP.out|exact qbg HTN.out|exact qbg HT0.out|exact qfu (qfu (qbg HTP.out) (by omega) (by omega) _) (by omega) (by omega) _)
   (first
    | (go_at_call 186;((with_reducible refine(HAD.out _ HT0.out).mono ?_);rintro e wN ⟨⟨vN,lN,rfl,hn,hl⟩,ht⟩;have HVN:=hid hn;have HLN:=hid hl;have HTN:=hid ht;clear hn ht hl))
    | (go_at_call 185;((refine(HSG.out sx (x.natAbs+y.natAbs) lN _ _ HS.out HTN.out HVN.out HLN.out).mono ?_);rintro e wP ⟨⟨vP,rfl,hn⟩,ht⟩;obtain⟨pt,kt,ct,rfl,hk,_⟩:=hn.parts;have HVP:=hid hn;have HTP:=hid ht;clear hn ht hk;generalize hsg:decide (x+y<0)=sg at *;clear hsg;obtain⟨⟨r0,g0⟩,⟨r1,g1⟩⟩:=qsq HTP.out)))
  have HFIN:=hid (qeo HVP.out HTP.out.2.2.2);have HBEL:=hid (qfv HTP.out.1 (show w.heap.size≤w.heap.size+1+1 by omega) (.bool sg) (.slice pt kt ct));go_wp2_with fail;refine bodyPost_ret (v := .agg #[.bool sg,.slice pt kt ct]) ?_ rfl ?_
  ·simp[results,Tryz.results137,go_sem,r0,r1]
  ·exact⟨⟨_,rfl,HFIN.out⟩,HBEL.out⟩
 ·have hbe:(sx==sy)=false:=beq_eq_false_iff_ne.2 heq
  have HCM:Hid (∀W,qft w sx (.slice pa ka ca) sy (.slice pb kb cb) W→Calls Tryz.prog 187 #[.slice pa ka ca,.slice pb kb cb] W fun e w'=>e = .returned (.int .i64 (qex x.natAbs y.natAbs))∧qft w sx (.slice pa ka ca) sy (.slice pb kb cb) w'):=hid fun W hW=>qim hW (qsn _ _ _ _ W (HDA.out.later hW.1) (HDB.out.later hW.1));by_cases hle:y.natAbs≤x.natAbs
  ·have HAD:Hid (∀W,qft w sx (.slice pa ka ca) sy (.slice pb kb cb) W→Calls Tryz.prog 188 #[.slice pa ka ca,.slice pb kb cb] W fun e w'=>(∃v' l',e = .returned v'∧Dgs w' v' l'∧val D9 l'=x.natAbs-y.natAbs)∧qft w sx (.slice pa ka ca) sy (.slice pb kb cb) w'):=hid fun W hW=>qim hW (by
    have h:=zcl _ _ _ _ W (HDA.out.later hW.1) (HDB.out.later hW.1) hle hlx
    exact h.mono fun _ _ ⟨⟨v',h1,h2⟩,h4⟩=>⟨⟨v',_,h1,h2,qah _ _ qa3⟩,h4⟩)
   have HS:=hid (HOTH.out heq hle);obtain⟨cc,hcc⟩:∃cc,qex x.natAbs y.natAbs=cc:=⟨_,rfl⟩;rw[hcc] at HCM
   have hc0:(0:Int)≤cc:=by
    rcases(show x.natAbs=y.natAbs∨y.natAbs<x.natAbs by omega) with h|h
    ·have:=qet (x:=(x.natAbs:Int)) (y:=y.natAbs) (by omega);unfold qex at hcc;omega
    ·have:=qcl (x:=(x.natAbs:Int)) (y:=y.natAbs) (by omega);unfold qex at hcc;omega
   clear HSAME HOTH HOTH2 hlx hly heq hle hcc;go_enter Tryz.func137,Tryz.ntmps137;go_wp2_with fail;generalize ((w.alloc (.cells #[.bool sx,.slice pa ka ca] 185)).alloc (.cells #[.bool sy,.slice pb kb cb] 185)).alloc (.cells #[.bool false,.slice none 0 0] 185)=w0 at *;refine(HCM.out _ HW0.out).mono ?_;rintro e w1 ⟨rfl,ht⟩;have HT0:Hid (qft w sx (.slice pa ka ca) sy (.slice pb kb cb) w1.drew):=hid (ht.later ((Below.refl _ _).drew));have hcells:=qbg ht;clear ht;go_wp2_with fail
   go_region_held3 (fun W=>W.cell? ⟨w.heap.size,0,none⟩=some (.bool sx)∧W.cell? ⟨w.heap.size,1,none⟩=some (.slice pa ka ca)∧W.cell? ⟨w.heap.size+1,0,none⟩=some (.bool sy)∧W.cell? ⟨w.heap.size+1,1,none⟩=some (.slice pb kb cb)) (first|exact qbg HTP.out|exact qbg HTN.out|exact qbg HT0.out|exact qfu (qfu (qbg HTP.out) (by omega) (by omega) _) (by omega) (by omega) _)
    (first
     | (go_at_call 188;((with_reducible refine(HAD.out _ HT0.out).mono ?_);rintro e wN ⟨⟨vN,lN,rfl,hn,hl⟩,ht⟩;have HVN:=hid hn;have HLN:=hid hl;have HTN:=hid ht;clear hn ht hl))
     | (go_at_call 185;((refine(HSG.out sx (x.natAbs-y.natAbs) lN _ _ HS.out HTN.out HVN.out HLN.out).mono ?_);rintro e wP ⟨⟨vP,rfl,hn⟩,ht⟩;obtain⟨pt,kt,ct,rfl,hk,_⟩:=hn.parts;have HVP:=hid hn;have HTP:=hid ht;clear hn ht hk;generalize hsg:decide (x+y<0)=sg at *;clear hsg;obtain⟨⟨r0,g0⟩,⟨r1,g1⟩⟩:=qsq HTP.out)))
   have HFIN:=hid (qeo HVP.out HTP.out.2.2.2);have HBEL:=hid (qfv HTP.out.1 (show w.heap.size≤w.heap.size+1+1 by omega) (.bool sg) (.slice pt kt ct));go_wp2_with fail;refine bodyPost_ret (v := .agg #[.bool sg,.slice pt kt ct]) ?_ rfl ?_
   ·simp[results,Tryz.results137,go_sem,r0,r1]
   ·exact⟨⟨_,rfl,HFIN.out⟩,HBEL.out⟩
  ·have hle2:x.natAbs≤y.natAbs:=by omega
   have HAD:Hid (∀W,qft w sx (.slice pa ka ca) sy (.slice pb kb cb) W→Calls Tryz.prog 188 #[.slice pb kb cb,.slice pa ka ca] W fun e w'=>(∃v' l',e = .returned v'∧Dgs w' v' l'∧val D9 l'=y.natAbs-x.natAbs)∧qft w sx (.slice pa ka ca) sy (.slice pb kb cb) w'):=hid fun W hW=>qim hW (by
    have h:=zcl _ _ _ _ W (HDB.out.later hW.1) (HDA.out.later hW.1) hle2 hly
    exact h.mono fun _ _ ⟨⟨v',h1,h2⟩,h4⟩=>⟨⟨v',_,h1,h2,qah _ _ qa3⟩,h4⟩)
   have HS:=hid (HOTH2.out heq hle2);obtain⟨cc,hcc⟩:∃cc,qex x.natAbs y.natAbs=cc:=⟨_,rfl⟩;rw[hcc] at HCM
   have hc0:¬(0:Int)≤cc:=by
    have:=qda (x:=(x.natAbs:Int)) (y:=y.natAbs) (by omega);unfold qex at hcc;omega
   clear HSAME HOTH HOTH2 hlx hly heq hle hle2 hcc;go_enter Tryz.func137,Tryz.ntmps137;go_wp2_with fail;generalize ((w.alloc (.cells #[.bool sx,.slice pa ka ca] 185)).alloc (.cells #[.bool sy,.slice pb kb cb] 185)).alloc (.cells #[.bool false,.slice none 0 0] 185)=w0 at *;refine(HCM.out _ HW0.out).mono ?_;rintro e w1 ⟨rfl,ht⟩;have HT0:Hid (qft w sx (.slice pa ka ca) sy (.slice pb kb cb) w1.drew):=hid (ht.later ((Below.refl _ _).drew));have hcells:=qbg ht;clear ht;go_wp2_with fail
   go_region_held3 (fun W=>W.cell? ⟨w.heap.size,0,none⟩=some (.bool sx)∧W.cell? ⟨w.heap.size,1,none⟩=some (.slice pa ka ca)∧W.cell? ⟨w.heap.size+1,0,none⟩=some (.bool sy)∧W.cell? ⟨w.heap.size+1,1,none⟩=some (.slice pb kb cb)) (first|exact qbg HTP.out|exact qbg HTN.out|exact qbg HT0.out|exact qfu (qfu (qbg HTP.out) (by omega) (by omega) _) (by omega) (by omega) _)
    (first
     | (go_at_call 188;((with_reducible refine(HAD.out _ HT0.out).mono ?_);rintro e wN ⟨⟨vN,lN,rfl,hn,hl⟩,ht⟩;have HVN:=hid hn;have HLN:=hid hl;have HTN:=hid ht;clear hn ht hl))
     | (go_at_call 185;((refine(HSG.out sy (y.natAbs-x.natAbs) lN _ _ HS.out HTN.out HVN.out HLN.out).mono ?_);rintro e wP ⟨⟨vP,rfl,hn⟩,ht⟩;obtain⟨pt,kt,ct,rfl,hk,_⟩:=hn.parts;have HVP:=hid hn;have HTP:=hid ht;clear hn ht hk;generalize hsg:decide (x+y<0)=sg at *;clear hsg;obtain⟨⟨r0,g0⟩,⟨r1,g1⟩⟩:=qsq HTP.out)))
   have HFIN:=hid (qeo HVP.out HTP.out.2.2.2);have HBEL:=hid (qfv HTP.out.1 (show w.heap.size≤w.heap.size+1+1 by omega) (.bool sg) (.slice pt kt ct));go_wp2_with fail;refine bodyPost_ret (v := .agg #[.bool sg,.slice pt kt ct]) ?_ rfl ?_
   ·simp[results,Tryz.results137,go_sem,r0,r1]
   ·exact⟨⟨_,rfl,HFIN.out⟩,HBEL.out⟩
theorem q0u(x:Int):(if(!decide (x<0))=true then -((x.natAbs:Nat):Int) else((x.natAbs:Nat):Int)) = -x:=by
 rcases Int.lt_or_le x 0 with h|h
 ·rw[decide_eq_true h,if_neg (by decide)];omega
 ·rw[decide_eq_false (by omega),if_pos (by decide)];omega
theorem q77(va:Value)(x:Int)(w:World)(ha:qct w va x):
  Calls Tryz.prog 184 #[va] w fun e w'=>(∃v,e = .returned v∧qct w' v (-x))∧Below w.heap.size w w':=by
 obtain⟨pa,ka,ca,rfl,hka,hda⟩:=ha.parts;clear hka;have HDA:=hid hda;have HSN:=hid (q0u x);clear ha hda;generalize decide (x<0)=sx at *
 have HSG:Hid (∀W,Below w.heap.size w W→Calls Tryz.prog 185 #[.bool (!sx),.slice pa ka ca] W fun e w'=>(∃v',e = .returned v'∧qct w' v' (-x))∧Below W.heap.size W w'):=hid fun W hW=>by
  have h:=qhj (!sx) _ _ W (HDA.out.later hW);rw[qah _ _ qa3,HSN.out] at h;exact h
 have HB0:Hid (Below w.heap.size w ((w.alloc (.cells #[.bool sx,.slice pa ka ca] 185)).alloc (.cells #[.bool false,.slice none 0 0] 185))):=hid (((Below.refl _ _).alloc (Nat.le_refl _) _).alloc (by rw[World.size_alloc];omega) _);have HO0:=hid (qd7 (w.alloc (.cells #[.bool sx,.slice pa ka ca] 185)) false (.slice none 0 0));rw[World.size_alloc] at HO0;go_enter Tryz.func184,Tryz.ntmps184;go_wp2_with fail;generalize (w.alloc (.cells #[.bool sx,.slice pa ka ca] 185)).alloc (.cells #[.bool false,.slice none 0 0] 185)=w0 at *;refine(HSG.out _ HB0.out).mono ?_;rintro e w1 ⟨⟨v1,rfl,h1⟩,hb1⟩;obtain⟨pt,kt,ct,rfl,hk,_⟩:=h1.parts;have HV:=hid h1;have ho:Own w1 (w.heap.size+1) 2 (qiy false (.slice none 0 0)):=HO0.out.later (hb1.mono HO0.out.1);have HO:=hid ho;have HB:=hid (HB0.out.trans (hb1.mono HB0.out.size));obtain⟨r0,g0⟩:=ho.2 0 (by omega);obtain⟨r1,g1⟩:=ho.2 1 (by omega);clear h1 hb1 hk ho;generalize hsg:decide (-x<0)=sg at *;clear hsg;have HFIN:=hid (qeo HV.out HO.out);have HBEL:=hid (qfv HB.out (show w.heap.size≤w.heap.size+1 by omega) (.bool sg) (.slice pt kt ct));go_wp2_with fail;refine bodyPost_ret (v := .agg #[.bool sg,.slice pt kt ct]) ?_ rfl ?_
 ·simp[results,Tryz.results184,go_sem,r0,r1]
 ·exact⟨⟨_,rfl,HFIN.out⟩,HBEL.out⟩
theorem q0v(lo:List Nat)(k m:Nat)(h:lo.length=k):val D9 (lo++[m % 1000000000])+D9^(k+1)*(m/1000000000)=val D9 lo+D9^k*m:=by
 rw[qd9,h,Nat.pow_succ,Nat.mul_assoc,Nat.add_assoc,←Nat.mul_add,qbp,Nat.mod_add_div]
theorem q78(n:Nat)(w:World)(hn:n<9223372036854775808):
  Calls Tryz.prog 140 #[.int .i64 n] w fun e w'=>(∃v,e = .returned v∧qct w' v (n:Int))∧Below w.heap.size w w':=by
 have HW0:Hid (Below w.heap.size w (w.alloc (.cells #[.bool false,.slice none 0 0] 185))):=hid ((Below.refl _ _).alloc (Nat.le_refl _) _);have HO0:=hid (qd7 w false (.slice none 0 0));have hni:(n:Int)≤9223372036854775807:=by omega
 have HNB:=hid hn;clear hn;go_enter Tryz.func140,Tryz.ntmps140;go_wp2_with fail;generalize hw0:w.alloc (.cells #[.bool false,.slice none 0 0] 185)=w0 at *;have HG:Hid (w.heap.size<w0.heap.size):=hid (by rw[←hw0,World.size_alloc];omega);clear hw0
 go_loopw [0,3] (fun x v wr=>∃m k:Nat,∃lo:List Nat,x = .int .i64 m∧Hid (m≤n)∧Hid (lo.length=k)∧Hid (∀d ∈ lo,d<D9)∧Hid (val D9 lo+D9^k*m=n)∧Hid (wr.ownsRow w0.heap.size 3 1 v k ((zi lo).map (Value.int .i64)))∧Hid (Below w0.heap.size w0 wr)) (fun x _ _=>(intOf x).toNat)
 case atStart=>exact⟨n,0,[],rfl,hid (Nat.le_refl _),hid rfl,hid (by simp),hid (by simp),hid (World.ownsRow_nil _ _ _ _),hid (Below.refl _ _)⟩
 case round=>
  obtain⟨m,k,lo,rfl,HM,HL,HLD,HV,HOWN,HB⟩:=hrel;rcases Nat.eq_zero_or_pos m with e|hm
  ·subst e
   have HV2:Hid (val D9 lo=n):=hid (by have:=HV.out;rw[Nat.mul_zero] at this;exact this);have HDG:=hid (qjk HOWN.out HL.out HLD.out);have HSG:=hid (qhj false _ lo wr HDG.out);rw[HV2.out] at HSG;have HB2:Hid (Below w.heap.size w wr):=hid (HW0.out.trans (HB.out.mono (by have:=HG.out;omega)));have ho:Own wr w.heap.size 2 (qiy false (.slice none 0 0)):=HO0.out.later (HB.out.mono (by have:=HG.out;omega));have HO:=hid ho;clear ho;have hz:(((0:Nat):Int) != 0)=false:=rfl;have hz2:decide ((n:Int)<0)=false:=decide_eq_false (by omega);go_wp2_with fail;refine HSG.out.mono ?_;rintro e w1 ⟨⟨v1,rfl,h1⟩,hb1⟩;obtain⟨pt,kt,ct,rfl,hk,_⟩:=h1.parts;have HVV:=hid h1;have ho:Own w1 w.heap.size 2 (qiy false (.slice none 0 0)):=HO.out.later (hb1.mono HO.out.1);have HO1:=hid ho;have HB1:=hid (HB2.out.trans (hb1.mono HB2.out.size));obtain⟨r0,g0⟩:=ho.2 0 (by omega);obtain⟨r1,g1⟩:=ho.2 1 (by omega);clear h1 hb1 hk ho;generalize hsg:decide ((if false=true then -(n:Int) else(n:Int))<0)=sg at *;clear hsg;have HFIN:=hid (qeo HVV.out HO1.out);have HBEL:=hid (qfv HB1.out (Nat.le_refl _) (.bool sg) (.slice pt kt ct));go_wp2_with fail;refine bodyPost_ret (v := .agg #[.bool sg,.slice pt kt ct]) ?_ rfl ?_
   ·simp[results,Tryz.results140,go_sem,r0,r1]
   ·exact⟨⟨_,rfl,HFIN.out⟩,HBEL.out⟩
  ·have hk:k≤1000:=by
    rcases Nat.lt_or_ge k 3 with h|h
    ·omega
    ·exfalso
     have h1:D9^3≤D9^k:=Nat.pow_le_pow_right (by decide) h;have h2:D9^k*1≤D9^k*m:=Nat.mul_le_mul_left _ hm;have h3:=HV.out;have h4:=HNB.out;have h5:D9^3=1000000000000000000000000000:=by decide
     omega
   have hmb:m<9223372036854775808:=by have h1:=HM.out;have h2:=HNB.out;omega
   have hz:((m:Int) != 0)=true:=by simp;omega
   have hm1:(m:Int).tmod 1000000000=((m % 1000000000:Nat):Int):=by rw[Int.tmod_eq_emod_of_nonneg (by omega)];omega
   have hm2:(m:Int)/1000000000=((m/1000000000:Nat):Int):=by omega
   have hd9:m % 1000000000≤999999999:=by omega
   have HM2:Hid (m/1000000000≤n):=hid (by have:=HM.out;omega);have hlt:m/1000000000<m:=by omega
   have HLT:=hid hlt;have HL2:Hid ((lo++[m % 1000000000]).length=k+1):=hid (by rw[List.length_append,HL.out];rfl);have HLD2:Hid (∀d ∈ lo++[m % 1000000000],d<D9):=hid (qge HLD.out (by rw[qbp];omega));have HV2:Hid (val D9 (lo++[m % 1000000000])+D9^(k+1)*(m/1000000000)=n):=hid (by rw[q0v lo k m HL.out];exact HV.out);have HZ:Hid (zi (lo++[m % 1000000000])=zi lo++[((m % 1000000000:Nat):Int)]):=hid (qik _ _);have hmi:(m:Int)≤9223372036854775807:=by omega
   clear hlt hmb;generalize m % 1000000000=d at *;generalize hq:m/1000000000=q at *;clear hq;go_wp2_with (at_builtin;refine qh8 rfl _ _ rfl w0 _ w0.heap.size k _ (zi lo) _ (by rfl) HOWN.out HB.out (Nat.le_refl _) (by rfl) (by omega) ?_);rintro v' w2 hown' hbw';have HOWN2:Hid (w2.ownsRow w0.heap.size 3 1 v' (k+1) ((zi (lo++[d])).map (Value.int .i64))):=hid (by rw[HZ.out,List.map_append];exact hown');have HBW2:=hid hbw';clear hown' hbw' HOWN HB;go_wp2_with fail;go_roundw
   case rel=>exact⟨q,k+1,_,rfl,HM2,HL2,HLD2,HV2,HOWN2,HBW2⟩
   case measure=>simp[intOf];have:=HLT.out;omega
theorem zch(a b:Nat)(w:World)(ha:a<9223372036854775808)(hb:b<9223372036854775808):
  Calls Tryz.prog 182 #[.int .i64 a,.int .i64 b] w fun e w'=>e = .returned (.int .i64 (Nat.gcd a b:Nat))∧Below w.heap.size w w':=by
 have hai:(a:Int)≤9223372036854775807:=by omega
 have hbi:(b:Int)≤9223372036854775807:=by omega
 clear ha hb;go_enter Tryz.func182,Tryz.ntmps182;go_wp2_with fail
 go_loopw [0,1] (fun u v wr=>∃x y:Nat,u = .int .i64 x∧v = .int .i64 y∧(x:Int)≤9223372036854775807∧(y:Int)≤9223372036854775807∧Hid (Nat.gcd x y=Nat.gcd a b)∧Hid (Below w.heap.size w wr)) (fun _ v _=>(intOf v).toNat)
 case atStart=>exact⟨a,b,rfl,rfl,hai,hbi,hid rfl,hid (Below.refl _ _)⟩
 case round=>
  obtain⟨x,y,rfl,rfl,hx,hy,HG,HB⟩:=hrel;rcases Nat.eq_zero_or_pos y with e|h
  ·subst e
   have HE:Hid (Nat.gcd a b=x):=hid (by rw[←HG.out,Nat.gcd_zero_right]);have hd:decide ((0:Int)<((0:Nat):Int))=false:=rfl;go_wp2_with fail;go_ret;exact⟨qa1 (by rw[HE.out]),HB.out⟩
  ·have hd:(0:Int)<(y:Int):=by omega
   have hz:((y:Int)==0)=false:=beq_eq_false_iff_ne.2 (by omega);have t3:(x:Int) % (y:Int)=((x % y:Nat):Int):=(Int.natCast_emod x y).symm;have t4:(x:Int).tmod (y:Int)=((x % y:Nat):Int):=by rw[Int.tmod_eq_emod_of_nonneg (by omega)];exact t3
   have HG2:Hid (Nat.gcd y (x % y)=Nat.gcd a b):=hid (by rw[←HG.out,Nat.gcd_comm x y,Nat.gcd_rec y x,Nat.gcd_comm]);have hlt:x % y<y:=Nat.mod_lt _ h;have HLT:=hid hlt;have hr:((x % y:Nat):Int)≤9223372036854775807:=by omega
   clear hlt h;generalize x % y=r at *;go_wp2_with fail
   go_quiet (fail)
   go_wp2_with fail;go_roundw
   case rel=>exact⟨y,r,rfl,rfl,hy,hr,HG2,hid (below_drewN HB.out _)⟩
   case measure=>simp[intOf];have:=HLT.out;omega
def q3x:Value→Nat
 | .string s=>s.size
 | _=>0
theorem q96(d:Nat)(h:d<10):((⟨#[48,49,50,51,52,53,54,55,56,57]⟩:ByteArray).extract d (d+1)).data.toList=[dig d]:=by
 match d,h with
 | 0,_=>rfl
 | 1,_=>rfl
 | 2,_=>rfl
 | 3,_=>rfl
 | 4,_=>rfl
 | 5,_=>rfl
 | 6,_=>rfl
 | 7,_=>rfl
 | 8,_=>rfl
 | 9,_=>rfl
def qsr(n least:Nat):Nat:=max least (qf4 n).length
theorem qus{n least k:Nat}:k<qsr n least↔0<n/10^k∨k<least:=by
 unfold qsr
 have h1:0<n/10^k↔k<(qf4 n).length:=by
  constructor
  ·intro h
   rcases Nat.lt_or_ge k (qf4 n).length with h2|h2
   ·exact h2
   ·exfalso
    have h3:=qgt n;have h4:10^(qf4 n).length≤10^k:=Nat.pow_le_pow_right (by omega) h2;rw[Nat.div_eq_of_lt (by omega)] at h;omega
  ·intro h
   rcases Nat.eq_zero_or_pos (n/10^k) with h2|h2
   ·exfalso
    have h3:n<10^k:=by
     rcases Nat.lt_or_ge n (10^k) with h4|h4
     ·exact h4
     ·have:=Nat.div_pos h4 (Nat.pow_pos (by omega));omega
    have:=qbn k n h3;omega
   ·exact h2
 rw[h1];omega
theorem qon(n least:Nat)(w:World)(hn:n<9223372036854775808)(hl:least≤9):
  Calls Tryz.prog 183 #[.int .i64 n,.int .i64 least] w fun e w'=>(∃t:ByteArray,e = .returned (.string t)∧t.data.toList=(pd (qsr n least) n).reverse)∧w'=w:=by
 have hni:(n:Int)≤9223372036854775807:=by omega
 have HK:Hid (qsr n least≤100):=hid (by
  unfold qsr;have:=qbn 19 n (by omega)
  omega)
 clear hn;go_enter Tryz.func183,Tryz.ntmps183;go_wp2_with fail
 go_loopw [0,5] (fun u v wr=>∃m k:Nat,∃s:ByteArray,u = .int .i64 m∧v = .string s∧(m:Int)≤9223372036854775807∧Hid (m=n/10^k)∧Hid (k≤qsr n least)∧s.size=k∧Hid (s.data.toList=(pd k n).reverse)∧wr=w) (fun _ v _=>qsr n least-q3x v)
 case atStart=>exact⟨n,0,⟨#[]⟩,rfl,rfl,hni,hid (by simp),hid (Nat.zero_le _),rfl,hid rfl,rfl⟩
 case round=>
  obtain⟨m,k,s,rfl,rfl,hm,HM,HKL,hsz,HS,rfl⟩:=hrel;have HSZ:=hid hsz;have hs100:(s.size:Int)≤100:=by have h1:=HKL.out;have h2:=HK.out;omega
  by_cases hc:k<qsr n least
  ·have hcn:=hc
   rw[qus,←HM.out] at hcn;have hm1:(m:Int).tmod 10=((m % 10:Nat):Int):=by rw[Int.tmod_eq_emod_of_nonneg (by omega)];omega
   have hm2:(m:Int)/10=((m/10:Nat):Int):=by omega
   have HT:=hid (q96 (m % 10) (by omega));have HDG:Hid (dig (m % 10)=dig (n/10^k)):=hid (by rw[←HM.out];exact qr4 (by omega));have HM2:Hid (m/10=n/10^(k+1)):=hid (by rw[HM.out,Nat.div_div_eq_div_mul,Nat.pow_succ]);have hd:((m % 10:Nat):Int)≤9:=by omega
   have hq:((m/10:Nat):Int)≤9223372036854775807:=by omega
   have HC:=hid hc;have hdn:m % 10<10:=Nat.mod_lt _ (by omega)
   have hslc:∀w:World,(Instr.slice 9 (.string ⟨#[48,49,50,51,52,53,54,55,56,57]⟩) (some (.int .i64 ((m % 10:Nat):Int))) (some (.int .i64 (((m % 10:Nat):Int)+1))) none).run Tryz.prog w = .ok (.string ((⟨#[48,49,50,51,52,53,54,55,56,57]⟩:ByteArray).extract (m % 10) (m % 10+1))) w:=fun w=>
    run_slice_string w 9 _ .i64 .i64 _ _ Tryz.underlying9 (by omega) (by omega) (by show((m % 10:Nat):Int)+1≤10;omega)
   have hcc:0<m∨(¬0<m∧s.size<least):=by
    rcases hcn with h|h
    ·exact .inl h
    ·rcases Nat.eq_zero_or_pos m with h2|h2
     ·exact .inr ⟨by omega,by omega⟩
     ·exact .inl h2
   clear hc hcn hsz hdn;generalize (⟨#[48,49,50,51,52,53,54,55,56,57]⟩:ByteArray).extract (m % 10) (m % 10+1)=ch at *;generalize hdd:m % 10=d at *;generalize hqq:m/10=q at *;have HD0:=hid (And.intro hdd hqq);clear hdd hqq
   have HS2:Hid ((ch++s).data.toList=(pd (k+1) n).reverse):=hid (by
    rw[qvz,List.reverse_append,←HS.out];have h1:=HT.out;rw[HDG.out] at h1;show(ch++s).data.toList=[dig (n/10^k)]++s.data.toList
    rw[←h1];simp)
   have HSZ2:Hid ((ch++s).size=k+1):=hid (by
    have h1:=congrArg List.length HS2.out;rw[List.length_reverse,qls] at h1
    simpa using h1)
   have HSZ3:Hid ((ch++s).size=s.size+1):=hid (by rw[HSZ2.out,HSZ.out])
   have hov:¬9223372036854775807<ch.size+s.size:=by
    have h1:=congrArg List.length HT.out;have h2:ch.size=1:=by simpa using h1
    omega
   have hq2:(q:Int)≤9223372036854775807:=hq;rcases hcc with g1|⟨g1,g2⟩
   all_goals
    go_wp2_with fail;go_roundw
    case rel=>exact⟨q,k+1,ch++s,by go_num,rfl,hq2,HM2,hid HC.out,HSZ2.out,HS2,trivial⟩
    case measure=>show qsr n least-(ch++s).size<qsr n least-s.size;rw[HSZ2.out];have:=HC.out;have:=HSZ.out;omega
  ·have hcn:=hc
   rw[qus,←HM.out] at hcn;have HE:Hid (qsr n least=k):=hid (by have:=HKL.out;omega);have hm0:m=0:=by omega
   subst m;have g2:¬s.size<least:=by omega
   clear hcn hc hsz;go_wp2_with fail;go_ret;exact⟨⟨s,rfl,by rw[HE.out];exact HS.out⟩,rfl⟩
theorem qri:∀(k h d:Nat),0<h→d<10^k→qf4 (h*10^k+d)=qf4 h++(pd k d).reverse
 | 0,h,d,_,hd=>by
  have:d=0:=by simpa using hd
  subst this;simp[pd]
 | k+1,h,d,hh,hd=>by
  have hp:0<h*10^(k+1):=Nat.mul_pos hh (Nat.pow_pos (by omega))
  have e1:(h*10^(k+1)+d)/10=h*10^k+d/10:=by
   rw[Nat.pow_succ,←Nat.mul_assoc];omega
  have e2:dig (h*10^(k+1)+d)=dig d:=qr4 (by rw[Nat.pow_succ,←Nat.mul_assoc];omega);rw[qds (by omega),e1,e2,qri k h (d/10) hh (by rw[Nat.pow_succ] at hd;omega),pd,List.reverse_cons,List.append_assoc]
theorem q79(d:Nat)(h:0<d):(pd (qsr d 1) d).reverse=qf4 d:=by
 have e:qsr d 1=(qf4 d).length:=by
  unfold qsr
  have:0<(qf4 d).length:=by
   rw[qds h];simp
  omega
 have key:∀k n,(qf4 n).length=k→(pd k n).reverse=qf4 n:=by
  intro k
  induction k with
  | zero=>intro n h;rw[List.length_eq_zero_iff.1 h];rfl
  | succ k ih=>
   intro n hn
   have hn0:0<n:=by
    rcases Nat.eq_zero_or_pos n with e|e
    ·rw[e,qcz] at hn;cases hn
    ·exact e
   rw[qds hn0,List.length_append] at hn;rw[pd,List.reverse_cons,ih (n/10) (by simpa using hn),←qds hn0]
 rw[e];exact key _ d rfl
theorem q3y{d:Nat}(h:d<1000000000):qsr d 9=9:=by
 unfold qsr;have:=qbn 9 d (by omega);omega
def qa2(z:Int):List UInt8:=(if z<0 then[45] else[])++qaw z.natAbs
theorem q3z{l:List Nat}{N:Nat}(h:l.length=N+1):qa7 D9 l N=l.getD N 0:=by
 rw[qbj,qdc D9 l (N+1) (by omega)];omega
theorem q30(va:Value)(z:Int)(w:World)(ha:qct w va z)(hl:dl z.natAbs≤1000):
  Calls Tryz.prog 139 #[va] w fun e w'=>(∃t:ByteArray,e = .returned (.string t)∧t.data.toList=qa2 z)∧Below w.heap.size w w':=by
 obtain⟨pa,ka,ca,rfl,hka,hda⟩:=ha.parts;have HB0:Hid (∀o,Below w.heap.size w (w.alloc o)):=hid fun o=>(Below.refl _ w).alloc (Nat.le_refl _) o;rcases Nat.eq_zero_or_pos ka with e|hk0
 ·have hz:z.natAbs=0:=by
   rcases Nat.eq_zero_or_pos z.natAbs with h|h
   ·exact h
   ·have:=qyh.2 h;omega
  have hz0:z=0:=by omega
  subst hz0 e;clear hda ha hl hka hz;have hzz:((((0:Nat):Int))==0)=true:=rfl;go_enter Tryz.func139,Tryz.ntmps139;go_wp2_with fail;go_ret;exact⟨⟨⟨#[48]⟩,rfl,rfl⟩,HB0.out _⟩
 ·obtain⟨N,hN⟩:∃N,ka=N+1:=⟨ka-1,by omega⟩
  obtain⟨hd,p,c,he,hc1,hc2,hcells⟩:=hda;have hLl:(qaf D9 z.natAbs).length=N+1:=by rw[←hN];exact hka.symm
  have HV:Hid (qa7 D9 (qaf D9 z.natAbs) 0=z.natAbs):=hid (by rw[high_zero,qah _ _ qa3])
  have htop:(qaf D9 z.natAbs).getD N 0≠0:=by
   have hne:qaf D9 z.natAbs≠[]:=by intro e;rw[e] at hLl;simp at hLl
   have e1:=List.dropLast_concat_getLast hne;have h1:=qi3 qa3 e1.symm
   have:(qaf D9 z.natAbs).getD N 0=(qaf D9 z.natAbs).getLast hne:=by
    rw[List.getLast_eq_getElem,List.getD_eq_getElem?_getD,List.getElem?_eq_getElem (by omega)];simp[hLl]
   rw[this];exact h1
  rw[hLl] at he hcells hc1
  injection he with he1 he2 he3
  subst he1 he3;rcases hcells with h0|⟨b,o,rfl,hrow⟩
  ·omega
  have HROW:Hid (∀W,Below w.heap.size w W→∀i,i<N+1→W.cell? ⟨b,o+i,none⟩=some (.int .i64 ((qaf D9 z.natAbs).getD i 0:Nat))):=hid fun W hW i hi=>by
   have h1:=hrow i hi;rw[hW.cell (p:=⟨b,o+i,none⟩) (World.block_lt_of_cell? w _ h1)];exact h1
  have hNb:N≤1000:=by omega
  have HZ:Hid (qaw z.natAbs=qf4 z.natAbs):=hid (by
   unfold qaw;rw[if_neg];intro e;rw[e,qam] at hLl
   cases hLl)
  have HD:=hid hd;have HLl:=hid hLl;have HTOP:=hid (Nat.pos_of_ne_zero htop)
  have HSGN:Hid (decide (z<0)=true∧z<0∨decide (z<0)=false∧¬z<0):=hid (by
   rcases Int.lt_or_le z 0 with h|h
   ·exact .inl ⟨decide_eq_true h,h⟩
   ·exact .inr ⟨decide_eq_false (by omega),by omega⟩)
  have hni:((N:Int)+1)-1=(N:Int):=by omega
  have hni2:((N:Int)+1)-2=(N:Int)-1:=by omega
  clear hd hrow htop hLl hk0 hka ha hl hN hc1 hc2;generalize qaf D9 z.natAbs=l at *;generalize decide (z<0)=sx at *;have HT9:Hid (l.getD N 0<1000000000):=hid (by have:=qao (b:=D9) (by decide) HD.out N;rw[qbp] at this;exact this);have HC0:Hid (∀i,i<N+1→(w.alloc (.cells #[.bool sx,.slice (some ⟨b,o,none⟩) (N+1) ca] 185)).cell? ⟨b,o+i,none⟩=some (.int .i64 (l.getD i 0:Nat))):=hid fun i hi=>HROW.out _ (HB0.out _) i hi;have HBW:=hid (HB0.out (.cells #[.bool sx,.slice (some ⟨b,o,none⟩) (N+1) ca] 185));have hcell:=HC0.out N (by omega);have HDT:=hid (fun W=>qon (l.getD N 0) 1 W (by have:=HT9.out;omega) (by omega));have HHI:=hid (q3z HLl.out);have hzz:(((N:Int)+1)==0)=false:=beq_eq_false_iff_ne.2 (by omega);have HPT:=hid (q79 (l.getD N 0) HTOP.out);have HP9:Hid ((qf4 (l.getD N 0)).length≤9):=hid (qbn 9 _ (by have:=HT9.out;omega));generalize htp:l.getD N 0=tp at *;have HTP:=hid htp;clear htp;go_enter Tryz.func139,Tryz.ntmps139;go_wp2_with fail;refine(HDT.out _).mono ?_;rintro e w1 ⟨⟨t1,rfl,ht1⟩,rfl⟩;rw[HPT.out] at ht1;have HT1:=hid ht1
  have HS1:Hid (t1.size≤9):=hid (by
                      have h1:=congrArg List.length ht1;have h2:t1.size=(qf4 tp).length:=by simpa using h1
                      rw[h2];exact HP9.out)
  clear ht1 hcell HDT;go_wp2_with fail;have hw1:∀o,(w.alloc o).cell? ⟨w.heap.size,1,none⟩=(w.alloc o).cell? ⟨w.heap.size,1,none⟩:=fun _=>rfl;clear hw1
  go_loopw [3,4] (fun s i wr=>∃k:Nat,∃s':ByteArray,k≤N∧s = .string s'∧i = .int .i64 ((k:Int)-1)∧Hid (s'.data.toList=qf4 (qa7 D9 l k))∧Hid (0<qa7 D9 l k)∧s'.size≤9*(N+1-k)∧wr=w.alloc (.cells #[.bool sx,.slice (some ⟨b,o,none⟩) (N+1) ca] 185)) (fun _ i _=>(intOf i+1).toNat)
  case atStart=>exact⟨N,t1,Nat.le_refl _,rfl,by go_num,hid (by rw[HHI.out];exact HT1.out),hid (by rw[HHI.out];exact HTOP.out),by have:=HS1.out;omega,rfl⟩
  case round=>
   obtain⟨k,s,hk,rfl,rfl,HS,HH,hsz,rfl⟩:=hrel;rcases k with _|j
   ·rw[HV.out] at HS
    have hni3:((0:Nat):Int)-1 = -1:=rfl;have hov:¬9223372036854775807<1+s.size:=by omega
    rcases HSGN.out with⟨h1,h2⟩|⟨h1,h2⟩
    ·subst h1
     have HRES:Hid (((⟨#[45]⟩:ByteArray)++s).data.toList=qa2 z):=hid (by
      unfold qa2;rw[if_pos h2,HZ.out,←HS.out]
      simp)
     clear h2;go_wp2_with fail;go_ret;exact⟨⟨_,rfl,HRES.out⟩,HBW.out⟩
    ·subst h1
     have HRES:Hid (s.data.toList=qa2 z):=hid (by
      unfold qa2;rw[if_neg (by omega),HZ.out,←HS.out]
      simp)
     clear h2;go_wp2_with fail;go_ret;exact⟨⟨_,rfl,HRES.out⟩,HBW.out⟩
   ·have hk1:((j+1:Nat):Int)-1=(j:Int):=by omega
    simp only[hk1];have hcell:=HC0.out j (by omega);have hd9:l.getD j 0<1000000000:=by have:=qao (b:=D9) (by decide) HD.out j;rw[qbp] at this;exact this
    have HHP:=hid (qbj D9 l j)
    have HDT:Hid (∀W,Calls Tryz.prog 183 #[.int .i64 (l.getD j 0:Nat),.int .i64 9] W fun e w'=>(∃t:ByteArray,e = .returned (.string t)∧t.data.toList=(pd 9 (l.getD j 0)).reverse)∧w'=W):=hid fun W=>by
     have h:=qon (l.getD j 0) 9 W (by omega) (by omega);rw[q3y hd9] at h;exact h
    have HBLK:=hid (qri 9 (qa7 D9 l (j+1)) (l.getD j 0) HH.out (by omega));have HD9:Hid (l.getD j 0<1000000000):=hid hd9;clear hd9;generalize l.getD j 0=d at *;go_wp2_with fail;refine(HDT.out _).mono ?_;rintro e w1 ⟨⟨t2,rfl,ht2⟩,rfl⟩
    have HS2:Hid ((s++t2).data.toList=qf4 (qa7 D9 l j)):=hid (by
     rw[HHP.out,Nat.add_comm,Nat.mul_comm D9];have h1:=HBLK.out;rw[show(10:Nat)^9=D9 from rfl] at h1
     rw[h1,←HS.out,←ht2];simp)
    have h9:t2.size=9:=by
     have h1:=congrArg List.length ht2;rw[List.length_reverse,qls] at h1
     simpa using h1
    have hov:¬9223372036854775807<s.size+t2.size:=by omega
    have HH2:Hid (0<qa7 D9 l j):=hid (by rw[HHP.out];have:=Nat.mul_pos (show 0<D9 by decide) HH.out;omega);have HSZ:Hid ((s++t2).size≤9*(N+1-j)):=hid (by rw[ByteArray.size_append];omega);clear ht2 hcell HDT;go_wp2_with fail;go_roundw
    case rel=>exact⟨j,s++t2,by omega,rfl,by go_num,HS2,HH2,HSZ.out,trivial⟩
    case measure=>simp[intOf]
theorem qrj(r:List UInt8)(k:Nat)(h:k≤r.length):qa0 0 r=qa0 0 (r.take (r.length-k))*10^k+qa0 0 (r.drop (r.length-k)):=by
 conv=>lhs;rw[←List.take_append_drop (r.length-k) r]
 rw[qkw,qjy,List.length_drop]
 congr 3
 omega
theorem qcb{x y:ByteArray}(h:x.data.toList=y.data.toList):x=y:=by
 obtain⟨⟨l⟩⟩:=x;obtain⟨⟨m⟩⟩:=y;simp at h;rw[h]
theorem qrk{lo:List Nat}{k a b n:Nat}(hl:lo.length=k)(h:val D9 lo+D9^k*(a*10^9+b)=n):val D9 (lo++[b])+D9^(k+1)*a=n:=by
 rw[qd9,hl,Nat.pow_succ,←h,Nat.mul_add,Nat.mul_assoc,show(10:Nat)^9=D9 from rfl,Nat.mul_comm a D9];omega
theorem qww(s t:ByteArray)(neg:Bool)(w:World)(hs:s.data.toList=(if neg then[45] else[])++t.data.toList)(hd:∀c ∈ t.data.toList,isD c=true)(ht:0<t.size)(hsz:s.size≤10000):
  Calls Tryz.prog 176 #[.string s] w fun e w'=>(∃v,e = .returned v∧qct w' v (if neg then -(qa0 0 t.data.toList:Int) else(qa0 0 t.data.toList:Int)))∧Below w.heap.size w w':=by
 have hlen:s.size=(if neg then 1 else 0)+t.size:=by
  have h:=congrArg List.length hs;rw[List.length_append] at h;have e1:s.data.toList.length=s.size:=by simp
  have e2:t.data.toList.length=t.size:=by simp
  rw[e1,e2] at h;rw[h];cases neg<;>rfl
 have hs0:0<s.size:=by omega
 have hc0:((s[0]'hs0).toNat:Int)=45∧neg=true∨((s[0]'hs0).toNat:Int)≠45∧neg=false:=by
  have h1:s.data.toList[0]'(by simpa using hs0)=s[0]'hs0:=qdr s 0 hs0;cases neg
  ·right
   refine⟨?_,rfl⟩;have h2:s.data.toList=t.data.toList:=hs;have h3:isD (s[0]'hs0)=true:=hd _ (by rw[←h1,←h2];exact List.getElem_mem _);unfold isD at h3;have:=of_decide_eq_true h3;omega
  ·left
   refine⟨?_,rfl⟩;rw[←h1];simp only[hs];rfl
 have hci:∀h:0<s.size,((s[0]'h).toNat:Int)=((s[0]'hs0).toNat:Int):=fun _=>rfl
 have HTD:Hid (neg=true→(s.extract 1 s.size)=t):=hid fun h=>by
  apply qcb;rw[Lib.extract_data,hs,if_pos h];simp;rw[List.take_of_length_le (by simp[hlen,h])]
 have HTN:Hid (neg=false→s=t):=hid fun h=>by
  apply qcb;rw[hs,h];rfl
 generalize ((s[0]'hs0).toNat:Int)=ch at *;have HW0:Hid (Below w.heap.size w (w.alloc (.cells #[.bool false,.slice none 0 0] 185))):=hid ((Below.refl _ _).alloc (Nat.le_refl _) _);have HO0:=hid (qd7 w false (.slice none 0 0));have HD:=hid hd;have htb:t.size≤10000:=by omega
 have HT0:=hid ht;have hgt:(0:Int)<(s.size:Int):=by omega
 clear hs hlen hd ht;rcases hc0 with⟨h1,h2⟩|⟨h1,h2⟩
 ·subst h1 h2
  have hext:=HTD.out rfl;have hb:((45:Int)==45)=true:=rfl;go_enter Tryz.func176,Tryz.ntmps176;go_wp2_with fail;generalize hw0:w.alloc (.cells #[.bool false,.slice none 0 0] 185)=w0 at *;have HG:Hid (w.heap.size<w0.heap.size):=hid (by rw[←hw0,World.size_alloc];omega);clear hw0
  go_loopw [0,4] (fun u v wr=>∃r:ByteArray,∃k:Nat,∃lo:List Nat,u = .string r∧r.size≤10000∧k≤10000∧9*k+r.size≤10000∧Hid (0<r.size)∧Hid (lo.length=k)∧Hid (∀d ∈ lo,d<D9)∧Hid (∀c ∈ r.data.toList,isD c=true)∧Hid (val D9 lo+D9^k*qa0 0 r.data.toList=qa0 0 t.data.toList)∧Hid (wr.ownsRow w0.heap.size 3 1 v k ((zi lo).map (Value.int .i64)))∧Hid (Below w0.heap.size w0 wr)) (fun u _ _=>q3x u)
  case atStart=>exact⟨t,0,[],rfl,htb,by omega,by omega,HT0,hid rfl,hid (by simp),HD,hid (by simp),hid (World.ownsRow_nil _ _ _ _),hid (Below.refl _ _)⟩
  case round=>
   obtain⟨r,k,lo,rfl,hr,hk,hrk,HR0,HL,HLD,HRD,HV,HOWN,HB⟩:=hrel;by_cases hc:9<r.size
   ·have HA:Hid ((r.extract (r.size-9) r.size).data.toList=r.data.toList.drop (r.data.toList.length-9)):=hid (by
     rw[Lib.extract_data,List.take_of_length_le (by simp)];simp)
    have HBB:Hid ((r.extract 0 (r.size-9)).data.toList=r.data.toList.take (r.data.toList.length-9)):=hid (by
     rw[Lib.extract_from_zero];simp)
    have e9:(r.size:Int)-9=((r.size-9:Nat):Int):=by omega
    have HSA:Hid ((r.extract (r.size-9) r.size).size=9):=hid (by
     have h:=congrArg List.length HA.out;rw[List.length_drop] at h;have h2:r.data.toList.length=r.size:=by simp
     have h3:(r.extract (r.size-9) r.size).data.toList.length=(r.extract (r.size-9) r.size).size:=by simp
     omega)
    have HSB:Hid ((r.extract 0 (r.size-9)).size=r.size-9):=hid (by
     have h:=congrArg List.length HBB.out;rw[List.length_take] at h;have h2:r.data.toList.length=r.size:=by simp
     have h3:(r.extract 0 (r.size-9)).data.toList.length=(r.extract 0 (r.size-9)).size:=by simp
     omega)
    have HSP:=hid (qrj r.data.toList 9 (by simp;omega));rw[←HA.out,←HBB.out] at HSP;have HDA:Hid (∀c ∈ (r.extract (r.size-9) r.size).data.toList,isD c=true):=hid fun c hc=>HRD.out c (by rw[HA.out] at hc;exact List.mem_of_mem_drop hc);have HDB:Hid (∀c ∈ (r.extract 0 (r.size-9)).data.toList,isD c=true):=hid fun c hc=>HRD.out c (by rw[HBB.out] at hc;exact List.mem_of_mem_take hc);have hl1:(0:Int)≤((r.size-9:Nat):Int):=by omega
    have hl2:((r.size-9:Nat):Int)≤(r.size:Int):=by omega
    have hs9:r.size-9≤r.size:=by omega
    have HVL:=hid (fun W=>qrf (r.extract (r.size-9) r.size) W HDA.out (by rw[HSA.out];omega));have HLTV:=hid (qfz (r.extract (r.size-9) r.size).data.toList HDA.out);have HLT2:Hid (r.size-9<r.size):=hid (by omega);have HR02:Hid (0<r.size-9):=hid (by omega);have hb1:((r.size-9:Nat):Int).toNat=r.size-9:=by omega
    have h9k:9*(k+1)+(r.size-9)≤10000:=by omega
    clear HA HBB;generalize hra:r.extract (r.size-9) r.size=ra at *;generalize hrb:r.extract 0 (r.size-9)=rb at *;generalize hm:r.size-9=m9 at *;generalize hdv:qa0 0 ra.data.toList=dv9 at *;have HM:=hid (And.intro hm hdv);clear hm hdv
    have hd9:dv9<1000000000:=by
     have h:=HLTV.out;have h2:ra.data.toList.length=9:=by have:=HSA.out;simpa using this
     rw[h2] at h;exact h
    have HL2:Hid ((lo++[dv9]).length=k+1):=hid (by rw[List.length_append,HL.out];rfl);have HLD2:Hid (∀d ∈ lo++[dv9],d<D9):=hid (qge HLD.out (by rw[qbp];exact hd9));have HV2:Hid (val D9 (lo++[dv9])+D9^(k+1)*qa0 0 rb.data.toList=qa0 0 t.data.toList):=hid (qrk HL.out (by rw[←HSP.out];exact HV.out));have HZ:Hid (zi (lo++[dv9])=zi lo++[((dv9:Nat):Int)]):=hid (qik _ _);clear HV HSP HLTV hd9;go_wp2_with fail;refine(HVL.out _).mono ?_;rintro e w1 ⟨rfl,rfl⟩;go_wp2_with (at_builtin;refine qh8 rfl _ _ rfl w0 _ w0.heap.size k _ (zi lo) _ (by rfl) HOWN.out HB.out (Nat.le_refl _) (by rfl) (by omega) ?_);rintro v' w2 hown' hbw';have HOWN2:Hid (w2.ownsRow w0.heap.size 3 1 v' (k+1) ((zi (lo++[dv9])).map (Value.int .i64))):=hid (by rw[HZ.out,List.map_append];exact hown');have HBW2:=hid hbw';clear hown' hbw' HOWN HB HVL;go_wp2_with fail;go_roundw
    case rel=>exact⟨rb,k+1,_,rfl,by rw[HSB.out];omega,by omega,by rw[HSB.out];omega,hid (by rw[HSB.out];exact HR02.out),HL2,HLD2,HDB,HV2,HOWN2,HBW2⟩
    case measure=>show rb.size<r.size;rw[HSB.out];exact HLT2.out
   ·have HVL:=hid (fun W=>qrf r W HRD.out (by omega))
    have HLTV:=hid (qfz r.data.toList HRD.out);have hngt:¬9<r.size:=hc;obtain⟨dv9,hdv⟩:∃d,d=qa0 0 r.data.toList:=⟨_,rfl⟩
    have hd9:dv9<1000000000:=by
     have h:=HLTV.out;have h2:r.data.toList.length≤9:=by simp;omega
     have h3:=Nat.pow_le_pow_right (show 0<10 by omega) h2;omega
    have HL2:Hid ((lo++[dv9]).length=k+1):=hid (by rw[List.length_append,HL.out];rfl);have HLD2:Hid (∀d ∈ lo++[dv9],d<D9):=hid (qge HLD.out (by rw[qbp];exact hd9));have HV2:Hid (val D9 (lo++[dv9])=qa0 0 t.data.toList):=hid (by rw[qd9,HL.out,hdv];exact HV.out);have HZ:Hid (zi (lo++[dv9])=zi lo++[((dv9:Nat):Int)]):=hid (qik _ _);rw[←hdv] at HVL
    have HSG:Hid (∀W v,Dgs W v (lo++[dv9])→Calls Tryz.prog 185 #[.bool true,v] W fun e w'=>(∃v,e = .returned v∧qct w' v (if true=true then -(qa0 0 t.data.toList:Int) else(qa0 0 t.data.toList:Int)))∧Below W.heap.size W w'):=hid fun W v hv=>by
     have h:=qhj true v (lo++[dv9]) W hv;rw[HV2.out] at h;exact h
    clear HV HLTV hd9 hdv hc;generalize hzz:(if true=true then -(qa0 0 t.data.toList:Int) else(qa0 0 t.data.toList:Int))=z at *;have HZZ:=hid hzz;clear hzz;go_wp2_with fail;refine(HVL.out _).mono ?_;rintro e w1 ⟨rfl,rfl⟩;go_wp2_with (at_builtin;refine qh8 rfl _ _ rfl w0 _ w0.heap.size k _ (zi lo) _ (by rfl) HOWN.out HB.out (Nat.le_refl _) (by rfl) (by omega) ?_);rintro v' w2 hown' hbw';have HDG:Hid (Dgs w2 v' (lo++[dv9])):=hid (qjk (by rw[HZ.out,List.map_append];exact hown') HL2.out HLD2.out);have HB2:Hid (Below w.heap.size w w2):=hid (HW0.out.trans (hbw'.mono (by have:=HG.out;omega)));have HO:Hid (Own w2 w.heap.size 2 (qiy false (.slice none 0 0))):=hid (HO0.out.later (hbw'.mono (by have:=HG.out;omega)));clear hown' hbw' HOWN HB HVL;go_wp2_with fail;refine(HSG.out _ _ HDG.out).mono ?_;rintro e w3 ⟨⟨v3,rfl,h3⟩,hb3⟩;obtain⟨pt,kt,ct,rfl,hk3,_⟩:=h3.parts;have HVV:=hid h3;have ho:Own w3 w.heap.size 2 (qiy false (.slice none 0 0)):=HO.out.later (hb3.mono HO.out.1);have HO1:=hid ho;have HB3:=hid (HB2.out.trans (hb3.mono HB2.out.size));obtain⟨r0,g0⟩:=ho.2 0 (by omega);obtain⟨r1,g1⟩:=ho.2 1 (by omega);clear h3 hb3 hk3 ho;generalize hsg:decide (z<0)=sg at *;clear hsg;have HFIN:=hid (qeo HVV.out HO1.out);have HBEL:=hid (qfv HB3.out (Nat.le_refl _) (.bool sg) (.slice pt kt ct));go_wp2_with fail;refine bodyPost_ret (v := .agg #[.bool sg,.slice pt kt ct]) ?_ rfl ?_
    ·simp[results,Tryz.results176,go_sem,r0,r1]
    ·exact⟨⟨_,rfl,by have e:=HZZ.out;simp only[if_true,Bool.false_eq_true,if_false] at e;rw[e];exact HFIN.out⟩,HBEL.out⟩
 ·subst h2
  have hst:=HTN.out rfl;have hb:(ch==45)=false:=beq_eq_false_iff_ne.2 h1;subst s;clear h1;go_enter Tryz.func176,Tryz.ntmps176;go_wp2_with fail;generalize hw0:w.alloc (.cells #[.bool false,.slice none 0 0] 185)=w0 at *;have HG:Hid (w.heap.size<w0.heap.size):=hid (by rw[←hw0,World.size_alloc];omega);clear hw0
  go_loopw [0,4] (fun u v wr=>∃r:ByteArray,∃k:Nat,∃lo:List Nat,u = .string r∧r.size≤10000∧k≤10000∧9*k+r.size≤10000∧Hid (0<r.size)∧Hid (lo.length=k)∧Hid (∀d ∈ lo,d<D9)∧Hid (∀c ∈ r.data.toList,isD c=true)∧Hid (val D9 lo+D9^k*qa0 0 r.data.toList=qa0 0 t.data.toList)∧Hid (wr.ownsRow w0.heap.size 3 1 v k ((zi lo).map (Value.int .i64)))∧Hid (Below w0.heap.size w0 wr)) (fun u _ _=>q3x u)
  case atStart=>exact⟨t,0,[],rfl,htb,by omega,by omega,HT0,hid rfl,hid (by simp),HD,hid (by simp),hid (World.ownsRow_nil _ _ _ _),hid (Below.refl _ _)⟩
  case round=>
   obtain⟨r,k,lo,rfl,hr,hk,hrk,HR0,HL,HLD,HRD,HV,HOWN,HB⟩:=hrel;by_cases hc:9<r.size
   ·have HA:Hid ((r.extract (r.size-9) r.size).data.toList=r.data.toList.drop (r.data.toList.length-9)):=hid (by
     rw[Lib.extract_data,List.take_of_length_le (by simp)];simp)
    have HBB:Hid ((r.extract 0 (r.size-9)).data.toList=r.data.toList.take (r.data.toList.length-9)):=hid (by
     rw[Lib.extract_from_zero];simp)
    have e9:(r.size:Int)-9=((r.size-9:Nat):Int):=by omega
    have HSA:Hid ((r.extract (r.size-9) r.size).size=9):=hid (by
     have h:=congrArg List.length HA.out;rw[List.length_drop] at h;have h2:r.data.toList.length=r.size:=by simp
     have h3:(r.extract (r.size-9) r.size).data.toList.length=(r.extract (r.size-9) r.size).size:=by simp
     omega)
    have HSB:Hid ((r.extract 0 (r.size-9)).size=r.size-9):=hid (by
     have h:=congrArg List.length HBB.out;rw[List.length_take] at h;have h2:r.data.toList.length=r.size:=by simp
     have h3:(r.extract 0 (r.size-9)).data.toList.length=(r.extract 0 (r.size-9)).size:=by simp
     omega)
    have HSP:=hid (qrj r.data.toList 9 (by simp;omega));rw[←HA.out,←HBB.out] at HSP;have HDA:Hid (∀c ∈ (r.extract (r.size-9) r.size).data.toList,isD c=true):=hid fun c hc=>HRD.out c (by rw[HA.out] at hc;exact List.mem_of_mem_drop hc);have HDB:Hid (∀c ∈ (r.extract 0 (r.size-9)).data.toList,isD c=true):=hid fun c hc=>HRD.out c (by rw[HBB.out] at hc;exact List.mem_of_mem_take hc);have hl1:(0:Int)≤((r.size-9:Nat):Int):=by omega
    have hl2:((r.size-9:Nat):Int)≤(r.size:Int):=by omega
    have hs9:r.size-9≤r.size:=by omega
    have HVL:=hid (fun W=>qrf (r.extract (r.size-9) r.size) W HDA.out (by rw[HSA.out];omega));have HLTV:=hid (qfz (r.extract (r.size-9) r.size).data.toList HDA.out);have HLT2:Hid (r.size-9<r.size):=hid (by omega);have HR02:Hid (0<r.size-9):=hid (by omega);have hb1:((r.size-9:Nat):Int).toNat=r.size-9:=by omega
    have h9k:9*(k+1)+(r.size-9)≤10000:=by omega
    clear HA HBB;generalize hra:r.extract (r.size-9) r.size=ra at *;generalize hrb:r.extract 0 (r.size-9)=rb at *;generalize hm:r.size-9=m9 at *;generalize hdv:qa0 0 ra.data.toList=dv9 at *;have HM:=hid (And.intro hm hdv);clear hm hdv
    have hd9:dv9<1000000000:=by
     have h:=HLTV.out;have h2:ra.data.toList.length=9:=by have:=HSA.out;simpa using this
     rw[h2] at h;exact h
    have HL2:Hid ((lo++[dv9]).length=k+1):=hid (by rw[List.length_append,HL.out];rfl);have HLD2:Hid (∀d ∈ lo++[dv9],d<D9):=hid (qge HLD.out (by rw[qbp];exact hd9));have HV2:Hid (val D9 (lo++[dv9])+D9^(k+1)*qa0 0 rb.data.toList=qa0 0 t.data.toList):=hid (qrk HL.out (by rw[←HSP.out];exact HV.out));have HZ:Hid (zi (lo++[dv9])=zi lo++[((dv9:Nat):Int)]):=hid (qik _ _);clear HV HSP HLTV hd9;go_wp2_with fail;refine(HVL.out _).mono ?_;rintro e w1 ⟨rfl,rfl⟩;go_wp2_with (at_builtin;refine qh8 rfl _ _ rfl w0 _ w0.heap.size k _ (zi lo) _ (by rfl) HOWN.out HB.out (Nat.le_refl _) (by rfl) (by omega) ?_);rintro v' w2 hown' hbw';have HOWN2:Hid (w2.ownsRow w0.heap.size 3 1 v' (k+1) ((zi (lo++[dv9])).map (Value.int .i64))):=hid (by rw[HZ.out,List.map_append];exact hown');have HBW2:=hid hbw';clear hown' hbw' HOWN HB HVL;go_wp2_with fail;go_roundw
    case rel=>exact⟨rb,k+1,_,rfl,by rw[HSB.out];omega,by omega,by rw[HSB.out];omega,hid (by rw[HSB.out];exact HR02.out),HL2,HLD2,HDB,HV2,HOWN2,HBW2⟩
    case measure=>show rb.size<r.size;rw[HSB.out];exact HLT2.out
   ·have HVL:=hid (fun W=>qrf r W HRD.out (by omega))
    have HLTV:=hid (qfz r.data.toList HRD.out);have hngt:¬9<r.size:=hc;obtain⟨dv9,hdv⟩:∃d,d=qa0 0 r.data.toList:=⟨_,rfl⟩
    have hd9:dv9<1000000000:=by
     have h:=HLTV.out;have h2:r.data.toList.length≤9:=by simp;omega
     have h3:=Nat.pow_le_pow_right (show 0<10 by omega) h2;omega
    have HL2:Hid ((lo++[dv9]).length=k+1):=hid (by rw[List.length_append,HL.out];rfl);have HLD2:Hid (∀d ∈ lo++[dv9],d<D9):=hid (qge HLD.out (by rw[qbp];exact hd9));have HV2:Hid (val D9 (lo++[dv9])=qa0 0 t.data.toList):=hid (by rw[qd9,HL.out,hdv];exact HV.out);have HZ:Hid (zi (lo++[dv9])=zi lo++[((dv9:Nat):Int)]):=hid (qik _ _);rw[←hdv] at HVL
    have HSG:Hid (∀W v,Dgs W v (lo++[dv9])→Calls Tryz.prog 185 #[.bool false,v] W fun e w'=>(∃v,e = .returned v∧qct w' v (if false=true then -(qa0 0 t.data.toList:Int) else(qa0 0 t.data.toList:Int)))∧Below W.heap.size W w'):=hid fun W v hv=>by
     have h:=qhj false v (lo++[dv9]) W hv;rw[HV2.out] at h;exact h
    clear HV HLTV hd9 hdv hc;generalize hzz:(if false=true then -(qa0 0 t.data.toList:Int) else(qa0 0 t.data.toList:Int))=z at *;have HZZ:=hid hzz;clear hzz;go_wp2_with fail;refine(HVL.out _).mono ?_;rintro e w1 ⟨rfl,rfl⟩;go_wp2_with (at_builtin;refine qh8 rfl _ _ rfl w0 _ w0.heap.size k _ (zi lo) _ (by rfl) HOWN.out HB.out (Nat.le_refl _) (by rfl) (by omega) ?_);rintro v' w2 hown' hbw';have HDG:Hid (Dgs w2 v' (lo++[dv9])):=hid (qjk (by rw[HZ.out,List.map_append];exact hown') HL2.out HLD2.out);have HB2:Hid (Below w.heap.size w w2):=hid (HW0.out.trans (hbw'.mono (by have:=HG.out;omega)));have HO:Hid (Own w2 w.heap.size 2 (qiy false (.slice none 0 0))):=hid (HO0.out.later (hbw'.mono (by have:=HG.out;omega)));clear hown' hbw' HOWN HB HVL;go_wp2_with fail;refine(HSG.out _ _ HDG.out).mono ?_;rintro e w3 ⟨⟨v3,rfl,h3⟩,hb3⟩;obtain⟨pt,kt,ct,rfl,hk3,_⟩:=h3.parts;have HVV:=hid h3;have ho:Own w3 w.heap.size 2 (qiy false (.slice none 0 0)):=HO.out.later (hb3.mono HO.out.1);have HO1:=hid ho;have HB3:=hid (HB2.out.trans (hb3.mono HB2.out.size));obtain⟨r0,g0⟩:=ho.2 0 (by omega);obtain⟨r1,g1⟩:=ho.2 1 (by omega);clear h3 hb3 hk3 ho;generalize hsg:decide (z<0)=sg at *;clear hsg;have HFIN:=hid (qeo HVV.out HO1.out);have HBEL:=hid (qfv HB3.out (Nat.le_refl _) (.bool sg) (.slice pt kt ct));go_wp2_with fail;refine bodyPost_ret (v := .agg #[.bool sg,.slice pt kt ct]) ?_ rfl ?_
    ·simp[results,Tryz.results176,go_sem,r0,r1]
    ·exact⟨⟨_,rfl,by have e:=HZZ.out;simp only[if_true,Bool.false_eq_true,if_false] at e;rw[e];exact HFIN.out⟩,HBEL.out⟩
theorem qep(q:Rat):qat q=qa2 q.num++(if q.den=1 then[] else 47::qaw q.den):=by unfold qat qa2;rfl
theorem zbe(c:UInt8)(h:isD c=true):c≠47:=by
 intro e;subst e;revert h;decide
theorem qnf(z:Int):∀c ∈ qa2 z,c≠47:=by
 intro c hc;unfold qa2 at hc;rcases List.mem_append.1 hc with h|h
 ·split at h
  ·rw[List.mem_singleton.1 h];decide
  ·cases h
 ·exact zbe c (qhs _ c h)
theorem qbt(n:Nat):qa2 (n:Int)=qaw n:=by
 unfold qa2;rw[if_neg (by omega),Int.natAbs_natCast];rfl
theorem q31(l r:List UInt8)(h:∀c ∈ l,c≠47):sl (l++47::r)=l.length:=by
 unfold sl
 induction l with
 | nil=>rw[List.nil_append,List.findIdx_cons];rfl
 | cons a l ih=>
  have ha:(a==47)=false:=by simpa using h a (by simp)
  rw[List.cons_append,List.findIdx_cons,ha,ih (fun c hc=>h c (by simp[hc]))];rfl
theorem qwx(z:Int):0<(qa2 z).length:=by
 unfold qa2;have:=List.length_pos_iff.2 (qjz z.natAbs);rw[List.length_append];omega
theorem qwy(s:ByteArray)(z:Int)(w:World)(hs:s.data.toList=qa2 z)(hsz:s.size≤10000):
  Calls Tryz.prog 176 #[.string s] w fun e w'=>(∃v,e = .returned v∧qct w' v z)∧Below w.heap.size w w':=by
 have h:=qww s ⟨(qaw z.natAbs).toArray⟩ (decide (z<0)) w (by
  rw[hs];unfold qa2;rcases Int.lt_or_le z 0 with h|h
  ·rw[if_pos h,decide_eq_true h];rfl
  ·rw[if_neg (by omega),decide_eq_false (by omega)];rfl) (fun c hc=>qhs _ c hc) (by
  have:=List.length_pos_iff.2 (qjz z.natAbs)
  simpa [ByteArray.size] using this) hsz
 have e:(if decide (z<0)=true then -(qa0 0 (⟨(qaw z.natAbs).toArray⟩:ByteArray).data.toList:Int) else(qa0 0 (⟨(qaw z.natAbs).toArray⟩:ByteArray).data.toList:Int))=z:=by
  show(if decide (z<0)=true then -(qa0 0 (qaw z.natAbs):Int) else(qa0 0 (qaw z.natAbs):Int))=z;rw[qgk];rcases Int.lt_or_le z 0 with h|h
  ·rw[decide_eq_true h,if_pos rfl];omega
  ·rw[decide_eq_false (by omega),if_neg (by decide)];omega
 rw[e] at h;exact h
def qn0(w W:World):Prop:=Below w.heap.size w W∧Own W w.heap.size 2 (qiy false (.slice none 0 0))∧Own W (w.heap.size+1) 2 (qiy false (.slice none 0 0))
theorem qn0.later{w W W':World}(h:qn0 w W)(hb:Below W.heap.size W W'):qn0 w W':=by
 obtain⟨h1,h2,h3⟩:=h;have:=h3.1;exact⟨h1.trans (hb.mono h1.size),h2.later (hb.mono (by omega)),h3.later (hb.mono (by omega))⟩
theorem qut(w:World):qn0 w ((w.alloc (.cells #[.bool false,.slice none 0 0] 185)).alloc (.cells #[.bool false,.slice none 0 0] 185)):=by
 have h1:=qd7 w false (.slice none 0 0);have h2:=qd7 (w.alloc (.cells #[.bool false,.slice none 0 0] 185)) false (.slice none 0 0);rw[World.size_alloc] at h2;exact⟨((Below.refl _ _).alloc (Nat.le_refl _) _).alloc (by rw[World.size_alloc];omega) _,qjn h1 _,h2⟩
theorem qmb{w W:World}(h:qn0 w W){s1 s2:Bool}{t1 t2:Value}{z1 z2:Int}(h1:qct W (.agg #[.bool s1,t1]) z1)(h2:qct W (.agg #[.bool s2,t2]) z2):
  let W':=(((W.setCell ⟨w.heap.size,0,none⟩ (.bool s1)).setCell ⟨w.heap.size,1,none⟩ t1).setCell ⟨w.heap.size+1,0,none⟩ (.bool s2)).setCell ⟨w.heap.size+1,1,none⟩ t2
  qct W' (.agg #[.bool s1,t1]) z1∧qct W' (.agg #[.bool s2,t2]) z2∧Below w.heap.size w W':=by
 obtain⟨hb,o1,o2⟩:=h;have k:∀(V:World) (g i g' j:Nat) (x:Value),(g,i)≠(g',j)→(V.setCell ⟨g,i,none⟩ x).cell? ⟨g',j,none⟩=V.cell? ⟨g',j,none⟩:=fun V g i g' j x hne=>World.cell?_setCell_other _ _ _ _ (by intro e;injection e with e1 e2;exact hne (by rw[e1,e2]))
 have key:∀v n,DN W v n→DN ((((W.setCell ⟨w.heap.size,0,none⟩ (.bool s1)).setCell ⟨w.heap.size,1,none⟩ t1).setCell ⟨w.heap.size+1,0,none⟩ (.bool s2)).setCell ⟨w.heap.size+1,1,none⟩ t2) v n:=by
  intro v n hv;refine(((hv.setOther (o1.2 0 (by omega)).1 (by intro k z h;cases h)).setOther (u := .slice none 0 0) ?_ (by intro k z h;cases h)).setOther (u := .bool false) ?_ (by intro k z h;cases h)).setOther (u := .slice none 0 0) ?_ (by intro k z h;cases h)
  ·rw[k _ _ _ _ _ _ (by simp)];exact(o1.2 1 (by omega)).1
  ·rw[k _ _ _ _ _ _ (by simp),k _ _ _ _ _ _ (by simp)];exact(o2.2 0 (by omega)).1
  ·rw[k _ _ _ _ _ _ (by simp),k _ _ _ _ _ _ (by simp),k _ _ _ _ _ _ (by simp)];exact(o2.2 1 (by omega)).1
 obtain⟨v1,e1,d1⟩:=h1;obtain⟨v2,e2,d2⟩:=h2;exact⟨⟨v1,e1,key _ _ d1⟩,⟨v2,e2,key _ _ d2⟩,(((hb.setCell (p:=⟨w.heap.size,0,none⟩) (Nat.le_refl _) _).setCell (p:=⟨w.heap.size,1,none⟩) (Nat.le_refl _) _).setCell (p:=⟨w.heap.size+1,0,none⟩) (show w.heap.size≤w.heap.size+1 by omega) _).setCell (p:=⟨w.heap.size+1,1,none⟩) (show w.heap.size≤w.heap.size+1 by omega) _⟩
theorem qkc(a:ByteArray)(z:Int)(D:Nat)(h:a.data.toList=qa2 z++(if D=1 then[] else 47::qaw D)):
  (D=1→sl a.data.toList=a.size∧a.data.toList=qa2 z)∧
  (D≠1→sl a.data.toList+1≤a.size∧(a.extract 0 (sl a.data.toList)).data.toList=qa2 z∧(a.extract (sl a.data.toList+1) a.size).data.toList=qa2 (D:Int)):=by
 constructor
 ·intro hd
  rw[if_pos hd,List.append_nil] at h;refine⟨?_,h⟩;rw[h,q3v (qnf _),←h];simp
 ·intro hd
  rw[if_neg hd] at h;have hs:sl a.data.toList=(qa2 z).length:=by rw[h];exact q31 _ _ (qnf _)
  have hlen:a.size=(qa2 z).length+(1+(qaw D).length):=by
   have h1:=congrArg List.length h;rw[List.length_append,List.length_cons] at h1;have h2:a.data.toList.length=a.size:=by simp
   omega
  refine⟨by omega, ?_, ?_⟩
  ·rw[Lib.extract_from_zero,hs,h,List.take_left]
  ·rw[Lib.extract_data,hs,h,qbt,List.take_of_length_le (by simp;omega)]
   rw[show(qa2 z).length+1=(qa2 z++[47]).length by simp,show qa2 z++47::qaw D=(qa2 z++[47])++qaw D by simp,List.drop_left]
theorem q32(a:ByteArray)(z:Int)(D:Nat)(w:World)(h:a.data.toList=qa2 z++(if D=1 then[] else 47::qaw D))(hsz:a.size≤5000):
  Calls Tryz.prog 130 #[.string a] w fun e w'=>(∃v1 v2,e = .returned (.tuple #[v1,v2])∧qct w' v1 z∧qct w' v2 (D:Int))∧Below w.heap.size w w':=by
 obtain⟨hT1,hT2⟩:=qkc a z D h;have HSL:=hid (fun W=>qrg a W (by omega));have hsle:sl a.data.toList≤a.size:=by have:=q7a a.data.toList;simpa using this
 have HW0:=hid (qut w);clear h;by_cases hd:D=1
 ·obtain⟨h1,h2⟩:=hT1 hd
  rw[h1] at HSL;have HDE:=hid hd;have HPZ:Hid (∀W,Calls Tryz.prog 176 #[.string a] W fun e w'=>(∃v,e = .returned v∧qct w' v z)∧Below W.heap.size W w'):=hid fun W=>qwy a z W h2 (by omega);have HWH:=hid (fun W=>q78 1 W (by omega));clear hT1 hT2 h1 h2 hd hsle;have hbe:((a.size:Int)==(a.size:Int))=true:=beq_self_eq_true _;go_enter Tryz.func130,Tryz.ntmps130;go_wp2_with fail;generalize (w.alloc (.cells #[.bool false,.slice none 0 0] 185)).alloc (.cells #[.bool false,.slice none 0 0] 185)=w0 at *;refine(HSL.out _).mono ?_;rintro e w1 ⟨rfl,rfl⟩;go_wp2_with fail;refine(HPZ.out _).mono ?_;rintro e w2 ⟨⟨v1,rfl,h1⟩,hb1⟩;have HT1:Hid (qn0 w w2):=hid (HW0.out.later hb1);have HV1:=hid h1;clear h1 hb1;go_wp2_with fail;refine(HWH.out _).mono ?_;rintro e w3 ⟨⟨v2,rfl,h2⟩,hb2⟩;have ht:=HT1.out.later hb2;have hv1:=HV1.out.later hb2;obtain⟨p1,k1,c1,rfl,hk1,_⟩:=hv1.parts;obtain⟨p2,k2,c2,rfl,hk2,_⟩:=h2.parts;have HFIN:=hid (qmb ht hv1 h2);obtain⟨r0,g0⟩:=ht.2.1.2 0 (by omega);obtain⟨r1,g1⟩:=ht.2.1.2 1 (by omega);obtain⟨r2,g2⟩:=ht.2.2.2 0 (by omega);obtain⟨r3,g3⟩:=ht.2.2.2 1 (by omega);have HDD:Hid (((1:Nat):Int)=(D:Int)):=hid (by rw[HDE.out]);clear h2 hb2 ht hv1 hk1 hk2 HT1 HV1;generalize decide (z<0)=s1 at *;generalize decide (((1:Nat):Int)<0)=s2 at *;go_wp2_with fail;refine bodyPost_ret (v := .tuple #[.agg #[.bool s1,.slice p1 k1 c1],.agg #[.bool s2,.slice p2 k2 c2]]) ?_ rfl ?_
  ·simp[results,Tryz.results130,go_sem,r0,r1,r2,r3]
  ·exact⟨⟨_,_,rfl,HFIN.out.1,by rw[←HDD.out];exact HFIN.out.2.1⟩,HFIN.out.2.2⟩
 ·obtain⟨h1,h2,h3⟩:=hT2 hd
  obtain⟨K,hK⟩:∃K,K=sl a.data.toList:=⟨_,rfl⟩;rw[←hK] at HSL h1 h2 h3;have HPA:Hid (∀W,Calls Tryz.prog 176 #[.string (a.extract 0 K)] W fun e w'=>(∃v,e = .returned v∧qct w' v z)∧Below W.heap.size W w'):=hid fun W=>qwy _ z W h2 (by rw[ByteArray.size_extract];omega);have HPB:Hid (∀W,Calls Tryz.prog 176 #[.string (a.extract (K+1) a.size)] W fun e w'=>(∃v,e = .returned v∧qct w' v (D:Int))∧Below W.heap.size W w'):=hid fun W=>qwy _ _ W h3 (by rw[ByteArray.size_extract];omega);have hbe:((K:Int)==(a.size:Int))=false:=beq_eq_false_iff_ne.2 (by omega);have hKi:(K:Int)+1≤(a.size:Int):=by omega
  have hKn:K+1≤a.size:=h1;have hK0:(0:Int)≤(K:Int)+1:=by omega
  have hKb:(K:Int)≤5000:=by omega
  have hKw:IntKind.i64.wrap ((K:Int)+1)=(K:Int)+1:=by rw[IntKind.wrap_i64];omega
  have hKl:K≤a.size:=by omega
  have hKlt:K<a.size:=by omega
  have hKt:((K:Int)+1).toNat=K+1:=by omega
  have hs1:∀W:World,(Instr.slice 9 (.string a) none (some (.int .i64 (K:Int))) none).run Tryz.prog W = .ok (.string (a.extract 0 K)) W:=fun W=>run_slice_string_h W 9 a Tryz.underlying9 .i64 (K:Int) (by omega) (by omega)
  have hs2:∀W:World,(Instr.slice 9 (.string a) (some (.int .i64 ((K:Int)+1))) none none).run Tryz.prog W = .ok (.string (a.extract (K+1) a.size)) W:=fun W=>by
   have h:=run_slice_string_l W 9 a Tryz.underlying9 .i64 ((K:Int)+1) (by omega) (by omega);rw[hKt] at h;exact h
  clear hT1 hT2 h1 h2 h3 hd hsle hK;go_enter Tryz.func130,Tryz.ntmps130;go_wp2_with fail;generalize (w.alloc (.cells #[.bool false,.slice none 0 0] 185)).alloc (.cells #[.bool false,.slice none 0 0] 185)=w0 at *;refine(HSL.out _).mono ?_;rintro e w1 ⟨rfl,rfl⟩;go_wp2_with fail;have HTD:Hid (qn0 w w1.drew):=hid (HW0.out.later ((Below.refl _ _).drew));have HS0:Hid (w.heap.size≤w1.drew.heap.size):=hid HTD.out.1.size
  go_region_held3 (fun W=>w.heap.size≤W.heap.size) (first|exact HS2.out|exact HS1.out|exact HS0.out|(have hz:=HS2.out;simpa using hz))
   (first
    | (go_at_call 176;first
      | ((with_reducible refine(HPA.out _).mono ?_);rintro e w2 ⟨⟨v1,rfl,h1⟩,hb1⟩;have HT1:Hid (qn0 w w2):=hid (HTD.out.later hb1);have HS1:Hid (w.heap.size≤w2.heap.size):=hid HT1.out.1.size;have HV1:=hid h1;clear h1 hb1)
      | ((with_reducible refine(HPB.out _).mono ?_);rintro e w3 ⟨⟨v2,rfl,h2⟩,hb2⟩;have ht:=HT1.out.later hb2;have hv1:=HV1.out.later hb2;obtain⟨p1,k1,c1,rfl,hk1,_⟩:=hv1.parts;obtain⟨p2,k2,c2,rfl,hk2,_⟩:=h2.parts;have HFIN:=hid (qmb ht hv1 h2);have HS2:Hid (w.heap.size≤w3.heap.size):=hid ht.1.size;obtain⟨r0,g0⟩:=ht.2.1.2 0 (by omega);obtain⟨r1,g1⟩:=ht.2.1.2 1 (by omega);obtain⟨r2,g2⟩:=ht.2.2.2 0 (by omega);obtain⟨r3,g3⟩:=ht.2.2.2 1 (by omega);clear h2 hb2 ht hv1 hk1 hk2 HT1 HV1;generalize decide (z<0)=s1 at *;generalize decide ((D:Int)<0)=s2 at *)))
  go_wp2_with fail;refine bodyPost_ret (v := .tuple #[.agg #[.bool s1,.slice p1 k1 c1],.agg #[.bool s2,.slice p2 k2 c2]]) ?_ rfl ?_
  ·simp[results,Tryz.results130,go_sem,r0,r1,r2,r3]
  ·exact⟨⟨_,_,rfl,HFIN.out.1,HFIN.out.2.1⟩,HFIN.out.2.2⟩
theorem zbf(a:ByteArray)(q:Rat)(w:World)(h:a.data.toList=qat q)(hsz:a.size≤5000):
  Calls Tryz.prog 130 #[.string a] w fun e w'=>(∃v1 v2,e = .returned (.tuple #[v1,v2])∧qct w' v1 q.num∧qct w' v2 (q.den:Int))∧Below w.heap.size w w':=
 q32 a q.num q.den w (by rw[h,qep]) hsz
theorem qkd(z:Int)(d:Nat)(hd:0<d):(mkRat z d).num=(if decide (z<0)=true then -((z.natAbs/Nat.gcd z.natAbs d:Nat):Int) else((z.natAbs/Nat.gcd z.natAbs d:Nat):Int))∧(mkRat z d).den=d/Nat.gcd z.natAbs d:=by
 have hg0:0<Nat.gcd z.natAbs d:=Nat.gcd_pos_of_pos_right _ hd;obtain⟨n,h1,h2,h3⟩:=qf6 z (Nat.gcd z.natAbs d) hg0 (Nat.gcd_dvd_left _ _);have hD:d/Nat.gcd z.natAbs d*Nat.gcd z.natAbs d=d:=Nat.div_mul_cancel (Nat.gcd_dvd_right _ _)
 have hD0:d/Nat.gcd z.natAbs d≠0:=by
  have:0<d/Nat.gcd z.natAbs d:=Nat.div_pos (Nat.le_of_dvd hd (Nat.gcd_dvd_right _ _)) hg0;omega
 have hcop:n.natAbs.Coprime (d/Nat.gcd z.natAbs d):=by
  rw[h2];exact Nat.coprime_div_gcd_div_gcd hg0
 have hq:mkRat z d=mkRat n (d/Nat.gcd z.natAbs d):=by
  refine(Rat.mkRat_eq_iff (by omega) hD0).2 ?_
  conv=>lhs;rw[←h1]
  conv=>rhs;rw[←hD]
  rw[Int.natCast_mul]
  grind
 obtain⟨e1,e2⟩:=qmm _ n _ hD0 hcop hq;rw[e1,e2];refine⟨?_,rfl⟩;rw[←h2];rcases Int.lt_or_le z 0 with h|h
 ·have:=h3.2 h
  rw[decide_eq_true h,if_pos rfl];omega
 ·have:¬n<0:=fun e=>by have:=h3.1 e;omega
  rw[decide_eq_false (by omega),if_neg (by decide)];omega
def qmc(w:World)(na:Bool)(ta:Value)(nb:Bool)(tb:Value)(W:World):Prop:=
 Below w.heap.size w W∧Own W w.heap.size 2 (qiy na ta)∧Own W (w.heap.size+1) 2 (qiy nb tb)
theorem qmc.later{w:World}{na nb:Bool}{ta tb:Value}{W W':World}(h:qmc w na ta nb tb W)(hb:Below W.heap.size W W'):qmc w na ta nb tb W':=by
 obtain⟨h1,h2,h3⟩:=h;have:=h3.1;exact⟨h1.trans (hb.mono h1.size),h2.later (hb.mono (by omega)),h3.later (hb.mono (by omega))⟩
theorem qla(w:World)(na:Bool)(ta:Value)(nb:Bool)(tb:Value):
  qmc w na ta nb tb ((w.alloc (.cells #[.bool na,ta] 185)).alloc (.cells #[.bool nb,tb] 185)):=by
 have h1:=qd7 w na ta;have h2:=qd7 (w.alloc (.cells #[.bool na,ta] 185)) nb tb;rw[World.size_alloc] at h2;exact⟨((Below.refl _ _).alloc (Nat.le_refl _) _).alloc (by rw[World.size_alloc];omega) _,qjn h1 _,h2⟩
theorem qay{w:World}{na nb:Bool}{ta tb:Value}{W:World}(h:qmc w na ta nb tb W):
  W.cell? ⟨w.heap.size,0,none⟩=some (.bool na)∧W.cell? ⟨w.heap.size,1,none⟩=some ta∧W.cell? ⟨w.heap.size+1,0,none⟩=some (.bool nb)∧W.cell? ⟨w.heap.size+1,1,none⟩=some tb:=
 ⟨(h.2.1.2 0 (by omega)).1,(h.2.1.2 1 (by omega)).1,(h.2.2.2 0 (by omega)).1,(h.2.2.2 1 (by omega)).1⟩
theorem qn1{w:World}{na nb:Bool}{ta tb:Value}{W:World}(h:qmc w na ta nb tb W):
  W.frozen? ⟨w.heap.size,0,none⟩=false∧W.frozen? ⟨w.heap.size,1,none⟩=false∧W.frozen? ⟨w.heap.size+1,0,none⟩=false∧W.frozen? ⟨w.heap.size+1,1,none⟩=false:=
 ⟨(h.2.1.2 0 (by omega)).2,(h.2.1.2 1 (by omega)).2,(h.2.2.2 0 (by omega)).2,(h.2.2.2 1 (by omega)).2⟩
def qh4(w:World)(na:Bool)(ta:Value)(nb:Bool)(tb:Value)(m n:Nat)(W:World):Prop:=qmc w na ta nb tb W∧DN W ta m∧DN W tb n
theorem qh4.later{w:World}{na nb:Bool}{ta tb:Value}{m n:Nat}{W W':World}(h:qh4 w na ta nb tb m n W)(hb:Below W.heap.size W W'):qh4 w na ta nb tb m n W':=⟨h.1.later hb,h.2.1.later hb,h.2.2.later hb⟩
theorem q33{n k:Nat}(h:dl n≤k):(qf4 n).length≤9*k:=by
 refine qbn (9*k) n ?_;have h2:=qb8 D9 n qa3;have h3:D9^(qaf D9 n).length≤D9^k:=Nat.pow_le_pow_right (by decide) h;have h4:D9^k=10^(9*k):=by rw[Nat.pow_mul];rfl
 rw[←h4];exact Nat.lt_of_lt_of_le h2 h3
theorem qin{z:Int}(h:dl z.natAbs≤900):(qa2 z).length≤10000:=by
 unfold qa2
 have h5:(qaw z.natAbs).length≤8101:=by
  unfold qaw;split
  ·simp
  ·exact Nat.le_trans (q33 h) (by omega)
 rw[List.length_append];have h6:(if z<0 then([45]:List UInt8) else[]).length≤1:=by split<;>simp
 omega
theorem qmd(va vb:Value)(x:Int)(D0:Nat)(w:World)(ha:qct w va x)(hb:qct w vb (D0:Int))(hD0:0<D0)(hlx:dl x.natAbs≤900)(hly:dl D0≤900):
  Calls Tryz.prog 136 #[va,vb] w fun e w'=>(∃t:ByteArray,e = .returned (.string t)∧t.data.toList=qat (mkRat x D0))∧Below w.heap.size w w':=by
 obtain⟨pa,ka,ca,rfl,hka,hda⟩:=ha.parts;obtain⟨pb,kb,cb,rfl,hkb,hdb⟩:=hb.parts;clear hka hkb;rw[Int.natAbs_natCast] at hdb;have hsb:decide ((D0:Int)<0)=false:=decide_eq_false (by omega);rw[hsb];have HDA:=hid hda;have HDB:=hid hdb;have HLX:=hid hlx;have HLY:=hid hly;clear ha hb hda hdb hsb hlx hly;have HFP:=qkd x D0 hD0;have HNUM:=hid HFP.1;obtain⟨D,hDD⟩:∃D,D=D0/Nat.gcd x.natAbs D0:=⟨_,rfl⟩;have HDEN:Hid ((mkRat x D0).den=D):=hid (by rw[HFP.2,hDD]);have HDPOS:Hid (0<Nat.gcd x.natAbs D0):=hid (Nat.gcd_pos_of_pos_right _ hD0);have HDL:Hid (dl D≤900):=hid (Nat.le_trans (qp2 (by rw[hDD];exact Nat.div_le_self _ _)) HLY.out);have HPL:Hid (dl (x.natAbs/Nat.gcd x.natAbs D0)≤900):=hid (Nat.le_trans (qp2 (Nat.div_le_self _ _)) HLX.out)
 have HLEN:Hid ((qa2 (mkRat x D0).num).length≤10000):=hid (by
  have h1:(mkRat x D0).num.natAbs=x.natAbs/Nat.gcd x.natAbs D0:=by
   rw[HNUM.out];split<;>simp only[Int.natAbs_neg,Int.natAbs_natCast]
  exact qin (by rw[h1];exact HPL.out))
 have HLEN2:Hid ((qa2 (D:Int)).length≤10000):=hid (qin (by rw[Int.natAbs_natCast];exact HDL.out))
 have HCOM:Hid (∀W,qh4 w (decide (x<0)) (.slice pa ka ca) false (.slice pb kb cb) x.natAbs D0 W→Calls Tryz.prog 131 #[(.slice pa ka ca),(.slice pb kb cb)] W fun e w'=>(∃v',e = .returned v'∧DN w' v' (Nat.gcd x.natAbs D0))∧qh4 w (decide (x<0)) (.slice pa ka ca) false (.slice pb kb cb) x.natAbs D0 w'):=hid fun W hW=>
  (qwv _ _ _ _ W hW.2.1 hW.2.2 HLX.out HLY.out).mono fun _ _ ⟨h1,h2⟩=>⟨h1,hW.later h2⟩
 have HDIV1:Hid (∀W v,qh4 w (decide (x<0)) (.slice pa ka ca) false (.slice pb kb cb) x.natAbs D0 W→DN W v (Nat.gcd x.natAbs D0)→Calls Tryz.prog 177 #[(.slice pa ka ca),v] W fun e w'=>(∃vq vr,e = .returned (.tuple #[vq,vr])∧DN w' vq (x.natAbs/Nat.gcd x.natAbs D0)∧DN w' vr (x.natAbs % Nat.gcd x.natAbs D0))∧DN w' v (Nat.gcd x.natAbs D0)∧qh4 w (decide (x<0)) (.slice pa ka ca) false (.slice pb kb cb) x.natAbs D0 w'):=hid fun W v hW hv=>
  (qma _ _ _ _ W hW.2.1 hv HDPOS.out HLX.out).mono fun _ _ ⟨h1,h2⟩=>⟨h1,hv.later h2,hW.later h2⟩
 have HDIV2:Hid (∀W v,qh4 w (decide (x<0)) (.slice pa ka ca) false (.slice pb kb cb) x.natAbs D0 W→DN W v (Nat.gcd x.natAbs D0)→Calls Tryz.prog 177 #[(.slice pb kb cb),v] W fun e w'=>(∃vq vr,e = .returned (.tuple #[vq,vr])∧DN w' vq D∧DN w' vr (D0 % Nat.gcd x.natAbs D0))∧Below W.heap.size W w'∧qh4 w (decide (x<0)) (.slice pa ka ca) false (.slice pb kb cb) x.natAbs D0 w'):=hid fun W v hW hv=>
  (qma _ _ _ _ W hW.2.2 hv HDPOS.out HLY.out).mono fun _ _ ⟨⟨vq,vr,h0,h1,h3⟩,h2⟩=>⟨⟨vq,vr,h0,by rw[hDD];exact h1,h3⟩,h2,hW.later h2⟩
 have HSG:Hid (∀W v,qh4 w (decide (x<0)) (.slice pa ka ca) false (.slice pb kb cb) x.natAbs D0 W→DN W v (x.natAbs/Nat.gcd x.natAbs D0)→Calls Tryz.prog 185 #[.bool (decide (x<0)),v] W fun e w'=>(∃v,e = .returned v∧qct w' v (mkRat x D0).num)∧Below W.heap.size W w'):=hid fun W v hW hv=>by
  have h:=qhj (decide (x<0)) v _ W hv;rw[qah _ _ qa3] at h;rw[HNUM.out];exact h
 have HTX:Hid (∀W v,qct W v (mkRat x D0).num→Calls Tryz.prog 139 #[v] W fun e w'=>(∃t:ByteArray,e = .returned (.string t)∧t.data.toList=qa2 (mkRat x D0).num)∧Below W.heap.size W w'):=hid fun W v hv=>q30 v _ W hv (by
  have h1:(mkRat x D0).num.natAbs=x.natAbs/Nat.gcd x.natAbs D0:=by
   rw[HNUM.out];split<;>simp only[Int.natAbs_neg,Int.natAbs_natCast]
  rw[h1];have:=HPL.out;omega)
 clear HFP hDD hD0;generalize decide (x<0)=sx at *;have HW0:=hid (qla w sx (.slice pa ka ca) false (.slice pb kb cb));have HP:Hid (qh4 w sx (.slice pa ka ca) false (.slice pb kb cb) x.natAbs D0 ((w.alloc (.cells #[.bool sx,.slice pa ka ca] 185)).alloc (.cells #[.bool false,.slice pb kb cb] 185))):=hid ⟨HW0.out,HDA.out.later HW0.out.1,HDB.out.later HW0.out.1⟩;have hcells0:=qay HP.out.1;go_enter Tryz.func136,Tryz.ntmps136;go_wp2_with fail;clear hcells0;refine(HCOM.out _ HP.out).mono ?_;rintro e w2 ⟨⟨vg,rfl,hg⟩,hp⟩;have HG:=hid hg;have HP2:=hid hp;have hcells:=qay hp.1;clear hg hp HCOM;go_wp2_with fail;refine(HDIV1.out _ _ HP2.out HG.out).mono ?_;rintro e w3 ⟨⟨vp,vpr,rfl,hq,_⟩,hg,hp⟩;have HPQ:=hid hq;have HG3:=hid hg;have HP3:=hid hp;clear hcells;have hcells:=qay hp.1;clear hq hg hp HDIV1 HP2 HG;go_wp2_with fail;refine(HDIV2.out _ _ HP3.out HG3.out).mono ?_;rintro e w4 ⟨⟨vq,vqr,rfl,hq,_⟩,hb,hp⟩;have HQQ:=hid hq;have HPQ4:=hid (HPQ.out.later hb);have HP4:=hid hp;clear hcells;have hcells:=qay hp.1;clear hq hb hp HDIV2 HP3 HG3 HPQ;go_wp2_with fail;refine(HSG.out _ _ HP4.out HPQ4.out).mono ?_;rintro e w5 ⟨⟨vs,rfl,hs⟩,hb⟩;have HS5:=hid hs;have HQ5:=hid (HQQ.out.later hb);have HB5:=hid (HP4.out.1.1.trans (hb.mono HP4.out.1.1.size));clear hs hb hcells HSG HPQ4 HQQ HP4;go_wp2_with fail;refine(HTX.out _ _ HS5.out).mono ?_;rintro e w6 ⟨⟨t1,rfl,ht1⟩,hb⟩;have HT1:=hid ht1;have hq6:=HQ5.out.later hb;have HB6:=hid (HB5.out.trans (hb.mono HB5.out.size));obtain⟨p6,k6,c6,rfl,hk6⟩:=qgf hq6;have HQ6:=hid hq6
 have HS1:Hid (t1.size≤10000):=hid (by
  have h:=congrArg List.length ht1;have h2:t1.data.toList.length=t1.size:=by simp
  rw[←h2,h];exact HLEN.out)
 clear ht1 hb HS5 HQ5 HB5 HTX;have hov1:¬9223372036854775807<t1.size+1:=by have:=HS1.out;omega
 by_cases hD:D=1
 ·have hdn:qaf D9 D=[1]:=by rw[hD];exact qdo (by omega) (by decide)
  have hk1:k6=1:=by rw[hk6];unfold dl;rw[hdn];rfl
  have hcell:∃b o,p6=some ⟨b,o,none⟩∧w6.cell? ⟨b,o,none⟩=some (.int .i64 1):=by
   obtain⟨_,p',c',he,_,_,hc⟩:=hq6;rw[hdn] at he hc;cases he
   rcases hc with h0|⟨b,o,h1,h2⟩
   ·cases h0
   ·exact⟨b,o,h1,by have:=h2 0 (by simp);unfold dv at this;simpa using this⟩
  obtain⟨b,o,rfl,hcell⟩:=hcell;have HRES:Hid (t1.data.toList=qat (mkRat x D0)):=hid (by rw[qep,HDEN.out,if_pos hD,List.append_nil];exact HT1.out);clear hq6 hk6 hdn;subst hk1;have g1:(((1:Nat):Int)==1)=true:=rfl;go_wp2_with fail;go_ret;exact⟨⟨_,rfl,HRES.out⟩,HB6.out⟩
 ·have hS2:Hid (∀W,DN W (.slice p6 k6 c6) D→Calls Tryz.prog 185 #[.bool false,.slice p6 k6 c6] W fun e w'=>(∃v,e = .returned v∧qct w' v (D:Int))∧Below W.heap.size W w'):=hid fun W hW=>by
   have h:=qhj false _ _ W hW;rw[qah _ _ qa3] at h;exact h
  have HT2:Hid (∀W v,qct W v (D:Int)→Calls Tryz.prog 139 #[v] W fun e w'=>(∃t:ByteArray,e = .returned (.string t)∧t.data.toList=qa2 (D:Int))∧Below W.heap.size W w'):=hid fun W v hv=>q30 v (D:Int) W hv (by rw[Int.natAbs_natCast];have:=HDL.out;omega)
  have HRES:Hid (∀t2:ByteArray,t2.data.toList=qa2 (D:Int)→(t1++⟨#[47]⟩++t2).data.toList=qat (mkRat x D0)):=hid fun t2 h2=>by
   rw[qep,HDEN.out,if_neg hD,←HT1.out,←qbt,←h2];simp
  have HLN2:=hid HLEN2.out
  have hgd:(¬k6=1)∨(k6=1∧∃b o d,p6=some ⟨b,o,none⟩∧w6.cell? ⟨b,o,none⟩=some (.int .i64 ((d:Nat):Int))∧d≠1):=by
   by_cases h:k6=1
   ·refine .inr ⟨h, ?_⟩
    have hd1:dl D=1:=by rw[←hk6];exact h
    obtain⟨h0,h9⟩:=ql9 hd1;have hdn:qaf D9 D=[D]:=qdo h0 (by rw[qbp];exact h9);obtain⟨_,p',c',he,_,_,hc⟩:=hq6;rw[hdn] at he hc;cases he
    rcases hc with h0'|⟨b,o,h1,h2⟩
    ·cases h0'
    ·exact⟨b,o,D,h1,by have:=h2 0 (by simp);unfold dv at this;simpa using this,hD⟩
   ·exact .inl h
  clear hq6 hk6 hD;rcases hgd with hk|⟨hk,b,o,d,rfl,hcell,hd⟩
  ·have g1:((k6:Int)==1)=false:=beq_eq_false_iff_ne.2 (by omega)
   go_wp2_with fail;refine(hS2.out _ HQ6.out).mono ?_;rintro e w7 ⟨⟨v7,rfl,h7⟩,hb7⟩;have H7:=hid h7;have HB7:=hid (HB6.out.trans (hb7.mono HB6.out.size));clear h7 hb7;go_wp2_with fail;refine(HT2.out _ _ H7.out).mono ?_;rintro e w8 ⟨⟨t2,rfl,ht2⟩,hb8⟩;have HB8:=hid (HB7.out.trans (hb8.mono HB7.out.size));have HR2:=hid (HRES.out t2 ht2)
   have hsz2:t2.size≤10000:=by
    have h:=congrArg List.length ht2;have h2:t2.data.toList.length=t2.size:=by simp
    rw[←h2,h];exact HLN2.out
   have hov2:¬9223372036854775807<(t1++⟨#[47]⟩:ByteArray).size+t2.size:=by rw[ByteArray.size_append];show ¬9223372036854775807<t1.size+1+t2.size;have:=HS1.out;omega
   have hov3:¬9223372036854775807<t1.size+1+t2.size:=by have:=HS1.out;omega
   clear ht2 hb8;go_wp2_with fail;go_ret;exact⟨⟨_,rfl,HR2.out⟩,HB8.out⟩
  ·have g1:(((1:Nat):Int)==1)=true:=rfl
   have g2:((d:Int)==1)=false:=beq_eq_false_iff_ne.2 (by omega);subst hk;go_wp2_with fail;refine(hS2.out _ HQ6.out).mono ?_;rintro e w7 ⟨⟨v7,rfl,h7⟩,hb7⟩;have H7:=hid h7;have HB7:=hid (HB6.out.trans (hb7.mono HB6.out.size));clear h7 hb7;go_wp2_with fail;refine(HT2.out _ _ H7.out).mono ?_;rintro e w8 ⟨⟨t2,rfl,ht2⟩,hb8⟩;have HB8:=hid (HB7.out.trans (hb8.mono HB7.out.size));have HR2:=hid (HRES.out t2 ht2)
   have hsz2:t2.size≤10000:=by
    have h:=congrArg List.length ht2;have h2:t2.data.toList.length=t2.size:=by simp
    rw[←h2,h];exact HLN2.out
   have hov2:¬9223372036854775807<(t1++⟨#[47]⟩:ByteArray).size+t2.size:=by rw[ByteArray.size_append];show ¬9223372036854775807<t1.size+1+t2.size;have:=HS1.out;omega
   have hov3:¬9223372036854775807<t1.size+1+t2.size:=by have:=HS1.out;omega
   clear ht2 hb8;go_wp2_with fail;go_ret;exact⟨⟨_,rfl,HR2.out⟩,HB8.out⟩
theorem q34{W:World}{v:Value}{n g h:Nat}{b1 b2:Bool}{p1 p2:Option Addr}{k1 c1 k2 c2:Nat}(hv:DN W v n)(e0:W.cell? ⟨g,0,none⟩=some (.bool b1))(e1:W.cell? ⟨g,1,none⟩=some (.slice p1 k1 c1))(e2:W.cell? ⟨h,0,none⟩=some (.bool b2))(e3:W.cell? ⟨h,1,none⟩=some (.slice p2 k2 c2))(hne:g≠h)(x0 x1 x2 x3:Value):
  DN ((((W.setCell ⟨g,0,none⟩ x0).setCell ⟨g,1,none⟩ x1).setCell ⟨h,0,none⟩ x2).setCell ⟨h,1,none⟩ x3) v n:=by
 have k:∀(V:World) (g i g' j:Nat) (x:Value),(g,i)≠(g',j)→(V.setCell ⟨g,i,none⟩ x).cell? ⟨g',j,none⟩=V.cell? ⟨g',j,none⟩:=fun V g i g' j x hne=>World.cell?_setCell_other _ _ _ _ (by intro e;injection e with e1 e2;exact hne (by rw[e1,e2]));refine(((hv.setOther e0 (by intro k z h;cases h)).setOther (u := .slice p1 k1 c1) ?_ (by intro k z h;cases h)).setOther (u := .bool b2) ?_ (by intro k z h;cases h)).setOther (u := .slice p2 k2 c2) ?_ (by intro k z h;cases h)
 ·rw[k _ _ _ _ _ _ (by simp)];exact e1
 ·rw[k _ _ _ _ _ _ (by simp[hne]),k _ _ _ _ _ _ (by simp[hne])];exact e2
 ·rw[k _ _ _ _ _ _ (by simp),k _ _ _ _ _ _ (by simp[hne]),k _ _ _ _ _ _ (by simp[hne])];exact e3
theorem quu{w W:World}{na nb n1 n2:Bool}{ta tb t1 t2:Value}(h:qmc w na ta nb tb W):
  qmc w n1 t1 n2 t2 ((((W.setCell ⟨w.heap.size,0,none⟩ (.bool n1)).setCell ⟨w.heap.size,1,none⟩ t1).setCell ⟨w.heap.size+1,0,none⟩ (.bool n2)).setCell ⟨w.heap.size+1,1,none⟩ t2):=by
 obtain⟨hb,o1,o2⟩:=h;refine⟨(((hb.setCell (p:=⟨w.heap.size,0,none⟩) (Nat.le_refl _) _).setCell (p:=⟨w.heap.size,1,none⟩) (Nat.le_refl _) _).setCell (p:=⟨w.heap.size+1,0,none⟩) (show w.heap.size≤w.heap.size+1 by omega) _).setCell (p:=⟨w.heap.size+1,1,none⟩) (show w.heap.size≤w.heap.size+1 by omega) _, ?_, ?_⟩
 ·refine((((o1.set 0 (by omega) (.bool n1)).set 1 (by omega) t1).setOther (by omega) 0 (.bool n2)).setOther (by omega) 1 t2).congr fun i hi => ?_
  unfold qiy
  match i,hi with
  | 0,_=>rfl
  | 1,_=>rfl
 ·refine((((o2.setOther (by omega) 0 (.bool n1)).setOther (by omega) 1 t1).set 0 (by omega) (.bool n2)).set 1 (by omega) t2).congr fun i hi => ?_
  unfold qiy
  match i,hi with
  | 0,_=>rfl
  | 1,_=>rfl
theorem qct.partsN{w:World}{v:Value}{n:Nat}(h:qct w v (n:Int)):∃p k c,v = .agg #[.bool false,.slice p k c]∧DN w (.slice p k c) n:=by
 obtain⟨p,k,c,rfl,_,hd⟩:=h.parts;rw[decide_eq_false (by omega)];rw[Int.natAbs_natCast] at hd;exact⟨p,k,c,rfl,hd⟩
theorem quv{w W:World}{na nb n1:Bool}{pa pb p1 p2:Option Addr}{ka ca kb cb k1 c1 k2 c2:Nat}{x:Int}{D0:Nat}(h:qmc w na (.slice pa ka ca) nb (.slice pb kb cb) W)(h1:qct W (.agg #[.bool n1,.slice p1 k1 c1]) x)(h2:qct W (.agg #[.bool false,.slice p2 k2 c2]) (D0:Int)):
  qh4 w n1 (.slice p1 k1 c1) false (.slice p2 k2 c2) x.natAbs D0 ((((W.setCell ⟨w.heap.size,0,none⟩ (.bool n1)).setCell ⟨w.heap.size,1,none⟩ (.slice p1 k1 c1)).setCell ⟨w.heap.size+1,0,none⟩ (.bool false)).setCell ⟨w.heap.size+1,1,none⟩ (.slice p2 k2 c2)):=by
 obtain⟨e0,e1,e2,e3⟩:=qay h;obtain⟨v1,he1,d1⟩:=h1;obtain⟨v2,he2,d2⟩:=h2;cases he1
 cases he2
 rw[Int.natAbs_natCast] at d2;exact⟨quu h,q34 d1 e0 e1 e2 e3 (by omega) _ _ _ _,q34 d2 e0 e1 e2 e3 (by omega) _ _ _ _⟩
theorem qss(va vb:Value)(x0:Int)(D0:Nat)(w:World)(ha:qct w va x0)(hb:qct w vb (-(D0:Int)))(hD0:0<D0)(hlx:dl x0.natAbs≤900)(hly:dl D0≤900):
  Calls Tryz.prog 136 #[va,vb] w fun e w'=>(∃t:ByteArray,e = .returned (.string t)∧t.data.toList=qat (mkRat (-x0) D0))∧Below w.heap.size w w':=by
 have HIA:=hid ha;have HIB:=hid hb;obtain⟨pa,ka,ca,rfl,hka,hda⟩:=ha.parts;obtain⟨pb,kb,cb,rfl,hkb,hdb⟩:=hb.parts;clear hka hkb hda hdb ha hb;have hsb:decide (-(D0:Int)<0)=true:=decide_eq_true (by omega);rw[hsb] at *;obtain⟨x,hx⟩:∃x,x = -x0:=⟨_,rfl⟩;have HLX:Hid (dl x.natAbs≤900):=hid (by rw[hx,Int.natAbs_neg];exact hlx);have HLY:=hid hly;have HMX:Hid (∀W,Below w.heap.size w W→Calls Tryz.prog 184 #[.agg #[.bool (decide (x0<0)),.slice pa ka ca]] W fun e w'=>(∃v,e = .returned v∧qct w' v x)∧Below W.heap.size W w'):=hid fun W hW=>by rw[hx];exact q77 _ _ W (HIA.out.later hW)
 have HMY:Hid (∀W,Below w.heap.size w W→Calls Tryz.prog 184 #[.agg #[.bool true,.slice pb kb cb]] W fun e w'=>(∃v,e = .returned v∧qct w' v (D0:Int))∧Below W.heap.size W w'):=hid fun W hW=>by
  have h:=q77 _ _ W (HIB.out.later hW);rw[Int.neg_neg,decide_eq_true (show -(D0:Int)<0 by omega)] at h;exact h
 have HXX:=hid hx;rw[←hx];clear hlx hly hsb hx;generalize decide (x0<0)=s0 at *;have hD0':=hD0;have HW0:=hid (qla w s0 (.slice pa ka ca) true (.slice pb kb cb));have hcells0:=qay HW0.out;go_enter Tryz.func136,Tryz.ntmps136;go_wp2_with fail;clear hcells0;generalize (w.alloc (.cells #[.bool s0,.slice pa ka ca] 185)).alloc (.cells #[.bool true,.slice pb kb cb] 185)=w0 at *;have HT0:Hid (qmc w s0 (.slice pa ka ca) true (.slice pb kb cb) w0.drew):=hid (HW0.out.later ((Below.refl _ _).drew));have hc0:=qay HT0.out;have hB0:=HT0.out.1
 go_region_with (first
   | (go_at_call 184;first
     | ((with_reducible refine(HMX.out _ (by first|exact hBM|exact hB0)).mono ?_);rintro e wN ⟨⟨vN,rfl,hn⟩,hbn⟩;have HVN:=hid hn;have HBN:=hid hbn;have HTN:Hid (qmc w s0 (.slice pa ka ca) true (.slice pb kb cb) wN):=hid (by first|exact HTM.out.later hbn|exact HT0.out.later hbn);have hBN:=HTN.out.1;have hcN:=qay HTN.out;have hfN:=qn1 HTN.out;obtain⟨p1,k1,c1,rfl,hk1,_⟩:=hn.parts;clear hn hbn hk1)
     | ((with_reducible refine(HMY.out _ (by first|exact hBN|exact hB0)).mono ?_);rintro e wM ⟨⟨vM,rfl,hn⟩,hbm⟩;have HVM:=hid hn;have HBM:=hid hbm;have HTM:Hid (qmc w s0 (.slice pa ka ca) true (.slice pb kb cb) wM):=hid (by first|exact HTN.out.later hbm|exact HT0.out.later hbm);have hBM:=HTM.out.1;have hcM:=qay HTM.out;have hfM:=qn1 HTM.out;obtain⟨p2,k2,c2,rfl,_⟩:=hn.partsN;clear hn hbm)))
 all_goals
  have HP:Hid (qh4 w (decide (x<0)) (.slice p1 k1 c1) false (.slice p2 k2 c2) x.natAbs D0 _):=hid (by first|exact quv HTM.out (HVN.out.later HBM.out) HVM.out|exact quv HTN.out HVN.out (HVM.out.later HBN.out));have hcells0:=qay HP.out.1;clear HVN HVM HBN HBM HTN HTM hcN hcM hfN hfM hBN hBM hc0 hB0 HT0 HW0 HMX HMY HIA HIB;have HFP:=qkd x D0 hD0;have HNUM:=hid HFP.1;obtain⟨D,hDD⟩:∃D,D=D0/Nat.gcd x.natAbs D0:=⟨_,rfl⟩;have HDEN:Hid ((mkRat x D0).den=D):=hid (by rw[HFP.2,hDD]);have HDPOS:Hid (0<Nat.gcd x.natAbs D0):=hid (Nat.gcd_pos_of_pos_right _ hD0);have HDL:Hid (dl D≤900):=hid (Nat.le_trans (qp2 (by rw[hDD];exact Nat.div_le_self _ _)) HLY.out);have HPL:Hid (dl (x.natAbs/Nat.gcd x.natAbs D0)≤900):=hid (Nat.le_trans (qp2 (Nat.div_le_self _ _)) HLX.out)
  have HLEN:Hid ((qa2 (mkRat x D0).num).length≤10000):=hid (by
   have h1:(mkRat x D0).num.natAbs=x.natAbs/Nat.gcd x.natAbs D0:=by
    rw[HNUM.out];split<;>simp only[Int.natAbs_neg,Int.natAbs_natCast]
   exact qin (by rw[h1];exact HPL.out))
  have HLEN2:Hid ((qa2 (D:Int)).length≤10000):=hid (qin (by rw[Int.natAbs_natCast];exact HDL.out))
  have HCOM:Hid (∀W,qh4 w (decide (x<0)) (.slice p1 k1 c1) false (.slice p2 k2 c2) x.natAbs D0 W→Calls Tryz.prog 131 #[(.slice p1 k1 c1),(.slice p2 k2 c2)] W fun e w'=>(∃v',e = .returned v'∧DN w' v' (Nat.gcd x.natAbs D0))∧qh4 w (decide (x<0)) (.slice p1 k1 c1) false (.slice p2 k2 c2) x.natAbs D0 w'):=hid fun W hW=>
   (qwv _ _ _ _ W hW.2.1 hW.2.2 HLX.out HLY.out).mono fun _ _ ⟨h1,h2⟩=>⟨h1,hW.later h2⟩
  have HDIV1:Hid (∀W v,qh4 w (decide (x<0)) (.slice p1 k1 c1) false (.slice p2 k2 c2) x.natAbs D0 W→DN W v (Nat.gcd x.natAbs D0)→Calls Tryz.prog 177 #[(.slice p1 k1 c1),v] W fun e w'=>(∃vq vr,e = .returned (.tuple #[vq,vr])∧DN w' vq (x.natAbs/Nat.gcd x.natAbs D0)∧DN w' vr (x.natAbs % Nat.gcd x.natAbs D0))∧DN w' v (Nat.gcd x.natAbs D0)∧qh4 w (decide (x<0)) (.slice p1 k1 c1) false (.slice p2 k2 c2) x.natAbs D0 w'):=hid fun W v hW hv=>
   (qma _ _ _ _ W hW.2.1 hv HDPOS.out HLX.out).mono fun _ _ ⟨h1,h2⟩=>⟨h1,hv.later h2,hW.later h2⟩
  have HDIV2:Hid (∀W v,qh4 w (decide (x<0)) (.slice p1 k1 c1) false (.slice p2 k2 c2) x.natAbs D0 W→DN W v (Nat.gcd x.natAbs D0)→Calls Tryz.prog 177 #[(.slice p2 k2 c2),v] W fun e w'=>(∃vq vr,e = .returned (.tuple #[vq,vr])∧DN w' vq D∧DN w' vr (D0 % Nat.gcd x.natAbs D0))∧Below W.heap.size W w'∧qh4 w (decide (x<0)) (.slice p1 k1 c1) false (.slice p2 k2 c2) x.natAbs D0 w'):=hid fun W v hW hv=>
   (qma _ _ _ _ W hW.2.2 hv HDPOS.out HLY.out).mono fun _ _ ⟨⟨vq,vr,h0,h1,h3⟩,h2⟩=>⟨⟨vq,vr,h0,by rw[hDD];exact h1,h3⟩,h2,hW.later h2⟩
  have HSG:Hid (∀W v,qh4 w (decide (x<0)) (.slice p1 k1 c1) false (.slice p2 k2 c2) x.natAbs D0 W→DN W v (x.natAbs/Nat.gcd x.natAbs D0)→Calls Tryz.prog 185 #[.bool (decide (x<0)),v] W fun e w'=>(∃v,e = .returned v∧qct w' v (mkRat x D0).num)∧Below W.heap.size W w'):=hid fun W v hW hv=>by
   have h:=qhj (decide (x<0)) v _ W hv;rw[qah _ _ qa3] at h;rw[HNUM.out];exact h
  have HTX:Hid (∀W v,qct W v (mkRat x D0).num→Calls Tryz.prog 139 #[v] W fun e w'=>(∃t:ByteArray,e = .returned (.string t)∧t.data.toList=qa2 (mkRat x D0).num)∧Below W.heap.size W w'):=hid fun W v hv=>q30 v _ W hv (by
   have h1:(mkRat x D0).num.natAbs=x.natAbs/Nat.gcd x.natAbs D0:=by
    rw[HNUM.out];split<;>simp only[Int.natAbs_neg,Int.natAbs_natCast]
   rw[h1];have:=HPL.out;omega)
  clear HFP hDD hD0;go_wp2_with fail;clear hcells0;refine(HCOM.out _ HP.out).mono ?_;rintro e w2 ⟨⟨vg,rfl,hg⟩,hp⟩;have HG:=hid hg;have HP2:=hid hp;have hcells:=qay hp.1;clear hg hp HCOM;go_wp2_with fail;refine(HDIV1.out _ _ HP2.out HG.out).mono ?_;rintro e w3 ⟨⟨vp,vpr,rfl,hq,_⟩,hg,hp⟩;have HPQ:=hid hq;have HG3:=hid hg;have HP3:=hid hp;clear hcells;have hcells:=qay hp.1;clear hq hg hp HDIV1 HP2 HG;go_wp2_with fail;refine(HDIV2.out _ _ HP3.out HG3.out).mono ?_;rintro e w4 ⟨⟨vq,vqr,rfl,hq,_⟩,hb,hp⟩;have HQQ:=hid hq;have HPQ4:=hid (HPQ.out.later hb);have HP4:=hid hp;clear hcells;have hcells:=qay hp.1;clear hq hb hp HDIV2 HP3 HG3 HPQ;go_wp2_with fail;refine(HSG.out _ _ HP4.out HPQ4.out).mono ?_;rintro e w5 ⟨⟨vs,rfl,hs⟩,hb⟩;have HS5:=hid hs;have HQ5:=hid (HQQ.out.later hb);have HB5:=hid (HP4.out.1.1.trans (hb.mono HP4.out.1.1.size));clear hs hb hcells HSG HPQ4 HQQ HP4;go_wp2_with fail;refine(HTX.out _ _ HS5.out).mono ?_;rintro e w6 ⟨⟨t1,rfl,ht1⟩,hb⟩;have HT1:=hid ht1;have hq6:=HQ5.out.later hb;have HB6:=hid (HB5.out.trans (hb.mono HB5.out.size));obtain⟨p6,k6,c6,rfl,hk6⟩:=qgf hq6;have HQ6:=hid hq6
  have HS1:Hid (t1.size≤10000):=hid (by
   have h:=congrArg List.length ht1;have h2:t1.data.toList.length=t1.size:=by simp
   rw[←h2,h];exact HLEN.out)
  clear ht1 hb HS5 HQ5 HB5 HTX;have hov1:¬9223372036854775807<t1.size+1:=by have:=HS1.out;omega
  by_cases hD:D=1
  ·have hdn:qaf D9 D=[1]:=by rw[hD];exact qdo (by omega) (by decide)
   have hk1:k6=1:=by rw[hk6];unfold dl;rw[hdn];rfl
   have hcell:∃b o,p6=some ⟨b,o,none⟩∧w6.cell? ⟨b,o,none⟩=some (.int .i64 1):=by
    obtain⟨_,p',c',he,_,_,hc⟩:=hq6;rw[hdn] at he hc;cases he
    rcases hc with h0|⟨b,o,h1,h2⟩
    ·cases h0
    ·exact⟨b,o,h1,by have:=h2 0 (by simp);unfold dv at this;simpa using this⟩
   obtain⟨b,o,rfl,hcell⟩:=hcell;have HRES:Hid (t1.data.toList=qat (mkRat x D0)):=hid (by rw[qep,HDEN.out,if_pos hD,List.append_nil];exact HT1.out);clear hq6 hk6 hdn;subst hk1;have g1:(((1:Nat):Int)==1)=true:=rfl;go_wp2_with fail;go_ret;exact⟨⟨_,rfl,HRES.out⟩,HB6.out⟩
  ·have hS2:Hid (∀W,DN W (.slice p6 k6 c6) D→Calls Tryz.prog 185 #[.bool false,.slice p6 k6 c6] W fun e w'=>(∃v,e = .returned v∧qct w' v (D:Int))∧Below W.heap.size W w'):=hid fun W hW=>by
    have h:=qhj false _ _ W hW;rw[qah _ _ qa3] at h;exact h
   have HT2:Hid (∀W v,qct W v (D:Int)→Calls Tryz.prog 139 #[v] W fun e w'=>(∃t:ByteArray,e = .returned (.string t)∧t.data.toList=qa2 (D:Int))∧Below W.heap.size W w'):=hid fun W v hv=>q30 v (D:Int) W hv (by rw[Int.natAbs_natCast];have:=HDL.out;omega)
   have HRES:Hid (∀t2:ByteArray,t2.data.toList=qa2 (D:Int)→(t1++⟨#[47]⟩++t2).data.toList=qat (mkRat x D0)):=hid fun t2 h2=>by
    rw[qep,HDEN.out,if_neg hD,←HT1.out,←qbt,←h2];simp
   have HLN2:=hid HLEN2.out
   have hgd:(¬k6=1)∨(k6=1∧∃b o d,p6=some ⟨b,o,none⟩∧w6.cell? ⟨b,o,none⟩=some (.int .i64 ((d:Nat):Int))∧d≠1):=by
    by_cases h:k6=1
    ·refine .inr ⟨h, ?_⟩
     have hd1:dl D=1:=by rw[←hk6];exact h
     obtain⟨h0,h9⟩:=ql9 hd1;have hdn:qaf D9 D=[D]:=qdo h0 (by rw[qbp];exact h9);obtain⟨_,p',c',he,_,_,hc⟩:=hq6;rw[hdn] at he hc;cases he
     rcases hc with h0'|⟨b,o,h1,h2⟩
     ·cases h0'
     ·exact⟨b,o,D,h1,by have:=h2 0 (by simp);unfold dv at this;simpa using this,hD⟩
    ·exact .inl h
   clear hq6 hk6 hD;rcases hgd with hk|⟨hk,b,o,d,rfl,hcell,hd⟩
   ·have g1:((k6:Int)==1)=false:=beq_eq_false_iff_ne.2 (by omega)
    go_wp2_with fail;refine(hS2.out _ HQ6.out).mono ?_;rintro e w7 ⟨⟨v7,rfl,h7⟩,hb7⟩;have H7:=hid h7;have HB7:=hid (HB6.out.trans (hb7.mono HB6.out.size));clear h7 hb7;go_wp2_with fail;refine(HT2.out _ _ H7.out).mono ?_;rintro e w8 ⟨⟨t2,rfl,ht2⟩,hb8⟩;have HB8:=hid (HB7.out.trans (hb8.mono HB7.out.size));have HR2:=hid (HRES.out t2 ht2)
    have hsz2:t2.size≤10000:=by
     have h:=congrArg List.length ht2;have h2:t2.data.toList.length=t2.size:=by simp
     rw[←h2,h];exact HLN2.out
    have hov2:¬9223372036854775807<(t1++⟨#[47]⟩:ByteArray).size+t2.size:=by rw[ByteArray.size_append];show ¬9223372036854775807<t1.size+1+t2.size;have:=HS1.out;omega
    have hov3:¬9223372036854775807<t1.size+1+t2.size:=by have:=HS1.out;omega
    clear ht2 hb8;go_wp2_with fail;go_ret;exact⟨⟨_,rfl,HR2.out⟩,HB8.out⟩
   ·have g1:(((1:Nat):Int)==1)=true:=rfl
    have g2:((d:Int)==1)=false:=beq_eq_false_iff_ne.2 (by omega);subst hk;go_wp2_with fail;refine(hS2.out _ HQ6.out).mono ?_;rintro e w7 ⟨⟨v7,rfl,h7⟩,hb7⟩;have H7:=hid h7;have HB7:=hid (HB6.out.trans (hb7.mono HB6.out.size));clear h7 hb7;go_wp2_with fail;refine(HT2.out _ _ H7.out).mono ?_;rintro e w8 ⟨⟨t2,rfl,ht2⟩,hb8⟩;have HB8:=hid (HB7.out.trans (hb8.mono HB7.out.size));have HR2:=hid (HRES.out t2 ht2)
    have hsz2:t2.size≤10000:=by
     have h:=congrArg List.length ht2;have h2:t2.data.toList.length=t2.size:=by simp
     rw[←h2,h];exact HLN2.out
    have hov2:¬9223372036854775807<(t1++⟨#[47]⟩:ByteArray).size+t2.size:=by rw[ByteArray.size_append];show ¬9223372036854775807<t1.size+1+t2.size;have:=HS1.out;omega
    have hov3:¬9223372036854775807<t1.size+1+t2.size:=by have:=HS1.out;omega
    clear ht2 hb8;go_wp2_with fail;go_ret;exact⟨⟨_,rfl,HR2.out⟩,HB8.out⟩
def q8a(f:Bool)(z:Int)(D:Nat):Value:=if f then .tuple #[.int .i64 z,.int .i64 D,.bool true] else .tuple #[.int .i64 0,.int .i64 0,.bool false]
theorem qme(n:Nat):(qf4 n).length≤(qaw n).length:=by
 unfold qaw;split
 ·rename_i e;rw[e,qcz];simp
 ·exact Nat.le_refl _
theorem qwz(a t:ByteArray)(neg:Bool)(N D:Nat)(z:Int)(w:World)(hz:z=if neg then -(N:Int) else(N:Int))(hs:a.data.toList=(if neg then[45] else[])++t.data.toList)(ht:t.data.toList=qa2 (N:Int)++(if D=1 then[] else 47::qaw D))(hsz:a.size≤20):
  Calls Tryz.prog 134 #[.string a] w fun e w'=>e = .returned (q8a (decide ((qaw N).length≤9)&&(decide (D=1)||decide ((qaw D).length≤9))) z D)∧w'=w:=by
 obtain⟨hT1,hT2⟩:=qkc t (N:Int) D ht;have hNl:(qa2 (N:Int)).length=(qaw N).length:=by rw[qbt]
 have hN0:=qwx (N:Int)
 have hlen:a.size=(if neg then 1 else 0)+t.size:=by
  have h:=congrArg List.length hs;rw[List.length_append] at h;have e1:a.data.toList.length=a.size:=by simp
  have e2:t.data.toList.length=t.size:=by simp
  rw[e1,e2] at h;rw[h];cases neg<;>rfl
 have htl:t.size=(qaw N).length+(if D=1 then 0 else 1+(qaw D).length):=by
  have h:=congrArg List.length ht;have e2:t.data.toList.length=t.size:=by simp
  rw[List.length_append,e2,hNl] at h;rw[h];split
  ·rfl
  ·rw[List.length_cons];omega
 have hts:0<t.size:=by omega
 have hs0:0<a.size:=by omega
 have hc0:((a[0]'hs0).toNat:Int)=45∧neg=true∨((a[0]'hs0).toNat:Int)≠45∧neg=false:=by
  have h1:a.data.toList[0]'(by simpa using hs0)=a[0]'hs0:=qdr a 0 hs0;cases neg
  ·right
   refine⟨?_,rfl⟩;have h2:a.data.toList=t.data.toList:=hs
   have h3:isD (a[0]'hs0)=true:=by
    rw[←h1];simp only[h2,ht,qbt];rw[List.getElem_append_left (by omega)];exact qhs _ _ (List.getElem_mem _)
   unfold isD at h3;have:=of_decide_eq_true h3;omega
  ·left
   refine⟨?_,rfl⟩;rw[←h1];simp only[hs];rfl
 have hci:∀h:0<a.size,((a[0]'h).toNat:Int)=((a[0]'hs0).toNat:Int):=fun _=>rfl
 have HTD:Hid (neg=true→(a.extract 1 a.size)=t):=hid fun h=>by
  apply qcb;rw[Lib.extract_data,hs,if_pos h];simp;rw[List.take_of_length_le (by simp[hlen,h])]
 have HTN:Hid (neg=false→a=t):=hid fun h=>by
  apply qcb;rw[hs,h];rfl
 obtain⟨K,hKe⟩:∃K,K=sl t.data.toList:=⟨_,rfl⟩;have HSL:=hid (fun W=>qrg t W (by omega));rw[←hKe] at HSL hT1 hT2
 have hD:(D=1∧K=t.size)∨(D≠1∧K+1≤t.size):=by
  by_cases h:D=1
  ·exact .inl ⟨h,(hT1 h).1⟩
  ·exact .inr ⟨h,(hT2 h).1⟩
 have hE0:(t.extract 0 K).data.toList=qa2 (N:Int):=by
  by_cases h:D=1
  ·rw[Lib.extract_from_zero,(hT1 h).1,List.take_of_length_le (by simp)];exact(hT1 h).2
  ·exact(hT2 h).2.1
 have hKN:K=(qaw N).length:=by
  have h1:=congrArg List.length hE0;rw[hNl,Lib.extract_from_zero,List.length_take] at h1;have e2:t.data.toList.length=t.size:=by simp
  omega
 have hVN:K≤9→∀W,Calls Tryz.prog 181 #[.string (t.extract 0 K)] W fun e w'=>e = .returned (.int .i64 (N:Int))∧w'=W:=fun h W=>by
  have h1:=qrf (t.extract 0 K) W (by rw[hE0,qbt];exact qhs _) (by rw[ByteArray.size_extract];omega);rw[hE0,qbt,qgk] at h1;exact h1
 have hVD:D≠1→t.size-K≤10→∀W,Calls Tryz.prog 181 #[.string (t.extract (K+1) t.size)] W fun e w'=>e = .returned (.int .i64 (D:Int))∧w'=W:=fun h hl W=>by
  have h1:=qrf (t.extract (K+1) t.size) W (by rw[(hT2 h).2.2,qbt];exact qhs _) (by rw[ByteArray.size_extract];omega);rw[(hT2 h).2.2,qbt,qgk] at h1;exact h1
 obtain⟨fits,hfits⟩:∃f,f=(decide ((qaw N).length≤9)&&(decide (D=1)||decide ((qaw D).length≤9))):=⟨_,rfl⟩
 have HFIT:Hid (fits=decide (¬9<K∧¬10<t.size-K)):=hid (by
  rw[hfits];by_cases h:D=1
  ·rw[if_pos h] at htl
   simp only[h,decide_true,Bool.true_or,Bool.and_true,decide_eq_decide];omega
  ·rw[if_neg h] at htl
   simp only[h,decide_false,Bool.false_or,←Bool.decide_and,decide_eq_decide]
   omega)
 rw[←hfits];have HZ:=hid hz;clear hz;have hna:¬20<a.size:=by omega
 have hga:0<a.size:=hs0
 have hNi:K≤9→(N:Int)≤999999999:=fun h=>by
  have h1:=qgt N
  have h2:(qf4 N).length≤9:=by
   have:=qme N;omega
  have h3:=Nat.pow_le_pow_right (show 0<10 by omega) h2;omega
 have HNI:=hid hNi;have htb:t.size≤20:=by omega
 have hKle:K≤t.size:=by omega
 generalize ((a[0]'hs0).toNat:Int)=ch at *;clear hs ht hT1 hT2 hNl hN0 hlen htl hsz hKe hE0 hKN hfits hNi;rcases hc0 with⟨h1,h2⟩|⟨h1,h2⟩
 ·subst h1 h2
  have hext:=HTD.out rfl;have hb:((45:Int)==45)=true:=rfl;by_cases hK:9<K
  ·have HF:Hid (fits=false):=hid (by rw[HFIT.out];exact decide_eq_false (by omega))
   have g1:decide ((9:Int)<(K:Int))=true:=decide_eq_true (by omega);go_enter Tryz.func134,Tryz.ntmps134;go_wp2_with fail;refine(HSL.out _).mono ?_;rintro e w1 ⟨rfl,rfl⟩;go_wp2_with fail
   go_ret3
   exact⟨by rw[HF.out];rfl,rfl⟩
  ·by_cases hL:10<t.size-K
   ·have HF:Hid (fits=false):=hid (by rw[HFIT.out];exact decide_eq_false (by omega))
    have g2:(10:Int)<(t.size:Int)-(K:Int):=by omega
    go_enter Tryz.func134,Tryz.ntmps134;go_wp2_with fail;refine(HSL.out _).mono ?_;rintro e w1 ⟨rfl,rfl⟩;go_wp2_with fail
    go_ret3
    exact⟨by rw[HF.out];rfl,rfl⟩
   ·have HF:Hid (fits=true):=hid (by rw[HFIT.out];exact decide_eq_true (by omega))
    have g2:¬(10:Int)<(t.size:Int)-(K:Int):=by omega
    have HVN:=hid (fun W=>hVN (by omega) W);have hNb:(N:Int)≤999999999:=HNI.out (by omega);rcases hD with⟨hD1,hKt⟩|⟨hD1,hKt⟩
    ·have HDD:=hid hD1
     have g3:¬K<t.size:=by omega
     clear hD1 hKt hVD hVN;go_enter Tryz.func134,Tryz.ntmps134;go_wp2_with fail;refine(HSL.out _).mono ?_;rintro e w1 ⟨rfl,rfl⟩;go_wp2_with fail;refine(HVN.out _).mono ?_;rintro e w1 ⟨rfl,rfl⟩;go_wp2_with fail
     go_ret3
     exact⟨by have e:=HZ.out;simp only[if_true,Bool.false_eq_true,if_false] at e;rw[HF.out,HDD.out,e];rfl,rfl⟩
    ·have HVD:=hid (fun W=>hVD hD1 (by omega) W)
     have g3:K<t.size:=by omega
     have g4:K+1≤t.size:=by omega
     have g5:(0:Int)≤(K:Int)+1:=by omega
     have g6:((K:Int)+1).toNat=K+1:=by omega
     clear hD1 hVD hVN;go_enter Tryz.func134,Tryz.ntmps134;go_wp2_with fail;refine(HSL.out _).mono ?_;rintro e w1 ⟨rfl,rfl⟩;go_wp2_with fail;refine(HVN.out _).mono ?_;rintro e w1 ⟨rfl,rfl⟩;go_wp2_with fail;refine(HVD.out _).mono ?_;rintro e w1 ⟨rfl,rfl⟩;go_wp2_with fail
     go_ret3
     exact⟨by have e:=HZ.out;simp only[if_true,Bool.false_eq_true,if_false] at e;rw[HF.out,e];rfl,rfl⟩
 ·subst h2
  have hst:=HTN.out rfl;have hb:(ch==45)=false:=beq_eq_false_iff_ne.2 h1;subst a;clear h1;by_cases hK:9<K
  ·have HF:Hid (fits=false):=hid (by rw[HFIT.out];exact decide_eq_false (by omega))
   have g1:decide ((9:Int)<(K:Int))=true:=decide_eq_true (by omega);go_enter Tryz.func134,Tryz.ntmps134;go_wp2_with fail;refine(HSL.out _).mono ?_;rintro e w1 ⟨rfl,rfl⟩;go_wp2_with fail
   go_ret3
   exact⟨by rw[HF.out];rfl,rfl⟩
  ·by_cases hL:10<t.size-K
   ·have HF:Hid (fits=false):=hid (by rw[HFIT.out];exact decide_eq_false (by omega))
    have g2:(10:Int)<(t.size:Int)-(K:Int):=by omega
    go_enter Tryz.func134,Tryz.ntmps134;go_wp2_with fail;refine(HSL.out _).mono ?_;rintro e w1 ⟨rfl,rfl⟩;go_wp2_with fail
    go_ret3
    exact⟨by rw[HF.out];rfl,rfl⟩
   ·have HF:Hid (fits=true):=hid (by rw[HFIT.out];exact decide_eq_true (by omega))
    have g2:¬(10:Int)<(t.size:Int)-(K:Int):=by omega
    have HVN:=hid (fun W=>hVN (by omega) W);have hNb:(N:Int)≤999999999:=HNI.out (by omega);rcases hD with⟨hD1,hKt⟩|⟨hD1,hKt⟩
    ·have HDD:=hid hD1
     have g3:¬K<t.size:=by omega
     clear hD1 hKt hVD hVN;go_enter Tryz.func134,Tryz.ntmps134;go_wp2_with fail;refine(HSL.out _).mono ?_;rintro e w1 ⟨rfl,rfl⟩;go_wp2_with fail;refine(HVN.out _).mono ?_;rintro e w1 ⟨rfl,rfl⟩;go_wp2_with fail
     go_ret3
     exact⟨by have e:=HZ.out;simp only[if_true,Bool.false_eq_true,if_false] at e;rw[HF.out,HDD.out,e];rfl,rfl⟩
    ·have HVD:=hid (fun W=>hVD hD1 (by omega) W)
     have g3:K<t.size:=by omega
     have g4:K+1≤t.size:=by omega
     have g5:(0:Int)≤(K:Int)+1:=by omega
     have g6:((K:Int)+1).toNat=K+1:=by omega
     clear hD1 hVD hVN;go_enter Tryz.func134,Tryz.ntmps134;go_wp2_with fail;refine(HSL.out _).mono ?_;rintro e w1 ⟨rfl,rfl⟩;go_wp2_with fail;refine(HVN.out _).mono ?_;rintro e w1 ⟨rfl,rfl⟩;go_wp2_with fail;refine(HVD.out _).mono ?_;rintro e w1 ⟨rfl,rfl⟩;go_wp2_with fail
     go_ret3
     exact⟨by have e:=HZ.out;simp only[if_true,Bool.false_eq_true,if_false] at e;rw[HF.out,e];rfl,rfl⟩
theorem qhd(a:ByteArray)(q:Rat)(h:a.data.toList=qat q):a.size=(if q.num<0 then 1 else 0)+(qaw q.num.natAbs).length+(if q.den=1 then 0 else 1+(qaw q.den).length):=by
 have h1:=congrArg List.length h;have h2:a.data.toList.length=a.size:=by simp
 rw[h2] at h1;rw[h1];unfold qat;rw[List.length_append,List.length_append]
 congr 1
 ·congr 1
  split<;>rfl
 ·split
  ·rfl
  ·rw[List.length_cons];omega
theorem q8b(a:ByteArray)(q:Rat)(w:World)(h:a.data.toList=qat q)(hsz:a.size≤5000):
  Calls Tryz.prog 134 #[.string a] w fun e w'=>e = .returned (q8a (qa4 q 9) q.num q.den)∧w'=w:=by
 have hs:=qhd a q h;by_cases hl:a.size≤20
 ·have hc:=qwz a ⟨(qaw q.num.natAbs++(if q.den=1 then[] else 47::qaw q.den)).toArray⟩ (decide (q.num<0)) q.num.natAbs q.den q.num w (by
   rcases Int.lt_or_le q.num 0 with h1|h1
   ·rw[decide_eq_true h1,if_pos rfl];omega
   ·rw[decide_eq_false (by omega),if_neg (by decide)];omega) (by
   rw[h];unfold qat;rw[List.append_assoc];rcases Int.lt_or_le q.num 0 with h1|h1
   ·rw[if_pos h1,decide_eq_true h1];rfl
   ·rw[if_neg (by omega),decide_eq_false (by omega)];rfl) (by rw[qbt]) hl
  exact hc
 ·have HF:Hid (qa4 q 9=false):=hid (by
   cases hf:qa4 q 9
   ·rfl
   ·exfalso
    unfold qa4 at hf;rw[Bool.and_eq_true,Bool.or_eq_true] at hf;obtain⟨h1,h2⟩:=hf;have h1:=of_decide_eq_true h1;rcases h2 with h2|h2
    ·have h2:=of_decide_eq_true h2
     rw[if_pos h2] at hs;split at hs<;>omega
    ·have h2:=of_decide_eq_true h2
     split at hs<;>split at hs<;>omega)
  have hgt:¬a.size≤20:=hl;have hgt2:20<a.size:=by omega
  clear h hs hl;go_enter Tryz.func134,Tryz.ntmps134;go_wp2_with fail
  go_ret3
  exact⟨by rw[HF.out];rfl,rfl⟩
theorem q35(n:Nat):(pd (qsr n 1) n).reverse=qaw n:=by
 rcases Nat.eq_zero_or_pos n with e|e
 ·subst e
  have h:qsr 0 1=1:=by unfold qsr;rw[qcz];rfl
  rw[h];rfl
 ·rw[q79 n e]
  unfold qaw;rw[if_neg (by omega)]
theorem quw(n:Int)(d g:Nat)(hd:0<d)(hg:g=Nat.gcd n.natAbs d):n.tdiv (g:Int)=(mkRat n d).num∧d/g=(mkRat n d).den∧(mkRat n d).num.natAbs≤n.natAbs∧(mkRat n d).den≤d:=by
 obtain⟨h1,h2⟩:=qkd n d hd;rw[←hg] at h1 h2;have hle:n.natAbs/g≤n.natAbs:=Nat.div_le_self _ _;have h3:d/g≤d:=Nat.div_le_self _ _;rw[h1,h2];refine⟨?_,rfl, ?_,h3⟩
 ·rcases Int.lt_or_le n 0 with h|h
  ·rw[decide_eq_true h,if_pos rfl,Int.natCast_ediv,Int.ofNat_natAbs_of_nonpos (by omega)]
   rw[show n = -(-n) by omega,Int.neg_tdiv,Int.tdiv_eq_ediv_of_nonneg (by omega),Int.neg_neg]
  ·rw[decide_eq_false (by omega),if_neg (by decide),Int.natCast_ediv,Int.natAbs_of_nonneg h,Int.tdiv_eq_ediv_of_nonneg h]
 ·split
  ·rw[Int.natAbs_neg,Int.natAbs_natCast];exact hle
  ·rw[Int.natAbs_natCast];exact hle
theorem of9(n:Int)(d:Nat)(w:World)(hd:0<d)(hn:n.natAbs≤4000000000000000000)(hd2:d≤4000000000000000000):
  Calls Tryz.prog 135 #[.int .i64 n,.int .i64 d] w fun e w'=>(∃t:ByteArray,e = .returned (.string t)∧t.data.toList=qat (mkRat n d))∧Below w.heap.size w w':=by
 have hn1 : -4000000000000000000≤n:=by omega
 have hn2:n≤4000000000000000000:=by omega
 have hd1:(0:Int)<(d:Int):=by omega
 have hdi:(d:Int)≤4000000000000000000:=by omega
 obtain⟨g,hg⟩:∃g,g=Nat.gcd n.natAbs d:=⟨_,rfl⟩;have hg0:0<g:=by rw[hg];exact Nat.gcd_pos_of_pos_right _ hd
 have HGC:=hid (fun W=>zch n.natAbs d W (by omega) (by omega));have hmax:max n (0-n)=(n.natAbs:Int):=by omega
 have hmax2:max n (-n)=(n.natAbs:Int):=by omega
 rw[←hg] at HGC;obtain⟨q1,q2,q3,q4⟩:=quw n d g hd hg;have hgz:((g:Int)==0)=false:=beq_eq_false_iff_ne.2 (by omega);have hqd1:(d:Int)/(g:Int)=(((mkRat n d).den:Nat):Int):=by rw[←q2];exact(Int.natCast_ediv d g).symm
 have hqd2:(d:Int).tdiv (g:Int)=(((mkRat n d).den:Nat):Int):=by rw[Int.tdiv_eq_ediv_of_nonneg (by omega)];exact hqd1
 have hgi:(0:Int)<(g:Int):=by omega
 generalize hqe:mkRat n d=q at *;have hn9:n≤9223372036854775807:=by omega
 have hN1 : -4000000000000000000≤q.num:=by omega
 have hN2:q.num≤4000000000000000000:=by omega
 have hD2:((q.den:Nat):Int)≤4000000000000000000:=by omega
 have hmax3:max q.num (0-q.num)=(q.num.natAbs:Int):=by omega
 have hmax4:max q.num (-q.num)=(q.num.natAbs:Int):=by omega
 have HDN:Hid (∀W,Calls Tryz.prog 183 #[.int .i64 (q.num.natAbs:Nat),.int .i64 1] W fun e w'=>(∃t:ByteArray,e = .returned (.string t)∧t.data.toList=qaw q.num.natAbs)∧w'=W):=hid fun W=>by
  have h:=qon q.num.natAbs 1 W (by omega) (by omega);rw[q35] at h;exact h
 have HDD:Hid (∀W,Calls Tryz.prog 183 #[.int .i64 (q.den:Nat),.int .i64 1] W fun e w'=>(∃t:ByteArray,e = .returned (.string t)∧t.data.toList=qaw q.den)∧w'=W):=hid fun W=>by
  have h:=qon q.den 1 W (by omega) (by omega);rw[q35] at h;exact h
 have HLN:Hid ((qaw q.num.natAbs).length≤100):=hid (by
  unfold qaw;split
  ·simp
  ·exact Nat.le_trans (qbn 19 _ (by omega)) (by omega))
 have HLD:Hid ((qaw q.den).length≤100):=hid (by
  unfold qaw;split
  ·simp
  ·exact Nat.le_trans (qbn 19 _ (by omega)) (by omega))
 have HRT:Hid (qat q=(if q.num<0 then[45] else[])++qaw q.num.natAbs++(if q.den=1 then[] else 47::qaw q.den)):=hid rfl;have hDp:0<q.den:=q.den_pos;generalize qat q=rt at *;generalize q.num.natAbs=NA at *;generalize q.num=N at *;generalize q.den=D at *;clear hqe hg q2 q3 q4 hn hd hd2;go_enter Tryz.func135,Tryz.ntmps135;go_wp2_with fail;refine(HGC.out _).mono ?_;rintro e w1 ⟨rfl,hb1⟩;have HB1:=hid hb1;clear hb1 HGC;go_wp2_with fail
 go_quiet (fail)
 rcases Int.lt_or_le N 0 with hs|hs
 ·have g2:N<0:=hs
  go_wp2_with fail;refine(HDN.out _).mono ?_;rintro e w2 ⟨⟨t1,rfl,ht1⟩,rfl⟩
  have hs1:t1.size≤100:=by
   have h:=congrArg List.length ht1;have h2:t1.data.toList.length=t1.size:=by simp
   rw[←h2,h];exact HLN.out
  have hov1:¬9223372036854775807<1+t1.size:=by omega
  have hov5:¬9223372036854775807<1+t1.size+1:=by omega
  have hov6:¬9223372036854775807<t1.size+1:=by omega
  have hD1:D=1∨D≠1:=by omega
  rcases hD1 with e|e
  ·have g3:¬1<D:=by omega
   have HRES:Hid ((⟨#[45]⟩++t1:ByteArray).data.toList=rt):=hid (by rw[HRT.out,if_pos hs,if_pos e,List.append_nil,←ht1];simp);clear ht1;go_wp2_with fail;go_ret;exact⟨⟨_,rfl,HRES.out⟩,below_drewN HB1.out _⟩
  ·have g3:1<D:=by omega
   have HRES:Hid (∀t2:ByteArray,t2.data.toList=qaw D→((⟨#[45]⟩++t1:ByteArray)++⟨#[47]⟩++t2).data.toList=rt):=hid fun t2 h2=>by rw[HRT.out,if_pos hs,if_neg e,←ht1,←h2];simp
   clear ht1 e;go_wp2_with fail;refine(HDD.out _).mono ?_;rintro e w1 ⟨⟨t2,rfl,ht2⟩,rfl⟩;have HR2:=hid (HRES.out t2 ht2)
   have hs2:t2.size≤100:=by
    have h:=congrArg List.length ht2;have h2:t2.data.toList.length=t2.size:=by simp
    rw[←h2,h];exact HLD.out
   have hov2:¬9223372036854775807<1+t1.size+1+t2.size:=by omega
   have hov3:¬9223372036854775807<t1.size+1+t2.size:=by omega
   have hov4:¬9223372036854775807<0+t1.size+1+t2.size:=by omega
   clear ht2;go_wp2_with fail;go_ret;exact⟨⟨_,rfl,HR2.out⟩,below_drewN HB1.out _⟩
 ·have g2:¬N<0:=by omega
  go_wp2_with fail;refine(HDN.out _).mono ?_;rintro e w2 ⟨⟨t1,rfl,ht1⟩,rfl⟩
  have hs1:t1.size≤100:=by
   have h:=congrArg List.length ht1;have h2:t1.data.toList.length=t1.size:=by simp
   rw[←h2,h];exact HLN.out
  have hov1:¬9223372036854775807<1+t1.size:=by omega
  have hov5:¬9223372036854775807<1+t1.size+1:=by omega
  have hov6:¬9223372036854775807<t1.size+1:=by omega
  have hD1:D=1∨D≠1:=by omega
  rcases hD1 with e|e
  ·have g3:¬1<D:=by omega
   have HRES:Hid ((⟨#[]⟩++t1:ByteArray).data.toList=rt):=hid (by rw[HRT.out,if_neg (show ¬N<0 by omega),if_pos e,List.append_nil,←ht1];simp);clear ht1;go_wp2_with fail;go_ret;exact⟨⟨_,rfl,HRES.out⟩,below_drewN HB1.out _⟩
  ·have g3:1<D:=by omega
   have HRES:Hid (∀t2:ByteArray,t2.data.toList=qaw D→((⟨#[]⟩++t1:ByteArray)++⟨#[47]⟩++t2).data.toList=rt):=hid fun t2 h2=>by rw[HRT.out,if_neg (show ¬N<0 by omega),if_neg e,←ht1,←h2];simp
   clear ht1 e;go_wp2_with fail;refine(HDD.out _).mono ?_;rintro e w1 ⟨⟨t2,rfl,ht2⟩,rfl⟩;have HR2:=hid (HRES.out t2 ht2)
   have hs2:t2.size≤100:=by
    have h:=congrArg List.length ht2;have h2:t2.data.toList.length=t2.size:=by simp
    rw[←h2,h];exact HLD.out
   have hov2:¬9223372036854775807<1+t1.size+1+t2.size:=by omega
   have hov3:¬9223372036854775807<t1.size+1+t2.size:=by omega
   have hov4:¬9223372036854775807<0+t1.size+1+t2.size:=by omega
   clear ht2;go_wp2_with fail;go_ret;exact⟨⟨_,rfl,HR2.out⟩,below_drewN HB1.out _⟩
theorem qn2(q:Rat):qat q=[48]↔q.num=0:=by
 constructor
 ·intro h
  unfold qat at h;have h1:=congrArg List.length h;rw[List.length_append,List.length_append] at h1;have h2:=List.length_pos_iff.2 (qjz q.num.natAbs)
  have h3:¬q.num<0:=by
   intro h3;rw[if_pos h3] at h1;simp at h1;omega
  have h4:q.den=1:=by
   by_cases e:q.den=1
   ·exact e
   ·rw[if_neg e] at h1
    simp at h1;omega
  rw[if_neg h3,if_pos h4,List.nil_append,List.append_nil] at h;have h5:=congrArg (qa0 0) h;rw[qgk] at h5;have h6:qa0 0 [48]=0:=rfl;omega
 ·intro h
  have hd:q.den=1:=by
   have:=q.reduced;rw[h] at this
   simpa using this
  unfold qat;rw[h,hd,if_neg (by decide),if_pos rfl];rfl
theorem qux(q:Rat)(a:ByteArray)(h:a.data.toList=qat q)(hs:0<a.size):(q.num<0→((a[0]'hs).toNat:Int)=45)∧(¬q.num<0→((a[0]'hs).toNat:Int)≠45):=by
 have h1:a.data.toList[0]'(by simpa using hs)=a[0]'hs:=qdr a 0 hs;constructor
 ·intro hn
  rw[←h1];simp only[h,qat];simp only[if_pos hn];rfl
 ·intro hn
  have h3:isD (a[0]'hs)=true:=by
   rw[←h1];have h2:a.data.toList=qaw q.num.natAbs++(if q.den=1 then[] else 47::qaw q.den):=by rw[h];unfold qat;rw[if_neg hn,List.nil_append]
   have h4:=List.length_pos_iff.2 (qjz q.num.natAbs);simp only[h2];rw[List.getElem_append_left h4];exact qhs _ _ (List.getElem_mem _)
  unfold isD at h3;have:=of_decide_eq_true h3;omega
theorem qp3(q:Rat)(a:ByteArray)(h:a.data.toList=qat q):0<a.size:=by
 have h1:=qhd a q h;have:=List.length_pos_iff.2 (qjz q.num.natAbs);omega
theorem quy{q:Rat}(h:q.num=0):sgn q=0:=by unfold sgn;rw[if_neg (by omega),if_pos h]
theorem zci(a:ByteArray)(q:Rat)(w:World)(h:a.data.toList=qat q):
  Calls Tryz.prog 84 #[.string a] w fun e w'=>e = .returned (.int .i64 (sgn q))∧w'=w:=by
 have hs0:=qp3 q a h;obtain⟨t1,t2⟩:=qux q a h hs0;have hci:∀h':0<a.size,((a[0]'h').toNat:Int)=((a[0]'hs0).toNat:Int):=fun _=>rfl;generalize ((a[0]'hs0).toNat:Int)=ch at *;by_cases hz:q.num=0
 ·have he:a.toList=[48]:=by rw[ByteArray.toList_eq,h];exact(qn2 q).2 hz
  have HE:Hid (sgn q=0):=hid (quy hz);clear t1 t2 h hz;go_enter Tryz.func84,Tryz.ntmps84;go_wp2_with fail;go_ret;exact⟨qa1 HE.out.symm,rfl⟩
 ·have he:(a.toList==[48])=false:=beq_eq_false_iff_ne.2 (by rw[ByteArray.toList_eq,h];exact fun e=>hz ((qn2 q).1 e))
  by_cases hn:q.num<0
  ·have HE:Hid (sgn q = -1):=hid (by unfold sgn;rw[if_pos hn])
   have hch:=t1 hn;subst hch;clear t1 t2 h hz hn;go_enter Tryz.func84,Tryz.ntmps84;go_wp2_with fail;go_ret;exact⟨qa1 HE.out.symm,rfl⟩
  ·have HE:Hid (sgn q=1):=hid (by unfold sgn;rw[if_neg hn,if_neg hz])
   have hch:(ch==45)=false:=beq_eq_false_iff_ne.2 (t2 hn);clear t1 t2 h hz hn;go_enter Tryz.func84,Tryz.ntmps84;go_wp2_with fail;go_ret;exact⟨qa1 HE.out.symm,rfl⟩
def rt(q:Rat):ByteArray:=⟨(qat q).toArray⟩
theorem qd2(q:Rat):(rt q).data.toList=qat q:=by unfold rt;simp
theorem q36{t:ByteArray}{q:Rat}(h:t.data.toList=qat q):t=rt q:=qcb (by rw[h,qd2])
def sm(q:Rat)(k:Nat):Prop:=q.num.natAbs<10^k∧q.den<10^k
theorem qhk{q:Rat}{j k:Nat}(h:sm q j)(hk:j≤k):sm q k:=
 ⟨Nat.lt_of_lt_of_le h.1 (Nat.pow_le_pow_right (by decide) hk),Nat.lt_of_lt_of_le h.2 (Nat.pow_le_pow_right (by decide) hk)⟩
theorem qoo{n k:Nat}(h:n<10^k):(qaw n).length≤k+1:=by
 unfold qaw;split
 ·simp
 ·have:=qbn k n h;omega
theorem qio{n k:Nat}(h:(qaw n).length≤k):n<10^k:=by
 have h1:=qgt n;have h2:=qme n;exact Nat.lt_of_lt_of_le h1 (Nat.pow_le_pow_right (by decide) (by omega))
theorem qfe{q:Rat}{k:Nat}(h:sm q k):(rt q).size≤2*k+4:=by
 have h1:=qhd (rt q) q (qd2 q);have h2:=qoo h.1;have h3:=qoo h.2;rw[h1];split<;>split<;>omega
theorem qdx{n k:Nat}(h:n<10^k)(hk:k≤8100):dl n≤900:=by
 refine qb4 qa3 ?_
 have key:∀e:Nat,k≤9*e→10^k≤D9^e:=fun e he=>by
  rw[show D9=10^9 from rfl,←Nat.pow_mul];exact Nat.pow_le_pow_right (by decide) he
 exact Nat.lt_of_lt_of_le h (key 900 (by omega))
theorem qop{n:Int}{d k:Nat}(hd:0<d)(h1:n.natAbs<10^k)(h2:d<10^k):sm (mkRat n d) k:=by
 obtain⟨_,_,h3,h4⟩:=quw n d _ hd rfl;exact⟨Nat.lt_of_le_of_lt h3 h1,Nat.lt_of_le_of_lt h4 h2⟩
theorem qeh{m n a b:Nat}(h1:m<10^a)(h2:n<10^b):m*n<10^(a+b):=by
 rw[Nat.pow_add];exact Nat.mul_lt_mul'' h1 h2
theorem zbg{p q:Rat}{a b:Nat}(hp:sm p a)(hq:sm q b):sm (p+q) (a+b+1):=by
 rw[Rat.add_def'];have h1:=qeh hp.1 hq.2;have h2:=qeh hq.1 hp.2;have h3:=qeh hp.2 hq.2;rw[Nat.add_comm b a] at h2;have h4:(10:Nat)^(a+b+1)=10^(a+b)*10:=Nat.pow_succ ..;refine qop (Nat.mul_pos p.den_pos q.den_pos) ?_ ?_
 ·have h5:(p.num*(q.den:Int)+q.num*(p.den:Int)).natAbs≤p.num.natAbs*q.den+q.num.natAbs*p.den:=by
   refine Nat.le_trans (Int.natAbs_add_le _ _) ?_;rw[Int.natAbs_mul,Int.natAbs_mul,Int.natAbs_natCast,Int.natAbs_natCast];exact Nat.le_refl _
  omega
 ·omega
theorem q37{p q:Rat}{a b:Nat}(hp:sm p a)(hq:sm q b):sm (p*q) (a+b):=by
 rw[Rat.mul_def'];refine qop (Nat.mul_pos p.den_pos q.den_pos) ?_ (qeh hp.2 hq.2);rw[Int.natAbs_mul];exact qeh hp.1 hq.1
theorem zbh{q:Rat}{a:Nat}(h:sm q a):sm (-q) a:=by
 refine⟨?_,h.2⟩;rw[Rat.neg_num,Int.natAbs_neg];exact h.1
theorem qyi{q:Rat}(h:0<q.num):q⁻¹ = mkRat (q.den:Int) q.num.natAbs:=by
 rw[Rat.inv_def];obtain⟨n,hn⟩:=Int.eq_ofNat_of_zero_le (show(0:Int)≤q.num by omega);rw[hn,Int.natAbs_natCast];rfl
theorem qyj{q:Rat}(h:q.num<0):q⁻¹ = mkRat (-(q.den:Int)) q.num.natAbs:=by
 rw[Rat.inv_def];obtain⟨n,hn⟩:=Int.eq_ofNat_of_zero_le (show(0:Int) ≤ -q.num by omega);have h2:q.num = -(n:Int):=by omega
 rw[h2,Int.natAbs_neg,Int.natAbs_natCast]
 match n,h2 with
 | 0,h2=>exact absurd h2 (by omega)
 | n+1,_=>rfl
theorem q8c{q:Rat}{a:Nat}(h:sm q a)(hq:q.num≠0):sm q⁻¹ a:=by
 have hp:0<q.num.natAbs:=by omega
 rcases Int.lt_or_le q.num 0 with h1|h1
 ·rw[qyj h1]
  exact qop hp (by rw[Int.natAbs_neg,Int.natAbs_natCast];exact h.2) h.1
 ·rw[qyi (by omega)]
  exact qop hp (by rw[Int.natAbs_natCast];exact h.2) h.1
theorem q8d{p q:Rat}{a b:Nat}(hp:sm p a)(hq:sm q b)(h:q.num≠0):sm (p/q) (a+b):=by
 rw[Rat.div_def];exact q37 hp (q8c hq h)
theorem qp4{q:Rat}{k:Nat}(h:qa4 q k=true)(hk:1≤k):sm q k:=by
 unfold qa4 at h;rw[Bool.and_eq_true,Bool.or_eq_true] at h;obtain⟨h1,h2⟩:=h;refine⟨qio (of_decide_eq_true h1), ?_⟩;rcases h2 with h2|h2
 ·rw[of_decide_eq_true h2]
  exact Nat.lt_of_lt_of_le (by decide:1<10^1) (Nat.pow_le_pow_right (by decide) hk)
 ·exact qio (of_decide_eq_true h2)
theorem q7b{q:Rat}(h:q.num=0):q=0:=Rat.num_eq_zero.1 h
theorem qp5(q:Rat)(h:¬q.num<0)(h0:q.num≠0):qat (-q)=45::qat q:=by
 unfold qat;rw[Rat.neg_num,Rat.neg_den,if_pos (by omega),if_neg h,Int.natAbs_neg];rfl
theorem qn3(q:Rat)(h:q.num<0):qat q=45::qat (-q):=by
 have h1:=qp5 (-q) (by rw[Rat.neg_num];omega) (by rw[Rat.neg_num];omega);rw[Rat.neg_neg] at h1;exact h1
theorem q38(q:Rat)(h:q.num<0):(rt q).extract 1 (rt q).size=rt (-q):=by
 refine qcb ?_;rw[Lib.extract_data,qd2,qd2,qn3 q h,List.take_of_length_le]
 ·rfl
 ·have h1:=congrArg List.length (qd2 q)
  rw[qn3 q h] at h1;simp at h1 ⊢;omega
theorem q7c(q:Rat)(h:¬q.num<0)(h0:q.num≠0):(⟨#[45]⟩++rt q:ByteArray)=rt (-q):=by
 refine qcb ?_;rw[qd2,qp5 q h h0];simp[qd2]
theorem qng(q:Rat)(z:Int)(hz:sgn q=z)(w:World):
  Calls Tryz.prog 84 #[.string (rt q)] w fun e w'=>e = .returned (.int .i64 z)∧w'=w:=by
 rw[←hz];exact zci (rt q) q w (qd2 q)
theorem q39{q:Rat}(h:q.num<0):sgn q = -1:=by unfold sgn;rw[if_pos h]
theorem q97{q:Rat}(h:0<q.num):sgn q=1:=by unfold sgn;rw[if_neg (by omega),if_neg (by omega)]
theorem zbi{q:Rat}:0<(rt q).size:=qp3 q (rt q) (qd2 q)
theorem zbj(q:Rat)(w:World)(hs:(rt q).size≤5000):
  Calls Tryz.prog 133 #[.string (rt q)] w fun e w'=>e = .returned (.string (rt (-q)))∧w'=w:=by
 have hp:0<(rt q).size:=zbi;rcases Int.lt_or_le q.num 0 with h|h
 ·have HS:=hid (fun W=>qng q _ (q39 h) W)
  have HT:=hid (q38 q h);clear h;generalize rt (-q)=t2 at *;generalize rt q=t at *
  have hsl:∀W:World,(Instr.slice 26 (.string t) (some (.int .i64 1)) none none).run Tryz.prog W = .ok (.string t2) W:=fun W=>by
   have h:=run_slice_string_l W 26 t Tryz.underlying26 .i64 1 (by omega) (by omega);rw[show(1:Int).toNat=1 from rfl,HT.out] at h;exact h
  go_enter Tryz.func133,Tryz.ntmps133;go_wp2_with fail;refine(HS.out _).mono ?_;rintro e w1 ⟨rfl,rfl⟩;go_wp2_with fail;go_ret;exact⟨rfl,rfl⟩
 ·by_cases h0:q.num=0
  ·have HS:=hid (fun W=>qng q _ (quy h0) W)
   have HT:Hid (rt (-q)=rt q):=hid (by rw[q7b h0];rfl);clear h h0;generalize rt (-q)=t2 at *;generalize rt q=t at *;go_enter Tryz.func133,Tryz.ntmps133;go_wp2_with fail;refine(HS.out _).mono ?_;rintro e w1 ⟨rfl,rfl⟩;go_wp2_with fail;refine(HS.out _).mono ?_;rintro e w1 ⟨rfl,rfl⟩;go_wp2_with fail;go_ret;exact⟨congrArg (fun x=>Ending.returned (Value.string x)) HT.out.symm,rfl⟩
  ·have HS:=hid (fun W=>qng q _ (q97 (by omega)) W)
   have HT:=hid (q7c q (by omega) h0);clear h h0;generalize rt (-q)=t2 at *;generalize rt q=t at *;have hov:¬9223372036854775807<1+t.size:=by omega
   go_enter Tryz.func133,Tryz.ntmps133;go_wp2_with fail;refine(HS.out _).mono ?_;rintro e w1 ⟨rfl,rfl⟩;go_wp2_with fail;refine(HS.out _).mono ?_;rintro e w1 ⟨rfl,rfl⟩;go_wp2_with fail;go_ret;exact⟨congrArg (fun x=>Ending.returned (Value.string x)) HT.out,rfl⟩
def zb6(q:Rat):Rat:=if q.num<0 then -q else q
theorem zbk(q:Rat)(w:World):
  Calls Tryz.prog 178 #[.string (rt q)] w fun e w'=>e = .returned (.string (rt (zb6 q)))∧w'=w:=by
 have hp:0<(rt q).size:=zbi;unfold zb6;rcases Int.lt_or_le q.num 0 with h|h
 ·have HS:=hid (fun W=>qng q _ (q39 h) W)
  have HT:=hid (q38 q h);rw[if_pos h];clear h;generalize rt (-q)=t2 at *;generalize rt q=t at *
  have hsl:∀W:World,(Instr.slice 26 (.string t) (some (.int .i64 1)) none none).run Tryz.prog W = .ok (.string t2) W:=fun W=>by
   have h:=run_slice_string_l W 26 t Tryz.underlying26 .i64 1 (by omega) (by omega);rw[show(1:Int).toNat=1 from rfl,HT.out] at h;exact h
  go_enter Tryz.func178,Tryz.ntmps178;go_wp2_with fail;refine(HS.out _).mono ?_;rintro e w1 ⟨rfl,rfl⟩;go_wp2_with fail;go_ret;exact⟨rfl,rfl⟩
 ·rw[if_neg (by omega)]
  have HS:Hid (∀W:World,Calls Tryz.prog 84 #[.string (rt q)] W fun e w'=>(∃z:Int,0≤z∧e = .returned (.int .i64 z))∧w'=W):=hid fun W=>(qng q _ rfl W).mono fun _ _ ⟨h1,h2⟩=>⟨⟨_,by unfold sgn;rw[if_neg (by omega)];split<;>omega,h1⟩,h2⟩;clear h;generalize rt q=t at *;go_enter Tryz.func178,Tryz.ntmps178;go_wp2_with fail;refine(HS.out _).mono ?_;rintro e w1 ⟨⟨z,hz,rfl⟩,rfl⟩;go_wp2_with fail;go_ret;exact⟨rfl,rfl⟩
theorem q4a(c:UInt8)(l:List UInt8):sl (c::l)=if c=47 then 0 else sl l+1:=by
 unfold sl;rw[List.findIdx_cons];by_cases h:c=47
 ·rw[if_pos h,h];rfl
 ·rw[if_neg h]
  have:(c==47)=false:=beq_eq_false_iff_ne.2 h;rw[this];rfl
theorem qn4:∀l:List UInt8,Lib.indexByte l 47=if sl l<l.length then(sl l:Int) else -1
 | []=>rfl
 | c::l=>by
  have ih:=qn4 l;have hle:=q7a l;unfold Lib.indexByte;rw[q4a,List.length_cons];by_cases h:c=47
  ·rw[h,if_pos rfl,if_pos (by decide),if_pos (by omega)];rfl
  ·have hb:(c==47)=false:=beq_eq_false_iff_ne.2 h
   rw[hb,if_neg (by decide),if_neg h,ih];by_cases h2:sl l<l.length
   ·have:((sl l:Int) == -1)=false:=beq_eq_false_iff_ne.2 (by omega)
    rw[if_pos h2,this,if_neg (by decide),if_pos (by omega)];omega
   ·rw[if_neg h2,if_pos (by decide),if_neg (by omega)]
theorem zbl(l:List UInt8):Lib.cut l [47]=if sl l<l.length then(l.take (sl l),l.drop (sl l+1),true) else(l,[],false):=by
 unfold Lib.cut;rw[Lib.index_one,qn4];by_cases h:sl l<l.length
 ·rw[if_pos h,if_pos h,if_pos (by omega)];rfl
 ·rw[if_neg h,if_neg h,if_neg (by omega)]
theorem qyk{l:List UInt8}(h:sl l<l.length):l=l.take (sl l)++47::l.drop (sl l+1):=by
 induction l with
 | nil=>simp at h
 | cons d l ih=>
  rw[q4a] at h ⊢;by_cases e:d=47
  ·rw[if_pos e,e];rfl
  ·rw[if_neg e] at h ⊢
   rw[List.take_succ_cons,List.drop_succ_cons,List.cons_append,←ih (by simpa using h)]
theorem q98{c:UInt8}(h:isD c=true):∃d,d<10∧c=dig d∧c.toNat-48=d:=by
 rw[qmw] at h;refine⟨c.toNat-48,by omega, ?_,rfl⟩;apply UInt8.toNat_inj.1;rw[qi9];omega
theorem qip:∀(l:List UInt8) (a:Nat),(0<a∨(l≠[]∧l.head? ≠ some 48))→(∀c ∈ l,isD c=true)→0<qa0 a l
 | [],a,h,_=>by
  rcases h with h|h
  ·exact h
  ·exact absurd rfl h.1
 | c::l,a,h,hd=>by
  rw[qgs];refine qip l _ (.inl ?_) (fun x hx=>hd x (List.mem_cons_of_mem _ hx));rcases h with h|h
  ·omega
  ·have h1:=(qmw c).1 (hd c (List.mem_cons_self ..))
   have h2:c≠48:=fun e=>h.2 (by rw[e];rfl);have h3:c.toNat≠48:=fun e=>h2 (UInt8.toNat_inj.1 (by rw[e];rfl));omega
theorem quz:∀r:List UInt8,(∀c ∈ r,isD c=true)→r.reverse.head? ≠ some 48→qf4 (qa0 0 r.reverse)=r.reverse
 | [],_,_=>by rw[List.reverse_nil];exact qcz
 | c::r,hd,hh=>by
  obtain⟨d,h1,h2,h3⟩:=q98 (hd c (List.mem_cons_self ..));rw[List.reverse_cons] at hh ⊢;have hr:∀x ∈ r,isD x=true:=fun x hx=>hd x (List.mem_cons_of_mem _ hx)
  have hh2:r.reverse.head? ≠ some 48:=by
   intro e;apply hh;cases hq:r.reverse with
   | nil=>rw[hq] at e;cases e
   | cons x y=>rw[hq] at e;exact e
  have ih:=quz r hr hh2
  have hp:0<qa0 0 (r.reverse++[c]):=by
   refine qip _ 0 (.inr ⟨by simp,hh⟩) ?_;intro x hx;rcases List.mem_append.1 hx with e|e
   ·exact hr x (List.mem_reverse.1 e)
   ·rw[List.mem_singleton.1 e];exact hd c (List.mem_cons_self ..)
  rw[qup,h3] at hp ⊢;rw[qds hp,show(qa0 0 r.reverse*10+d)/10=qa0 0 r.reverse by omega,ih,h2]
  congr 2
  exact qr4 (by omega)
theorem qmf:qaw 1=[49]:=by
 unfold qaw;rw[if_neg (by decide),qds (by decide),show 1/10=0 from rfl,qcz];rfl
theorem qff{l:List UInt8}(h:qbe l=true):qaw (qa0 0 l)=l:=by
 have ha:=qeg h;obtain⟨hne,hd⟩:=(qez l).1 ha;unfold qbe at h;rw[Bool.and_eq_true,Bool.or_eq_true,beq_iff_eq] at h;rcases h.2 with e|e
 ·rw[e];rfl
 ·have hh:l.head? ≠ some 48:=by simpa using e
  have hp:=qip l 0 (.inr ⟨hne,hh⟩) hd;unfold qaw;rw[if_neg (by omega)];have h1:=quz l.reverse (fun c hc=>hd c (List.mem_reverse.1 hc)) (by rw[List.reverse_reverse];exact hh);rw[List.reverse_reverse] at h1;exact h1
structure qiv(s t:ByteArray)(neg:Bool)(A B:List UInt8)(f:Bool):Prop where
 whole:s.data.toList=(if neg then[45] else[])++t.data.toList
 plus:neg=false→Lib.hasPrefix s.data.toList [45]=false
 top:t.data.toList.take (sl t.data.toList)=A
 bot:t.data.toList.drop (sl t.data.toList+1)=B
 found:decide (sl t.data.toList<t.data.toList.length)=f
theorem qiv.sign{s t:ByteArray}{neg:Bool}{A B:List UInt8}{f:Bool}(h:qiv s t neg A B f):Lib.hasPrefix s.data.toList [45]=neg∧Lib.trimPrefix s.data.toList [45]=t.data.toList:=by
 have hw:=h.whole;cases neg
 ·have hp:=h.plus rfl
  refine⟨hp, ?_⟩;unfold Lib.trimPrefix;rw[hp,if_neg (by decide),hw];rfl
 ·have hp:Lib.hasPrefix s.data.toList [45]=true:=by
   rw[hw];rfl
  refine⟨hp, ?_⟩;unfold Lib.trimPrefix;rw[hp,if_pos rfl,hw];rfl
theorem qiv.cut{s t:ByteArray}{neg:Bool}{A B:List UInt8}{f:Bool}(h:qiv s t neg A B f):Lib.cut (Lib.trimPrefix s.data.toList [45]) [47]=(A,if f then B else[],f):=by
 rw[h.sign.2,zbl,←h.top,←h.bot,←h.found];by_cases hk:sl t.data.toList<t.data.toList.length
 ·rw[if_pos hk,decide_eq_true hk];rfl
 ·rw[if_neg hk,decide_eq_false hk,List.take_of_length_le (by omega)];rfl
theorem qiv.check{s t:ByteArray}{neg:Bool}{A B:List UInt8}{f:Bool}(h:qiv s t neg A B f):qaa s.data.toList =
  if !qbe A||(neg&&A==[48]) then 1
  else if f&&(!qbe B||B==[48]||B==[49]) then 1
  else if 600<A.length∨(f=true∧600<B.length) then 4
  else if qlu s.data.toList=s.data.toList then 0 else 1:=by
 unfold qaa;rw[h.cut,h.sign.1];cases f
 ·simp only[Bool.false_and,Bool.false_eq_true,if_false,List.length_nil,false_and,or_false,Nat.not_lt_zero]
 ·simp only[Bool.true_and,if_true,true_and]
theorem qiv.num{s t:ByteArray}{neg:Bool}{A B:List UInt8}{f:Bool}(h:qiv s t neg A B f)(hA:qbe A=true)(hB:f=true→qbe B=true∧B≠[48]):
  qav s.data.toList=mkRat (if neg then -(qa0 0 A:Int) else(qa0 0 A:Int)) (if f then qa0 0 B else 1):=by
 have h1:qcq s.data.toList=(neg,A,if f then B else[49]):=by
  unfold qcq;rw[h.cut,h.sign.1];cases f<;>rfl
 have h2:qkv (if f then B else[49])=true∧qa0 0 (if f then B else[49])≠0∧qa0 0 (if f then B else[49])=(if f then qa0 0 B else 1):=by
  cases f
  ·exact⟨rfl,show qa0 0 [49]≠0 by decide,rfl⟩
  ·obtain⟨h2,h3⟩:=hB rfl
   exact⟨qeg h2,qid h2 h3,rfl⟩
 unfold qav qf9;rw[h1];simp only[];rw[qeg hA,h2.1,decide_eq_true h2.2.1];simp only[Bool.and_self,if_true,Option.getD_some];rw[qx2,h2.2.2]
theorem qw0{a d:Nat}(hd:0<d)(h:d/Nat.gcd a d=d):Nat.gcd a d=1:=by
 have hg:0<Nat.gcd a d:=Nat.gcd_pos_of_pos_right _ hd;have h1:=Nat.div_mul_cancel (Nat.gcd_dvd_right a d);rw[h] at h1;have h2:d*Nat.gcd a d=d*1:=by omega
 exact Nat.eq_of_mul_eq_mul_left hd h2
theorem q4b{m n:Nat}(h:qaw m=qaw n):m=n:=by rw[←qgk m,h,qgk]
theorem q4c{l l' r r':List UInt8}(hl:∀c ∈ l,c≠47)(hl':∀c ∈ l',c≠47)(h:l++47::r=l'++47::r'):l=l'∧r=r':=by
 have h1:=congrArg sl h;rw[q31 _ _ hl,q31 _ _ hl'] at h1;obtain⟨h2,h3⟩:=List.append_inj h h1;exact⟨h2,by injection h3⟩
theorem qiv.lowest{s t:ByteArray}{neg:Bool}{A B:List UInt8}{f:Bool}(h:qiv s t neg A B f)(hA:qbe A=true)(hz:neg=true→A≠[48])(hB:f=true→qbe B=true∧B≠[48]∧B≠[49])(hlA:A.length≤600)(hlB:f=true→B.length≤600):
  qlu s.data.toList=s.data.toList↔(f=true→Nat.gcd (qa0 0 A) (qa0 0 B)=1):=by
 have hnum:=h.num hA (fun e=>⟨(hB e).1,(hB e).2.1⟩);have eA:=qff hA;obtain⟨a,ha⟩:∃a,a=qa0 0 A:=⟨_,rfl⟩;obtain⟨d,hdd⟩:∃d,d=(if f then qa0 0 B else 1):=⟨_,rfl⟩;obtain⟨z,hzz⟩:∃z:Int,z=if neg then -(a:Int) else(a:Int):=⟨_,rfl⟩
 rw[←ha,←hzz,←hdd] at hnum;rw[←ha] at eA;have hza:z.natAbs=a:=by rw[hzz];cases neg<;>simp
 have hd:0<d:=by
  rw[hdd];cases f
  ·exact Nat.zero_lt_one
  ·exact Nat.pos_of_ne_zero (qid (hB rfl).1 (hB rfl).2.1)
 have hzn:z<0↔neg=true:=by
  rw[hzz];cases neg
  ·simp
  ·have h1:=qid hA (hz rfl)
   rw[←ha] at h1;simp;omega
 have hd1:f=true→d≠1:=by
  intro e e1;have h1:=qff (hB e).1;rw[hdd,if_pos e] at e1;rw[e1] at h1;exact(hB e).2.2 (h1.symm.trans qmf)
 have hs:s.data.toList=(if z<0 then[45] else[])++qaw z.natAbs++(if d=1 then[] else 47::qaw d):=by
  rw[h.whole,hza,eA]
  have e1:(if z<0 then([45]:List UInt8) else[])=if neg then[45] else[]:=by
   by_cases e:neg=true
   ·rw[if_pos e,if_pos (hzn.2 e)]
   ·rw[if_neg e,if_neg (fun e2=>e (hzn.1 e2))]
  rw[e1,List.append_assoc]
  congr 1
  have hfd:=h.found;cases f
  ·have hk:¬sl t.data.toList<t.data.toList.length:=of_decide_eq_false hfd
   have e2:=h.top;rw[List.take_of_length_le (by omega)] at e2;rw[if_pos (by rw[hdd];rfl),List.append_nil,e2]
  ·have hk:sl t.data.toList<t.data.toList.length:=of_decide_eq_true hfd
   have e2:=qyk hk;rw[h.top,h.bot] at e2;rw[if_neg (hd1 rfl)]
   have e3:qaw d=B:=by
    rw[hdd,if_pos rfl];exact qff (hB rfl).1
   rw[e3];exact e2
 unfold qlu;rw[hnum];obtain⟨p1,p2⟩:=qkd z d hd;rw[hza] at p1 p2
 have hgcd:(f=true→Nat.gcd (qa0 0 A) (qa0 0 B)=1)↔Nat.gcd a d=1:=by
  rw[hdd,←ha];cases f
  ·simp
  ·simp
 rw[hgcd];constructor
 ·intro ht
  split at ht
  ·rename_i hfit
   have h3:(mkRat z d).den=d:=by
    rw[hs] at ht;unfold qat at ht;have g1:∀x:Int,∀c ∈ (if x<0 then([45]:List UInt8) else[])++qaw x.natAbs,c≠47:=fun x=>qnf x;by_cases e1:d=1
    ·rw[if_pos e1,List.append_nil] at ht
     by_cases e2:(mkRat z d).den=1
     ·rw[e2,e1]
     ·rw[if_neg e2] at ht
      exfalso;refine g1 z 47 ?_ rfl;rw[←ht];simp
    ·rw[if_neg e1] at ht
     by_cases e2:(mkRat z d).den=1
     ·rw[if_pos e2,List.append_nil] at ht
      exfalso;refine g1 (mkRat z d).num 47 ?_ rfl;rw[ht];simp
     ·rw[if_neg e2] at ht
      exact q4b (q4c (g1 _) (g1 _) ht).2
   rw[p2] at h3;exact qw0 hd h3
  ·exfalso
   rw[hs] at ht;have h4:=congrArg List.length ht;have h5:=List.length_pos_iff.2 (qjz z.natAbs);simp at h4;omega
 ·intro hg
  rw[hg,Nat.div_one] at p1 p2
  have e1:(mkRat z d).num=z:=by
   rw[p1,←hza];rcases Int.lt_or_le z 0 with e|e
   ·rw[decide_eq_true e,if_pos rfl];omega
   ·rw[decide_eq_false (by omega),if_neg (by decide)];omega
  have hfit:qa4 (mkRat z d) 600=true:=by
   unfold qa4;rw[e1,p2,hza,eA,Bool.and_eq_true,Bool.or_eq_true];refine⟨decide_eq_true hlA, ?_⟩;cases f
   ·exact .inl (decide_eq_true hdd)
   ·refine .inr (decide_eq_true ?_)
    rw[hdd,if_pos rfl,qff (hB rfl).1];exact hlB rfl
  rw[if_pos hfit,hs];unfold qat;rw[e1,p2]
end Go.Proofs.YthjagoogkkgelaaGreatDoor
