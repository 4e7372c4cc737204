/- takeTimes and giveBack: a window of a row of words, from which a multiple of the divisor is subtracted, and to which the divisor is added. -/
import Derived.Test.YthjagoogkkgelaaGreatDoorMDivWord
import Derived.Test.YthjagoogkkgelaaGreatDoorMMul
set_option linter.all false
namespace Go.Proofs.YthjagoogkkgelaaGreatDoor
open Go.RowKit
set_option maxRecDepth 100000
set_option maxHeartbeats 1000000
def seg(R:List Nat)(o n:Nat):Nat:=low B64 (R.drop o) n
theorem qr0(R:List Nat)(o:Nat):seg R o 0=0:=by simp[seg]
theorem qew(R:List Nat)(o n:Nat):seg R o (n+1)=seg R o n+B64^n*R.getD (o+n) 0:=by
 unfold seg;rw[qap];simp
theorem qy6(R:List Nat)(o n i x:Nat)(h:o+n≤i):seg (R.set i x) o n=seg R o n:=by
 induction n with
 | zero=>simp[seg]
 | succ n ih=>rw[qew,qew,ih (by omega),qar _ _ _ _ (by omega)]
theorem qg5(R:List Nat)(o n x:Nat)(h:o+n<R.length):seg (R.set (o+n) x) o (n+1)=seg R o n+B64^n*x:=by
 rw[qew,qy6 _ _ _ _ _ (Nat.le_refl _),qcc _ _ _ h]
theorem q1l(R:List Nat)(o n:Nat)(h:∀d ∈ R,d<B64):seg R o n<B64^n:=qnk _ _ _ (by rw[qab];omega) (fun d hd=>h d (List.mem_of_mem_drop hd))
theorem q1m{B x d f lo hi z s c:Nat}(hx:x<B)(hd:d<B)(hf:f<B)(hz:z<B)(hs:s<B)(h1:lo+B*hi=d*f+z)(h2:s+lo+0=x+B*c):
  hi+c<B∧s+d*f+z=x+B*(hi+c):=by
 have e:s+d*f+z=x+B*(hi+c):=by rw[Nat.mul_add];omega
 refine⟨?_,e⟩;rcases Nat.lt_or_ge (hi+c) B with h|h
 ·exact h
 ·have h3:B*B≤B*(hi+c):=Nat.mul_le_mul_left B h
  have h4:d*f≤(B-1)*(B-1):=Nat.mul_le_mul (by omega) (by omega);obtain⟨b,rfl⟩:∃b,B=b+1:=⟨B-1,by omega⟩;simp only[Nat.add_sub_cancel] at h4;have e2:(b+1)*(b+1)=b*b+2*b+1:=by grind
  omega
theorem q1n{B p S S0 L m m' x d f s:Nat}(h:S+f*L=S0+p*m)(hs:s+d*f+m=x+B*m'):S+p*s+f*(L+p*d)=S0+p*x+p*B*m':=by
 have:=congrArg (p * ·) hs;simp only[Nat.mul_add] at this;rw[Nat.mul_add,Nat.mul_assoc p B,show f*(p*d)=p*(d*f) from by grind];omega
theorem qtb{B p S S0 L c c' x d s:Nat}(h:S+p*c=S0+L)(hs:s+B*c'=x+d+c):S+p*s+p*B*c'=S0+p*x+(L+p*d):=by
 have:=congrArg (p * ·) hs;simp only[Nat.mul_add] at this;rw[Nat.mul_assoc p B];omega
theorem qr1(g o cw f base:Nat)(pd:Option Addr)(cd:Nat)(R D:List Nat)(w:World)(hR:∀d ∈ R,d<B64)(ho:Own w g R.length (wd R))(hD:∀w',Below base w w'→Wds w' (.slice pd D.length cd) D)(hwin:o+D.length<R.length)
  (hlen:R.length≤Cap+Cap) (hg:base≤g) (hf:f<B64):
  Calls Tryz.prog 125 #[.slice (some ⟨g,o,none⟩) (D.length+1) cw,.slice pd D.length cd,.int .u64 f] w fun e w'=>
   (∃(R':List Nat) (m:Nat),e = .returned (.int .u64 m)∧m≤1∧R'.length=R.length∧(∀d ∈ R',d<B64)∧Own w' g R'.length (wd R')∧(∀i,i<o∨o+D.length<i→R'.getD i 0=R.getD i 0)
    ∧ seg R' o (D.length+1)+f*val B64 D=seg R o (D.length+1)+B64^(D.length+1)*m)∧qfh g w w':=by
 have hl62:R.length<4611686018427387904:=by unfold Cap at hlen;omega
 have hDl:=(hD w (Below.refl _ _)).1;have HR:=hid hR;have HO:=hid ho;have HD:=hid hD;have HDL:=hid hDl;have HG:=hid hg;have HF:=hid hf;have HWIN:=hid hwin;have hdl62:D.length<4611686018427387904:=by omega
 clear hR ho hD hDl hg hlen hf hwin hl62;go_enter Tryz.func125,Tryz.ntmps125;go_wp2_with fail
 go_loopw [7,17] (fun c i wr=>∃k more:Nat,∃S:List Nat,k≤D.length∧i = .int .i64 k∧c = .int .u64 more∧Hid (more<B64)∧Hid (S.length=R.length)∧Hid (∀d ∈ S,d<B64)∧Hid (Own wr g S.length (wd S))∧Hid (∀j,j<o∨o+k≤j→S.getD j 0=R.getD j 0)∧Hid (seg S o k+f*low B64 D k=seg R o k+B64^k*more)∧Hid (qfh g w wr)) (fun _ i _=>D.length-(intOf i).toNat)
 case atStart=>exact⟨0,0,R,Nat.zero_le _,rfl,rfl,hid (by rw[qab];omega),hid rfl,HR,HO,hid (fun _ _=>rfl),hid (by simp[qr0]),hid (qfh.refl _ _)⟩
 case round=>
  obtain⟨k,more,S,hk,rfl,rfl,HM,HSL,HSB,HO',HSAME,HREL,HB⟩:=hrel;by_cases hkd:k<D.length
  ·obtain⟨_,p',c',he,_,_,hcells⟩:=HD.out wr (HB.out.below HG.out)
   cases he
   rcases hcells with h0|⟨bd,od,rfl,hrow⟩
   ·omega
   have hd:=hrow k hkd;have hok:o+k<S.length:=by rw[HSL.out];have:=HWIN.out;omega
   obtain⟨hg,hfz⟩:=HO'.out.2 (o+k) hok;have hsame:=HSAME.out (o+k) (.inr (Nat.le_refl _));unfold wd at hd hg;rw[hsame] at hg;have hdl:=qao (b:=B64) (by rw[qab];omega) HDL.out k;have hxl:=qao (b:=B64) (by rw[qab];omega) HR.out (o+k);have hmw:=qrv (D.getD k 0) f more;have hmlo:=qkp (D.getD k 0) f more;have hss:=qew R o k;have hsl:=qap B64 D k;have HCALL:Hid (∀w,Calls Tryz.prog 113 #[.int .u64 (D.getD k 0:Nat),.int .u64 f,.int .u64 more] w fun e w'=>e = .returned (.tuple #[.int .u64 (qiz (D.getD k 0) f more:Nat),.int .u64 (qi0 (D.getD k 0) f more:Nat)])∧w'=w):=fun w=>qb2 _ _ _ hdl HF.out HM.out w;have hset:=fun x=>qg5 S o k x hok;have HOS:Hid (∀v:Nat,Own (wr.setCell ⟨g,o+k,none⟩ (.int .u64 v)) g (S.set (o+k) v).length (wd (S.set (o+k) v))):=hid fun v=>HO'.out.setWord (o+k) hok v
   have HSAME2:Hid (∀v j,j<o∨o+(k+1)≤j→(S.set (o+k) v).getD j 0=R.getD j 0):=hid fun v j hj=>by
    rw[qar _ _ _ _ (by omega)];exact HSAME.out j (by omega)
   generalize D.getD k 0=d at *;generalize R.getD (o+k) 0=x at *;generalize qiz d f more=lo at *;generalize qi0 d f more=hi at *;have hrun:∀w,(callFunc 174 #[.int .u64 x,.int .u64 lo,.int .u64 0]).run Tryz.prog w = .ok (.value (.tuple #[.int .u64 (qh7 x lo 0:Nat),.int .u64 (qmp x lo 0:Nat)])) w:=fun w=>qi7 x lo 0 (by omega) w;have hse:=qs7 (c:=0) hxl hmlo (by omega);have hslt:=qlg x lo 0;generalize qh7 x lo 0=s at *;generalize qmp x lo 0=c2 at *;obtain⟨hmore,hsum⟩:=q1m hxl hdl HF.out HM.out hslt hmw hse
   have HREL2:Hid (seg (S.set (o+k) s) o (k+1)+f*low B64 D (k+1)=seg R o (k+1)+B64^(k+1)*(hi+c2)):=by
    refine hid ?_;rw[hset s,hss,hsl,Nat.pow_succ];exact q1n HREL.out hsum
   have HW:Hid (IntKind.u64.wrap ((hi:Int)+(c2:Int))=((hi+c2:Nat):Int)):=hid (by rw[qxq];exact qba _ hmore);have HSET:Hid (∀d ∈ S.set (o+k) s,d<B64):=hid (qcs HSB.out _ _ hslt);have HLEN2:Hid ((S.set (o+k) s).length=R.length):=hid (by rw[List.length_set];exact HSL.out);have HMORE:=hid hmore;have HB2:Hid (qfh g w (wr.setCell ⟨g,o+k,none⟩ (.int .u64 (s:Nat)))):=hid (HB.out.set _ _);clear hset hss hsl hsame hse hslt hmore hsum hmw hmlo hxl hdl hok hrow HREL HSAME HSL HSB HO' HB;go_wp2_with fail;refine(HCALL.out _).mono ?_;rintro e w' ⟨rfl,hw'⟩;rw[hw'];clear hw' HCALL;go_wp2_with fail;go_roundw
   case rel=>exact⟨k+1,hi+c2,_,by omega,by go_num,by rw[HW.out],HMORE,HLEN2,HSET,hid (HOS.out s),hid (HSAME2.out s),HREL2,HB2⟩
   case measure=>simp[intOf];omega
  ·have e:k=D.length:=by omega
   subst e;have hok:o+D.length<S.length:=by rw[HSL.out];exact HWIN.out
   obtain⟨hg,hfz⟩:=HO'.out.2 (o+D.length) hok;have hsame:=HSAME.out (o+D.length) (.inr (Nat.le_refl _));unfold wd at hg;rw[hsame] at hg;have hxl:=qao (b:=B64) (by rw[qab];omega) HR.out (o+D.length);have hss:=qew R o D.length;have hset:=fun x=>qg5 S o D.length x hok;have HOS:Hid (∀v:Nat,Own (wr.setCell ⟨g,o+D.length,none⟩ (.int .u64 v)) g (S.set (o+D.length) v).length (wd (S.set (o+D.length) v))):=hid fun v=>HO'.out.setWord (o+D.length) hok v
   have HSAME2:Hid (∀v j,j<o∨o+D.length<j→(S.set (o+D.length) v).getD j 0=R.getD j 0):=hid fun v j hj=>by
    rw[qar _ _ _ _ (by omega)];exact HSAME.out j (by omega)
   generalize R.getD (o+D.length) 0=x at *;have hrun:∀w,(callFunc 174 #[.int .u64 x,.int .u64 more,.int .u64 0]).run Tryz.prog w = .ok (.value (.tuple #[.int .u64 (qh7 x more 0:Nat),.int .u64 (qmp x more 0:Nat)])) w:=fun w=>qi7 x more 0 (by omega) w;have hse:=qs7 (c:=0) hxl HM.out (by omega);have hslt:=qlg x more 0;have HC2:=hid (qob x more 0);generalize qh7 x more 0=s at *;generalize qmp x more 0=c2 at *
   have HREL2:Hid (seg (S.set (o+D.length) s) o (D.length+1)+f*val B64 D=seg R o (D.length+1)+B64^(D.length+1)*c2):=by
    refine hid ?_;have h1:=HREL.out;rw[qa5 B64 D _ (Nat.le_refl _)] at h1;rw[hset s,hss,Nat.pow_succ,Nat.mul_assoc];have h2:=congrArg (B64^D.length * ·) hse;simp only[Nat.mul_add,Nat.add_zero] at h2;omega
   have HSET:Hid (∀d ∈ S.set (o+D.length) s,d<B64):=hid (qcs HSB.out _ _ hslt);have HLEN2:Hid ((S.set (o+D.length) s).length=R.length):=hid (by rw[List.length_set];exact HSL.out);have HB2:Hid (qfh g w (wr.setCell ⟨g,o+D.length,none⟩ (.int .u64 (s:Nat)))):=hid (HB.out.set _ _);clear hset hss hsame hse hslt hxl hok HREL HSAME HSL HSB HO' HB;go_wp2_with fail;go_ret;exact⟨⟨_,c2,rfl,HC2.out,HLEN2.out,HSET.out,HOS.out s,HSAME2.out s,HREL2.out⟩,HB2.out⟩
theorem qtc(g o cw base:Nat)(pd:Option Addr)(cd:Nat)(R D:List Nat)(w:World)(hR:∀d ∈ R,d<B64)(ho:Own w g R.length (wd R))(hD:∀w',Below base w w'→Wds w' (.slice pd D.length cd) D)(hwin:o+D.length<R.length)
  (hlen:R.length≤Cap+Cap) (hg:base≤g):
  Calls Tryz.prog 126 #[.slice (some ⟨g,o,none⟩) (D.length+1) cw,.slice pd D.length cd] w fun e w'=>
   (∃(R':List Nat) (m:Nat),e = .returned (.int .u64 m)∧m≤1∧R'.length=R.length∧(∀d ∈ R',d<B64)∧Own w' g R'.length (wd R')∧(∀i,i<o∨o+D.length<i→R'.getD i 0=R.getD i 0)
    ∧ seg R' o (D.length+1)+B64^(D.length+1)*m=seg R o (D.length+1)+val B64 D)∧qfh g w w':=by
 have hl62:R.length<4611686018427387904:=by unfold Cap at hlen;omega
 have hDl:=(hD w (Below.refl _ _)).1;have HR:=hid hR;have HO:=hid ho;have HD:=hid hD;have HDL:=hid hDl;have HG:=hid hg;have HWIN:=hid hwin;have hdl62:D.length<4611686018427387904:=by omega
 clear hR ho hD hDl hg hlen hwin hl62;go_enter Tryz.func126,Tryz.ntmps126;go_wp2_with fail
 go_loopw [5,10] (fun c i wr=>∃k cc:Nat,∃S:List Nat,k≤D.length∧i = .int .i64 k∧c = .int .u64 cc∧cc≤1∧Hid (S.length=R.length)∧Hid (∀d ∈ S,d<B64)∧Hid (Own wr g S.length (wd S))∧Hid (∀j,j<o∨o+k≤j→S.getD j 0=R.getD j 0)∧Hid (seg S o k+B64^k*cc=seg R o k+low B64 D k)∧Hid (qfh g w wr)) (fun _ i _=>D.length-(intOf i).toNat)
 case atStart=>exact⟨0,0,R,Nat.zero_le _,rfl,rfl,by omega,hid rfl,HR,HO,hid (fun _ _=>rfl),hid (by simp[qr0]),hid (qfh.refl _ _)⟩
 case round=>
  obtain⟨k,cc,S,hk,rfl,rfl,hcc,HSL,HSB,HO',HSAME,HREL,HB⟩:=hrel;by_cases hkd:k<D.length
  ·obtain⟨_,p',c',he,_,_,hcells⟩:=HD.out wr (HB.out.below HG.out)
   cases he
   rcases hcells with h0|⟨bd,od,rfl,hrow⟩
   ·omega
   have hd:=hrow k hkd;have hok:o+k<S.length:=by rw[HSL.out];have:=HWIN.out;omega
   obtain⟨hg,hfz⟩:=HO'.out.2 (o+k) hok;have hsame:=HSAME.out (o+k) (.inr (Nat.le_refl _));unfold wd at hd hg;rw[hsame] at hg;have hdl:=qao (b:=B64) (by rw[qab];omega) HDL.out k;have hxl:=qao (b:=B64) (by rw[qab];omega) HR.out (o+k);have hss:=qew R o k;have hsl:=qap B64 D k;have hset:=fun x=>qg5 S o k x hok;have HOS:Hid (∀v:Nat,Own (wr.setCell ⟨g,o+k,none⟩ (.int .u64 v)) g (S.set (o+k) v).length (wd (S.set (o+k) v))):=hid fun v=>HO'.out.setWord (o+k) hok v
   have HSAME2:Hid (∀v j,j<o∨o+(k+1)≤j→(S.set (o+k) v).getD j 0=R.getD j 0):=hid fun v j hj=>by
    rw[qar _ _ _ _ (by omega)];exact HSAME.out j (by omega)
   generalize D.getD k 0=d at *;generalize R.getD (o+k) 0=x at *;have hrun:=fun w=>qi6 x d cc hcc w;have hse:=qxp x d cc;have hslt:=qoa x d cc;have hh:=qru hxl hdl hcc;generalize qhf x d cc=s at *;generalize qi5 x d cc=c2 at *
   have HREL2:Hid (seg (S.set (o+k) s) o (k+1)+B64^(k+1)*c2=seg R o (k+1)+low B64 D (k+1)):=by
    refine hid ?_;rw[hset s,hss,hsl,Nat.pow_succ];exact qtb HREL.out hse
   have HSET:Hid (∀d ∈ S.set (o+k) s,d<B64):=hid (qcs HSB.out _ _ hslt);have HLEN2:Hid ((S.set (o+k) s).length=R.length):=hid (by rw[List.length_set];exact HSL.out);have HB2:Hid (qfh g w (wr.setCell ⟨g,o+k,none⟩ (.int .u64 (s:Nat)))):=hid (HB.out.set _ _);clear hset hss hsl hsame hse hslt hxl hdl hok hrow HREL HSAME HSL HSB HO' HB;go_wp2_with fail;go_roundw
   case rel=>exact⟨k+1,c2,_,by omega,by go_num,rfl,hh,HLEN2,HSET,hid (HOS.out s),hid (HSAME2.out s),HREL2,HB2⟩
   case measure=>simp[intOf];omega
  ·have e:k=D.length:=by omega
   subst e;have hok:o+D.length<S.length:=by rw[HSL.out];exact HWIN.out
   obtain⟨hg,hfz⟩:=HO'.out.2 (o+D.length) hok;have hsame:=HSAME.out (o+D.length) (.inr (Nat.le_refl _));unfold wd at hg;rw[hsame] at hg;have hxl:=qao (b:=B64) (by rw[qab];omega) HR.out (o+D.length);have hss:=qew R o D.length;have hset:=fun x=>qg5 S o D.length x hok;have HOS:Hid (∀v:Nat,Own (wr.setCell ⟨g,o+D.length,none⟩ (.int .u64 v)) g (S.set (o+D.length) v).length (wd (S.set (o+D.length) v))):=hid fun v=>HO'.out.setWord (o+D.length) hok v
   have HSAME2:Hid (∀v j,j<o∨o+D.length<j→(S.set (o+D.length) v).getD j 0=R.getD j 0):=hid fun v j hj=>by
    rw[qar _ _ _ _ (by omega)];exact HSAME.out j (by omega)
   generalize R.getD (o+D.length) 0=x at *;have hrun:∀w,(callFunc 114 #[.int .u64 x,.int .u64 0,.int .u64 cc]).run Tryz.prog w = .ok (.value (.tuple #[.int .u64 (qhf x 0 cc:Nat),.int .u64 (qi5 x 0 cc:Nat)])) w:=fun w=>qi6 x 0 cc hcc w;have hse:=qxp x 0 cc;have hslt:=qoa x 0 cc;have HC2:=hid (qru (y:=0) hxl (by rw[qab];omega) hcc);generalize qhf x 0 cc=s at *;generalize qi5 x 0 cc=c2 at *
   have HREL2:Hid (seg (S.set (o+D.length) s) o (D.length+1)+B64^(D.length+1)*c2=seg R o (D.length+1)+val B64 D):=by
    refine hid ?_;have h1:=HREL.out;rw[qa5 B64 D _ (Nat.le_refl _)] at h1;rw[hset s,hss,Nat.pow_succ];have:=qtb (d:=0) h1 hse;rw[Nat.mul_zero,Nat.add_zero] at this;exact this
   have HSET:Hid (∀d ∈ S.set (o+D.length) s,d<B64):=hid (qcs HSB.out _ _ hslt);have HLEN2:Hid ((S.set (o+D.length) s).length=R.length):=hid (by rw[List.length_set];exact HSL.out);have HB2:Hid (qfh g w (wr.setCell ⟨g,o+D.length,none⟩ (.int .u64 (s:Nat)))):=hid (HB.out.set _ _);clear hset hss hsame hse hslt hxl hok HREL HSAME HSL HSB HO' HB;go_wp2_with fail;go_ret;exact⟨⟨_,c2,rfl,HC2.out,HLEN2.out,HSET.out,HOS.out s,HSAME2.out s,HREL2.out⟩,HB2.out⟩
theorem qdh{s:Nat}(hs:s≤64):B64=2^(64-s)*2^s:=by
 rw[←Nat.pow_add,show 64-s+s=64 from by omega];rfl
theorem q1o(x s:Nat)(hs:s≤64):x*2^s % B64=2^s*(x % 2^(64-s)):=by
 rw[qdh hs,Nat.mul_mod_mul_right,Nat.mul_comm]
theorem q1p(x s lo:Nat)(hs:s<64)(hlo:lo<2^s):
  bits .or .u64 (IntKind.u64.wrap ((x:Int)*2^s)) (lo:Int)=((x*2^s % B64+lo:Nat):Int)∧x*2^s % B64+lo<B64:=by
 have h1:x % 2^(64-s)<2^(64-s):=Nat.mod_lt _ (Nat.two_pow_pos _)
 have h2:2^s*(x % 2^(64-s))+lo<B64:=by
  have:2^s*(x % 2^(64-s)+1)≤2^s*2^(64-s):=Nat.mul_le_mul_left _ h1;rw[Nat.mul_add,Nat.mul_comm (2^s) (2^(64-s)),←qdh (by omega)] at this;omega
 have hB:=qab;rw[qrz,q1o x s (by omega)];refine⟨?_,h2⟩;rw[bits_or_u64_nat _ _ (by omega) (by omega),Nat.two_pow_add_eq_or_of_lt hlo]
theorem zaq(x s H:Nat)(hs:s<64)(hx:x<B64)(hH:H<2^s):
  bits .or .u64 ((x:Int)/2^s) ((2^(64-s)*H:Nat):Int)=((x/2^s+2^(64-s)*H:Nat):Int)∧x/2^s+2^(64-s)*H<B64:=by
 have h1:x/2^s<2^(64-s):=by
  rw[Nat.div_lt_iff_lt_mul (Nat.two_pow_pos _),←qdh (by omega)];exact hx
 have h2:x/2^s+2^(64-s)*H<B64:=by
  have:2^(64-s)*(H+1)≤2^(64-s)*2^s:=Nat.mul_le_mul_left _ hH;rw[Nat.mul_add,←qdh (by omega)] at this;omega
 refine⟨?_,h2⟩;rw[show(x:Int)/2^s=((x/2^s:Nat):Int) from by simp];rw[bits_or_u64_nat _ _ (Nat.lt_of_le_of_lt (Nat.le_add_right _ _) h2) (Nat.lt_of_le_of_lt (Nat.le_add_left _ _) h2),Nat.or_comm,←Nat.two_pow_add_eq_or_of_lt h1,Nat.add_comm]
theorem q5m{B p S L lo hi x y t:Nat}(h:S+p*lo=L*t)(hy:y+B*hi=x*t+lo):S+p*y+p*B*hi=(L+p*x)*t:=by
 have:=congrArg (p * ·) hy;simp only[Nat.mul_add] at this;rw[Nat.mul_assoc p B,Nat.add_mul,Nat.mul_assoc p x];omega
theorem qlm(v:Value)(l:List Nat)(s:Nat)(w:World)(h:Wds w v l)(hs:s<64)(hcap:l.length≤Cap):
  Calls Tryz.prog 123 #[v,.int .i64 (s:Nat)] w fun e w'=>
   (∃R:List Nat,e = .returned (.slice (some ⟨w.heap.size,0,none⟩) (l.length+1) (l.length+1))∧R.length=l.length+1∧(∀d ∈ R,d<B64)∧Own w' w.heap.size R.length (wd R)∧val B64 R=val B64 l*2^s)∧Below w.heap.size w w':=by
 obtain⟨hl,p,c,rfl,hc1,hc2,hcells⟩:=h;have hmk:=fun w=>qgj (l.length+1) ((l.length:Int)+1) (by omega) (by have:=qkq;omega) w;have hl62:l.length<4611686018427387904:=by unfold Cap at hcap;omega
 have HL:=hid hl;have HCELLS:Hid (l.length=0∨∃b o,p=some ⟨b,o,none⟩∧qmo w b o l.length (wd l)):=hcells;clear hl hc1 hc2 hcap hcells;go_enter Tryz.func123,Tryz.ntmps123;go_wp2_with fail;have hown:=qhn w (l.length+1);have hbel:Below w.heap.size w (w.alloc (qa6 (l.length+1))):=(Below.refl _ _).alloc (Nat.le_refl _) _;have HLEN:Hid ((List.replicate (l.length+1) 0).length=l.length+1):=hid (by simp);have HLT0:=hid (qb5 (b:=B64) (by rw[qab];omega) (l.length+1));have HOWN:Hid (Own (w.alloc (qa6 (l.length+1))) w.heap.size (List.replicate (l.length+1) 0).length (wd (List.replicate (l.length+1) 0))):=by refine hid ?_;rw[HLEN.out];exact hown
 have HBEL:=hid hbel;clear hown hbel;generalize List.replicate (l.length+1) 0=s0 at *;generalize w.alloc (qa6 (l.length+1))=w1 at *
 go_loopw [6,15] (fun c i wr=>∃k lo:Nat,∃S:List Nat,k≤l.length∧i = .int .i64 k∧c = .int .u64 lo∧Hid (lo<2^s)∧Hid (S.length=l.length+1)∧Hid (∀d ∈ S,d<B64)∧Hid (Own wr w.heap.size S.length (wd S))∧Hid (low B64 S k+B64^k*lo=low B64 l k*2^s)∧Hid (Below w.heap.size w wr)) (fun _ i _=>l.length-(intOf i).toNat)
 case atStart=>exact⟨0,0,s0,Nat.zero_le _,rfl,rfl,hid (Nat.two_pow_pos _),HLEN,HLT0,HOWN,hid (by simp),HBEL⟩
 case round=>
  obtain⟨k,lo,S,hk,rfl,rfl,HLO,HSL,HSB,HO',HREL,HB⟩:=hrel;clear HLEN HLT0 HOWN HBEL;by_cases hkl:k<l.length
  ·rcases HCELLS.out with h0|⟨bd,od,rfl,hrow⟩
   ·omega
   have hx:=(hrow.later HB.out) k hkl;have hok:k<S.length:=by rw[HSL.out];omega
   obtain⟨hg,hfz⟩:=HO'.out.2 k hok;unfold wd at hx hg;have hxl:=qao (b:=B64) (by rw[qab];omega) HL.out k;have hsl:=qap B64 l k;have hset:=fun x=>qbq B64 S k x hok;have HOS:Hid (∀v:Nat,Own (wr.setCell ⟨w.heap.size,k,none⟩ (.int .u64 v)) w.heap.size (S.set k v).length (wd (S.set k v))):=hid fun v=>HO'.out.setWord k hok v;generalize l.getD k 0=x at *;generalize S.getD k 0=old at *;obtain⟨hor,hyl⟩:=q1p x s lo hs HLO.out;have hsp:=qov (s:=s) (lo:=x) (by omega)
   have hhi:x/2^(64-s)<2^s:=by
    rw[Nat.div_lt_iff_lt_mul (Nat.two_pow_pos _),Nat.mul_comm,←qdh (by omega)];exact hxl
   have hsh:(x:Int)/2^(64-s)=((x/2^(64-s):Nat):Int):=by simp
   have hy:x*2^s % B64+lo+B64*(x/2^(64-s))=x*2^s+lo:=by
    have hB:B64=2^64:=rfl;rw[hB,Nat.mul_comm (2^64)];omega
   generalize x*2^s % B64+lo=y at *;generalize x/2^(64-s)=hi at *
   have HREL2:Hid (low B64 (S.set k y) (k+1)+B64^(k+1)*hi=low B64 l (k+1)*2^s):=by
    refine hid ?_;rw[hset y,hsl,Nat.pow_succ];exact q5m HREL.out hy
   have HSET:Hid (∀d ∈ S.set k y,d<B64):=hid (qcs HSB.out _ _ hyl);have HLEN2:Hid ((S.set k y).length=l.length+1):=hid (by rw[List.length_set];exact HSL.out);have HHI:=hid hhi;have HB2:Hid (Below w.heap.size w (wr.setCell ⟨w.heap.size,k,none⟩ (.int .u64 (y:Nat)))):=hid (HB.out.setCell (Nat.le_refl _) _);clear hset hsl hsp hhi hy hyl hxl hok hrow HREL HSL HSB HO' HB;go_wp2_with fail;go_roundw
   case rel=>exact⟨k+1,hi,_,by omega,by go_num,rfl,HHI,HLEN2,HSET,hid (HOS.out y),HREL2,HB2⟩
   case measure=>simp[intOf];omega
  ·have e:k=l.length:=by omega
   subst e;have hok:l.length<S.length:=by rw[HSL.out];omega
   obtain⟨hg,hfz⟩:=HO'.out.2 l.length hok
   have hlo:lo<B64:=by
    have h1:=HLO.out;have h2:(2:Nat)^s≤2^64:=Nat.pow_le_pow_right (by omega) (by omega);have hB:B64=2^64:=rfl;omega
   have HOS:Hid (Own (wr.setCell ⟨w.heap.size,l.length,none⟩ (.int .u64 lo)) w.heap.size (S.set l.length lo).length (wd (S.set l.length lo))):=hid (HO'.out.setWord l.length hok lo);have HLEN2:Hid ((S.set l.length lo).length=l.length+1):=hid (by rw[List.length_set];exact HSL.out)
   have HV:Hid (val B64 (S.set l.length lo)=val B64 l*2^s):=by
    refine hid ?_;rw[←qa5 B64 (S.set l.length lo) (l.length+1) (by rw[HLEN2.out];exact Nat.le_refl _),qbq B64 S l.length lo hok,HREL.out,qa5 B64 l _ (Nat.le_refl _)]
   have HSET:Hid (∀d ∈ S.set l.length lo,d<B64):=hid (qcs HSB.out _ _ hlo);have HB2:Hid (Below w.heap.size w (wr.setCell ⟨w.heap.size,l.length,none⟩ (.int .u64 (lo:Nat)))):=hid (HB.out.setCell (Nat.le_refl _) _);generalize wd S l.length=old at *;clear hlo hok HREL HSL HSB HO' HB;go_wp2_with fail;go_ret;exact⟨⟨_,rfl,HLEN2.out,HSET.out,HOS.out,HV.out⟩,HB2.out⟩
theorem q5n{B t u H Hq Hr x:Nat}(ht:0<t)(hB:B=u*t)(h1:H/t=Hq)(h2:H % t=Hr):(x+B*H)/t=x/t+u*Hr+B*Hq∧(x+B*H) % t=x % t:=by
 have e:x+B*H=x+t*(u*Hr+B*Hq):=by
  have:=Nat.div_add_mod H t;rw[h1,h2] at this;rw[←this,hB]
  grind
 rw[e,Nat.add_mul_div_left _ _ ht,Nat.add_mul_mod_self_left];omega
theorem qo2(v:Value)(l:List Nat)(s:Nat)(w:World)(h:Wds w v l)(hs:s<64)(hcap:l.length≤Cap):
  Calls Tryz.prog 127 #[v,.int .i64 (s:Nat)] w fun e w'=>(∃g cap,e = .returned (.slice (some ⟨g,0,none⟩) (wl (val B64 l/2^s)) cap)∧qdg w' w.heap.size g cap (qaf B64 (val B64 l/2^s)))∧Below w.heap.size w w':=by
 obtain⟨hl,p,c,rfl,hc1,hc2,hcells⟩:=h;have hmk:=fun w=>qgj l.length (l.length:Int) rfl (by have:=qkq;omega) w;have hl62:l.length<4611686018427387904:=by unfold Cap at hcap;omega
 have HL:=hid hl;have HCELLS:Hid (l.length=0∨∃b o,p=some ⟨b,o,none⟩∧qmo w b o l.length (wd l)):=hcells;clear hl hc1 hc2 hcap hcells;go_enter Tryz.func127,Tryz.ntmps127;go_wp2_with fail;have hown:=qhn w l.length;have hbel:Below w.heap.size w (w.alloc (qa6 l.length)):=(Below.refl _ _).alloc (Nat.le_refl _) _;have HLEN:Hid ((List.replicate l.length 0).length=l.length):=hid (by simp);have HLT0:=hid (qb5 (b:=B64) (by rw[qab];omega) l.length);have HOWN:Hid (Own (w.alloc (qa6 l.length)) w.heap.size (List.replicate l.length 0).length (wd (List.replicate l.length 0))):=by refine hid ?_;rw[HLEN.out];exact hown
 have HBEL:=hid hbel;have HM0:=hid (qy4 w l.length (by unfold maxLen;omega));have HK0:=hid (qn5.refl (w.alloc (qa6 l.length)));clear hown hbel;generalize List.replicate l.length 0=s0 at *;generalize w.alloc (qa6 l.length)=w1 at *
 go_loopw [6,7] (fun c i wr=>∃k H:Nat,∃S:List Nat,k≤l.length∧i = .int .i64 ((k:Int)-1)∧c = .int .u64 (2^(64-s)*H:Nat)∧Hid (H=qa7 B64 l k % 2^s)∧Hid (S.length=l.length)∧Hid (∀d ∈ S,d<B64)∧Hid (Own wr w.heap.size S.length (wd S))∧Hid (qa7 B64 l k/2^s=qa7 B64 S k)∧Hid (Below w.heap.size w wr)∧Hid (qn5 w1 wr)) (fun _ i _=>(intOf i+1).toNat)
 case atStart=>exact⟨l.length,0,s0,Nat.le_refl _,rfl,by simp,hid (by rw[qdc _ _ _ (Nat.le_refl _),Nat.zero_mod]),HLEN,HLT0,HOWN,hid (by rw[qdc _ _ _ (Nat.le_refl _),qdc _ _ _ (by rw[HLEN.out];exact Nat.le_refl _),Nat.zero_div]),HBEL,HK0⟩
 case round=>
  obtain⟨k,H,S,hk,rfl,rfl,HH,HSL,HSB,HO',HREL,HB,HK⟩:=hrel;have HLS:=hid HLEN.out;clear HLEN HLT0 HOWN HBEL HK0;rcases k with _|j
  ·have hv:val B64 S=val B64 l/2^s:=by have:=HREL.out;rw[high_zero,high_zero] at this;exact this.symm
   have HT:=hid (qhp w.heap.size w.heap.size l.length l.length (val B64 l/2^s) S wr (HM0.out.after HK.out (by rw[HSL.out,HLS.out]) HSB.out HO'.out) HSL.out hv);clear hv;generalize 2^(64-s)*H=inc at *;go_wp2_with fail;refine HT.out.mono ?_;rintro e w' ⟨⟨rfl,hn⟩,hw'⟩;subst hw';go_wp2_with fail;go_ret;exact⟨⟨_,_,rfl,hn⟩,HB.out⟩
  ·have e1:((j+1:Nat):Int)-1=(j:Int):=by omega
   simp only[e1];rcases HCELLS.out with h0|⟨bd,od,rfl,hrow⟩
   ·omega
   have hx:=(hrow.later HB.out) j (by omega);have hbd:bd<w.heap.size:=World.block_lt_of_cell? w _ (hrow j (by omega));have hok:j<S.length:=by rw[HSL.out];omega
   obtain⟨hg,hfz⟩:=HO'.out.2 j hok;unfold wd at hx hg;have hxl:=qao (b:=B64) (by rw[qab];omega) HL.out j;have hhl:=qbj B64 l j;have hHlt:H<2^s:=by rw[HH.out];exact Nat.mod_lt _ (Nat.two_pow_pos _)
   have hhs:∀q,qa7 B64 (S.set j q) j=q+B64*qa7 B64 S (j+1):=fun q=>by
    rw[qbj,qcc _ _ _ hok];unfold qa7;rw[List.drop_set_of_lt (by omega)]
   have HOS:Hid (∀v:Nat,Own (wr.setCell ⟨w.heap.size,j,none⟩ (.int .u64 v)) w.heap.size (S.set j v).length (wd (S.set j v))):=hid fun v=>HO'.out.setWord j hok v;generalize l.getD j 0=x at *;generalize S.getD j 0=old at *;obtain⟨hor,hyl⟩:=zaq x s H hs hxl hHlt
   have hinc:IntKind.u64.wrap ((x:Int)*2^(64-s))=((2^(64-s)*(x % 2^s):Nat):Int):=by
    rw[qrz,q1o x (64-s) (by omega),show 64-(64-s)=s from by omega]
   obtain⟨hst1,hst2⟩:=q5n (x:=x) (Nat.two_pow_pos s) (qdh (s:=s) (by omega)) HREL.out HH.out.symm;rw[←hhl] at hst1 hst2;rw[←hhs] at hst1;have HST2:Hid (x % 2^s=qa7 B64 l j % 2^s):=hid hst2.symm;have HST1:=hid hst1
   have hx2:∀u,(wr.setCell ⟨w.heap.size,j,none⟩ u).cell? ⟨bd,od+j,none⟩=some (.int .u64 x):=fun u=>by
    rw[World.cell?_setCell_other _ _ _ _ (by intro h';injection h' with h' _;omega)];exact hx
   have HSET:Hid (∀d ∈ S.set j (x/2^s+2^(64-s)*H),d<B64):=hid (qcs HSB.out _ _ hyl);have HLEN2:∀q,Hid ((S.set j q).length=l.length):=fun q=>hid (by rw[List.length_set];exact HSL.out);have HK2:Hid (∀q:Nat,qn5 w1 (wr.setCell ⟨w.heap.size,j,none⟩ (.int .u64 q))):=hid fun q=>HK.out.trans (qn5.setCell _ _ _ _);have HB2:Hid (∀q:Nat,Below w.heap.size w (wr.setCell ⟨w.heap.size,j,none⟩ (.int .u64 q))):=hid fun q=>HB.out.setCell (Nat.le_refl _) _;clear hhs hhl hHlt hst1 hst2 hyl hxl hok hrow HREL HSL HSB HO' HB HH hbd;generalize x/2^s+2^(64-s)*H=y at *;generalize 2^(64-s)*H=inc at *;generalize x % 2^s=H' at *;generalize hi2:2^(64-s)*H'=inc' at *;have HI2:=hid hi2;clear hi2;go_wp2_with fail;go_roundw
   case rel=>exact⟨j,H',_,by omega,by go_num,by rw[HI2.out],HST2,HLEN2 y,HSET,hid (HOS.out y),HST1,hid (HB2.out y),hid (HK2.out y)⟩
   case measure=>simp[intOf]
end Go.Proofs.YthjagoogkkgelaaGreatDoor
