/- takeTimes and giveBack: a window of a row of words, from which a multiple of the divisor is subtracted, and to which the divisor is added. -/
import Derived.Test.YtclimablgihlhaaGreatDoorMDivWord
import Derived.Test.YtclimablgihlhaaGreatDoorMMul
set_option linter.all false
namespace Go.Proofs.YtclimablgihlhaaGreatDoor
open Go.RowKit
set_option maxRecDepth 100000
set_option maxHeartbeats 1000000
def seg(R:List Nat)(o n:Nat):Nat:=low B64 (R.drop o) n
theorem qq2(R:List Nat)(o:Nat):seg R o 0=0:=by simp[seg]
theorem qem(R:List Nat)(o n:Nat):seg R o (n+1)=seg R o n+B64^n*R.getD (o+n) 0:=by
 unfold seg;rw[qao];simp
theorem qxr(R:List Nat)(o n i x:Nat)(h:o+n≤i):seg (R.set i x) o n=seg R o n:=by
 induction n with
 | zero=>simp[seg]
 | succ n ih=>rw[qem,qem,ih (by omega),qaq _ _ _ _ (by omega)]
theorem qgp(R:List Nat)(o n x:Nat)(h:o+n<R.length):seg (R.set (o+n) x) o (n+1)=seg R o n+B64^n*x:=by
 rw[qem,qxr _ _ _ _ _ (zap _),qb9 _ _ _ h]
theorem qz0(R:List Nat)(o n:Nat)(h:∀d ∈ R,d<B64):seg R o n<B64^n:=qmr _ _ _ (by rw[qab];omega) (fun d hd=>h d (List.mem_of_mem_drop hd))
theorem qz1{B x d f lo hi z s c:Nat}(hx:x<B)(hd:d<B)(hf:f<B)(hz:z<B)(hs:s<B)(h1:lo+B*hi=d*f+z)(h2:s+lo+0=x+B*c):
  hi+c<B∧s+d*f+z=x+B*(hi+c):=by
 have e:s+d*f+z=x+B*(hi+c):=by rw[Nat.mul_add];omega
 refine⟨?_,e⟩;rcases Nat.lt_or_ge (hi+c) B with h|h
 ·exact h
 ·have h3:B*B≤B*(hi+c):=Nat.mul_le_mul_left B h
  have h4:d*f≤(B-1)*(B-1):=Nat.mul_le_mul (by omega) (by omega);obtain⟨b,rfl⟩:∃b,B=b+1:=⟨B-1,by omega⟩;simp only[Nat.add_sub_cancel] at h4;have e2:(b+1)*(b+1)=b*b+2*b+1:=by grind
  omega
theorem qz2{B p S S0 L m m' x d f s:Nat}(h:S+f*L=S0+p*m)(hs:s+d*f+m=x+B*m'):S+p*s+f*(L+p*d)=S0+p*x+p*B*m':=by
 have:=congrArg (p * ·) hs;simp only[Nat.mul_add] at this;rw[Nat.mul_add,Nat.mul_assoc p B,show f*(p*d)=p*(d*f) from by grind];omega
theorem qse{B p S S0 L c c' x d s:Nat}(h:S+p*c=S0+L)(hs:s+B*c'=x+d+c):S+p*s+p*B*c'=S0+p*x+(L+p*d):=by
 have:=congrArg (p * ·) hs;simp only[Nat.mul_add] at this;rw[Nat.mul_assoc p B];omega
theorem qq3(g o cw f base:Nat)(pd:Option Addr)(cd:Nat)(R D:List Nat)(w:World)(hR:∀d ∈ R,d<B64)(ho:Own w g R.length (wd R))(hD:∀w',Below base w w'→Wds w' (.slice pd D.length cd) D)(gW:o+D.length<R.length)
  (aF:R.length≤Cap+Cap) (hg:base≤g) (hf:f<B64):
  Calls Tryz.prog 122 #[.slice (some ⟨g,o,none⟩) (D.length+1) cw,.slice pd D.length cd,.int .u64 f] w fun e w'=>
   (∃(R':List Nat) (m:Nat),e = .returned (.int .u64 m)∧m≤1∧R'.length=R.length∧(∀d ∈ R',d<B64)∧Own w' g R'.length (wd R')∧(∀i,i<o∨o+D.length<i→R'.getD i 0=R.getD i 0)
    ∧ seg R' o (D.length+1)+f*val B64 D=seg R o (D.length+1)+B64^(D.length+1)*m)∧qe6 g w w':=by
 have rY:R.length<4611686018427387904:=by unfold Cap at aF;omega
 have hDl:=(hD w (zan _ _)).1;have HR:=hid hR;have HO:=hid ho;have HD:=hid hD;have pO:=hid hDl;have HG:=hid hg;have HF:=hid hf;have tZ:=hid gW;have Pk:D.length<4611686018427387904:=by omega
 clear hR ho hD hDl hg aF hf gW rY;go_enter Tryz.func122,Tryz.ntmps122;go_wp2_with fail
 go_loopw [7,17] (fun c i wr=>∃k more:Nat,∃S:List Nat,k≤D.length∧i = .int .i64 k∧c = .int .u64 more∧Hid (more<B64)∧Hid (S.length=R.length)∧Hid (∀d ∈ S,d<B64)∧Hid (Own wr g S.length (wd S))∧Hid (∀j,j<o∨o+k≤j→S.getD j 0=R.getD j 0)∧Hid (seg S o k+f*low B64 D k=seg R o k+B64^k*more)∧Hid (qe6 g w wr)) (fun _ i _=>D.length-(intOf i).toNat)
 case atStart=>exact⟨0,0,R,Nat.zero_le _,rfl,rfl,hid (by rw[qab];omega),hid rfl,HR,HO,hid (fun _ _=>rfl),hid (by simp[qq2]),hid (qe6.refl _ _)⟩
 case round=>
  obtain⟨k,more,S,hk,rfl,rfl,HM,bH,cQ,HO',aW,cL,HB⟩:=hrel;by_cases hkd:k<D.length
  ·obtain⟨_,p',c',he,_,_,aA⟩:=HD.out wr (HB.out.below HG.out)
   cases he
   rcases aA with h0|⟨bd,od,rfl,aB⟩
   ·omega
   have hd:=aB k hkd;have eP:o+k<S.length:=by rw[bH.out];have:=tZ.out;omega
   obtain⟨hg,oI⟩:=HO'.out.2 (o+k) eP;have bU:=aW.out (o+k) (.inr (zap _));unfold wd at hd hg;rw[bU] at hg;have xD:=qan (b:=B64) (by rw[qab];omega) pO.out k;have fI:=qan (b:=B64) (by rw[qab];omega) HR.out (o+k);have Fw:=qqw (D.getD k 0) f more;have Pl:=qj3 (D.getD k 0) f more;have iU:=qem R o k;have iD:=qao B64 D k;have fJ:Hid (∀w,Calls Tryz.prog 110 #[.int .u64 (D.getD k 0:Nat),.int .u64 f,.int .u64 more] w fun e w'=>e = .returned (.tuple #[.int .u64 (qig (D.getD k 0) f more:Nat),.int .u64 (qih (D.getD k 0) f more:Nat)])∧w'=w):=fun w=>qb0 _ _ _ xD HF.out HM.out w;have eT:=fun x=>qgp S o k x eP;have oP:Hid (∀v:Nat,Own (wr.setCell ⟨g,o+k,none⟩ (.int .u64 v)) g (S.set (o+k) v).length (wd (S.set (o+k) v))):=hid fun v=>HO'.out.setWord (o+k) eP v
   have cI:Hid (∀v j,j<o∨o+(k+1)≤j→(S.set (o+k) v).getD j 0=R.getD j 0):=hid fun v j hj=>by
    rw[qaq _ _ _ _ (by omega)];exact aW.out j (by omega)
   generalize D.getD k 0=d at *;generalize R.getD (o+k) 0=x at *;generalize qig d f more=lo at *;generalize qih d f more=hi at *;have rZ:∀w,(callFunc 171 #[.int .u64 x,.int .u64 lo,.int .u64 0]).run Tryz.prog w = .ok (.value (.tuple #[.int .u64 (qhq x lo 0:Nat),.int .u64 (qly x lo 0:Nat)])) w:=fun w=>qip x lo 0 (by omega) w;have Ak:=qsa (c:=0) fI Pl (by omega);have jN:=qkv x lo 0;generalize qhq x lo 0=s at *;generalize qly x lo 0=c2 at *;obtain⟨kG,cN⟩:=qz1 fI xD HF.out HM.out jN Fw Ak
   have eG:Hid (seg (S.set (o+k) s) o (k+1)+f*low B64 D (k+1)=seg R o (k+1)+B64^(k+1)*(hi+c2)):=by
    refine hid ?_;rw[eT s,iU,iD,Nat.pow_succ];exact qz2 cL.out cN
   have HW:Hid (IntKind.u64.wrap ((hi:Int)+(c2:Int))=((hi+c2:Nat):Int)):=hid (by rw[qwd];exact qa9 _ kG);have cJ:Hid (∀d ∈ S.set (o+k) s,d<B64):=hid (qco cQ.out _ _ jN);have cF:Hid ((S.set (o+k) s).length=R.length):=hid (by rw[List.length_set];exact bH.out);have Ae:=hid kG;have aR:Hid (qe6 g w (wr.setCell ⟨g,o+k,none⟩ (.int .u64 (s:Nat)))):=hid (HB.out.set _ _);clear eT iU iD bU Ak jN kG cN Fw Pl fI xD eP aB cL aW bH cQ HO' HB;go_wp2_with fail;refine(fJ.out _).mono ?_;rintro e w' ⟨rfl,hw'⟩;rw[hw'];clear hw' fJ;go_wp2_with fail;go_roundw
   case rel=>exact⟨k+1,hi+c2,_,by omega,by go_num,by rw[HW.out],Ae,cF,cJ,hid (oP.out s),hid (cI.out s),eG,aR⟩
   case measure=>simp[intOf];omega
  ·have e:k=D.length:=by omega
   subst e;have eP:o+D.length<S.length:=by rw[bH.out];exact tZ.out
   obtain⟨hg,oI⟩:=HO'.out.2 (o+D.length) eP;have bU:=aW.out (o+D.length) (.inr (zap _));unfold wd at hg;rw[bU] at hg;have fI:=qan (b:=B64) (by rw[qab];omega) HR.out (o+D.length);have iU:=qem R o D.length;have eT:=fun x=>qgp S o D.length x eP;have oP:Hid (∀v:Nat,Own (wr.setCell ⟨g,o+D.length,none⟩ (.int .u64 v)) g (S.set (o+D.length) v).length (wd (S.set (o+D.length) v))):=hid fun v=>HO'.out.setWord (o+D.length) eP v
   have cI:Hid (∀v j,j<o∨o+D.length<j→(S.set (o+D.length) v).getD j 0=R.getD j 0):=hid fun v j hj=>by
    rw[qaq _ _ _ _ (by omega)];exact aW.out j (by omega)
   generalize R.getD (o+D.length) 0=x at *;have rZ:∀w,(callFunc 171 #[.int .u64 x,.int .u64 more,.int .u64 0]).run Tryz.prog w = .ok (.value (.tuple #[.int .u64 (qhq x more 0:Nat),.int .u64 (qly x more 0:Nat)])) w:=fun w=>qip x more 0 (by omega) w;have Ak:=qsa (c:=0) fI HM.out (by omega);have jN:=qkv x more 0;have eU:=hid (qnh x more 0);generalize qhq x more 0=s at *;generalize qly x more 0=c2 at *
   have eG:Hid (seg (S.set (o+D.length) s) o (D.length+1)+f*val B64 D=seg R o (D.length+1)+B64^(D.length+1)*c2):=by
    refine hid ?_;have h1:=cL.out;rw[qa4 B64 D _ (zap _)] at h1;rw[eT s,iU,Nat.pow_succ,Nat.mul_assoc];have h2:=congrArg (B64^D.length * ·) Ak;simp only[Nat.mul_add,Nat.add_zero] at h2;omega
   have cJ:Hid (∀d ∈ S.set (o+D.length) s,d<B64):=hid (qco cQ.out _ _ jN);have cF:Hid ((S.set (o+D.length) s).length=R.length):=hid (by rw[List.length_set];exact bH.out);have aR:Hid (qe6 g w (wr.setCell ⟨g,o+D.length,none⟩ (.int .u64 (s:Nat)))):=hid (HB.out.set _ _);clear eT iU bU Ak jN fI eP cL aW bH cQ HO' HB;go_wp2_with fail;go_ret;exact⟨⟨_,c2,rfl,eU.out,cF.out,cJ.out,oP.out s,cI.out s,eG.out⟩,aR.out⟩
theorem qsf(g o cw base:Nat)(pd:Option Addr)(cd:Nat)(R D:List Nat)(w:World)(hR:∀d ∈ R,d<B64)(ho:Own w g R.length (wd R))(hD:∀w',Below base w w'→Wds w' (.slice pd D.length cd) D)(gW:o+D.length<R.length)
  (aF:R.length≤Cap+Cap) (hg:base≤g):
  Calls Tryz.prog 123 #[.slice (some ⟨g,o,none⟩) (D.length+1) cw,.slice pd D.length cd] w fun e w'=>
   (∃(R':List Nat) (m:Nat),e = .returned (.int .u64 m)∧m≤1∧R'.length=R.length∧(∀d ∈ R',d<B64)∧Own w' g R'.length (wd R')∧(∀i,i<o∨o+D.length<i→R'.getD i 0=R.getD i 0)
    ∧ seg R' o (D.length+1)+B64^(D.length+1)*m=seg R o (D.length+1)+val B64 D)∧qe6 g w w':=by
 have rY:R.length<4611686018427387904:=by unfold Cap at aF;omega
 have hDl:=(hD w (zan _ _)).1;have HR:=hid hR;have HO:=hid ho;have HD:=hid hD;have pO:=hid hDl;have HG:=hid hg;have tZ:=hid gW;have Pk:D.length<4611686018427387904:=by omega
 clear hR ho hD hDl hg aF gW rY;go_enter Tryz.func123,Tryz.ntmps123;go_wp2_with fail
 go_loopw [5,10] (fun c i wr=>∃k cc:Nat,∃S:List Nat,k≤D.length∧i = .int .i64 k∧c = .int .u64 cc∧cc≤1∧Hid (S.length=R.length)∧Hid (∀d ∈ S,d<B64)∧Hid (Own wr g S.length (wd S))∧Hid (∀j,j<o∨o+k≤j→S.getD j 0=R.getD j 0)∧Hid (seg S o k+B64^k*cc=seg R o k+low B64 D k)∧Hid (qe6 g w wr)) (fun _ i _=>D.length-(intOf i).toNat)
 case atStart=>exact⟨0,0,R,Nat.zero_le _,rfl,rfl,by omega,hid rfl,HR,HO,hid (fun _ _=>rfl),hid (by simp[qq2]),hid (qe6.refl _ _)⟩
 case round=>
  obtain⟨k,cc,S,hk,rfl,rfl,gA,bH,cQ,HO',aW,cL,HB⟩:=hrel;by_cases hkd:k<D.length
  ·obtain⟨_,p',c',he,_,_,aA⟩:=HD.out wr (HB.out.below HG.out)
   cases he
   rcases aA with h0|⟨bd,od,rfl,aB⟩
   ·omega
   have hd:=aB k hkd;have eP:o+k<S.length:=by rw[bH.out];have:=tZ.out;omega
   obtain⟨hg,oI⟩:=HO'.out.2 (o+k) eP;have bU:=aW.out (o+k) (.inr (zap _));unfold wd at hd hg;rw[bU] at hg;have xD:=qan (b:=B64) (by rw[qab];omega) pO.out k;have fI:=qan (b:=B64) (by rw[qab];omega) HR.out (o+k);have iU:=qem R o k;have iD:=qao B64 D k;have eT:=fun x=>qgp S o k x eP;have oP:Hid (∀v:Nat,Own (wr.setCell ⟨g,o+k,none⟩ (.int .u64 v)) g (S.set (o+k) v).length (wd (S.set (o+k) v))):=hid fun v=>HO'.out.setWord (o+k) eP v
   have cI:Hid (∀v j,j<o∨o+(k+1)≤j→(S.set (o+k) v).getD j 0=R.getD j 0):=hid fun v j hj=>by
    rw[qaq _ _ _ _ (by omega)];exact aW.out j (by omega)
   generalize D.getD k 0=d at *;generalize R.getD (o+k) 0=x at *;have rZ:=fun w=>qio x d cc gA w;have Ak:=qwc x d cc;have jN:=qng x d cc;have hh:=qqv fI xD gA;generalize qgy x d cc=s at *;generalize qin x d cc=c2 at *
   have eG:Hid (seg (S.set (o+k) s) o (k+1)+B64^(k+1)*c2=seg R o (k+1)+low B64 D (k+1)):=by
    refine hid ?_;rw[eT s,iU,iD,Nat.pow_succ];exact qse cL.out Ak
   have cJ:Hid (∀d ∈ S.set (o+k) s,d<B64):=hid (qco cQ.out _ _ jN);have cF:Hid ((S.set (o+k) s).length=R.length):=hid (by rw[List.length_set];exact bH.out);have aR:Hid (qe6 g w (wr.setCell ⟨g,o+k,none⟩ (.int .u64 (s:Nat)))):=hid (HB.out.set _ _);clear eT iU iD bU Ak jN fI xD eP aB cL aW bH cQ HO' HB;go_wp2_with fail;go_roundw
   case rel=>exact⟨k+1,c2,_,by omega,by go_num,rfl,hh,cF,cJ,hid (oP.out s),hid (cI.out s),eG,aR⟩
   case measure=>simp[intOf];omega
  ·have e:k=D.length:=by omega
   subst e;have eP:o+D.length<S.length:=by rw[bH.out];exact tZ.out
   obtain⟨hg,oI⟩:=HO'.out.2 (o+D.length) eP;have bU:=aW.out (o+D.length) (.inr (zap _));unfold wd at hg;rw[bU] at hg;have fI:=qan (b:=B64) (by rw[qab];omega) HR.out (o+D.length);have iU:=qem R o D.length;have eT:=fun x=>qgp S o D.length x eP;have oP:Hid (∀v:Nat,Own (wr.setCell ⟨g,o+D.length,none⟩ (.int .u64 v)) g (S.set (o+D.length) v).length (wd (S.set (o+D.length) v))):=hid fun v=>HO'.out.setWord (o+D.length) eP v
   have cI:Hid (∀v j,j<o∨o+D.length<j→(S.set (o+D.length) v).getD j 0=R.getD j 0):=hid fun v j hj=>by
    rw[qaq _ _ _ _ (by omega)];exact aW.out j (by omega)
   generalize R.getD (o+D.length) 0=x at *;have rZ:∀w,(callFunc 111 #[.int .u64 x,.int .u64 0,.int .u64 cc]).run Tryz.prog w = .ok (.value (.tuple #[.int .u64 (qgy x 0 cc:Nat),.int .u64 (qin x 0 cc:Nat)])) w:=fun w=>qio x 0 cc gA w;have Ak:=qwc x 0 cc;have jN:=qng x 0 cc;have eU:=hid (qqv (y:=0) fI (by rw[qab];omega) gA);generalize qgy x 0 cc=s at *;generalize qin x 0 cc=c2 at *
   have eG:Hid (seg (S.set (o+D.length) s) o (D.length+1)+B64^(D.length+1)*c2=seg R o (D.length+1)+val B64 D):=by
    refine hid ?_;have h1:=cL.out;rw[qa4 B64 D _ (zap _)] at h1;rw[eT s,iU,Nat.pow_succ];have:=qse (d:=0) h1 Ak;rw[Nat.mul_zero,Nat.add_zero] at this;exact this
   have cJ:Hid (∀d ∈ S.set (o+D.length) s,d<B64):=hid (qco cQ.out _ _ jN);have cF:Hid ((S.set (o+D.length) s).length=R.length):=hid (by rw[List.length_set];exact bH.out);have aR:Hid (qe6 g w (wr.setCell ⟨g,o+D.length,none⟩ (.int .u64 (s:Nat)))):=hid (HB.out.set _ _);clear eT iU bU Ak jN fI eP cL aW bH cQ HO' HB;go_wp2_with fail;go_ret;exact⟨⟨_,c2,rfl,eU.out,cF.out,cJ.out,oP.out s,cI.out s,eG.out⟩,aR.out⟩
theorem qdc{s:Nat}(hs:s≤64):B64=2^(64-s)*2^s:=by
 rw[←Nat.pow_add,show 64-s+s=64 from by omega];rfl
theorem qz3(x s:Nat)(hs:s≤64):x*2^s % B64=2^s*(x % 2^(64-s)):=by
 rw[qdc hs,Nat.mul_mod_mul_right,Nat.mul_comm]
theorem qz4(x s lo:Nat)(hs:s<64)(fW:lo<2^s):
  bits .or .u64 (IntKind.u64.wrap ((x:Int)*2^s)) (lo:Int)=((x*2^s % B64+lo:Nat):Int)∧x*2^s % B64+lo<B64:=by
 have h1:x % 2^(64-s)<2^(64-s):=Nat.mod_lt _ (Nat.two_pow_pos _)
 have h2:2^s*(x % 2^(64-s))+lo<B64:=by
  have:2^s*(x % 2^(64-s)+1)≤2^s*2^(64-s):=Nat.mul_le_mul_left _ h1;rw[Nat.mul_add,Nat.mul_comm (2^s) (2^(64-s)),←qdc (by omega)] at this;omega
 have hB:=qab;rw[qq1,qz3 x s (by omega)];refine⟨?_,h2⟩;rw[bits_or_u64_nat _ _ (by omega) (by omega),Nat.two_pow_add_eq_or_of_lt fW]
theorem q8t(x s H:Nat)(hs:s<64)(hx:x<B64)(hH:H<2^s):
  bits .or .u64 ((x:Int)/2^s) ((2^(64-s)*H:Nat):Int)=((x/2^s+2^(64-s)*H:Nat):Int)∧x/2^s+2^(64-s)*H<B64:=by
 have h1:x/2^s<2^(64-s):=by
  rw[Nat.div_lt_iff_lt_mul (Nat.two_pow_pos _),←qdc (by omega)];exact hx
 have h2:x/2^s+2^(64-s)*H<B64:=by
  have:2^(64-s)*(H+1)≤2^(64-s)*2^s:=Nat.mul_le_mul_left _ hH;rw[Nat.mul_add,←qdc (by omega)] at this;omega
 refine⟨?_,h2⟩;rw[show(x:Int)/2^s=((x/2^s:Nat):Int) from by simp];rw[bits_or_u64_nat _ _ (Nat.lt_of_le_of_lt (Nat.le_add_right _ _) h2) (Nat.lt_of_le_of_lt (Nat.le_add_left _ _) h2),Nat.or_comm,←Nat.two_pow_add_eq_or_of_lt h1,Nat.add_comm]
theorem q3z{B p S L lo hi x y t:Nat}(h:S+p*lo=L*t)(hy:y+B*hi=x*t+lo):S+p*y+p*B*hi=(L+p*x)*t:=by
 have:=congrArg (p * ·) hy;simp only[Nat.mul_add] at this;rw[Nat.mul_assoc p B,Nat.add_mul,Nat.mul_assoc p x];omega
theorem qkz(v:Value)(l:List Nat)(s:Nat)(w:World)(h:Wds w v l)(hs:s<64)(aP:l.length≤Cap):
  Calls Tryz.prog 120 #[v,.int .i64 (s:Nat)] w fun e w'=>
   (∃R:List Nat,e = .returned (.slice (some ⟨w.heap.size,0,none⟩) (l.length+1) (l.length+1))∧R.length=l.length+1∧(∀d ∈ R,d<B64)∧Own w' w.heap.size R.length (wd R)∧val B64 R=val B64 l*2^s)∧Below w.heap.size w w':=by
 obtain⟨hl,p,c,rfl,bP,bK,aA⟩:=h;have lS:=fun w=>qf5 (l.length+1) ((l.length:Int)+1) (by omega) (by have:=qj4;omega) w;have rY:l.length<4611686018427387904:=by unfold Cap at aP;omega
 have HL:=hid hl;have uA:Hid (l.length=0∨∃b o,p=some ⟨b,o,none⟩∧qlx w b o l.length (wd l)):=aA;clear hl bP bK aP aA;go_enter Tryz.func120,Tryz.ntmps120;go_wp2_with fail;have bG:=qg6 w (l.length+1);have bM:Below w.heap.size w (w.alloc (qa5 (l.length+1))):=zam _ _;have aU:Hid ((List.replicate (l.length+1) 0).length=l.length+1):=hid (by simp);have Al:=hid (qb3 (b:=B64) (by rw[qab];omega) (l.length+1));have bL:Hid (Own (w.alloc (qa5 (l.length+1))) w.heap.size (List.replicate (l.length+1) 0).length (wd (List.replicate (l.length+1) 0))):=by refine hid ?_;rw[aU.out];exact bG
 have aH:=hid bM;clear bG bM;generalize List.replicate (l.length+1) 0=s0 at *;generalize w.alloc (qa5 (l.length+1))=w1 at *
 go_loopw [6,15] (fun c i wr=>∃k lo:Nat,∃S:List Nat,k≤l.length∧i = .int .i64 k∧c = .int .u64 lo∧Hid (lo<2^s)∧Hid (S.length=l.length+1)∧Hid (∀d ∈ S,d<B64)∧Hid (Own wr w.heap.size S.length (wd S))∧Hid (low B64 S k+B64^k*lo=low B64 l k*2^s)∧Hid (Below w.heap.size w wr)) (fun _ i _=>l.length-(intOf i).toNat)
 case atStart=>exact⟨0,0,s0,Nat.zero_le _,rfl,rfl,hid (Nat.two_pow_pos _),aU,Al,bL,hid (by simp),aH⟩
 case round=>
  obtain⟨k,lo,S,hk,rfl,rfl,rI,bH,cQ,HO',cL,HB⟩:=hrel;clear aU Al bL aH;by_cases cV:k<l.length
  ·rcases uA.out with h0|⟨bd,od,rfl,aB⟩
   ·omega
   have hx:=(aB.later HB.out) k cV;have eP:k<S.length:=by rw[bH.out];omega
   obtain⟨hg,oI⟩:=HO'.out.2 k eP;unfold wd at hx hg;have fI:=qan (b:=B64) (by rw[qab];omega) HL.out k;have iD:=qao B64 l k;have eT:=fun x=>qbp B64 S k x eP;have oP:Hid (∀v:Nat,Own (wr.setCell ⟨w.heap.size,k,none⟩ (.int .u64 v)) w.heap.size (S.set k v).length (wd (S.set k v))):=hid fun v=>HO'.out.setWord k eP v;generalize l.getD k 0=x at *;generalize S.getD k 0=old at *;obtain⟨Ag,lE⟩:=qz4 x s lo hs rI.out;have hsp:=qn1 (s:=s) (lo:=x) (by omega)
   have tC:x/2^(64-s)<2^s:=by
    rw[Nat.div_lt_iff_lt_mul (Nat.two_pow_pos _),Nat.mul_comm,←qdc (by omega)];exact fI
   have hsh:(x:Int)/2^(64-s)=((x/2^(64-s):Nat):Int):=by simp
   have hy:x*2^s % B64+lo+B64*(x/2^(64-s))=x*2^s+lo:=by
    have hB:B64=2^64:=rfl;rw[hB,Nat.mul_comm (2^64)];omega
   generalize x*2^s % B64+lo=y at *;generalize x/2^(64-s)=hi at *
   have eG:Hid (low B64 (S.set k y) (k+1)+B64^(k+1)*hi=low B64 l (k+1)*2^s):=by
    refine hid ?_;rw[eT y,iD,Nat.pow_succ];exact q3z cL.out hy
   have cJ:Hid (∀d ∈ S.set k y,d<B64):=hid (qco cQ.out _ _ lE);have cF:Hid ((S.set k y).length=l.length+1):=hid (by rw[List.length_set];exact bH.out);have Ga:=hid tC;have aR:Hid (Below w.heap.size w (wr.setCell ⟨w.heap.size,k,none⟩ (.int .u64 (y:Nat)))):=hid (HB.out.setCell (zap _) _);clear eT iD hsp tC hy lE fI eP aB cL bH cQ HO' HB;go_wp2_with fail;go_roundw
   case rel=>exact⟨k+1,hi,_,by omega,by go_num,rfl,Ga,cF,cJ,hid (oP.out y),eG,aR⟩
   case measure=>simp[intOf];omega
  ·have e:k=l.length:=by omega
   subst e;have eP:l.length<S.length:=by rw[bH.out];omega
   obtain⟨hg,oI⟩:=HO'.out.2 l.length eP
   have fW:lo<B64:=by
    have h1:=rI.out;have h2:(2:Nat)^s≤2^64:=Nat.pow_le_pow_right (by omega) (by omega);have hB:B64=2^64:=rfl;omega
   have oP:Hid (Own (wr.setCell ⟨w.heap.size,l.length,none⟩ (.int .u64 lo)) w.heap.size (S.set l.length lo).length (wd (S.set l.length lo))):=hid (HO'.out.setWord l.length eP lo);have cF:Hid ((S.set l.length lo).length=l.length+1):=hid (by rw[List.length_set];exact bH.out)
   have HV:Hid (val B64 (S.set l.length lo)=val B64 l*2^s):=by
    refine hid ?_;rw[←qa4 B64 (S.set l.length lo) (l.length+1) (by rw[cF.out];exact zap _),qbp B64 S l.length lo eP,cL.out,qa4 B64 l _ (zap _)]
   have cJ:Hid (∀d ∈ S.set l.length lo,d<B64):=hid (qco cQ.out _ _ fW);have aR:Hid (Below w.heap.size w (wr.setCell ⟨w.heap.size,l.length,none⟩ (.int .u64 (lo:Nat)))):=hid (HB.out.setCell (zap _) _);generalize wd S l.length=old at *;clear fW eP cL bH cQ HO' HB;go_wp2_with fail;go_ret;exact⟨⟨_,rfl,cF.out,cJ.out,oP.out,HV.out⟩,aR.out⟩
theorem q30{B t u H Hq Hr x:Nat}(ht:0<t)(hB:B=u*t)(h1:H/t=Hq)(h2:H % t=Hr):(x+B*H)/t=x/t+u*Hr+B*Hq∧(x+B*H) % t=x % t:=by
 have e:x+B*H=x+t*(u*Hr+B*Hq):=by
  have:=Nat.div_add_mod H t;rw[h1,h2] at this;rw[←this,hB]
  grind
 rw[e,Nat.add_mul_div_left _ _ ht,Nat.add_mul_mod_self_left];omega
theorem qoa(v:Value)(l:List Nat)(s:Nat)(w:World)(h:Wds w v l)(hs:s<64)(aP:l.length≤Cap):
  Calls Tryz.prog 124 #[v,.int .i64 (s:Nat)] w fun e w'=>(∃g cap,e = .returned (.slice (some ⟨g,0,none⟩) (wl (val B64 l/2^s)) cap)∧qdb w' w.heap.size g cap (qaf B64 (val B64 l/2^s)))∧Below w.heap.size w w':=by
 obtain⟨hl,p,c,rfl,bP,bK,aA⟩:=h;have lS:=fun w=>qf5 l.length (l.length:Int) rfl (by have:=qj4;omega) w;have rY:l.length<4611686018427387904:=by unfold Cap at aP;omega
 have HL:=hid hl;have uA:Hid (l.length=0∨∃b o,p=some ⟨b,o,none⟩∧qlx w b o l.length (wd l)):=aA;clear hl bP bK aP aA;go_enter Tryz.func124,Tryz.ntmps124;go_wp2_with fail;have bG:=qg6 w l.length;have bM:Below w.heap.size w (w.alloc (qa5 l.length)):=zam _ _;have aU:Hid ((List.replicate l.length 0).length=l.length):=hid (by simp);have Al:=hid (qb3 (b:=B64) (by rw[qab];omega) l.length);have bL:Hid (Own (w.alloc (qa5 l.length)) w.heap.size (List.replicate l.length 0).length (wd (List.replicate l.length 0))):=by refine hid ?_;rw[aU.out];exact bG
 have aH:=hid bM;have zJ:=hid (qxp w l.length (by unfold maxLen;omega));have HK0:=hid (qnb.refl (w.alloc (qa5 l.length)));clear bG bM;generalize List.replicate l.length 0=s0 at *;generalize w.alloc (qa5 l.length)=w1 at *
 go_loopw [6,7] (fun c i wr=>∃k H:Nat,∃S:List Nat,k≤l.length∧i = .int .i64 ((k:Int)-1)∧c = .int .u64 (2^(64-s)*H:Nat)∧Hid (H=qa6 B64 l k % 2^s)∧Hid (S.length=l.length)∧Hid (∀d ∈ S,d<B64)∧Hid (Own wr w.heap.size S.length (wd S))∧Hid (qa6 B64 l k/2^s=qa6 B64 S k)∧Hid (Below w.heap.size w wr)∧Hid (qnb w1 wr)) (fun _ i _=>(intOf i+1).toNat)
 case atStart=>exact⟨l.length,0,s0,zap _,rfl,by simp,hid (by rw[qc7 _ _ _ (zap _),Nat.zero_mod]),aU,Al,bL,hid (by rw[qc7 _ _ _ (zap _),qc7 _ _ _ (by rw[aU.out];exact zap _),Nat.zero_div]),aH,HK0⟩
 case round=>
  obtain⟨k,H,S,hk,rfl,rfl,HH,bH,cQ,HO',cL,HB,HK⟩:=hrel;have HLS:=hid aU.out;clear aU Al bL aH HK0;rcases k with _|j
  ·have hv:val B64 S=val B64 l/2^s:=by have:=cL.out;rw[high_zero,high_zero] at this;exact this.symm
   have HT:=hid (qg8 w.heap.size w.heap.size l.length l.length (val B64 l/2^s) S wr (zJ.out.after HK.out (by rw[bH.out,HLS.out]) cQ.out HO'.out) bH.out hv);clear hv;generalize 2^(64-s)*H=inc at *;go_wp2_with fail;refine HT.out.mono ?_;rintro e w' ⟨⟨rfl,hn⟩,hw'⟩;subst hw';go_wp2_with fail;go_ret;exact⟨⟨_,_,rfl,hn⟩,HB.out⟩
  ·have e1:((j+1:Nat):Int)-1=(j:Int):=by omega
   simp only[e1];rcases uA.out with h0|⟨bd,od,rfl,aB⟩
   ·omega
   have hx:=(aB.later HB.out) j (by omega);have tH:bd<w.heap.size:=zaq w _ (aB j (by omega));have eP:j<S.length:=by rw[bH.out];omega
   obtain⟨hg,oI⟩:=HO'.out.2 j eP;unfold wd at hx hg;have fI:=qan (b:=B64) (by rw[qab];omega) HL.out j;have rG:=qbj B64 l j;have hHlt:H<2^s:=by rw[HH.out];exact Nat.mod_lt _ (Nat.two_pow_pos _)
   have zI:∀q,qa6 B64 (S.set j q) j=q+B64*qa6 B64 S (j+1):=fun q=>by
    rw[qbj,qb9 _ _ _ eP];unfold qa6;rw[List.drop_set_of_lt (by omega)]
   have oP:Hid (∀v:Nat,Own (wr.setCell ⟨w.heap.size,j,none⟩ (.int .u64 v)) w.heap.size (S.set j v).length (wd (S.set j v))):=hid fun v=>HO'.out.setWord j eP v;generalize l.getD j 0=x at *;generalize S.getD j 0=old at *;obtain⟨Ag,lE⟩:=q8t x s H hs fI hHlt
   have hinc:IntKind.u64.wrap ((x:Int)*2^(64-s))=((2^(64-s)*(x % 2^s):Nat):Int):=by
    rw[qq1,qz3 x (64-s) (by omega),show 64-(64-s)=s from by omega]
   obtain⟨Ee,Jc⟩:=q30 (x:=x) (Nat.two_pow_pos s) (qdc (s:=s) (by omega)) cL.out HH.out.symm;rw[←rG] at Ee Jc;rw[←zI] at Ee;have HST2:Hid (x % 2^s=qa6 B64 l j % 2^s):=hid Jc.symm;have HST1:=hid Ee
   have rE:∀u,(wr.setCell ⟨w.heap.size,j,none⟩ u).cell? ⟨bd,od+j,none⟩=some (.int .u64 x):=fun u=>by
    rw[World.cell?_setCell_other _ _ _ _ (by intro h';injection h' with h' _;omega)];exact hx
   have cJ:Hid (∀d ∈ S.set j (x/2^s+2^(64-s)*H),d<B64):=hid (qco cQ.out _ _ lE);have cF:∀q,Hid ((S.set j q).length=l.length):=fun q=>hid (by rw[List.length_set];exact bH.out);have Pm:Hid (∀q:Nat,qnb w1 (wr.setCell ⟨w.heap.size,j,none⟩ (.int .u64 q))):=hid fun q=>HK.out.trans (qnb.setCell _ _ _ _);have aR:Hid (∀q:Nat,Below w.heap.size w (wr.setCell ⟨w.heap.size,j,none⟩ (.int .u64 q))):=hid fun q=>HB.out.setCell (zap _) _;clear zI rG hHlt Ee Jc lE fI eP aB cL bH cQ HO' HB HH tH;generalize x/2^s+2^(64-s)*H=y at *;generalize 2^(64-s)*H=inc at *;generalize x % 2^s=H' at *;generalize hi2:2^(64-s)*H'=inc' at *;have kI:=hid hi2;clear hi2;go_wp2_with fail;go_roundw
   case rel=>exact⟨j,H',_,by omega,by go_num,by rw[kI.out],HST2,cF y,cJ,hid (oP.out y),HST1,hid (aR.out y),hid (Pm.out y)⟩
   case measure=>simp[intOf]
end Go.Proofs.YtclimablgihlhaaGreatDoor
