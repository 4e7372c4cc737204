/- takeTimes and giveBack: a window of a row of words, from which a multiple of the divisor is subtracted, and to which the divisor is added. -/
import Derived.Test.YtlkdlffhmakbgaaGreatDoorMDivWord
import Derived.Test.YtlkdlffhmakbgaaGreatDoorMMul
set_option linter.all false
namespace Go.Proofs.YtlkdlffhmakbgaaGreatDoor
open Go.RowKit
set_option maxRecDepth 100000
set_option maxHeartbeats 1000000
def seg(R:List Nat)(o n:Nat):Nat:=low B64 (R.drop o) n
theorem qrg(R:List Nat)(o:Nat):seg R o 0=0:=by simp[seg]
theorem qew(R:List Nat)(o n:Nat):seg R o (n+1)=seg R o n+B64^n*R.getD (o+n) 0:=by
 unfold seg;rw[qa0];simp
theorem qym(R:List Nat)(o n i x:Nat)(h:o+n≤i):seg (R.set i x) o n=seg R o n:=by
 induction n with
 | zero=>simp[seg]
 | succ n ih=>rw[qew,qew,ih (by omega),qa6 _ _ _ _ (by omega)]
theorem qgp(R:List Nat)(o n x:Nat)(h:o+n<R.length):seg (R.set (o+n) x) o (n+1)=seg R o n+B64^n*x:=by
 rw[qew,qym _ _ _ _ _ (qac _),qcl _ _ _ h]
theorem q0t(R:List Nat)(o n:Nat)(h:∀d ∈ R,d<B64):seg R o n<B64^n:=qm6 _ _ _ (by rw[qai];omega) (fun d hd=>h d (List.mem_of_mem_drop hd))
theorem q0u{B x d f lo hi z s c:Nat}(hx:x<B)(hd:d<B)(hf:f<B)(hz:z<B)(hs:s<B)(h1:lo+B*hi=d*f+z)(h2:s+lo+0=x+B*c):
  hi+c<B∧s+d*f+z=x+B*(hi+c):=by
 have e:s+d*f+z=x+B*(hi+c):=by rw[Nat.mul_add];omega
 refine⟨?_,e⟩;rcases Nat.lt_or_ge (hi+c) B with h|h
 ·exact h
 ·have h3:B*B≤B*(hi+c):=Nat.mul_le_mul_left B h
  have h4:d*f≤(B-1)*(B-1):=Nat.mul_le_mul (by omega) (by omega);obtain⟨b,rfl⟩:∃b,B=b+1:=⟨B-1,by omega⟩;simp only[Nat.add_sub_cancel] at h4;have e2:(b+1)*(b+1)=b*b+2*b+1:=by grind
  omega
theorem q0v{B p S S0 L m m' x d f s:Nat}(h:S+f*L=S0+p*m)(hs:s+d*f+m=x+B*m'):S+p*s+f*(L+p*d)=S0+p*x+p*B*m':=by
 have:=congrArg (p * ·) hs;simp only[Nat.mul_add] at this;rw[Nat.mul_add,Nat.mul_assoc p B,show f*(p*d)=p*(d*f) from by grind];omega
theorem qsu{B p S S0 L c c' x d s:Nat}(h:S+p*c=S0+L)(hs:s+B*c'=x+d+c):S+p*s+p*B*c'=S0+p*x+(L+p*d):=by
 have:=congrArg (p * ·) hs;simp only[Nat.mul_add] at this;rw[Nat.mul_assoc p B];omega
theorem qrh(g o cw f base:Nat)(pd:Option Addr)(cd:Nat)(R D:List Nat)(w:World)(hR:∀d ∈ R,d<B64)(ho:Own w g R.length (wd R))(hD:∀w',Below base w w'→Wds w' (.slice pd D.length cd) D)(kI:o+D.length<R.length)
  (aE:R.length≤Cap+Cap) (hg:base≤g) (hf:f<B64):
  Calls Tryz.prog 162 #[.slice (some ⟨g,o,none⟩) (D.length+1) cw,.slice pd D.length cd,.int .u64 f] w fun e w'=>
   (∃(R':List Nat) (m:Nat),e = .returned (.int .u64 m)∧m≤1∧R'.length=R.length∧(∀d ∈ R',d<B64)∧Own w' g R'.length (wd R')∧(∀i,i<o∨o+D.length<i→R'.getD i 0=R.getD i 0)
    ∧ seg R' o (D.length+1)+f*val B64 D=seg R o (D.length+1)+B64^(D.length+1)*m)∧qfd g w w':=by
 have rJ:R.length<4611686018427387904:=by unfold Cap at aE;omega
 have hDl:=(hD w (qaa _ _)).1;have HR:=hid hR;have HO:=hid ho;have HD:=hid hD;have pJ:=hid hDl;have HG:=hid hg;have HF:=hid hf;have sX:=hid kI;have Na:D.length<4611686018427387904:=by omega
 clear hR ho hD hDl hg aE hf kI rJ;go_enter Tryz.func162,Tryz.ntmps162;go_wp2_with fail
 go_loopw [7,17] (fun c i wr=>∃k more:Nat,∃S:List Nat,k≤D.length∧i = .int .i64 k∧c = .int .u64 more∧Hid (more<B64)∧Hid (S.length=R.length)∧Hid (∀d ∈ S,d<B64)∧Hid (Own wr g S.length (wd S))∧Hid (∀j,j<o∨o+k≤j→S.getD j 0=R.getD j 0)∧Hid (seg S o k+f*low B64 D k=seg R o k+B64^k*more)∧Hid (qfd g w wr)) (fun _ i _=>D.length-(intOf i).toNat)
 case atStart=>exact⟨0,0,R,Nat.zero_le _,rfl,rfl,hid (by rw[qai];omega),hid rfl,HR,HO,hid (fun _ _=>rfl),hid (by simp[qrg]),hid (qfd.refl _ _)⟩
 case round=>
  obtain⟨k,more,S,hk,rfl,rfl,HM,aT,cP,HO',aS,cI,HB⟩:=hrel;by_cases hkd:k<D.length
  ·obtain⟨_,p',c',he,_,_,aA⟩:=HD.out wr (HB.out.below HG.out)
   cases he
   rcases aA with h0|⟨bd,od,rfl,aB⟩
   ·omega
   have hd:=aB k hkd;have cM:o+k<S.length:=by rw[aT.out];have:=sX.out;omega
   obtain⟨hg,mJ⟩:=HO'.out.2 (o+k) cM;have bQ:=aS.out (o+k) (.inr (qac _));unfold wd at hd hg;rw[bQ] at hg;have uG:=qaz (b:=B64) (by rw[qai];omega) pJ.out k;have eF:=qaz (b:=B64) (by rw[qai];omega) HR.out (o+k);have El:=qrb (D.getD k 0) f more;have Nb:=qkg (D.getD k 0) f more;have eT:=qew R o k;have eS:=qa0 B64 D k;have fE:Hid (∀w,Calls Tryz.prog 142 #[.int .u64 (D.getD k 0:Nat),.int .u64 f,.int .u64 more] w fun e w'=>e = .returned (.tuple #[.int .u64 (qis (D.getD k 0) f more:Nat),.int .u64 (qit (D.getD k 0) f more:Nat)])∧w'=w):=fun w=>qcb _ _ _ uG HF.out HM.out w;have eQ:=fun x=>qgp S o k x cM;have oB:Hid (∀v:Nat,Own (wr.setCell ⟨g,o+k,none⟩ (.int .u64 v)) g (S.set (o+k) v).length (wd (S.set (o+k) v))):=hid fun v=>HO'.out.setWord (o+k) cM v
   have cE:Hid (∀v j,j<o∨o+(k+1)≤j→(S.set (o+k) v).getD j 0=R.getD j 0):=hid fun v j hj=>by
    rw[qa6 _ _ _ _ (by omega)];exact aS.out j (by omega)
   generalize D.getD k 0=d at *;generalize R.getD (o+k) 0=x at *;generalize qis d f more=lo at *;generalize qit d f more=hi at *;have nU:∀w,(callFunc 193 #[.int .u64 x,.int .u64 lo,.int .u64 0]).run Tryz.prog w = .ok (.value (.tuple #[.int .u64 (qhs x lo 0:Nat),.int .u64 (qmd x lo 0:Nat)])) w:=fun w=>qi0 x lo 0 (by omega) w;have yW:=qsp (c:=0) eF Nb (by omega);have iS:=qk4 x lo 0;generalize qhs x lo 0=s at *;generalize qmd x lo 0=c2 at *;obtain⟨jK,bZ⟩:=q0u eF uG HF.out HM.out iS El yW
   have dT:Hid (seg (S.set (o+k) s) o (k+1)+f*low B64 D (k+1)=seg R o (k+1)+B64^(k+1)*(hi+c2)):=by
    refine hid ?_;rw[eQ s,eT,eS,Nat.pow_succ];exact q0v cI.out bZ
   have HW:Hid (IntKind.u64.wrap ((hi:Int)+(c2:Int))=((hi+c2:Nat):Int)):=hid (by rw[qwt];exact qbr _ jK);have cF:Hid (∀d ∈ S.set (o+k) s,d<B64):=hid (qc8 cP.out _ _ iS);have bW:Hid ((S.set (o+k) s).length=R.length):=hid (by rw[List.length_set];exact aT.out);have yQ:=hid jK;have aK:Hid (qfd g w (wr.setCell ⟨g,o+k,none⟩ (.int .u64 (s:Nat)))):=hid (HB.out.set _ _);clear eQ eT eS bQ yW iS jK bZ El Nb eF uG cM aB cI aS aT cP HO' HB;go_wp2_with fail;refine(fE.out _).mono ?_;rintro e w' ⟨rfl,hw'⟩;rw[hw'];clear hw' fE;go_wp2_with fail;go_roundw
   case rel=>exact⟨k+1,hi+c2,_,by omega,by go_num,by rw[HW.out],yQ,bW,cF,hid (oB.out s),hid (cE.out s),dT,aK⟩
   case measure=>simp[intOf];omega
  ·have e:k=D.length:=by omega
   subst e;have cM:o+D.length<S.length:=by rw[aT.out];exact sX.out
   obtain⟨hg,mJ⟩:=HO'.out.2 (o+D.length) cM;have bQ:=aS.out (o+D.length) (.inr (qac _));unfold wd at hg;rw[bQ] at hg;have eF:=qaz (b:=B64) (by rw[qai];omega) HR.out (o+D.length);have eT:=qew R o D.length;have eQ:=fun x=>qgp S o D.length x cM;have oB:Hid (∀v:Nat,Own (wr.setCell ⟨g,o+D.length,none⟩ (.int .u64 v)) g (S.set (o+D.length) v).length (wd (S.set (o+D.length) v))):=hid fun v=>HO'.out.setWord (o+D.length) cM v
   have cE:Hid (∀v j,j<o∨o+D.length<j→(S.set (o+D.length) v).getD j 0=R.getD j 0):=hid fun v j hj=>by
    rw[qa6 _ _ _ _ (by omega)];exact aS.out j (by omega)
   generalize R.getD (o+D.length) 0=x at *;have nU:∀w,(callFunc 193 #[.int .u64 x,.int .u64 more,.int .u64 0]).run Tryz.prog w = .ok (.value (.tuple #[.int .u64 (qhs x more 0:Nat),.int .u64 (qmd x more 0:Nat)])) w:=fun w=>qi0 x more 0 (by omega) w;have yW:=qsp (c:=0) eF HM.out (by omega);have iS:=qk4 x more 0;have iE:=hid (qnw x more 0);generalize qhs x more 0=s at *;generalize qmd x more 0=c2 at *
   have dT:Hid (seg (S.set (o+D.length) s) o (D.length+1)+f*val B64 D=seg R o (D.length+1)+B64^(D.length+1)*c2):=by
    refine hid ?_;have h1:=cI.out;rw[qbi B64 D _ (qac _)] at h1;rw[eQ s,eT,Nat.pow_succ,Nat.mul_assoc];have h2:=congrArg (B64^D.length * ·) yW;simp only[Nat.mul_add,Nat.add_zero] at h2;omega
   have cF:Hid (∀d ∈ S.set (o+D.length) s,d<B64):=hid (qc8 cP.out _ _ iS);have bW:Hid ((S.set (o+D.length) s).length=R.length):=hid (by rw[List.length_set];exact aT.out);have aK:Hid (qfd g w (wr.setCell ⟨g,o+D.length,none⟩ (.int .u64 (s:Nat)))):=hid (HB.out.set _ _);clear eQ eT bQ yW iS eF cM cI aS aT cP HO' HB;go_wp2_with fail;go_ret;exact⟨⟨_,c2,rfl,iE.out,bW.out,cF.out,oB.out s,cE.out s,dT.out⟩,aK.out⟩
theorem qsv(g o cw base:Nat)(pd:Option Addr)(cd:Nat)(R D:List Nat)(w:World)(hR:∀d ∈ R,d<B64)(ho:Own w g R.length (wd R))(hD:∀w',Below base w w'→Wds w' (.slice pd D.length cd) D)(kI:o+D.length<R.length)
  (aE:R.length≤Cap+Cap) (hg:base≤g):
  Calls Tryz.prog 163 #[.slice (some ⟨g,o,none⟩) (D.length+1) cw,.slice pd D.length cd] w fun e w'=>
   (∃(R':List Nat) (m:Nat),e = .returned (.int .u64 m)∧m≤1∧R'.length=R.length∧(∀d ∈ R',d<B64)∧Own w' g R'.length (wd R')∧(∀i,i<o∨o+D.length<i→R'.getD i 0=R.getD i 0)
    ∧ seg R' o (D.length+1)+B64^(D.length+1)*m=seg R o (D.length+1)+val B64 D)∧qfd g w w':=by
 have rJ:R.length<4611686018427387904:=by unfold Cap at aE;omega
 have hDl:=(hD w (qaa _ _)).1;have HR:=hid hR;have HO:=hid ho;have HD:=hid hD;have pJ:=hid hDl;have HG:=hid hg;have sX:=hid kI;have Na:D.length<4611686018427387904:=by omega
 clear hR ho hD hDl hg aE kI rJ;go_enter Tryz.func163,Tryz.ntmps163;go_wp2_with fail
 go_loopw [5,10] (fun c i wr=>∃k cc:Nat,∃S:List Nat,k≤D.length∧i = .int .i64 k∧c = .int .u64 cc∧cc≤1∧Hid (S.length=R.length)∧Hid (∀d ∈ S,d<B64)∧Hid (Own wr g S.length (wd S))∧Hid (∀j,j<o∨o+k≤j→S.getD j 0=R.getD j 0)∧Hid (seg S o k+B64^k*cc=seg R o k+low B64 D k)∧Hid (qfd g w wr)) (fun _ i _=>D.length-(intOf i).toNat)
 case atStart=>exact⟨0,0,R,Nat.zero_le _,rfl,rfl,by omega,hid rfl,HR,HO,hid (fun _ _=>rfl),hid (by simp[qrg]),hid (qfd.refl _ _)⟩
 case round=>
  obtain⟨k,cc,S,hk,rfl,rfl,fR,aT,cP,HO',aS,cI,HB⟩:=hrel;by_cases hkd:k<D.length
  ·obtain⟨_,p',c',he,_,_,aA⟩:=HD.out wr (HB.out.below HG.out)
   cases he
   rcases aA with h0|⟨bd,od,rfl,aB⟩
   ·omega
   have hd:=aB k hkd;have cM:o+k<S.length:=by rw[aT.out];have:=sX.out;omega
   obtain⟨hg,mJ⟩:=HO'.out.2 (o+k) cM;have bQ:=aS.out (o+k) (.inr (qac _));unfold wd at hd hg;rw[bQ] at hg;have uG:=qaz (b:=B64) (by rw[qai];omega) pJ.out k;have eF:=qaz (b:=B64) (by rw[qai];omega) HR.out (o+k);have eT:=qew R o k;have eS:=qa0 B64 D k;have eQ:=fun x=>qgp S o k x cM;have oB:Hid (∀v:Nat,Own (wr.setCell ⟨g,o+k,none⟩ (.int .u64 v)) g (S.set (o+k) v).length (wd (S.set (o+k) v))):=hid fun v=>HO'.out.setWord (o+k) cM v
   have cE:Hid (∀v j,j<o∨o+(k+1)≤j→(S.set (o+k) v).getD j 0=R.getD j 0):=hid fun v j hj=>by
    rw[qa6 _ _ _ _ (by omega)];exact aS.out j (by omega)
   generalize D.getD k 0=d at *;generalize R.getD (o+k) 0=x at *;have nU:=fun w=>qiz x d cc fR w;have yW:=qws x d cc;have iS:=qnv x d cc;have hh:=qra eF uG fR;generalize qgy x d cc=s at *;generalize qiy x d cc=c2 at *
   have dT:Hid (seg (S.set (o+k) s) o (k+1)+B64^(k+1)*c2=seg R o (k+1)+low B64 D (k+1)):=by
    refine hid ?_;rw[eQ s,eT,eS,Nat.pow_succ];exact qsu cI.out yW
   have cF:Hid (∀d ∈ S.set (o+k) s,d<B64):=hid (qc8 cP.out _ _ iS);have bW:Hid ((S.set (o+k) s).length=R.length):=hid (by rw[List.length_set];exact aT.out);have aK:Hid (qfd g w (wr.setCell ⟨g,o+k,none⟩ (.int .u64 (s:Nat)))):=hid (HB.out.set _ _);clear eQ eT eS bQ yW iS eF uG cM aB cI aS aT cP HO' HB;go_wp2_with fail;go_roundw
   case rel=>exact⟨k+1,c2,_,by omega,by go_num,rfl,hh,bW,cF,hid (oB.out s),hid (cE.out s),dT,aK⟩
   case measure=>simp[intOf];omega
  ·have e:k=D.length:=by omega
   subst e;have cM:o+D.length<S.length:=by rw[aT.out];exact sX.out
   obtain⟨hg,mJ⟩:=HO'.out.2 (o+D.length) cM;have bQ:=aS.out (o+D.length) (.inr (qac _));unfold wd at hg;rw[bQ] at hg;have eF:=qaz (b:=B64) (by rw[qai];omega) HR.out (o+D.length);have eT:=qew R o D.length;have eQ:=fun x=>qgp S o D.length x cM;have oB:Hid (∀v:Nat,Own (wr.setCell ⟨g,o+D.length,none⟩ (.int .u64 v)) g (S.set (o+D.length) v).length (wd (S.set (o+D.length) v))):=hid fun v=>HO'.out.setWord (o+D.length) cM v
   have cE:Hid (∀v j,j<o∨o+D.length<j→(S.set (o+D.length) v).getD j 0=R.getD j 0):=hid fun v j hj=>by
    rw[qa6 _ _ _ _ (by omega)];exact aS.out j (by omega)
   generalize R.getD (o+D.length) 0=x at *;have nU:∀w,(callFunc 152 #[.int .u64 x,.int .u64 0,.int .u64 cc]).run Tryz.prog w = .ok (.value (.tuple #[.int .u64 (qgy x 0 cc:Nat),.int .u64 (qiy x 0 cc:Nat)])) w:=fun w=>qiz x 0 cc fR w;have yW:=qws x 0 cc;have iS:=qnv x 0 cc;have iE:=hid (qra (y:=0) eF (by rw[qai];omega) fR);generalize qgy x 0 cc=s at *;generalize qiy x 0 cc=c2 at *
   have dT:Hid (seg (S.set (o+D.length) s) o (D.length+1)+B64^(D.length+1)*c2=seg R o (D.length+1)+val B64 D):=by
    refine hid ?_;have h1:=cI.out;rw[qbi B64 D _ (qac _)] at h1;rw[eQ s,eT,Nat.pow_succ];have:=qsu (d:=0) h1 yW;rw[Nat.mul_zero,Nat.add_zero] at this;exact this
   have cF:Hid (∀d ∈ S.set (o+D.length) s,d<B64):=hid (qc8 cP.out _ _ iS);have bW:Hid ((S.set (o+D.length) s).length=R.length):=hid (by rw[List.length_set];exact aT.out);have aK:Hid (qfd g w (wr.setCell ⟨g,o+D.length,none⟩ (.int .u64 (s:Nat)))):=hid (HB.out.set _ _);clear eQ eT bQ yW iS eF cM cI aS aT cP HO' HB;go_wp2_with fail;go_ret;exact⟨⟨_,c2,rfl,iE.out,bW.out,cF.out,oB.out s,cE.out s,dT.out⟩,aK.out⟩
theorem qdn{s:Nat}(hs:s≤64):B64=2^(64-s)*2^s:=by
 rw[←Nat.pow_add,show 64-s+s=64 from by omega];rfl
theorem q0w(x s:Nat)(hs:s≤64):x*2^s % B64=2^s*(x % 2^(64-s)):=by
 rw[qdn hs,Nat.mul_mod_mul_right,Nat.mul_comm]
theorem q0x(x s lo:Nat)(hs:s<64)(fO:lo<2^s):
  bits .or .u64 (IntKind.u64.wrap ((x:Int)*2^s)) (lo:Int)=((x*2^s % B64+lo:Nat):Int)∧x*2^s % B64+lo<B64:=by
 have h1:x % 2^(64-s)<2^(64-s):=Nat.mod_lt _ (Nat.two_pow_pos _)
 have h2:2^s*(x % 2^(64-s))+lo<B64:=by
  have:2^s*(x % 2^(64-s)+1)≤2^s*2^(64-s):=Nat.mul_le_mul_left _ h1;rw[Nat.mul_add,Nat.mul_comm (2^s) (2^(64-s)),←qdn (by omega)] at this;omega
 have hB:=qai;rw[qrf,q0w x s (by omega)];refine⟨?_,h2⟩;rw[bits_or_u64_nat _ _ (by omega) (by omega),Nat.two_pow_add_eq_or_of_lt fO]
theorem q9b(x s H:Nat)(hs:s<64)(hx:x<B64)(hH:H<2^s):
  bits .or .u64 ((x:Int)/2^s) ((2^(64-s)*H:Nat):Int)=((x/2^s+2^(64-s)*H:Nat):Int)∧x/2^s+2^(64-s)*H<B64:=by
 have h1:x/2^s<2^(64-s):=by
  rw[Nat.div_lt_iff_lt_mul (Nat.two_pow_pos _),←qdn (by omega)];exact hx
 have h2:x/2^s+2^(64-s)*H<B64:=by
  have:2^(64-s)*(H+1)≤2^(64-s)*2^s:=Nat.mul_le_mul_left _ hH;rw[Nat.mul_add,←qdn (by omega)] at this;omega
 refine⟨?_,h2⟩;rw[show(x:Int)/2^s=((x/2^s:Nat):Int) from by simp];rw[bits_or_u64_nat _ _ (Nat.lt_of_le_of_lt (Nat.le_add_right _ _) h2) (Nat.lt_of_le_of_lt (Nat.le_add_left _ _) h2),Nat.or_comm,←Nat.two_pow_add_eq_or_of_lt h1,Nat.add_comm]
theorem q4q{B p S L lo hi x y t:Nat}(h:S+p*lo=L*t)(hy:y+B*hi=x*t+lo):S+p*y+p*B*hi=(L+p*x)*t:=by
 have:=congrArg (p * ·) hy;simp only[Nat.mul_add] at this;rw[Nat.mul_assoc p B,Nat.add_mul,Nat.mul_assoc p x];omega
theorem qk7(v:Value)(l:List Nat)(s:Nat)(w:World)(h:Wds w v l)(hs:s<64)(aQ:l.length≤Cap):
  Calls Tryz.prog 160 #[v,.int .i64 (s:Nat)] w fun e w'=>
   (∃R:List Nat,e = .returned (.slice (some ⟨w.heap.size,0,none⟩) (l.length+1) (l.length+1))∧R.length=l.length+1∧(∀d ∈ R,d<B64)∧Own w' w.heap.size R.length (wd R)∧val B64 R=val B64 l*2^s)∧Below w.heap.size w w':=by
 obtain⟨hl,p,c,rfl,bO,bG,aA⟩:=h;have lO:=fun w=>qf8 (l.length+1) ((l.length:Int)+1) (by omega) (by have:=qkh;omega) w;have rJ:l.length<4611686018427387904:=by unfold Cap at aQ;omega
 have HL:=hid hl;have sY:Hid (l.length=0∨∃b o,p=some ⟨b,o,none⟩∧qmc w b o l.length (wd l)):=aA;clear hl bO bG aQ aA;go_enter Tryz.func160,Tryz.ntmps160;go_wp2_with fail;have aU:=qg6 w (l.length+1);have bK:Below w.heap.size w (w.alloc (qbk (l.length+1))):=qad _ _;have aX:Hid ((List.replicate (l.length+1) 0).length=l.length+1):=hid (by simp);have yX:=hid (qcf (b:=B64) (by rw[qai];omega) (l.length+1));have bF:Hid (Own (w.alloc (qbk (l.length+1))) w.heap.size (List.replicate (l.length+1) 0).length (wd (List.replicate (l.length+1) 0))):=by refine hid ?_;rw[aX.out];exact aU
 have aG:=hid bK;clear aU bK;generalize List.replicate (l.length+1) 0=s0 at *;generalize w.alloc (qbk (l.length+1))=w1 at *
 go_loopw [6,15] (fun c i wr=>∃k lo:Nat,∃S:List Nat,k≤l.length∧i = .int .i64 k∧c = .int .u64 lo∧Hid (lo<2^s)∧Hid (S.length=l.length+1)∧Hid (∀d ∈ S,d<B64)∧Hid (Own wr w.heap.size S.length (wd S))∧Hid (low B64 S k+B64^k*lo=low B64 l k*2^s)∧Hid (Below w.heap.size w wr)) (fun _ i _=>l.length-(intOf i).toNat)
 case atStart=>exact⟨0,0,s0,Nat.zero_le _,rfl,rfl,hid (Nat.two_pow_pos _),aX,yX,bF,hid (by simp),aG⟩
 case round=>
  obtain⟨k,lo,S,hk,rfl,rfl,qT,aT,cP,HO',cI,HB⟩:=hrel;clear aX yX bF aG;by_cases cT:k<l.length
  ·rcases sY.out with h0|⟨bd,od,rfl,aB⟩
   ·omega
   have hx:=(aB.later HB.out) k cT;have cM:k<S.length:=by rw[aT.out];omega
   obtain⟨hg,mJ⟩:=HO'.out.2 k cM;unfold wd at hx hg;have eF:=qaz (b:=B64) (by rw[qai];omega) HL.out k;have eS:=qa0 B64 l k;have eQ:=fun x=>qb3 B64 S k x cM;have oB:Hid (∀v:Nat,Own (wr.setCell ⟨w.heap.size,k,none⟩ (.int .u64 v)) w.heap.size (S.set k v).length (wd (S.set k v))):=hid fun v=>HO'.out.setWord k cM v;generalize l.getD k 0=x at *;generalize S.getD k 0=old at *;obtain⟨yS,kY⟩:=q0x x s lo hs qT.out;have sJ:=qog (s:=s) (lo:=x) (by omega)
   have sF:x/2^(64-s)<2^s:=by
    rw[Nat.div_lt_iff_lt_mul (Nat.two_pow_pos _),Nat.mul_comm,←qdn (by omega)];exact eF
   have hsh:(x:Int)/2^(64-s)=((x/2^(64-s):Nat):Int):=by simp
   have hy:x*2^s % B64+lo+B64*(x/2^(64-s))=x*2^s+lo:=by
    have hB:B64=2^64:=rfl;rw[hB,Nat.mul_comm (2^64)];omega
   generalize x*2^s % B64+lo=y at *;generalize x/2^(64-s)=hi at *
   have dT:Hid (low B64 (S.set k y) (k+1)+B64^(k+1)*hi=low B64 l (k+1)*2^s):=by
    refine hid ?_;rw[eQ y,eS,Nat.pow_succ];exact q4q cI.out hy
   have cF:Hid (∀d ∈ S.set k y,d<B64):=hid (qc8 cP.out _ _ kY);have bW:Hid ((S.set k y).length=l.length+1):=hid (by rw[List.length_set];exact aT.out);have Eo:=hid sF;have aK:Hid (Below w.heap.size w (wr.setCell ⟨w.heap.size,k,none⟩ (.int .u64 (y:Nat)))):=hid (HB.out.setCell (qac _) _);clear eQ eS sJ sF hy kY eF cM aB cI aT cP HO' HB;go_wp2_with fail;go_roundw
   case rel=>exact⟨k+1,hi,_,by omega,by go_num,rfl,Eo,bW,cF,hid (oB.out y),dT,aK⟩
   case measure=>simp[intOf];omega
  ·have e:k=l.length:=by omega
   subst e;have cM:l.length<S.length:=by rw[aT.out];omega
   obtain⟨hg,mJ⟩:=HO'.out.2 l.length cM
   have fO:lo<B64:=by
    have h1:=qT.out;have h2:(2:Nat)^s≤2^64:=Nat.pow_le_pow_right (by omega) (by omega);have hB:B64=2^64:=rfl;omega
   have oB:Hid (Own (wr.setCell ⟨w.heap.size,l.length,none⟩ (.int .u64 lo)) w.heap.size (S.set l.length lo).length (wd (S.set l.length lo))):=hid (HO'.out.setWord l.length cM lo);have bW:Hid ((S.set l.length lo).length=l.length+1):=hid (by rw[List.length_set];exact aT.out)
   have HV:Hid (val B64 (S.set l.length lo)=val B64 l*2^s):=by
    refine hid ?_;rw[←qbi B64 (S.set l.length lo) (l.length+1) (by rw[bW.out];exact qac _),qb3 B64 S l.length lo cM,cI.out,qbi B64 l _ (qac _)]
   have cF:Hid (∀d ∈ S.set l.length lo,d<B64):=hid (qc8 cP.out _ _ fO);have aK:Hid (Below w.heap.size w (wr.setCell ⟨w.heap.size,l.length,none⟩ (.int .u64 (lo:Nat)))):=hid (HB.out.setCell (qac _) _);generalize wd S l.length=old at *;clear fO cM cI aT cP HO' HB;go_wp2_with fail;go_ret;exact⟨⟨_,rfl,bW.out,cF.out,oB.out,HV.out⟩,aK.out⟩
theorem q4r{B t u H Hq Hr x:Nat}(ht:0<t)(hB:B=u*t)(h1:H/t=Hq)(h2:H % t=Hr):(x+B*H)/t=x/t+u*Hr+B*Hq∧(x+B*H) % t=x % t:=by
 have e:x+B*H=x+t*(u*Hr+B*Hq):=by
  have:=Nat.div_add_mod H t;rw[h1,h2] at this;rw[←this,hB]
  grind
 rw[e,Nat.add_mul_div_left _ _ ht,Nat.add_mul_mod_self_left];omega
theorem qom(v:Value)(l:List Nat)(s:Nat)(w:World)(h:Wds w v l)(hs:s<64)(aQ:l.length≤Cap):
  Calls Tryz.prog 164 #[v,.int .i64 (s:Nat)] w fun e w'=>(∃g cap,e = .returned (.slice (some ⟨g,0,none⟩) (wl (val B64 l/2^s)) cap)∧qdm w' w.heap.size g cap (qan B64 (val B64 l/2^s)))∧Below w.heap.size w w':=by
 obtain⟨hl,p,c,rfl,bO,bG,aA⟩:=h;have lO:=fun w=>qf8 l.length (l.length:Int) rfl (by have:=qkh;omega) w;have rJ:l.length<4611686018427387904:=by unfold Cap at aQ;omega
 have HL:=hid hl;have sY:Hid (l.length=0∨∃b o,p=some ⟨b,o,none⟩∧qmc w b o l.length (wd l)):=aA;clear hl bO bG aQ aA;go_enter Tryz.func164,Tryz.ntmps164;go_wp2_with fail;have aU:=qg6 w l.length;have bK:Below w.heap.size w (w.alloc (qbk l.length)):=qad _ _;have aX:Hid ((List.replicate l.length 0).length=l.length):=hid (by simp);have yX:=hid (qcf (b:=B64) (by rw[qai];omega) l.length);have bF:Hid (Own (w.alloc (qbk l.length)) w.heap.size (List.replicate l.length 0).length (wd (List.replicate l.length 0))):=by refine hid ?_;rw[aX.out];exact aU
 have aG:=hid bK;have xZ:=hid (qyk w l.length (by unfold maxLen;omega));have HK0:=hid (qns.refl (w.alloc (qbk l.length)));clear aU bK;generalize List.replicate l.length 0=s0 at *;generalize w.alloc (qbk l.length)=w1 at *
 go_loopw [6,7] (fun c i wr=>∃k H:Nat,∃S:List Nat,k≤l.length∧i = .int .i64 ((k:Int)-1)∧c = .int .u64 (2^(64-s)*H:Nat)∧Hid (H=qbn B64 l k % 2^s)∧Hid (S.length=l.length)∧Hid (∀d ∈ S,d<B64)∧Hid (Own wr w.heap.size S.length (wd S))∧Hid (qbn B64 l k/2^s=qbn B64 S k)∧Hid (Below w.heap.size w wr)∧Hid (qns w1 wr)) (fun _ i _=>(intOf i+1).toNat)
 case atStart=>exact⟨l.length,0,s0,qac _,rfl,by simp,hid (by rw[qdj _ _ _ (qac _),Nat.zero_mod]),aX,yX,bF,hid (by rw[qdj _ _ _ (qac _),qdj _ _ _ (by rw[aX.out];exact qac _),Nat.zero_div]),aG,HK0⟩
 case round=>
  obtain⟨k,H,S,hk,rfl,rfl,HH,aT,cP,HO',cI,HB,HK⟩:=hrel;have HLS:=hid aX.out;clear aX yX bF aG HK0;rcases k with _|j
  ·have hv:val B64 S=val B64 l/2^s:=by have:=cI.out;rw[high_zero,high_zero] at this;exact this.symm
   have HT:=hid (qg8 w.heap.size w.heap.size l.length l.length (val B64 l/2^s) S wr (xZ.out.after HK.out (by rw[aT.out,HLS.out]) cP.out HO'.out) aT.out hv);clear hv;generalize 2^(64-s)*H=inc at *;go_wp2_with fail;refine HT.out.mono ?_;rintro e w' ⟨⟨rfl,hn⟩,hw'⟩;subst hw';go_wp2_with fail;go_ret;exact⟨⟨_,_,rfl,hn⟩,HB.out⟩
  ·have e1:((j+1:Nat):Int)-1=(j:Int):=by omega
   simp only[e1];rcases sY.out with h0|⟨bd,od,rfl,aB⟩
   ·omega
   have hx:=(aB.later HB.out) j (by omega);have pK:bd<w.heap.size:=qae w _ (aB j (by omega));have cM:j<S.length:=by rw[aT.out];omega
   obtain⟨hg,mJ⟩:=HO'.out.2 j cM;unfold wd at hx hg;have eF:=qaz (b:=B64) (by rw[qai];omega) HL.out j;have qS:=qbx B64 l j;have hHlt:H<2^s:=by rw[HH.out];exact Nat.mod_lt _ (Nat.two_pow_pos _)
   have xY:∀q,qbn B64 (S.set j q) j=q+B64*qbn B64 S (j+1):=fun q=>by
    rw[qbx,qcl _ _ _ cM];unfold qbn;rw[List.drop_set_of_lt (by omega)]
   have oB:Hid (∀v:Nat,Own (wr.setCell ⟨w.heap.size,j,none⟩ (.int .u64 v)) w.heap.size (S.set j v).length (wd (S.set j v))):=hid fun v=>HO'.out.setWord j cM v;generalize l.getD j 0=x at *;generalize S.getD j 0=old at *;obtain⟨yS,kY⟩:=q9b x s H hs eF hHlt
   have hinc:IntKind.u64.wrap ((x:Int)*2^(64-s))=((2^(64-s)*(x % 2^s):Nat):Int):=by
    rw[qrf,q0w x (64-s) (by omega),show 64-(64-s)=s from by omega]
   obtain⟨Co,He⟩:=q4r (x:=x) (Nat.two_pow_pos s) (qdn (s:=s) (by omega)) cI.out HH.out.symm;rw[←qS] at Co He;rw[←xY] at Co;have HST2:Hid (x % 2^s=qbn B64 l j % 2^s):=hid He.symm;have HST1:=hid Co
   have qP:∀u,(wr.setCell ⟨w.heap.size,j,none⟩ u).cell? ⟨bd,od+j,none⟩=some (.int .u64 x):=fun u=>by
    rw[World.cell?_setCell_other _ _ _ _ (by intro h';injection h' with h' _;omega)];exact hx
   have cF:Hid (∀d ∈ S.set j (x/2^s+2^(64-s)*H),d<B64):=hid (qc8 cP.out _ _ kY);have bW:∀q,Hid ((S.set j q).length=l.length):=fun q=>hid (by rw[List.length_set];exact aT.out);have Nc:Hid (∀q:Nat,qns w1 (wr.setCell ⟨w.heap.size,j,none⟩ (.int .u64 q))):=hid fun q=>HK.out.trans (qns.setCell _ _ _ _);have aK:Hid (∀q:Nat,Below w.heap.size w (wr.setCell ⟨w.heap.size,j,none⟩ (.int .u64 q))):=hid fun q=>HB.out.setCell (qac _) _;clear xY qS hHlt Co He kY eF cM aB cI aT cP HO' HB HH pK;generalize x/2^s+2^(64-s)*H=y at *;generalize 2^(64-s)*H=inc at *;generalize x % 2^s=H' at *;generalize Nd:2^(64-s)*H'=inc' at *;have gR:=hid Nd;clear Nd;go_wp2_with fail;go_roundw
   case rel=>exact⟨j,H',_,by omega,by go_num,by rw[gR.out],HST2,bW y,cF,hid (oB.out y),HST1,hid (aK.out y),hid (Nc.out y)⟩
   case measure=>simp[intOf]
end Go.Proofs.YtlkdlffhmakbgaaGreatDoor
