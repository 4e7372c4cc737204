/- takeTimes and giveBack: a window of a row of words, from which a multiple of the divisor is subtracted, and to which the divisor is added. -/
import Derived.Test.YtmcfcpgglfimjaaGreatDoorMDivWord
import Derived.Test.YtmcfcpgglfimjaaGreatDoorMMul
set_option linter.all false
namespace Go.Proofs.YtmcfcpgglfimjaaGreatDoor
open Go.RowKit
set_option maxRecDepth 100000
set_option maxHeartbeats 1000000
def seg(R:List Nat)(o n:Nat):Nat:=low B64 (R.drop o) n
theorem qrc(R:List Nat)(o:Nat):seg R o 0=0:=by simp[seg]
theorem qeq(R:List Nat)(o n:Nat):seg R o (n+1)=seg R o n+B64^n*R.getD (o+n) 0:=by
 unfold seg;rw[qa0];simp
theorem qys(R:List Nat)(o n i x:Nat)(h:o+n≤i):seg (R.set i x) o n=seg R o n:=by
 induction n with
 | zero=>simp[seg]
 | succ n ih=>rw[qeq,qeq,ih (by omega),qa3 _ _ _ _ (by omega)]
theorem qgu(R:List Nat)(o n x:Nat)(h:o+n<R.length):seg (R.set (o+n) x) o (n+1)=seg R o n+B64^n*x:=by
 rw[qeq,qys _ _ _ _ _ (qac _),qck _ _ _ h]
theorem q03(R:List Nat)(o n:Nat)(h:∀d ∈ R,d<B64):seg R o n<B64^n:=qm3 _ _ _ (by rw[qaj];omega) (fun d hd=>h d (List.mem_of_mem_drop hd))
theorem q04{B x d f lo hi z s c:Nat}(hx:x<B)(hd:d<B)(hf:f<B)(hz:z<B)(hs:s<B)(h1:lo+B*hi=d*f+z)(h2:s+lo+0=x+B*c):
  hi+c<B∧s+d*f+z=x+B*(hi+c):=by
 have e:s+d*f+z=x+B*(hi+c):=by rw[Nat.mul_add];omega
 refine⟨?_,e⟩;rcases Nat.lt_or_ge (hi+c) B with h|h
 ·exact h
 ·have h3:B*B≤B*(hi+c):=Nat.mul_le_mul_left B h
  have h4:d*f≤(B-1)*(B-1):=Nat.mul_le_mul (by omega) (by omega);obtain⟨b,rfl⟩:∃b,B=b+1:=⟨B-1,by omega⟩;simp only[Nat.add_sub_cancel] at h4;have e2:(b+1)*(b+1)=b*b+2*b+1:=by grind
  omega
theorem q05{B p S S0 L m m' x d f s:Nat}(h:S+f*L=S0+p*m)(hs:s+d*f+m=x+B*m'):S+p*s+f*(L+p*d)=S0+p*x+p*B*m':=by
 have:=congrArg (p * ·) hs;simp only[Nat.mul_add] at this;rw[Nat.mul_add,Nat.mul_assoc p B,show f*(p*d)=p*(d*f) from by grind];omega
theorem qsy{B p S S0 L c c' x d s:Nat}(h:S+p*c=S0+L)(hs:s+B*c'=x+d+c):S+p*s+p*B*c'=S0+p*x+(L+p*d):=by
 have:=congrArg (p * ·) hs;simp only[Nat.mul_add] at this;rw[Nat.mul_assoc p B];omega
theorem qrd(g o cw f base:Nat)(pd:Option Addr)(cd:Nat)(R D:List Nat)(w:World)(hR:∀d ∈ R,d<B64)(ho:Own w g R.length (wd R))(hD:∀w',Below base w w'→Wds w' (.slice pd D.length cd) D)(jW:o+D.length<R.length)
  (aE:R.length≤Cap+Cap) (hg:base≤g) (hf:f<B64):
  Calls Tryz.prog 154 #[.slice (some ⟨g,o,none⟩) (D.length+1) cw,.slice pd D.length cd,.int .u64 f] w fun e w'=>
   (∃(R':List Nat) (m:Nat),e = .returned (.int .u64 m)∧m≤1∧R'.length=R.length∧(∀d ∈ R',d<B64)∧Own w' g R'.length (wd R')∧(∀i,i<o∨o+D.length<i→R'.getD i 0=R.getD i 0)
    ∧ seg R' o (D.length+1)+f*val B64 D=seg R o (D.length+1)+B64^(D.length+1)*m)∧qfb g w w':=by
 have qN:R.length<4611686018427387904:=by unfold Cap at aE;omega
 have hDl:=(hD w (qaa _ _)).1;have HR:=hid hR;have HO:=hid ho;have HD:=hid hD;have qV:=hid hDl;have HG:=hid hg;have HF:=hid hf;have sJ:=hid jW;have Mh:D.length<4611686018427387904:=by omega
 clear hR ho hD hDl hg aE hf jW qN;go_enter Tryz.func154,Tryz.ntmps154;go_wp2_with fail
 go_loopw [7,17] (fun c i wr=>∃k more:Nat,∃S:List Nat,k≤D.length∧i = .int .i64 k∧c = .int .u64 more∧Hid (more<B64)∧Hid (S.length=R.length)∧Hid (∀d ∈ S,d<B64)∧Hid (Own wr g S.length (wd S))∧Hid (∀j,j<o∨o+k≤j→S.getD j 0=R.getD j 0)∧Hid (seg S o k+f*low B64 D k=seg R o k+B64^k*more)∧Hid (qfb g w wr)) (fun _ i _=>D.length-(intOf i).toNat)
 case atStart=>exact⟨0,0,R,Nat.zero_le _,rfl,rfl,hid (by rw[qaj];omega),hid rfl,HR,HO,hid (fun _ _=>rfl),hid (by simp[qrc]),hid (qfb.refl _ _)⟩
 case round=>
  obtain⟨k,more,S,hk,rfl,rfl,HM,aU,cL,HO',aS,cG,HB⟩:=hrel;by_cases hkd:k<D.length
  ·obtain⟨_,p',c',he,_,_,aA⟩:=HD.out wr (HB.out.below HG.out)
   cases he
   rcases aA with h0|⟨bd,od,rfl,aB⟩
   ·omega
   have hd:=aB k hkd;have cV:o+k<S.length:=by rw[aU.out];have:=sJ.out;omega
   obtain⟨hg,lO⟩:=HO'.out.2 (o+k) cV;have bN:=aS.out (o+k) (.inr (qac _));unfold wd at hd hg;rw[bN] at hg;have tP:=qaz (b:=B64) (by rw[qaj];omega) qV.out k;have eP:=qaz (b:=B64) (by rw[qaj];omega) HR.out (o+k);have Cz:=qq6 (D.getD k 0) f more;have Mi:=qkf (D.getD k 0) f more;have fM:=qeq R o k;have eQ:=qa0 B64 D k;have eU:Hid (∀w,Calls Tryz.prog 134 #[.int .u64 (D.getD k 0:Nat),.int .u64 f,.int .u64 more] w fun e w'=>e = .returned (.tuple #[.int .u64 (qit (D.getD k 0) f more:Nat),.int .u64 (qiu (D.getD k 0) f more:Nat)])∧w'=w):=fun w=>qcb _ _ _ tP HF.out HM.out w;have eN:=fun x=>qgu S o k x cV;have nO:Hid (∀v:Nat,Own (wr.setCell ⟨g,o+k,none⟩ (.int .u64 v)) g (S.set (o+k) v).length (wd (S.set (o+k) v))):=hid fun v=>HO'.out.setWord (o+k) cV v
   have bW:Hid (∀v j,j<o∨o+(k+1)≤j→(S.set (o+k) v).getD j 0=R.getD j 0):=hid fun v j hj=>by
    rw[qa3 _ _ _ _ (by omega)];exact aS.out j (by omega)
   generalize D.getD k 0=d at *;generalize R.getD (o+k) 0=x at *;generalize qit d f more=lo at *;generalize qiu d f more=hi at *;have nF:∀w,(callFunc 187 #[.int .u64 x,.int .u64 lo,.int .u64 0]).run Tryz.prog w = .ok (.value (.tuple #[.int .u64 (qht x lo 0:Nat),.int .u64 (ql6 x lo 0:Nat)])) w:=fun w=>qi1 x lo 0 (by omega) w;have yA:=qso (c:=0) eP Mi (by omega);have iG:=qk3 x lo 0;generalize qht x lo 0=s at *;generalize ql6 x lo 0=c2 at *;obtain⟨jC,bX⟩:=q04 eP tP HF.out HM.out iG Cz yA
   have dP:Hid (seg (S.set (o+k) s) o (k+1)+f*low B64 D (k+1)=seg R o (k+1)+B64^(k+1)*(hi+c2)):=by
    refine hid ?_;rw[eN s,fM,eQ,Nat.pow_succ];exact q05 cG.out bX
   have HW:Hid (IntKind.u64.wrap ((hi:Int)+(c2:Int))=((hi+c2:Nat):Int)):=hid (by rw[qww];exact qbn _ jC);have bY:Hid (∀d ∈ S.set (o+k) s,d<B64):=hid (qc7 cL.out _ _ iG);have cE:Hid ((S.set (o+k) s).length=R.length):=hid (by rw[List.length_set];exact aU.out);have xS:=hid jC;have aK:Hid (qfb g w (wr.setCell ⟨g,o+k,none⟩ (.int .u64 (s:Nat)))):=hid (HB.out.set _ _);clear eN fM eQ bN yA iG jC bX Cz Mi eP tP cV aB cG aS aU cL HO' HB;go_wp2_with fail;refine(eU.out _).mono ?_;rintro e w' ⟨rfl,hw'⟩;rw[hw'];clear hw' eU;go_wp2_with fail;go_roundw
   case rel=>exact⟨k+1,hi+c2,_,by omega,by go_num,by rw[HW.out],xS,cE,bY,hid (nO.out s),hid (bW.out s),dP,aK⟩
   case measure=>simp[intOf];omega
  ·have e:k=D.length:=by omega
   subst e;have cV:o+D.length<S.length:=by rw[aU.out];exact sJ.out
   obtain⟨hg,lO⟩:=HO'.out.2 (o+D.length) cV;have bN:=aS.out (o+D.length) (.inr (qac _));unfold wd at hg;rw[bN] at hg;have eP:=qaz (b:=B64) (by rw[qaj];omega) HR.out (o+D.length);have fM:=qeq R o D.length;have eN:=fun x=>qgu S o D.length x cV;have nO:Hid (∀v:Nat,Own (wr.setCell ⟨g,o+D.length,none⟩ (.int .u64 v)) g (S.set (o+D.length) v).length (wd (S.set (o+D.length) v))):=hid fun v=>HO'.out.setWord (o+D.length) cV v
   have bW:Hid (∀v j,j<o∨o+D.length<j→(S.set (o+D.length) v).getD j 0=R.getD j 0):=hid fun v j hj=>by
    rw[qa3 _ _ _ _ (by omega)];exact aS.out j (by omega)
   generalize R.getD (o+D.length) 0=x at *;have nF:∀w,(callFunc 187 #[.int .u64 x,.int .u64 more,.int .u64 0]).run Tryz.prog w = .ok (.value (.tuple #[.int .u64 (qht x more 0:Nat),.int .u64 (ql6 x more 0:Nat)])) w:=fun w=>qi1 x more 0 (by omega) w;have yA:=qso (c:=0) eP HM.out (by omega);have iG:=qk3 x more 0;have gS:=hid (qnq x more 0);generalize qht x more 0=s at *;generalize ql6 x more 0=c2 at *
   have dP:Hid (seg (S.set (o+D.length) s) o (D.length+1)+f*val B64 D=seg R o (D.length+1)+B64^(D.length+1)*c2):=by
    refine hid ?_;have h1:=cG.out;rw[qbf B64 D _ (qac _)] at h1;rw[eN s,fM,Nat.pow_succ,Nat.mul_assoc];have h2:=congrArg (B64^D.length * ·) yA;simp only[Nat.mul_add,Nat.add_zero] at h2;omega
   have bY:Hid (∀d ∈ S.set (o+D.length) s,d<B64):=hid (qc7 cL.out _ _ iG);have cE:Hid ((S.set (o+D.length) s).length=R.length):=hid (by rw[List.length_set];exact aU.out);have aK:Hid (qfb g w (wr.setCell ⟨g,o+D.length,none⟩ (.int .u64 (s:Nat)))):=hid (HB.out.set _ _);clear eN fM bN yA iG eP cV cG aS aU cL HO' HB;go_wp2_with fail;go_ret;exact⟨⟨_,c2,rfl,gS.out,cE.out,bY.out,nO.out s,bW.out s,dP.out⟩,aK.out⟩
theorem qsz(g o cw base:Nat)(pd:Option Addr)(cd:Nat)(R D:List Nat)(w:World)(hR:∀d ∈ R,d<B64)(ho:Own w g R.length (wd R))(hD:∀w',Below base w w'→Wds w' (.slice pd D.length cd) D)(jW:o+D.length<R.length)
  (aE:R.length≤Cap+Cap) (hg:base≤g):
  Calls Tryz.prog 155 #[.slice (some ⟨g,o,none⟩) (D.length+1) cw,.slice pd D.length cd] w fun e w'=>
   (∃(R':List Nat) (m:Nat),e = .returned (.int .u64 m)∧m≤1∧R'.length=R.length∧(∀d ∈ R',d<B64)∧Own w' g R'.length (wd R')∧(∀i,i<o∨o+D.length<i→R'.getD i 0=R.getD i 0)
    ∧ seg R' o (D.length+1)+B64^(D.length+1)*m=seg R o (D.length+1)+val B64 D)∧qfb g w w':=by
 have qN:R.length<4611686018427387904:=by unfold Cap at aE;omega
 have hDl:=(hD w (qaa _ _)).1;have HR:=hid hR;have HO:=hid ho;have HD:=hid hD;have qV:=hid hDl;have HG:=hid hg;have sJ:=hid jW;have Mh:D.length<4611686018427387904:=by omega
 clear hR ho hD hDl hg aE jW qN;go_enter Tryz.func155,Tryz.ntmps155;go_wp2_with fail
 go_loopw [5,10] (fun c i wr=>∃k cc:Nat,∃S:List Nat,k≤D.length∧i = .int .i64 k∧c = .int .u64 cc∧cc≤1∧Hid (S.length=R.length)∧Hid (∀d ∈ S,d<B64)∧Hid (Own wr g S.length (wd S))∧Hid (∀j,j<o∨o+k≤j→S.getD j 0=R.getD j 0)∧Hid (seg S o k+B64^k*cc=seg R o k+low B64 D k)∧Hid (qfb g w wr)) (fun _ i _=>D.length-(intOf i).toNat)
 case atStart=>exact⟨0,0,R,Nat.zero_le _,rfl,rfl,by omega,hid rfl,HR,HO,hid (fun _ _=>rfl),hid (by simp[qrc]),hid (qfb.refl _ _)⟩
 case round=>
  obtain⟨k,cc,S,hk,rfl,rfl,fL,aU,cL,HO',aS,cG,HB⟩:=hrel;by_cases hkd:k<D.length
  ·obtain⟨_,p',c',he,_,_,aA⟩:=HD.out wr (HB.out.below HG.out)
   cases he
   rcases aA with h0|⟨bd,od,rfl,aB⟩
   ·omega
   have hd:=aB k hkd;have cV:o+k<S.length:=by rw[aU.out];have:=sJ.out;omega
   obtain⟨hg,lO⟩:=HO'.out.2 (o+k) cV;have bN:=aS.out (o+k) (.inr (qac _));unfold wd at hd hg;rw[bN] at hg;have tP:=qaz (b:=B64) (by rw[qaj];omega) qV.out k;have eP:=qaz (b:=B64) (by rw[qaj];omega) HR.out (o+k);have fM:=qeq R o k;have eQ:=qa0 B64 D k;have eN:=fun x=>qgu S o k x cV;have nO:Hid (∀v:Nat,Own (wr.setCell ⟨g,o+k,none⟩ (.int .u64 v)) g (S.set (o+k) v).length (wd (S.set (o+k) v))):=hid fun v=>HO'.out.setWord (o+k) cV v
   have bW:Hid (∀v j,j<o∨o+(k+1)≤j→(S.set (o+k) v).getD j 0=R.getD j 0):=hid fun v j hj=>by
    rw[qa3 _ _ _ _ (by omega)];exact aS.out j (by omega)
   generalize D.getD k 0=d at *;generalize R.getD (o+k) 0=x at *;have nF:=fun w=>qi0 x d cc fL w;have yA:=qwv x d cc;have iG:=qnp x d cc;have hh:=qq5 eP tP fL;generalize qg4 x d cc=s at *;generalize qiz x d cc=c2 at *
   have dP:Hid (seg (S.set (o+k) s) o (k+1)+B64^(k+1)*c2=seg R o (k+1)+low B64 D (k+1)):=by
    refine hid ?_;rw[eN s,fM,eQ,Nat.pow_succ];exact qsy cG.out yA
   have bY:Hid (∀d ∈ S.set (o+k) s,d<B64):=hid (qc7 cL.out _ _ iG);have cE:Hid ((S.set (o+k) s).length=R.length):=hid (by rw[List.length_set];exact aU.out);have aK:Hid (qfb g w (wr.setCell ⟨g,o+k,none⟩ (.int .u64 (s:Nat)))):=hid (HB.out.set _ _);clear eN fM eQ bN yA iG eP tP cV aB cG aS aU cL HO' HB;go_wp2_with fail;go_roundw
   case rel=>exact⟨k+1,c2,_,by omega,by go_num,rfl,hh,cE,bY,hid (nO.out s),hid (bW.out s),dP,aK⟩
   case measure=>simp[intOf];omega
  ·have e:k=D.length:=by omega
   subst e;have cV:o+D.length<S.length:=by rw[aU.out];exact sJ.out
   obtain⟨hg,lO⟩:=HO'.out.2 (o+D.length) cV;have bN:=aS.out (o+D.length) (.inr (qac _));unfold wd at hg;rw[bN] at hg;have eP:=qaz (b:=B64) (by rw[qaj];omega) HR.out (o+D.length);have fM:=qeq R o D.length;have eN:=fun x=>qgu S o D.length x cV;have nO:Hid (∀v:Nat,Own (wr.setCell ⟨g,o+D.length,none⟩ (.int .u64 v)) g (S.set (o+D.length) v).length (wd (S.set (o+D.length) v))):=hid fun v=>HO'.out.setWord (o+D.length) cV v
   have bW:Hid (∀v j,j<o∨o+D.length<j→(S.set (o+D.length) v).getD j 0=R.getD j 0):=hid fun v j hj=>by
    rw[qa3 _ _ _ _ (by omega)];exact aS.out j (by omega)
   generalize R.getD (o+D.length) 0=x at *;have nF:∀w,(callFunc 144 #[.int .u64 x,.int .u64 0,.int .u64 cc]).run Tryz.prog w = .ok (.value (.tuple #[.int .u64 (qg4 x 0 cc:Nat),.int .u64 (qiz x 0 cc:Nat)])) w:=fun w=>qi0 x 0 cc fL w;have yA:=qwv x 0 cc;have iG:=qnp x 0 cc;have gS:=hid (qq5 (y:=0) eP (by rw[qaj];omega) fL);generalize qg4 x 0 cc=s at *;generalize qiz x 0 cc=c2 at *
   have dP:Hid (seg (S.set (o+D.length) s) o (D.length+1)+B64^(D.length+1)*c2=seg R o (D.length+1)+val B64 D):=by
    refine hid ?_;have h1:=cG.out;rw[qbf B64 D _ (qac _)] at h1;rw[eN s,fM,Nat.pow_succ];have:=qsy (d:=0) h1 yA;rw[Nat.mul_zero,Nat.add_zero] at this;exact this
   have bY:Hid (∀d ∈ S.set (o+D.length) s,d<B64):=hid (qc7 cL.out _ _ iG);have cE:Hid ((S.set (o+D.length) s).length=R.length):=hid (by rw[List.length_set];exact aU.out);have aK:Hid (qfb g w (wr.setCell ⟨g,o+D.length,none⟩ (.int .u64 (s:Nat)))):=hid (HB.out.set _ _);clear eN fM bN yA iG eP cV cG aS aU cL HO' HB;go_wp2_with fail;go_ret;exact⟨⟨_,c2,rfl,gS.out,cE.out,bY.out,nO.out s,bW.out s,dP.out⟩,aK.out⟩
theorem qdm{s:Nat}(hs:s≤64):B64=2^(64-s)*2^s:=by
 rw[←Nat.pow_add,show 64-s+s=64 from by omega];rfl
theorem q06(x s:Nat)(hs:s≤64):x*2^s % B64=2^s*(x % 2^(64-s)):=by
 rw[qdm hs,Nat.mul_mod_mul_right,Nat.mul_comm]
theorem q07(x s lo:Nat)(hs:s<64)(fH:lo<2^s):
  bits .or .u64 (IntKind.u64.wrap ((x:Int)*2^s)) (lo:Int)=((x*2^s % B64+lo:Nat):Int)∧x*2^s % B64+lo<B64:=by
 have h1:x % 2^(64-s)<2^(64-s):=Nat.mod_lt _ (Nat.two_pow_pos _)
 have h2:2^s*(x % 2^(64-s))+lo<B64:=by
  have:2^s*(x % 2^(64-s)+1)≤2^s*2^(64-s):=Nat.mul_le_mul_left _ h1;rw[Nat.mul_add,Nat.mul_comm (2^s) (2^(64-s)),←qdm (by omega)] at this;omega
 have hB:=qaj;rw[qra,q06 x s (by omega)];refine⟨?_,h2⟩;rw[bits_or_u64_nat _ _ (by omega) (by omega),Nat.two_pow_add_eq_or_of_lt fH]
theorem q9n(x s H:Nat)(hs:s<64)(hx:x<B64)(hH:H<2^s):
  bits .or .u64 ((x:Int)/2^s) ((2^(64-s)*H:Nat):Int)=((x/2^s+2^(64-s)*H:Nat):Int)∧x/2^s+2^(64-s)*H<B64:=by
 have h1:x/2^s<2^(64-s):=by
  rw[Nat.div_lt_iff_lt_mul (Nat.two_pow_pos _),←qdm (by omega)];exact hx
 have h2:x/2^s+2^(64-s)*H<B64:=by
  have:2^(64-s)*(H+1)≤2^(64-s)*2^s:=Nat.mul_le_mul_left _ hH;rw[Nat.mul_add,←qdm (by omega)] at this;omega
 refine⟨?_,h2⟩;rw[show(x:Int)/2^s=((x/2^s:Nat):Int) from by simp];rw[bits_or_u64_nat _ _ (Nat.lt_of_le_of_lt (Nat.le_add_right _ _) h2) (Nat.lt_of_le_of_lt (Nat.le_add_left _ _) h2),Nat.or_comm,←Nat.two_pow_add_eq_or_of_lt h1,Nat.add_comm]
theorem q43{B p S L lo hi x y t:Nat}(h:S+p*lo=L*t)(hy:y+B*hi=x*t+lo):S+p*y+p*B*hi=(L+p*x)*t:=by
 have:=congrArg (p * ·) hy;simp only[Nat.mul_add] at this;rw[Nat.mul_assoc p B,Nat.add_mul,Nat.mul_assoc p x];omega
theorem qk8(v:Value)(l:List Nat)(s:Nat)(w:World)(h:Wds w v l)(hs:s<64)(aQ:l.length≤Cap):
  Calls Tryz.prog 152 #[v,.int .i64 (s:Nat)] w fun e w'=>
   (∃R:List Nat,e = .returned (.slice (some ⟨w.heap.size,0,none⟩) (l.length+1) (l.length+1))∧R.length=l.length+1∧(∀d ∈ R,d<B64)∧Own w' w.heap.size R.length (wd R)∧val B64 R=val B64 l*2^s)∧Below w.heap.size w w':=by
 obtain⟨hl,p,c,rfl,bO,bJ,aA⟩:=h;have kX:=fun w=>qf7 (l.length+1) ((l.length:Int)+1) (by omega) (by have:=qkg;omega) w;have qN:l.length<4611686018427387904:=by unfold Cap at aQ;omega
 have HL:=hid hl;have sK:Hid (l.length=0∨∃b o,p=some ⟨b,o,none⟩∧ql5 w b o l.length (wd l)):=aA;clear hl bO bJ aQ aA;go_enter Tryz.func152,Tryz.ntmps152;go_wp2_with fail;have aT:=qha w (l.length+1);have bI:Below w.heap.size w (w.alloc (qbg (l.length+1))):=qad _ _;have aW:Hid ((List.replicate (l.length+1) 0).length=l.length+1):=hid (by simp);have yB:=hid (qcg (b:=B64) (by rw[qaj];omega) (l.length+1));have bE:Hid (Own (w.alloc (qbg (l.length+1))) w.heap.size (List.replicate (l.length+1) 0).length (wd (List.replicate (l.length+1) 0))):=by refine hid ?_;rw[aW.out];exact aT
 have aG:=hid bI;clear aT bI;generalize List.replicate (l.length+1) 0=s0 at *;generalize w.alloc (qbg (l.length+1))=w1 at *
 go_loopw [6,15] (fun c i wr=>∃k lo:Nat,∃S:List Nat,k≤l.length∧i = .int .i64 k∧c = .int .u64 lo∧Hid (lo<2^s)∧Hid (S.length=l.length+1)∧Hid (∀d ∈ S,d<B64)∧Hid (Own wr w.heap.size S.length (wd S))∧Hid (low B64 S k+B64^k*lo=low B64 l k*2^s)∧Hid (Below w.heap.size w wr)) (fun _ i _=>l.length-(intOf i).toNat)
 case atStart=>exact⟨0,0,s0,Nat.zero_le _,rfl,rfl,hid (Nat.two_pow_pos _),aW,yB,bE,hid (by simp),aG⟩
 case round=>
  obtain⟨k,lo,S,hk,rfl,rfl,qA,aU,cL,HO',cG,HB⟩:=hrel;clear aW yB bE aG;by_cases cQ:k<l.length
  ·rcases sK.out with h0|⟨bd,od,rfl,aB⟩
   ·omega
   have hx:=(aB.later HB.out) k cQ;have cV:k<S.length:=by rw[aU.out];omega
   obtain⟨hg,lO⟩:=HO'.out.2 k cV;unfold wd at hx hg;have eP:=qaz (b:=B64) (by rw[qaj];omega) HL.out k;have eQ:=qa0 B64 l k;have eN:=fun x=>qb2 B64 S k x cV;have nO:Hid (∀v:Nat,Own (wr.setCell ⟨w.heap.size,k,none⟩ (.int .u64 v)) w.heap.size (S.set k v).length (wd (S.set k v))):=hid fun v=>HO'.out.setWord k cV v;generalize l.getD k 0=x at *;generalize S.getD k 0=old at *;obtain⟨xU,kI⟩:=q07 x s lo hs qA.out;have mY:=qoa (s:=s) (lo:=x) (by omega)
   have rM:x/2^(64-s)<2^s:=by
    rw[Nat.div_lt_iff_lt_mul (Nat.two_pow_pos _),Nat.mul_comm,←qdm (by omega)];exact eP
   have hsh:(x:Int)/2^(64-s)=((x/2^(64-s):Nat):Int):=by simp
   have hy:x*2^s % B64+lo+B64*(x/2^(64-s))=x*2^s+lo:=by
    have hB:B64=2^64:=rfl;rw[hB,Nat.mul_comm (2^64)];omega
   generalize x*2^s % B64+lo=y at *;generalize x/2^(64-s)=hi at *
   have dP:Hid (low B64 (S.set k y) (k+1)+B64^(k+1)*hi=low B64 l (k+1)*2^s):=by
    refine hid ?_;rw[eN y,eQ,Nat.pow_succ];exact q43 cG.out hy
   have bY:Hid (∀d ∈ S.set k y,d<B64):=hid (qc7 cL.out _ _ kI);have cE:Hid ((S.set k y).length=l.length+1):=hid (by rw[List.length_set];exact aU.out);have Di:=hid rM;have aK:Hid (Below w.heap.size w (wr.setCell ⟨w.heap.size,k,none⟩ (.int .u64 (y:Nat)))):=hid (HB.out.setCell (qac _) _);clear eN eQ mY rM hy kI eP cV aB cG aU cL HO' HB;go_wp2_with fail;go_roundw
   case rel=>exact⟨k+1,hi,_,by omega,by go_num,rfl,Di,cE,bY,hid (nO.out y),dP,aK⟩
   case measure=>simp[intOf];omega
  ·have e:k=l.length:=by omega
   subst e;have cV:l.length<S.length:=by rw[aU.out];omega
   obtain⟨hg,lO⟩:=HO'.out.2 l.length cV
   have fH:lo<B64:=by
    have h1:=qA.out;have h2:(2:Nat)^s≤2^64:=Nat.pow_le_pow_right (by omega) (by omega);have hB:B64=2^64:=rfl;omega
   have nO:Hid (Own (wr.setCell ⟨w.heap.size,l.length,none⟩ (.int .u64 lo)) w.heap.size (S.set l.length lo).length (wd (S.set l.length lo))):=hid (HO'.out.setWord l.length cV lo);have cE:Hid ((S.set l.length lo).length=l.length+1):=hid (by rw[List.length_set];exact aU.out)
   have HV:Hid (val B64 (S.set l.length lo)=val B64 l*2^s):=by
    refine hid ?_;rw[←qbf B64 (S.set l.length lo) (l.length+1) (by rw[cE.out];exact qac _),qb2 B64 S l.length lo cV,cG.out,qbf B64 l _ (qac _)]
   have bY:Hid (∀d ∈ S.set l.length lo,d<B64):=hid (qc7 cL.out _ _ fH);have aK:Hid (Below w.heap.size w (wr.setCell ⟨w.heap.size,l.length,none⟩ (.int .u64 (lo:Nat)))):=hid (HB.out.setCell (qac _) _);generalize wd S l.length=old at *;clear fH cV cG aU cL HO' HB;go_wp2_with fail;go_ret;exact⟨⟨_,rfl,cE.out,bY.out,nO.out,HV.out⟩,aK.out⟩
theorem q44{B t u H Hq Hr x:Nat}(ht:0<t)(hB:B=u*t)(h1:H/t=Hq)(h2:H % t=Hr):(x+B*H)/t=x/t+u*Hr+B*Hq∧(x+B*H) % t=x % t:=by
 have e:x+B*H=x+t*(u*Hr+B*Hq):=by
  have:=Nat.div_add_mod H t;rw[h1,h2] at this;rw[←this,hB]
  grind
 rw[e,Nat.add_mul_div_left _ _ ht,Nat.add_mul_mod_self_left];omega
theorem qoh(v:Value)(l:List Nat)(s:Nat)(w:World)(h:Wds w v l)(hs:s<64)(aQ:l.length≤Cap):
  Calls Tryz.prog 156 #[v,.int .i64 (s:Nat)] w fun e w'=>(∃g cap,e = .returned (.slice (some ⟨g,0,none⟩) (wl (val B64 l/2^s)) cap)∧qdl w' w.heap.size g cap (qao B64 (val B64 l/2^s)))∧Below w.heap.size w w':=by
 obtain⟨hl,p,c,rfl,bO,bJ,aA⟩:=h;have kX:=fun w=>qf7 l.length (l.length:Int) rfl (by have:=qkg;omega) w;have qN:l.length<4611686018427387904:=by unfold Cap at aQ;omega
 have HL:=hid hl;have sK:Hid (l.length=0∨∃b o,p=some ⟨b,o,none⟩∧ql5 w b o l.length (wd l)):=aA;clear hl bO bJ aQ aA;go_enter Tryz.func156,Tryz.ntmps156;go_wp2_with fail;have aT:=qha w l.length;have bI:Below w.heap.size w (w.alloc (qbg l.length)):=qad _ _;have aW:Hid ((List.replicate l.length 0).length=l.length):=hid (by simp);have yB:=hid (qcg (b:=B64) (by rw[qaj];omega) l.length);have bE:Hid (Own (w.alloc (qbg l.length)) w.heap.size (List.replicate l.length 0).length (wd (List.replicate l.length 0))):=by refine hid ?_;rw[aW.out];exact aT
 have aG:=hid bI;have wQ:=hid (qyk w l.length (by unfold maxLen;omega));have HK0:=hid (qnm.refl (w.alloc (qbg l.length)));clear aT bI;generalize List.replicate l.length 0=s0 at *;generalize w.alloc (qbg l.length)=w1 at *
 go_loopw [6,7] (fun c i wr=>∃k H:Nat,∃S:List Nat,k≤l.length∧i = .int .i64 ((k:Int)-1)∧c = .int .u64 (2^(64-s)*H:Nat)∧Hid (H=qbi B64 l k % 2^s)∧Hid (S.length=l.length)∧Hid (∀d ∈ S,d<B64)∧Hid (Own wr w.heap.size S.length (wd S))∧Hid (qbi B64 l k/2^s=qbi B64 S k)∧Hid (Below w.heap.size w wr)∧Hid (qnm w1 wr)) (fun _ i _=>(intOf i+1).toNat)
 case atStart=>exact⟨l.length,0,s0,qac _,rfl,by simp,hid (by rw[qdg _ _ _ (qac _),Nat.zero_mod]),aW,yB,bE,hid (by rw[qdg _ _ _ (qac _),qdg _ _ _ (by rw[aW.out];exact qac _),Nat.zero_div]),aG,HK0⟩
 case round=>
  obtain⟨k,H,S,hk,rfl,rfl,HH,aU,cL,HO',cG,HB,HK⟩:=hrel;have HLS:=hid aW.out;clear aW yB bE aG HK0;rcases k with _|j
  ·have hv:val B64 S=val B64 l/2^s:=by have:=cG.out;rw[high_zero,high_zero] at this;exact this.symm
   have HT:=hid (qhc w.heap.size w.heap.size l.length l.length (val B64 l/2^s) S wr (wQ.out.after HK.out (by rw[aU.out,HLS.out]) cL.out HO'.out) aU.out hv);clear hv;generalize 2^(64-s)*H=inc at *;go_wp2_with fail;refine HT.out.mono ?_;rintro e w' ⟨⟨rfl,hn⟩,hw'⟩;subst hw';go_wp2_with fail;go_ret;exact⟨⟨_,_,rfl,hn⟩,HB.out⟩
  ·have e1:((j+1:Nat):Int)-1=(j:Int):=by omega
   simp only[e1];rcases sK.out with h0|⟨bd,od,rfl,aB⟩
   ·omega
   have hx:=(aB.later HB.out) j (by omega);have rS:bd<w.heap.size:=qaf w _ (aB j (by omega));have cV:j<S.length:=by rw[aU.out];omega
   obtain⟨hg,lO⟩:=HO'.out.2 j cV;unfold wd at hx hg;have eP:=qaz (b:=B64) (by rw[qaj];omega) HL.out j;have pX:=qbv B64 l j;have hHlt:H<2^s:=by rw[HH.out];exact Nat.mod_lt _ (Nat.two_pow_pos _)
   have wO:∀q,qbi B64 (S.set j q) j=q+B64*qbi B64 S (j+1):=fun q=>by
    rw[qbv,qck _ _ _ cV];unfold qbi;rw[List.drop_set_of_lt (by omega)]
   have nO:Hid (∀v:Nat,Own (wr.setCell ⟨w.heap.size,j,none⟩ (.int .u64 v)) w.heap.size (S.set j v).length (wd (S.set j v))):=hid fun v=>HO'.out.setWord j cV v;generalize l.getD j 0=x at *;generalize S.getD j 0=old at *;obtain⟨xU,kI⟩:=q9n x s H hs eP hHlt
   have hinc:IntKind.u64.wrap ((x:Int)*2^(64-s))=((2^(64-s)*(x % 2^s):Nat):Int):=by
    rw[qra,q06 x (64-s) (by omega),show 64-(64-s)=s from by omega]
   obtain⟨Bg,Gf⟩:=q44 (x:=x) (Nat.two_pow_pos s) (qdm (s:=s) (by omega)) cG.out HH.out.symm;rw[←pX] at Bg Gf;rw[←wO] at Bg;have HST2:Hid (x % 2^s=qbi B64 l j % 2^s):=hid Gf.symm;have HST1:=hid Bg
   have pU:∀u,(wr.setCell ⟨w.heap.size,j,none⟩ u).cell? ⟨bd,od+j,none⟩=some (.int .u64 x):=fun u=>by
    rw[World.cell?_setCell_other _ _ _ _ (by intro h';injection h' with h' _;omega)];exact hx
   have bY:Hid (∀d ∈ S.set j (x/2^s+2^(64-s)*H),d<B64):=hid (qc7 cL.out _ _ kI);have cE:∀q,Hid ((S.set j q).length=l.length):=fun q=>hid (by rw[List.length_set];exact aU.out);have Mb:Hid (∀q:Nat,qnm w1 (wr.setCell ⟨w.heap.size,j,none⟩ (.int .u64 q))):=hid fun q=>HK.out.trans (qnm.setCell _ _ _ _);have aK:Hid (∀q:Nat,Below w.heap.size w (wr.setCell ⟨w.heap.size,j,none⟩ (.int .u64 q))):=hid fun q=>HB.out.setCell (qac _) _;clear wO pX hHlt Bg Gf kI eP cV aB cG aU cL HO' HB HH rS;generalize x/2^s+2^(64-s)*H=y at *;generalize 2^(64-s)*H=inc at *;generalize x % 2^s=H' at *;generalize Mj:2^(64-s)*H'=inc' at *;have jE:=hid Mj;clear Mj;go_wp2_with fail;go_roundw
   case rel=>exact⟨j,H',_,by omega,by go_num,by rw[jE.out],HST2,cE y,bY,hid (nO.out y),HST1,hid (aK.out y),hid (Mb.out y)⟩
   case measure=>simp[intOf]
end Go.Proofs.YtmcfcpgglfimjaaGreatDoor
