/- guess: a word that is at least the word of a quotient. -/
import Derived.Test.YtmcfcpgglfimjaaGreatDoorMShift
import Derived.Test.YtmcfcpgglfimjaaGreatDoorMBase
set_option linter.all false
namespace Go.Proofs.YtmcfcpgglfimjaaGreatDoor
open Go.RowKit
set_option maxRecDepth 100000
set_option maxHeartbeats 1000000
theorem qu0{B p W t Wlow Dv dh Dl Q:Nat}(hW:W=Wlow+p*t)(hWl:Wlow<p)(hD:Dv=Dl+p*dh)(Ke:0<dh)(hQ:Q*Dv≤W):Q≤t/dh:=by
 rw[Nat.le_div_iff_mul_le Ke];have h1:Q*(p*dh)≤Q*Dv:=Nat.mul_le_mul_left _ (by omega)
 have h2:p*(Q*dh)<p*(t+1):=by
  rw[Nat.mul_add,Nat.mul_one];have:Q*(p*dh)=p*(Q*dh):=by grind
  omega
 have:=Nat.lt_of_mul_lt_mul_left h2;have _:=B;omega
theorem qyt{B p W t w2 r Wlow Dv dh d2 Dl Q word:Nat}(hW:W=Wlow+p*(w2+B*t))(hWl:Wlow<p)(hD:Dv=Dl+p*(d2+B*dh))(hQ:Q*Dv≤W)(hQw:Q≤word)(fY:word*dh+r=t)
  (h:r*B+w2<word*d2):Q≤word-1∧1≤word:=by
 have h1:1≤word:=by
  rcases qas word with e|e
  ·rw[e,Nat.zero_mul] at h;omega
  ·exact e
 refine⟨?_,h1⟩;rcases Nat.lt_or_ge Q word with h2|h2
 ·omega
 ·exfalso
  have e:Q=word:=Nat.le_antisymm hQw h2;subst e;have h3:Q*(p*(d2+B*dh))≤Q*Dv:=Nat.mul_le_mul_left _ (by omega)
  have h4:w2+B*t+1≤Q*(d2+B*dh):=by
   rw[←fY,Nat.mul_add,Nat.mul_add,show Q*(B*dh)=B*(Q*dh) from by grind,show r*B=B*r from Nat.mul_comm _ _] at *;omega
  have h5:p*(w2+B*t+1)≤Q*(p*(d2+B*dh)):=by
   rw[show Q*(p*(d2+B*dh))=p*(Q*(d2+B*dh)) from by grind];exact Nat.mul_le_mul_left _ h4
  rw[Nat.mul_add p (w2+B*t) 1] at h5;omega
theorem qyu{word d2 r w2 hi lo B:Nat}(h:lo+B*hi=word*d2+0)(kZ:w2<B):
  (r<hi→r*B+w2<word*d2)∧(hi=r→w2<lo→r*B+w2<word*d2):=by
 rw[Nat.add_zero] at h;constructor
 ·intro h1
  have:B*(r+1)≤B*hi:=Nat.mul_le_mul_left _ h1;rw[Nat.mul_add,Nat.mul_comm B r] at this;omega
 ·intro h1 h2
  subst h1;rw[Nat.mul_comm hi B];omega
theorem qyv(g o cw m cd bd od:Nat)(wn w1 w2 dh d2 Q:Nat)(w:World)
  (hm:m<4611686018427387904)
  (c1:w.cell? ⟨g,o+(m+2),none⟩=some (.int .u64 wn)) (c2:w.cell? ⟨g,o+(m+1),none⟩=some (.int .u64 w1)) (c3:w.cell? ⟨g,o+m,none⟩=some (.int .u64 w2))
  (c4:w.cell? ⟨bd,od+(m+1),none⟩=some (.int .u64 dh)) (c5:w.cell? ⟨bd,od+m,none⟩=some (.int .u64 d2))
  (Bh:Hid (w1<B64)) (HW2:Hid (w2<B64)) (HDH:Hid (dh<B64)) (mZ:Hid (d2<B64)) (nH:Hid (Q<B64))
  (mE:Hid (wn<dh→Q≤(wn*B64+w1)/dh))
  (kP:Hid (∀word r,Q≤word→word*dh+r=wn*B64+w1→r*B64+w2<word*d2→Q≤word-1∧1≤word)):
  Calls Tryz.prog 153 #[.slice (some ⟨g,o,none⟩) (m+2+1) cw,.slice (some ⟨bd,od,none⟩) (m+2) cd] w fun e w'=>
   (∃q:Nat,e = .returned (.int .u64 q)∧Q≤q∧q<B64)∧∃k,w'=w.drewN k:=by
 by_cases kA:dh≤wn
 ·have hc:(dh:Int)≤(wn:Int):=by omega
  have HR:Hid (Q≤18446744073709551615∧(18446744073709551615:Nat)<B64):=by
   have h1:=nH.out;rw[qaj] at h1;exact hid ⟨by omega,by rw[qaj];omega⟩
  clear kA;go_enter Tryz.func153,Tryz.ntmps153;go_wp2_with fail;go_ret;exact⟨⟨18446744073709551615,rfl,HR.out⟩,0,rfl⟩
 ·have bC:wn<dh:=by omega
  have hc:¬(dh:Int)≤(wn:Int):=by omega
  have rO:=hid (mE.out bC)
  have cT:Hid (∀w,Calls Tryz.prog 185 #[.int .u64 wn,.int .u64 w1,.int .u64 dh] w fun e w'=>
   e = .returned (.tuple #[.int .u64 ((wn*B64+w1)/dh:Nat),.int .u64 ((wn*B64+w1) % dh:Nat)])∧∃n,w'=w.drewN n):=fun w=>qk4 wn w1 dh bC HDH.out Bh.out w
  have Ke:0<dh:=by omega
  have HI:Hid ((wn*B64+w1)/dh*dh+(wn*B64+w1) % dh=wn*B64+w1):=hid (by rw[Nat.mul_comm];exact Nat.div_add_mod _ _);have lE:Hid ((wn*B64+w1) % dh<B64):=hid (Nat.lt_trans (Nat.mod_lt _ Ke) HDH.out)
  have jI:Hid ((wn*B64+w1)/dh<B64):=hid (by
   rw[Nat.div_lt_iff_lt_mul Ke];have h1:(wn+1)*B64≤dh*B64:=Nat.mul_le_mul_right _ bC;rw[Nat.add_mul,Nat.mul_comm dh] at h1;have:=Bh.out;rw[Nat.mul_comm B64 dh] at h1;rw[Nat.mul_comm B64 dh]
   omega)
  have HT:Hid (∃T,wn*B64+w1=T):=hid ⟨_,rfl⟩;obtain⟨T,hT⟩:=HT.out;rw[hT] at HI kP lE jI cT rO;clear kA hT HT mE bC;have nP:Hid (∀x w,x<B64→Calls Tryz.prog 174 #[.int .u64 x,.int .u64 d2] w fun e w'=>e = .returned (.tuple #[.int .u64 (qiu x d2 0:Nat),.int .u64 (qit x d2 0:Nat)])∧w'=w):=fun x w hx=>qsq x d2 hx mZ.out w;generalize T/dh=q0 at *;generalize T % dh=r0 at *;go_enter Tryz.func153,Tryz.ntmps153;go_wp2_with fail
  go_quiet ((go_at_call 185;exact Calls.quiet_of (cT.out _)))
  go_wp2_with fail;refine(nP.out q0 _ jI.out).mono ?_;rintro e w' ⟨rfl,hw'⟩;rw[hw'];clear hw' cT;go_wp2_with fail;have HQ0:Hid (∃h l,qiu q0 d2 0=h∧qit q0 d2 0=l):=hid ⟨_,_,rfl,rfl⟩
  go_loopw [7,8,9,10] (fun a b c d wr=>∃word r:Nat,a = .int .u64 word∧b = .int .u64 r∧c = .int .u64 (qiu word d2 0:Nat)∧d = .int .u64 (qit word d2 0:Nat)∧Hid (Q≤word)∧Hid (word*dh+r=T)∧Hid (word<B64)∧Hid (r<B64)∧∃k,wr=w.drewN k) (fun a _ _ _ _=>(intOf a).toNat)
  case atStart=>exact⟨q0,r0,rfl,rfl,rfl,rfl,rO,HI,jI,lE,_,rfl⟩
  case round=>
   obtain⟨word,r,rfl,rfl,rfl,rfl,Kf,nJ,HWL,HRL',k,rfl⟩:=hrel;have Bi:=qyu (r:=r) (w2:=w2) (qq6 word d2 0) HW2.out;have Dj:=hid Bi;have E1e:1≤word→IntKind.u64.wrap ((word-1:Nat):Int)=((word-1:Nat):Int):=fun h=>qbn _ (by have:=HWL.out;omega);have E1c:1≤word→(word:Int)-1=((word-1:Nat):Int):=fun h=>by omega
   have E1a:1≤word→IntKind.u64.wrap ((word:Int)-1)=((word-1:Nat):Int):=fun h=>by rw[E1c h,E1e h]
   have HN:Hid (r*B64+w2<word*d2→Q≤word-1∧1≤word):=hid fun h=>kP.out word r Kf.out nJ.out h
   have yC:Hid (1≤word→(word-1)*dh+(r+dh)=T):=hid fun h=>by
    have h1:=nJ.out;obtain⟨v,rfl⟩:∃v,word=v+1:=⟨word-1,by omega⟩;rw[Nat.add_mul,Nat.one_mul] at h1;rw[Nat.add_sub_cancel];omega
   generalize rM:qiu word d2 0=hi at *;generalize fH:qit word d2 0=lo at *;clear Bi rM fH;have lV:(r<hi∨(hi=r∧w2<lo))∨((hi=r∧lo≤w2)∨hi<r):=by omega
   rcases lV with hT|hF
   ·have bC:r*B64+w2<word*d2:=by
     rcases hT with h|⟨h1,h2⟩
     ·exact Dj.out.1 h
     ·exact Dj.out.2 h1 h2
    obtain⟨tI,nN⟩:=HN.out bC;have oH:=hid tI;have e1:=E1e nN;have e2:=E1c nN;have e3:=E1a nN;have jE:=hid (yC.out nN);have uO:Hid (word-1<B64):=hid (by have:=HWL.out;omega);have kY:Hid (word-1<word):=hid (by omega);clear E1e E1c E1a HN yC Dj bC tI nN kP;generalize word-1=v at *;by_cases Bj:r+dh<B64
    ·have EW:IntKind.u64.wrap ((r:Int)+(dh:Int))=((r+dh:Nat):Int):=by rw[qww];exact qbn _ Bj
     have Ae:¬((r+dh:Nat):Int)<(dh:Int):=by omega
     have yD:=hid Bj;clear Bj;generalize wR:r+dh=r' at *;clear wR;rcases hT with h|⟨rfl,h⟩
     ·go_wp2_with fail
      refine(nP.out v _ uO.out).mono ?_;rintro e w' ⟨rfl,hw'⟩;rw[hw'];clear hw';go_wp2_with fail;go_roundw
      case rel=>exact⟨v,r',rfl,rfl,rfl,rfl,oH,jE,uO,yD,_,rfl⟩
      case measure=>simp only[intOf];have:=kY.out;omega
     ·go_wp2_with fail
      refine(nP.out v _ uO.out).mono ?_;rintro e w' ⟨rfl,hw'⟩;rw[hw'];clear hw';go_wp2_with fail;go_roundw
      case rel=>exact⟨v,r',rfl,rfl,rfl,rfl,oH,jE,uO,yD,_,rfl⟩
      case measure=>simp only[intOf];have:=kY.out;omega
    ·have EW:IntKind.u64.wrap ((r:Int)+(dh:Int))=((r+dh-B64:Nat):Int):=by
      have h1:=HRL'.out;have h2:=HDH.out;rw[qaj] at *;rw[IntKind.wrap_u64];omega
     have Ae:((r+dh-B64:Nat):Int)<(dh:Int):=by have:=HRL'.out;omega
     clear Bj;generalize wR:r+dh-B64=r' at *;clear wR;rcases hT with h|⟨rfl,h⟩
     ·go_wp2_with fail
      go_ret;exact⟨⟨v,rfl,oH.out,uO.out⟩,_,rfl⟩
     ·go_wp2_with fail
      go_ret;exact⟨⟨v,rfl,oH.out,uO.out⟩,_,rfl⟩
   ·clear E1e E1c E1a HN yC Dj kP
    rcases hF with⟨rfl,h⟩|h
    ·have h':¬(w2:Int)<(lo:Int):=by omega
     go_wp2_with fail;go_ret;exact⟨⟨word,rfl,Kf.out,HWL.out⟩,_,rfl⟩
    ·have h':((hi:Int)==(r:Int))=false:=qan (by omega)
     have h'':¬(r:Int)<(hi:Int):=by omega
     go_wp2_with fail;go_ret;exact⟨⟨word,rfl,Kf.out,HWL.out⟩,_,rfl⟩
def qer(m n:Nat):Int:=qsn m n
theorem qel.drewN{w:World}{v:Value}{n:Nat}{f:Nat→Value}(h:qel w v n f)(k:Nat):qel (w.drewN k) v n f:=h.later (below_drewN (qaa _ _) k)
theorem qs0{l m:List Nat}{j:Nat}(hl:j<l.length)(hlm:l.length=m.length)(h:l.drop (j+1)=m.drop (j+1))(hd:l.getD j 0=m.getD j 0):l.drop j=m.drop j:=by
 rw[List.drop_eq_getElem_cons hl,List.drop_eq_getElem_cons (by omega:j<m.length),h]
 congr 1
 simpa [hl,(by omega:j<m.length)] using hd
theorem qee(va vb:Value)(m n:Nat)(w:World)(ha:qa2 w va m)(hb:qa2 w vb n):
  Calls Tryz.prog 98 #[va,vb] w fun e w'=>e = .returned (.int .i64 (qer m n))∧∃q,w'=w.drewN q:=by
 obtain⟨cX,pa,ca,rfl,jQ,fC,hcellsa⟩:=ha;obtain⟨cS,pb,cb,rfl,jA,fK,hcellsb⟩:=hb;unfold maxLen at fC fK;by_cases aE:(qao B64 m).length=(qao B64 n).length
 ·have hne:((((qao B64 m).length:Nat):Int) != ((qao B64 n).length:Nat))=false:=by simp;omega
  have FIN:Hid (∀j,j<(qao B64 m).length→(qao B64 m).drop (j+1)=(qao B64 n).drop (j+1)→(qao B64 m).getD j 0≠(qao B64 n).getD j 0→qsn (((qao B64 m).getD j 0:Nat):Int) (((qao B64 n).getD j 0:Nat):Int)=qer m n):=by
   refine hid fun j hj ht hd => ?_;unfold qer;rcases Nat.lt_or_ge ((qao B64 m).getD j 0) ((qao B64 n).getD j 0) with h|h
   ·have:=qhr qam aE cX j hj ht h
    rw[qar _ _ qam,qar _ _ qam] at this;rw[qde (by omega),qde (by omega)]
   ·have h':(qao B64 n).getD j 0<(qao B64 m).getD j 0:=by omega
    have:=qhr qam aE.symm cS j (by omega) ht.symm h';rw[qar _ _ qam,qar _ _ qam] at this;rw[qcq (by omega),qcq (by omega)]
  have EQ:Hid ((qao B64 m).drop 0=(qao B64 n).drop 0→qer m n=0):=hid fun h=>by
   have:=qq4 qam (by simpa using h);subst this;exact qem rfl
  have STEP:Hid (∀j,j<(qao B64 m).length→(qao B64 m).drop (j+1)=(qao B64 n).drop (j+1)→(qao B64 m).getD j 0=(qao B64 n).getD j 0→(qao B64 m).drop j=(qao B64 n).drop j):=hid fun j hj=>qs0 hj aE;have LEN:=hid aE;clear aE;generalize qao B64 m=l at *;generalize qao B64 n=r at *;go_enter Tryz.func98,Tryz.ntmps98;go_wp2_with fail
  go_loopw [5] (fun i wr=>∃k:Nat,k≤l.length∧i = .int .i64 ((k:Int)-1)∧Hid (l.drop k=r.drop k)∧∃q,wr=w.drewN q) (fun i _=>(intOf i+1).toNat)
  case atStart=>exact⟨_,qac _,rfl,hid (by rw[List.drop_of_length_le (qac _),LEN.out,List.drop_of_length_le (qac _)]),0,rfl⟩
  case round=>
   obtain⟨k,hk,rfl,ht,q,rfl⟩:=hrel;rcases k with _|j
   ·go_wp2
    go_ret;exact⟨qa6 (EQ.out ht.out).symm,q,rfl⟩
   ·have e1:((j+1:Nat):Int)-1=(j:Int):=by omega
    simp only[e1];rcases hcellsa with h0|⟨b,o,rfl,aB⟩
    ·omega
    rcases hcellsb with h0|⟨b',o',rfl,hrow'⟩
    ·have:=LEN.out;omega
    have hc:=aB j (by omega);have hc':=hrow' j (by have:=LEN.out;omega);unfold wd at hc hc';have fj:=FIN.out j (by omega) ht.out;have sj:=STEP.out j (by omega) ht.out;have h2:j<r.length:=by have:=LEN.out;omega
    clear aB hrow';generalize l.getD j 0=x at *;generalize r.getD j 0=y at *;have FJ:=hid fj;have SJ:=hid sj;clear fj sj FIN STEP EQ;by_cases tQ:x=y
    ·have hb:((x:Int) != (y:Int))=false:=by simp;omega
     have yE:=hid tQ;clear tQ;go_wp2_with fail
     go_quiet (fail)
     go_wp2;go_roundw
     case rel=>exact⟨j,by omega,by go_num,hid (SJ.out yE.out),_,rfl⟩
     case measure=>simp[intOf]
    ·have hb:((x:Int) != (y:Int))=true:=by simp;omega
     go_wp2_with fail
     go_quiet (fail)
     go_wp2_with fail;have bJ:((w.drewN q).drewN nq).cell? ⟨b,o+j,none⟩=some (.int .u64 x):=hc;have hc2':((w.drewN q).drewN nq).cell? ⟨b',o'+j,none⟩=some (.int .u64 y):=hc';have HW:Hid (∃k,(w.drewN q).drewN nq=w.drewN k):=⟨_,World.drewN_drewN _ _ _⟩;generalize (w.drewN q).drewN nq=w2 at *
     go_quiet ((go_at_call 143;exact Calls.quiet_of_same (qyg _ _ _)))
     obtain⟨k,rfl⟩:=HW.out;go_wp2;go_ret;exact⟨qa6 (FJ.out (by omega)),_,World.drewN_drewN _ _ _⟩
 ·have hne:((((qao B64 m).length:Nat):Int) != ((qao B64 n).length:Nat))=true:=by simp;omega
  have HE:Hid (qsn ((qao B64 m).length:Nat) ((qao B64 n).length:Nat)=qer m n):=by
   refine hid ?_;unfold qer;rcases Nat.lt_or_ge (qao B64 m).length (qao B64 n).length with h|h
   ·rw[qde (by omega),qde (by have:=qd9 qam h;omega)]
   ·have h':(qao B64 n).length<(qao B64 m).length:=by omega
    rw[qcq (by omega),qcq (by have:=qd9 qam h';omega)]
  clear aE hcellsa hcellsb cX cS;go_enter Tryz.func98,Tryz.ntmps98;go_wp2_with (go_at_call 58;refine(qjp _ _ _).mono ?_;rintro e w' ⟨rfl,rfl⟩);go_ret;exact⟨qa6 HE.out,0,rfl⟩
end Go.Proofs.YtmcfcpgglfimjaaGreatDoor
