/- guess: a word that is at least the word of a quotient. -/
import Derived.Test.YthjagoogkkgelaaGreatDoorMShift
import Derived.Test.YthjagoogkkgelaaGreatDoorMBase
set_option linter.all false
namespace Go.Proofs.YthjagoogkkgelaaGreatDoor
open Go.RowKit
set_option maxRecDepth 100000
set_option maxHeartbeats 1000000
theorem qvr{B p W t Wlow Dv dh Dl Q:Nat}(hW:W=Wlow+p*t)(hWl:Wlow<p)(hD:Dv=Dl+p*dh)(hdh:0<dh)(hQ:Q*Dv≤W):Q≤t/dh:=by
 rw[Nat.le_div_iff_mul_le hdh];have h1:Q*(p*dh)≤Q*Dv:=Nat.mul_le_mul_left _ (by omega)
 have h2:p*(Q*dh)<p*(t+1):=by
  rw[Nat.mul_add,Nat.mul_one];have:Q*(p*dh)=p*(Q*dh):=by grind
  omega
 have:=Nat.lt_of_mul_lt_mul_left h2;have _:=B;omega
theorem qy7{B p W t w2 r Wlow Dv dh d2 Dl Q word:Nat}(hW:W=Wlow+p*(w2+B*t))(hWl:Wlow<p)(hD:Dv=Dl+p*(d2+B*dh))(hQ:Q*Dv≤W)(hQw:Q≤word)(hinv:word*dh+r=t)
  (h:r*B+w2<word*d2):Q≤word-1∧1≤word:=by
 have h1:1≤word:=by
  rcases Nat.eq_zero_or_pos word with e|e
  ·rw[e,Nat.zero_mul] at h;omega
  ·exact e
 refine⟨?_,h1⟩;rcases Nat.lt_or_ge Q word with h2|h2
 ·omega
 ·exfalso
  have e:Q=word:=Nat.le_antisymm hQw h2;subst e;have h3:Q*(p*(d2+B*dh))≤Q*Dv:=Nat.mul_le_mul_left _ (by omega)
  have h4:w2+B*t+1≤Q*(d2+B*dh):=by
   rw[←hinv,Nat.mul_add,Nat.mul_add,show Q*(B*dh)=B*(Q*dh) from by grind,show r*B=B*r from Nat.mul_comm _ _] at *;omega
  have h5:p*(w2+B*t+1)≤Q*(p*(d2+B*dh)):=by
   rw[show Q*(p*(d2+B*dh))=p*(Q*(d2+B*dh)) from by grind];exact Nat.mul_le_mul_left _ h4
  rw[Nat.mul_add p (w2+B*t) 1] at h5;omega
theorem qy8{word d2 r w2 hi lo B:Nat}(h:lo+B*hi=word*d2+0)(hw2:w2<B):
  (r<hi→r*B+w2<word*d2)∧(hi=r→w2<lo→r*B+w2<word*d2):=by
 rw[Nat.add_zero] at h;constructor
 ·intro h1
  have:B*(r+1)≤B*hi:=Nat.mul_le_mul_left _ h1;rw[Nat.mul_add,Nat.mul_comm B r] at this;omega
 ·intro h1 h2
  subst h1;rw[Nat.mul_comm hi B];omega
theorem qy9(g o cw m cd bd od:Nat)(wn w1 w2 dh d2 Q:Nat)(w:World)
  (hm:m<4611686018427387904)
  (c1:w.cell? ⟨g,o+(m+2),none⟩=some (.int .u64 wn)) (c2:w.cell? ⟨g,o+(m+1),none⟩=some (.int .u64 w1)) (c3:w.cell? ⟨g,o+m,none⟩=some (.int .u64 w2))
  (c4:w.cell? ⟨bd,od+(m+1),none⟩=some (.int .u64 dh)) (c5:w.cell? ⟨bd,od+m,none⟩=some (.int .u64 d2))
  (HW1:Hid (w1<B64)) (HW2:Hid (w2<B64)) (HDH:Hid (dh<B64)) (HD2:Hid (d2<B64)) (HQB:Hid (Q<B64))
  (HFIRST:Hid (wn<dh→Q≤(wn*B64+w1)/dh))
  (HNEXT:Hid (∀word r,Q≤word→word*dh+r=wn*B64+w1→r*B64+w2<word*d2→Q≤word-1∧1≤word)):
  Calls Tryz.prog 124 #[.slice (some ⟨g,o,none⟩) (m+2+1) cw,.slice (some ⟨bd,od,none⟩) (m+2) cd] w fun e w'=>
   (∃q:Nat,e = .returned (.int .u64 q)∧Q≤q∧q<B64)∧∃k,w'=w.drewN k:=by
 by_cases hcmp:dh≤wn
 ·have hc:(dh:Int)≤(wn:Int):=by omega
  have HR:Hid (Q≤18446744073709551615∧(18446744073709551615:Nat)<B64):=by
   have h1:=HQB.out;rw[qab] at h1;exact hid ⟨by omega,by rw[qab];omega⟩
  clear hcmp;go_enter Tryz.func124,Tryz.ntmps124;go_wp2_with fail;go_ret;exact⟨⟨18446744073709551615,rfl,HR.out⟩,0,rfl⟩
 ·have hlt:wn<dh:=by omega
  have hc:¬(dh:Int)≤(wn:Int):=by omega
  have HQ1:=hid (HFIRST.out hlt)
  have HDIV:Hid (∀w,Calls Tryz.prog 172 #[.int .u64 wn,.int .u64 w1,.int .u64 dh] w fun e w'=>
   e = .returned (.tuple #[.int .u64 ((wn*B64+w1)/dh:Nat),.int .u64 ((wn*B64+w1) % dh:Nat)])∧∃n,w'=w.drewN n):=fun w=>qlk wn w1 dh hlt HDH.out HW1.out w
  have hdh:0<dh:=by omega
  have HI:Hid ((wn*B64+w1)/dh*dh+(wn*B64+w1) % dh=wn*B64+w1):=hid (by rw[Nat.mul_comm];exact Nat.div_add_mod _ _);have HRL:Hid ((wn*B64+w1) % dh<B64):=hid (Nat.lt_trans (Nat.mod_lt _ hdh) HDH.out)
  have HQL:Hid ((wn*B64+w1)/dh<B64):=hid (by
   rw[Nat.div_lt_iff_lt_mul hdh];have h1:(wn+1)*B64≤dh*B64:=Nat.mul_le_mul_right _ hlt;rw[Nat.add_mul,Nat.mul_comm dh] at h1;have:=HW1.out;rw[Nat.mul_comm B64 dh] at h1;rw[Nat.mul_comm B64 dh]
   omega)
  have HT:Hid (∃T,wn*B64+w1=T):=hid ⟨_,rfl⟩;obtain⟨T,hT⟩:=HT.out;rw[hT] at HI HNEXT HRL HQL HDIV HQ1;clear hcmp hT HT HFIRST hlt;have HMUL:Hid (∀x w,x<B64→Calls Tryz.prog 168 #[.int .u64 x,.int .u64 d2] w fun e w'=>e = .returned (.tuple #[.int .u64 (qi0 x d2 0:Nat),.int .u64 (qiz x d2 0:Nat)])∧w'=w):=fun x w hx=>qs9 x d2 hx HD2.out w;generalize T/dh=q0 at *;generalize T % dh=r0 at *;go_enter Tryz.func124,Tryz.ntmps124;go_wp2_with fail
  go_quiet ((go_at_call 172;exact Calls.quiet_of (HDIV.out _)))
  go_wp2_with fail;refine(HMUL.out q0 _ HQL.out).mono ?_;rintro e w' ⟨rfl,hw'⟩;rw[hw'];clear hw' HDIV;go_wp2_with fail;have HQ0:Hid (∃h l,qi0 q0 d2 0=h∧qiz q0 d2 0=l):=hid ⟨_,_,rfl,rfl⟩
  go_loopw [7,8,9,10] (fun a b c d wr=>∃word r:Nat,a = .int .u64 word∧b = .int .u64 r∧c = .int .u64 (qi0 word d2 0:Nat)∧d = .int .u64 (qiz word d2 0:Nat)∧Hid (Q≤word)∧Hid (word*dh+r=T)∧Hid (word<B64)∧Hid (r<B64)∧∃k,wr=w.drewN k) (fun a _ _ _ _=>(intOf a).toNat)
  case atStart=>exact⟨q0,r0,rfl,rfl,rfl,rfl,HQ1,HI,HQL,HRL,_,rfl⟩
  case round=>
   obtain⟨word,r,rfl,rfl,rfl,rfl,HQW,HINV,HWL,HRL',k,rfl⟩:=hrel;have hmul:=qy8 (r:=r) (w2:=w2) (qrv word d2 0) HW2.out;have HML:=hid hmul;have E1e:1≤word→IntKind.u64.wrap ((word-1:Nat):Int)=((word-1:Nat):Int):=fun h=>qba _ (by have:=HWL.out;omega);have E1c:1≤word→(word:Int)-1=((word-1:Nat):Int):=fun h=>by omega
   have E1a:1≤word→IntKind.u64.wrap ((word:Int)-1)=((word-1:Nat):Int):=fun h=>by rw[E1c h,E1e h]
   have HN:Hid (r*B64+w2<word*d2→Q≤word-1∧1≤word):=hid fun h=>HNEXT.out word r HQW.out HINV.out h
   have HINV2:Hid (1≤word→(word-1)*dh+(r+dh)=T):=hid fun h=>by
    have h1:=HINV.out;obtain⟨v,rfl⟩:∃v,word=v+1:=⟨word-1,by omega⟩;rw[Nat.add_mul,Nat.one_mul] at h1;rw[Nat.add_sub_cancel];omega
   generalize hhi:qi0 word d2 0=hi at *;generalize hlo:qiz word d2 0=lo at *;clear hmul hhi hlo;have hcase:(r<hi∨(hi=r∧w2<lo))∨((hi=r∧lo≤w2)∨hi<r):=by omega
   rcases hcase with hT|hF
   ·have hlt:r*B64+w2<word*d2:=by
     rcases hT with h|⟨h1,h2⟩
     ·exact HML.out.1 h
     ·exact HML.out.2 h1 h2
    obtain⟨hq1,hq2⟩:=HN.out hlt;have HQ2:=hid hq1;have e1:=E1e hq2;have e2:=E1c hq2;have e3:=E1a hq2;have HI2:=hid (HINV2.out hq2);have HWL2:Hid (word-1<B64):=hid (by have:=HWL.out;omega);have HLT:Hid (word-1<word):=hid (by omega);clear E1e E1c E1a HN HINV2 HML hlt hq1 hq2 HNEXT;generalize word-1=v at *;by_cases hov:r+dh<B64
    ·have EW:IntKind.u64.wrap ((r:Int)+(dh:Int))=((r+dh:Nat):Int):=by rw[qxq];exact qba _ hov
     have hge:¬((r+dh:Nat):Int)<(dh:Int):=by omega
     have HRL2:=hid hov;clear hov;generalize hrd:r+dh=r' at *;clear hrd;rcases hT with h|⟨rfl,h⟩
     ·go_wp2_with fail
      refine(HMUL.out v _ HWL2.out).mono ?_;rintro e w' ⟨rfl,hw'⟩;rw[hw'];clear hw';go_wp2_with fail;go_roundw
      case rel=>exact⟨v,r',rfl,rfl,rfl,rfl,HQ2,HI2,HWL2,HRL2,_,rfl⟩
      case measure=>simp only[intOf];have:=HLT.out;omega
     ·go_wp2_with fail
      refine(HMUL.out v _ HWL2.out).mono ?_;rintro e w' ⟨rfl,hw'⟩;rw[hw'];clear hw';go_wp2_with fail;go_roundw
      case rel=>exact⟨v,r',rfl,rfl,rfl,rfl,HQ2,HI2,HWL2,HRL2,_,rfl⟩
      case measure=>simp only[intOf];have:=HLT.out;omega
    ·have EW:IntKind.u64.wrap ((r:Int)+(dh:Int))=((r+dh-B64:Nat):Int):=by
      have h1:=HRL'.out;have h2:=HDH.out;rw[qab] at *;rw[IntKind.wrap_u64];omega
     have hge:((r+dh-B64:Nat):Int)<(dh:Int):=by have:=HRL'.out;omega
     clear hov;generalize hrd:r+dh-B64=r' at *;clear hrd;rcases hT with h|⟨rfl,h⟩
     ·go_wp2_with fail
      go_ret;exact⟨⟨v,rfl,HQ2.out,HWL2.out⟩,_,rfl⟩
     ·go_wp2_with fail
      go_ret;exact⟨⟨v,rfl,HQ2.out,HWL2.out⟩,_,rfl⟩
   ·clear E1e E1c E1a HN HINV2 HML HNEXT
    rcases hF with⟨rfl,h⟩|h
    ·have h':¬(w2:Int)<(lo:Int):=by omega
     go_wp2_with fail;go_ret;exact⟨⟨word,rfl,HQW.out,HWL.out⟩,_,rfl⟩
    ·have h':((hi:Int)==(r:Int))=false:=beq_eq_false_iff_ne.2 (by omega)
     have h'':¬(r:Int)<(hi:Int):=by omega
     go_wp2_with fail;go_ret;exact⟨⟨word,rfl,HQW.out,HWL.out⟩,_,rfl⟩
def qex(m n:Nat):Int:=qql m n
theorem qes.drewN{w:World}{v:Value}{n:Nat}{f:Nat→Value}(h:qes w v n f)(k:Nat):qes (w.drewN k) v n f:=h.later (below_drewN (Below.refl _ _) k)
theorem qtd{l m:List Nat}{j:Nat}(hl:j<l.length)(hlm:l.length=m.length)(h:l.drop (j+1)=m.drop (j+1))(hd:l.getD j 0=m.getD j 0):l.drop j=m.drop j:=by
 rw[List.drop_eq_getElem_cons hl,List.drop_eq_getElem_cons (by omega:j<m.length),h]
 congr 1
 simpa [hl,(by omega:j<m.length)] using hd
theorem qef(va vb:Value)(m n:Nat)(w:World)(ha:qaq w va m)(hb:qaq w vb n):
  Calls Tryz.prog 74 #[va,vb] w fun e w'=>e = .returned (.int .i64 (qex m n))∧∃q,w'=w.drewN q:=by
 obtain⟨hla,pa,ca,rfl,hca1,hca2,hcellsa⟩:=ha;obtain⟨hlb,pb,cb,rfl,hcb1,hcb2,hcellsb⟩:=hb;unfold maxLen at hca2 hcb2;by_cases hlen:(qaf B64 m).length=(qaf B64 n).length
 ·have hne:((((qaf B64 m).length:Nat):Int) != ((qaf B64 n).length:Nat))=false:=by simp;omega
  have FIN:Hid (∀j,j<(qaf B64 m).length→(qaf B64 m).drop (j+1)=(qaf B64 n).drop (j+1)→(qaf B64 m).getD j 0≠(qaf B64 n).getD j 0→qql (((qaf B64 m).getD j 0:Nat):Int) (((qaf B64 n).getD j 0:Nat):Int)=qex m n):=by
   refine hid fun j hj ht hd => ?_;unfold qex;rcases Nat.lt_or_ge ((qaf B64 m).getD j 0) ((qaf B64 n).getD j 0) with h|h
   ·have:=qh5 qae hlen hla j hj ht h
    rw[qah _ _ qae,qah _ _ qae] at this;rw[qda (by omega),qda (by omega)]
   ·have h':(qaf B64 n).getD j 0<(qaf B64 m).getD j 0:=by omega
    have:=qh5 qae hlen.symm hlb j (by omega) ht.symm h';rw[qah _ _ qae,qah _ _ qae] at this;rw[qcl (by omega),qcl (by omega)]
  have EQ:Hid ((qaf B64 m).drop 0=(qaf B64 n).drop 0→qex m n=0):=hid fun h=>by
   have:=qrt qae (by simpa using h);subst this;exact qet rfl
  have STEP:Hid (∀j,j<(qaf B64 m).length→(qaf B64 m).drop (j+1)=(qaf B64 n).drop (j+1)→(qaf B64 m).getD j 0=(qaf B64 n).getD j 0→(qaf B64 m).drop j=(qaf B64 n).drop j):=hid fun j hj=>qtd hj hlen;have LEN:=hid hlen;clear hlen;generalize qaf B64 m=l at *;generalize qaf B64 n=r at *;go_enter Tryz.func74,Tryz.ntmps74;go_wp2_with fail
  go_loopw [5] (fun i wr=>∃k:Nat,k≤l.length∧i = .int .i64 ((k:Int)-1)∧Hid (l.drop k=r.drop k)∧∃q,wr=w.drewN q) (fun i _=>(intOf i+1).toNat)
  case atStart=>exact⟨_,Nat.le_refl _,rfl,hid (by rw[List.drop_of_length_le (Nat.le_refl _),LEN.out,List.drop_of_length_le (Nat.le_refl _)]),0,rfl⟩
  case round=>
   obtain⟨k,hk,rfl,ht,q,rfl⟩:=hrel;rcases k with _|j
   ·go_wp2
    go_ret;exact⟨qa1 (EQ.out ht.out).symm,q,rfl⟩
   ·have e1:((j+1:Nat):Int)-1=(j:Int):=by omega
    simp only[e1];rcases hcellsa with h0|⟨b,o,rfl,hrow⟩
    ·omega
    rcases hcellsb with h0|⟨b',o',rfl,hrow'⟩
    ·have:=LEN.out;omega
    have hc:=hrow j (by omega);have hc':=hrow' j (by have:=LEN.out;omega);unfold wd at hc hc';have fj:=FIN.out j (by omega) ht.out;have sj:=STEP.out j (by omega) ht.out;have h2:j<r.length:=by have:=LEN.out;omega
    clear hrow hrow';generalize l.getD j 0=x at *;generalize r.getD j 0=y at *;have FJ:=hid fj;have SJ:=hid sj;clear fj sj FIN STEP EQ;by_cases hxy:x=y
    ·have hb:((x:Int) != (y:Int))=false:=by simp;omega
     have HXY:=hid hxy;clear hxy;go_wp2_with fail
     go_quiet (fail)
     go_wp2;go_roundw
     case rel=>exact⟨j,by omega,by go_num,hid (SJ.out HXY.out),_,rfl⟩
     case measure=>simp[intOf]
    ·have hb:((x:Int) != (y:Int))=true:=by simp;omega
     go_wp2_with fail
     go_quiet (fail)
     go_wp2_with fail;have hc2:((w.drewN q).drewN nq).cell? ⟨b,o+j,none⟩=some (.int .u64 x):=hc;have hc2':((w.drewN q).drewN nq).cell? ⟨b',o'+j,none⟩=some (.int .u64 y):=hc';have HW:Hid (∃k,(w.drewN q).drewN nq=w.drewN k):=⟨_,World.drewN_drewN _ _ _⟩;generalize (w.drewN q).drewN nq=w2 at *
     go_quiet ((go_at_call 111;exact Calls.quiet_of_same (qy0 _ _ _)))
     obtain⟨k,rfl⟩:=HW.out;go_wp2;go_ret;exact⟨qa1 (FJ.out (by omega)),_,World.drewN_drewN _ _ _⟩
 ·have hne:((((qaf B64 m).length:Nat):Int) != ((qaf B64 n).length:Nat))=true:=by simp;omega
  have HE:Hid (qql ((qaf B64 m).length:Nat) ((qaf B64 n).length:Nat)=qex m n):=by
   refine hid ?_;unfold qex;rcases Nat.lt_or_ge (qaf B64 m).length (qaf B64 n).length with h|h
   ·rw[qda (by omega),qda (by have:=qea qae h;omega)]
   ·have h':(qaf B64 n).length<(qaf B64 m).length:=by omega
    rw[qcl (by omega),qcl (by have:=qea qae h';omega)]
  clear hlen hcellsa hcellsb hla hlb;go_enter Tryz.func74,Tryz.ntmps74;go_wp2_with (go_at_call 50;refine(qju _ _ _).mono ?_;rintro e w' ⟨rfl,rfl⟩);go_ret;exact⟨qa1 HE.out,0,rfl⟩
end Go.Proofs.YthjagoogkkgelaaGreatDoor
