/- guess: a word that is at least the word of a quotient. -/
import Derived.Test.YtclimablgihlhaaGreatDoorMShift
import Derived.Test.YtclimablgihlhaaGreatDoorMBase
set_option linter.all false
namespace Go.Proofs.YtclimablgihlhaaGreatDoor
open Go.RowKit
set_option maxRecDepth 100000
set_option maxHeartbeats 1000000
theorem qum{B p W t Wlow Dv dh Dl Q:Nat}(hW:W=Wlow+p*t)(hWl:Wlow<p)(hD:Dv=Dl+p*dh)(Nh:0<dh)(hQ:Q*Dv≤W):Q≤t/dh:=by
 rw[Nat.le_div_iff_mul_le Nh];have h1:Q*(p*dh)≤Q*Dv:=Nat.mul_le_mul_left _ (by omega)
 have h2:p*(Q*dh)<p*(t+1):=by
  rw[Nat.mul_add,Nat.mul_one];have:Q*(p*dh)=p*(Q*dh):=by grind
  omega
 have:=Nat.lt_of_mul_lt_mul_left h2;have _:=B;omega
theorem qxs{B p W t w2 r Wlow Dv dh d2 Dl Q word:Nat}(hW:W=Wlow+p*(w2+B*t))(hWl:Wlow<p)(hD:Dv=Dl+p*(d2+B*dh))(hQ:Q*Dv≤W)(hQw:Q≤word)(gU:word*dh+r=t)
  (h:r*B+w2<word*d2):Q≤word-1∧1≤word:=by
 have h1:1≤word:=by
  rcases zav word with e|e
  ·rw[e,Nat.zero_mul] at h;omega
  ·exact e
 refine⟨?_,h1⟩;rcases Nat.lt_or_ge Q word with h2|h2
 ·omega
 ·exfalso
  have e:Q=word:=Nat.le_antisymm hQw h2;subst e;have h3:Q*(p*(d2+B*dh))≤Q*Dv:=Nat.mul_le_mul_left _ (by omega)
  have h4:w2+B*t+1≤Q*(d2+B*dh):=by
   rw[←gU,Nat.mul_add,Nat.mul_add,show Q*(B*dh)=B*(Q*dh) from by grind,show r*B=B*r from Nat.mul_comm _ _] at *;omega
  have h5:p*(w2+B*t+1)≤Q*(p*(d2+B*dh)):=by
   rw[show Q*(p*(d2+B*dh))=p*(Q*(d2+B*dh)) from by grind];exact Nat.mul_le_mul_left _ h4
  rw[Nat.mul_add p (w2+B*t) 1] at h5;omega
theorem qxt{word d2 r w2 hi lo B:Nat}(h:lo+B*hi=word*d2+0)(mI:w2<B):
  (r<hi→r*B+w2<word*d2)∧(hi=r→w2<lo→r*B+w2<word*d2):=by
 rw[Nat.add_zero] at h;constructor
 ·intro h1
  have:B*(r+1)≤B*hi:=Nat.mul_le_mul_left _ h1;rw[Nat.mul_add,Nat.mul_comm B r] at this;omega
 ·intro h1 h2
  subst h1;rw[Nat.mul_comm hi B];omega
theorem qxu(g o cw m cd bd od:Nat)(wn w1 w2 dh d2 Q:Nat)(w:World)
  (hm:m<4611686018427387904)
  (c1:w.cell? ⟨g,o+(m+2),none⟩=some (.int .u64 wn)) (c2:w.cell? ⟨g,o+(m+1),none⟩=some (.int .u64 w1)) (c3:w.cell? ⟨g,o+m,none⟩=some (.int .u64 w2))
  (c4:w.cell? ⟨bd,od+(m+1),none⟩=some (.int .u64 dh)) (c5:w.cell? ⟨bd,od+m,none⟩=some (.int .u64 d2))
  (sF:Hid (w1<B64)) (zK:Hid (w2<B64)) (HDH:Hid (dh<B64)) (pP:Hid (d2<B64)) (oK:Hid (Q<B64))
  (mZ:Hid (wn<dh→Q≤(wn*B64+w1)/dh))
  (lI:Hid (∀word r,Q≤word→word*dh+r=wn*B64+w1→r*B64+w2<word*d2→Q≤word-1∧1≤word)):
  Calls Tryz.prog 121 #[.slice (some ⟨g,o,none⟩) (m+2+1) cw,.slice (some ⟨bd,od,none⟩) (m+2) cd] w fun e w'=>
   (∃q:Nat,e = .returned (.int .u64 q)∧Q≤q∧q<B64)∧∃k,w'=w.drewN k:=by
 by_cases nA:dh≤wn
 ·have hc:(dh:Int)≤(wn:Int):=by omega
  have HR:Hid (Q≤18446744073709551615∧(18446744073709551615:Nat)<B64):=by
   have h1:=oK.out;rw[qab] at h1;exact hid ⟨by omega,by rw[qab];omega⟩
  clear nA;go_enter Tryz.func121,Tryz.ntmps121;go_wp2_with fail;go_ret;exact⟨⟨18446744073709551615,rfl,HR.out⟩,0,rfl⟩
 ·have bI:wn<dh:=by omega
  have hc:¬(dh:Int)≤(wn:Int):=by omega
  have tF:=hid (mZ.out bI)
  have dH:Hid (∀w,Calls Tryz.prog 169 #[.int .u64 wn,.int .u64 w1,.int .u64 dh] w fun e w'=>
   e = .returned (.tuple #[.int .u64 ((wn*B64+w1)/dh:Nat),.int .u64 ((wn*B64+w1) % dh:Nat)])∧∃n,w'=w.drewN n):=fun w=>qkx wn w1 dh bI HDH.out sF.out w
  have Nh:0<dh:=by omega
  have HI:Hid ((wn*B64+w1)/dh*dh+(wn*B64+w1) % dh=wn*B64+w1):=hid (by rw[Nat.mul_comm];exact Nat.div_add_mod _ _);have mG:Hid ((wn*B64+w1) % dh<B64):=hid (Nat.lt_trans (Nat.mod_lt _ Nh) HDH.out)
  have kS:Hid ((wn*B64+w1)/dh<B64):=hid (by
   rw[Nat.div_lt_iff_lt_mul Nh];have h1:(wn+1)*B64≤dh*B64:=Nat.mul_le_mul_right _ bI;rw[Nat.add_mul,Nat.mul_comm dh] at h1;have:=sF.out;rw[Nat.mul_comm B64 dh] at h1;rw[Nat.mul_comm B64 dh]
   omega)
  have HT:Hid (∃T,wn*B64+w1=T):=hid ⟨_,rfl⟩;obtain⟨T,hT⟩:=HT.out;rw[hT] at HI lI mG kS dH tF;clear nA hT HT mZ bI;have oQ:Hid (∀x w,x<B64→Calls Tryz.prog 165 #[.int .u64 x,.int .u64 d2] w fun e w'=>e = .returned (.tuple #[.int .u64 (qih x d2 0:Nat),.int .u64 (qig x d2 0:Nat)])∧w'=w):=fun x w hx=>qsc x d2 hx pP.out w;generalize T/dh=q0 at *;generalize T % dh=r0 at *;go_enter Tryz.func121,Tryz.ntmps121;go_wp2_with fail
  go_quiet ((go_at_call 169;exact Calls.quiet_of (dH.out _)))
  go_wp2_with fail;refine(oQ.out q0 _ kS.out).mono ?_;rintro e w' ⟨rfl,hw'⟩;rw[hw'];clear hw' dH;go_wp2_with fail;have zH:Hid (∃h l,qih q0 d2 0=h∧qig q0 d2 0=l):=hid ⟨_,_,rfl,rfl⟩
  go_loopw [7,8,9,10] (fun a b c d wr=>∃word r:Nat,a = .int .u64 word∧b = .int .u64 r∧c = .int .u64 (qih word d2 0:Nat)∧d = .int .u64 (qig word d2 0:Nat)∧Hid (Q≤word)∧Hid (word*dh+r=T)∧Hid (word<B64)∧Hid (r<B64)∧∃k,wr=w.drewN k) (fun a _ _ _ _=>(intOf a).toNat)
  case atStart=>exact⟨q0,r0,rfl,rfl,rfl,rfl,tF,HI,kS,mG,_,rfl⟩
  case round=>
   obtain⟨word,r,rfl,rfl,rfl,rfl,Ni,oM,HWL,HRL',k,rfl⟩:=hrel;have Ef:=qxt (r:=r) (w2:=w2) (qqw word d2 0) zK.out;have Gb:=hid Ef;have E1e:1≤word→IntKind.u64.wrap ((word-1:Nat):Int)=((word-1:Nat):Int):=fun h=>qa9 _ (by have:=HWL.out;omega);have E1c:1≤word→(word:Int)-1=((word-1:Nat):Int):=fun h=>by omega
   have E1a:1≤word→IntKind.u64.wrap ((word:Int)-1)=((word-1:Nat):Int):=fun h=>by rw[E1c h,E1e h]
   have HN:Hid (r*B64+w2<word*d2→Q≤word-1∧1≤word):=hid fun h=>lI.out word r Ni.out oM.out h
   have Am:Hid (1≤word→(word-1)*dh+(r+dh)=T):=hid fun h=>by
    have h1:=oM.out;obtain⟨v,rfl⟩:∃v,word=v+1:=⟨word-1,by omega⟩;rw[Nat.add_mul,Nat.one_mul] at h1;rw[Nat.add_sub_cancel];omega
   generalize tC:qih word d2 0=hi at *;generalize fW:qig word d2 0=lo at *;clear Ef tC fW;have mY:(r<hi∨(hi=r∧w2<lo))∨((hi=r∧lo≤w2)∨hi<r):=by omega
   rcases mY with hT|hF
   ·have bI:r*B64+w2<word*d2:=by
     rcases hT with h|⟨h1,h2⟩
     ·exact Gb.out.1 h
     ·exact Gb.out.2 h1 h2
    obtain⟨xZ,qJ⟩:=HN.out bI;have pN:=hid xZ;have e1:=E1e qJ;have e2:=E1c qJ;have e3:=E1a qJ;have kI:=hid (Am.out qJ);have yE:Hid (word-1<B64):=hid (by have:=HWL.out;omega);have lV:Hid (word-1<word):=hid (by omega);clear E1e E1c E1a HN Am Gb bI xZ qJ lI;generalize word-1=v at *;by_cases Cy:r+dh<B64
    ·have EW:IntKind.u64.wrap ((r:Int)+(dh:Int))=((r+dh:Nat):Int):=by rw[qwd];exact qa9 _ Cy
     have xE:¬((r+dh:Nat):Int)<(dh:Int):=by omega
     have An:=hid Cy;clear Cy;generalize zL:r+dh=r' at *;clear zL;rcases hT with h|⟨rfl,h⟩
     ·go_wp2_with fail
      refine(oQ.out v _ yE.out).mono ?_;rintro e w' ⟨rfl,hw'⟩;rw[hw'];clear hw';go_wp2_with fail;go_roundw
      case rel=>exact⟨v,r',rfl,rfl,rfl,rfl,pN,kI,yE,An,_,rfl⟩
      case measure=>simp only[intOf];have:=lV.out;omega
     ·go_wp2_with fail
      refine(oQ.out v _ yE.out).mono ?_;rintro e w' ⟨rfl,hw'⟩;rw[hw'];clear hw';go_wp2_with fail;go_roundw
      case rel=>exact⟨v,r',rfl,rfl,rfl,rfl,pN,kI,yE,An,_,rfl⟩
      case measure=>simp only[intOf];have:=lV.out;omega
    ·have EW:IntKind.u64.wrap ((r:Int)+(dh:Int))=((r+dh-B64:Nat):Int):=by
      have h1:=HRL'.out;have h2:=HDH.out;rw[qab] at *;rw[IntKind.wrap_u64];omega
     have xE:((r+dh-B64:Nat):Int)<(dh:Int):=by have:=HRL'.out;omega
     clear Cy;generalize zL:r+dh-B64=r' at *;clear zL;rcases hT with h|⟨rfl,h⟩
     ·go_wp2_with fail
      go_ret;exact⟨⟨v,rfl,pN.out,yE.out⟩,_,rfl⟩
     ·go_wp2_with fail
      go_ret;exact⟨⟨v,rfl,pN.out,yE.out⟩,_,rfl⟩
   ·clear E1e E1c E1a HN Am Gb lI
    rcases hF with⟨rfl,h⟩|h
    ·have h':¬(w2:Int)<(lo:Int):=by omega
     go_wp2_with fail;go_ret;exact⟨⟨word,rfl,Ni.out,HWL.out⟩,_,rfl⟩
    ·have h':((hi:Int)==(r:Int))=false:=zat (by omega)
     have h'':¬(r:Int)<(hi:Int):=by omega
     go_wp2_with fail;go_ret;exact⟨⟨word,rfl,Ni.out,HWL.out⟩,_,rfl⟩
def qen(m n:Nat):Int:=qr9 m n
theorem qeh.drewN{w:World}{v:Value}{n:Nat}{f:Nat→Value}(h:qeh w v n f)(k:Nat):qeh (w.drewN k) v n f:=h.later (below_drewN (zan _ _) k)
theorem qsg{l m:List Nat}{j:Nat}(hl:j<l.length)(hlm:l.length=m.length)(h:l.drop (j+1)=m.drop (j+1))(hd:l.getD j 0=m.getD j 0):l.drop j=m.drop j:=by
 rw[List.drop_eq_getElem_cons hl,List.drop_eq_getElem_cons (by omega:j<m.length),h]
 congr 1
 simpa [hl,(by omega:j<m.length)] using hd
theorem qd7(va vb:Value)(m n:Nat)(w:World)(ha:qap w va m)(hb:qap w vb n):
  Calls Tryz.prog 71 #[va,vb] w fun e w'=>e = .returned (.int .i64 (qen m n))∧∃q,w'=w.drewN q:=by
 obtain⟨dJ,pa,ca,rfl,kW,fP,hcellsa⟩:=ha;obtain⟨dG,pb,cb,rfl,kE,fZ,hcellsb⟩:=hb;unfold maxLen at fP fZ;by_cases aF:(qaf B64 m).length=(qaf B64 n).length
 ·have hne:((((qaf B64 m).length:Nat):Int) != ((qaf B64 n).length:Nat))=false:=by simp;omega
  have FIN:Hid (∀j,j<(qaf B64 m).length→(qaf B64 m).drop (j+1)=(qaf B64 n).drop (j+1)→(qaf B64 m).getD j 0≠(qaf B64 n).getD j 0→qr9 (((qaf B64 m).getD j 0:Nat):Int) (((qaf B64 n).getD j 0:Nat):Int)=qen m n):=by
   refine hid fun j hj ht hd => ?_;unfold qen;rcases Nat.lt_or_ge ((qaf B64 m).getD j 0) ((qaf B64 n).getD j 0) with h|h
   ·have:=qho qae aF dJ j hj ht h
    rw[qah _ _ qae,qah _ _ qae] at this;rw[qcy (by omega),qcy (by omega)]
   ·have h':(qaf B64 n).getD j 0<(qaf B64 m).getD j 0:=by omega
    have:=qho qae aF.symm dG j (by omega) ht.symm h';rw[qah _ _ qae,qah _ _ qae] at this;rw[qch (by omega),qch (by omega)]
  have EQ:Hid ((qaf B64 m).drop 0=(qaf B64 n).drop 0→qen m n=0):=hid fun h=>by
   have:=qqu qae (by simpa using h);subst this;exact qei rfl
  have STEP:Hid (∀j,j<(qaf B64 m).length→(qaf B64 m).drop (j+1)=(qaf B64 n).drop (j+1)→(qaf B64 m).getD j 0=(qaf B64 n).getD j 0→(qaf B64 m).drop j=(qaf B64 n).drop j):=hid fun j hj=>qsg hj aF;have LEN:=hid aF;clear aF;generalize qaf B64 m=l at *;generalize qaf B64 n=r at *;go_enter Tryz.func71,Tryz.ntmps71;go_wp2_with fail
  go_loopw [5] (fun i wr=>∃k:Nat,k≤l.length∧i = .int .i64 ((k:Int)-1)∧Hid (l.drop k=r.drop k)∧∃q,wr=w.drewN q) (fun i _=>(intOf i+1).toNat)
  case atStart=>exact⟨_,zap _,rfl,hid (by rw[List.drop_of_length_le (zap _),LEN.out,List.drop_of_length_le (zap _)]),0,rfl⟩
  case round=>
   obtain⟨k,hk,rfl,ht,q,rfl⟩:=hrel;rcases k with _|j
   ·go_wp2
    go_ret;exact⟨qa0 (EQ.out ht.out).symm,q,rfl⟩
   ·have e1:((j+1:Nat):Int)-1=(j:Int):=by omega
    simp only[e1];rcases hcellsa with h0|⟨b,o,rfl,aB⟩
    ·omega
    rcases hcellsb with h0|⟨b',o',rfl,hrow'⟩
    ·have:=LEN.out;omega
    have hc:=aB j (by omega);have hc':=hrow' j (by have:=LEN.out;omega);unfold wd at hc hc';have fj:=FIN.out j (by omega) ht.out;have sj:=STEP.out j (by omega) ht.out;have h2:j<r.length:=by have:=LEN.out;omega
    clear aB hrow';generalize l.getD j 0=x at *;generalize r.getD j 0=y at *;have FJ:=hid fj;have SJ:=hid sj;clear fj sj FIN STEP EQ;by_cases xF:x=y
    ·have hb:((x:Int) != (y:Int))=false:=by simp;omega
     have sG:=hid xF;clear xF;go_wp2_with fail
     go_quiet (fail)
     go_wp2;go_roundw
     case rel=>exact⟨j,by omega,by go_num,hid (SJ.out sG.out),_,rfl⟩
     case measure=>simp[intOf]
    ·have hb:((x:Int) != (y:Int))=true:=by simp;omega
     go_wp2_with fail
     go_quiet (fail)
     go_wp2_with fail;have bK:((w.drewN q).drewN nq).cell? ⟨b,o+j,none⟩=some (.int .u64 x):=hc;have hc2':((w.drewN q).drewN nq).cell? ⟨b',o'+j,none⟩=some (.int .u64 y):=hc';have HW:Hid (∃k,(w.drewN q).drewN nq=w.drewN k):=⟨_,World.drewN_drewN _ _ _⟩;generalize (w.drewN q).drewN nq=w2 at *
     go_quiet ((go_at_call 108;exact Calls.quiet_of_same (qxl _ _ _)))
     obtain⟨k,rfl⟩:=HW.out;go_wp2;go_ret;exact⟨qa0 (FJ.out (by omega)),_,World.drewN_drewN _ _ _⟩
 ·have hne:((((qaf B64 m).length:Nat):Int) != ((qaf B64 n).length:Nat))=true:=by simp;omega
  have HE:Hid (qr9 ((qaf B64 m).length:Nat) ((qaf B64 n).length:Nat)=qen m n):=by
   refine hid ?_;unfold qen;rcases Nat.lt_or_ge (qaf B64 m).length (qaf B64 n).length with h|h
   ·rw[qcy (by omega),qcy (by have:=qd3 qae h;omega)]
   ·have h':(qaf B64 n).length<(qaf B64 m).length:=by omega
    rw[qch (by omega),qch (by have:=qd3 qae h';omega)]
  clear aF hcellsa hcellsb dJ dG;go_enter Tryz.func71,Tryz.ntmps71;go_wp2_with (go_at_call 58;refine(qja _ _ _).mono ?_;rintro e w' ⟨rfl,rfl⟩);go_ret;exact⟨qa0 HE.out,0,rfl⟩
end Go.Proofs.YtclimablgihlhaaGreatDoor
