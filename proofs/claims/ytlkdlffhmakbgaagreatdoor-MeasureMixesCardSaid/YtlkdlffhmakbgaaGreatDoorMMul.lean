/- add: the sum of two natural numbers; word. -/
import Derived.Test.YtlkdlffhmakbgaaGreatDoorMBase
import Derived.Laws.OwnMore
import Derived.OwnWalk
import Derived.Lib.SliceRun
import Derived.Deep.AppendLies
set_option linter.all false
namespace Go.Proofs.YtlkdlffhmakbgaaGreatDoor
open Go.RowKit
set_option maxRecDepth 100000
set_option maxHeartbeats 1000000
theorem qwx(v:Value)(l:List Nat)(i:Int)(w:World)(h:Wds w v l)(hi:0≤i):
  Calls Tryz.prog 219 #[v,.int .i64 i] w fun e w'=>e = .returned (.int .u64 (l.getD i.toNat 0:Nat))∧w'=w:=by
 obtain⟨hl,p,c,rfl,bO,bG,aA⟩:=h;unfold maxLen at bG;obtain⟨i,rfl⟩:=Int.eq_ofNat_of_zero_le hi;rw[Int.toNat_natCast];by_cases Eg:i<l.length
 ·rcases aA with h0|⟨b,o,rfl,aB⟩
  ·omega
  have aC:=aB i Eg;unfold wd at aC;clear aB hl;generalize l.getD i 0=x at *;go_enter Tryz.func219,Tryz.ntmps219;go_wp2;go_ret;exact⟨rfl,rfl⟩
 ·have e:l.getD i 0=0:=by simp[qba,List.getElem?_eq_none (by omega:l.length≤i)]
  rw[e];clear e;go_enter Tryz.func219,Tryz.ntmps219;go_wp2;go_ret;exact⟨rfl,rfl⟩
theorem qmg{w:World}{g c:Nat}{l:List Nat}(h:Own w g l.length (wd l))(hl:∀d ∈ l,d<B64)(hn:l.length≤c)(hc:c≤maxLen):Wds w (.slice (some ⟨g,0,none⟩) l.length c) l:=⟨hl,h.sliceAt hn hc⟩
theorem q4n{B b s la ra lo hi c x y lx:Nat}(h:s+b*c=la+ra)(hx:lo+B*hi=x+y+c)(hl:lx=s+b*lo):lx+(b*B)*hi=(la+b*x)+(ra+b*y):=by
 subst hl;have:=congrArg (b * ·) hx;simp only[Nat.mul_add] at this;rw[Nat.mul_assoc];omega
theorem q6p(va vb:Value)(pa pb:Option Addr)(ca cb:Nat)(l r:List Nat)(w:World)(ha:Wds w (.slice pa l.length ca) l)(hb:Wds w (.slice pb r.length cb) r)(rI:r.length≠0)(hlr:r.length≤l.length)(aQ:l.length≤Cap)
  (Eh:(va = .slice pa l.length ca∧vb = .slice pb r.length cb)∨(va = .slice pb r.length cb∧vb = .slice pa l.length ca∧r.length<l.length)):
  Calls Tryz.prog 149 #[va,vb] w fun e w'=>(∃v',e = .returned v'∧qa5 w' v' (val B64 l+val B64 r))∧Below w.heap.size w w':=by
 obtain⟨dF,pa',ca',he,kB,fI,hcellsa⟩:=ha;cases he
 obtain⟨cS,pb',cb',he,jJ,fQ,hcellsb⟩:=hb;cases he
 unfold maxLen at fI fQ;rcases hcellsa with h0|⟨ba,oa,rfl,fD⟩
 ·omega
 rcases hcellsb with h0|⟨bb,ob,rfl,dL⟩
 ·omega
 have lO:=fun w=>qf8 (l.length+1) ((l.length:Int)+1) (by omega) (by have:=qkh;omega) w;have hr0':((r.length:Int)==0)=false:=qam (by omega);have rJ:l.length<4611686018427387904:=by have:=aQ;unfold Cap at this;omega
 have HL:=hid hlr;have aY:¬(l.length:Int)<r.length:=by omega
 have HC:=hid aQ;have HR:=hid rI;clear hlr aQ rI;rcases Eh with⟨rfl,rfl⟩|⟨rfl,rfl,Gw⟩
 all_goals
  go_enter Tryz.func149,Tryz.ntmps149;go_wp2_with fail;have aU:=qg6 w (l.length+1);have bK:Below w.heap.size w (w.alloc (qbk (l.length+1))):=qad _ _;have aX:Hid ((List.replicate (l.length+1) 0).length=l.length+1):=hid (by simp);have iH:=qcf (b:=B64) (by rw[qai];omega) (l.length+1);have lQ:Hid (low B64 (List.replicate (l.length+1) 0) 0+B64^0*0=low B64 l 0+low B64 r 0):=hid (by simp);have bF:Own (w.alloc (qbk (l.length+1))) w.heap.size (List.replicate (l.length+1) 0).length (wd (List.replicate (l.length+1) 0)):=by rw[aX.out];exact aU
  clear aU;generalize List.replicate (l.length+1) 0=s0 at *;generalize w.alloc (qbk (l.length+1))=w1 at *;have HG:Hid (∃g,g=w.heap.size):=hid ⟨_,rfl⟩
  go_loopw [6,26] (fun c i wr=>∃k cc:Nat,∃s:List Nat,k≤l.length∧i = .int .i64 k∧c = .int .u64 cc∧cc≤1∧Hid (s.length=l.length+1)∧(∀d ∈ s,d<B64)∧Own wr w.heap.size s.length (wd s)∧Hid (low B64 s k+B64^k*cc=low B64 l k+low B64 r k)∧Below w.heap.size w wr) (fun _ i _=>l.length-(intOf i).toNat)
  case atStart=>exact⟨0,0,s0,Nat.zero_le _,rfl,rfl,by omega,aX,iH,bF,lQ,bK⟩
  case round=>
   obtain⟨k,cc,s,hk,rfl,rfl,fR,aT,hsb,ho,HS,hb⟩:=hrel;clear lQ aX bF iH bK;by_cases cT:k<l.length
   ·have hx:=(fD.later hb) k cT
    obtain⟨hg,mJ⟩:=ho.2 k (by rw[aT.out];omega);have eF:=qaz (b:=B64) (by rw[qai];omega) dF k;have kY:=qaz (b:=B64) (by rw[qai];omega) cS k;have jT:=qws (l.getD k 0) (r.getD k 0) cc;have hh:=qra eF kY fR;have fO:=qnv (l.getD k 0) (r.getD k 0) cc;have nU:=fun w=>qiz (l.getD k 0) (r.getD k 0) cc fR w;have eS:=qa0 B64 l k;have Mt:=qa0 B64 r k;have eT:=qb3 B64 s k (qgy (l.getD k 0) (r.getD k 0) cc) (by rw[aT.out];omega);have HO:Hid (Own (wr.setCell ⟨w.heap.size,k,none⟩ (.int .u64 (qgy (l.getD k 0) (r.getD k 0) cc:Nat))) w.heap.size (s.set k (qgy (l.getD k 0) (r.getD k 0) cc)).length (wd (s.set k (qgy (l.getD k 0) (r.getD k 0) cc)))):=hid (ho.setWord k (by rw[aT.out];omega) _);have cF:Hid (∀d ∈ s.set k (qgy (l.getD k 0) (r.getD k 0) cc),d<B64):=hid (qc8 hsb k _ fO);have HSL':Hid ((s.set k (qgy (l.getD k 0) (r.getD k 0) cc)).length=l.length+1):=hid (by rw[List.length_set];exact aT.out)
    have cI:Hid (low B64 (s.set k (qgy (l.getD k 0) (r.getD k 0) cc)) (k+1)+B64^(k+1)*(qiy (l.getD k 0) (r.getD k 0) cc)=low B64 l (k+1)+low B64 r (k+1)):=
     hid (by rw[eS,Mt,Nat.pow_succ];exact q4n HS.out jT eT)
    have aG:Hid (Below w.heap.size w (wr.setCell ⟨w.heap.size,k,none⟩ (.int .u64 (qgy (l.getD k 0) (r.getD k 0) cc:Nat)))):=hid (hb.setCell (qac _) _);have HY:Hid (k<r.length→wr.cell? ⟨bb,ob+k,none⟩=some (.int .u64 (r.getD k 0:Nat))):=hid fun h=>(dL.later hb) k h;have uC:Hid (¬k<r.length→r.getD k 0=0):=hid fun h=>by simp[List.getElem?_eq_none (by omega:r.length≤k)]
    unfold wd at hx hg;generalize qgy (l.getD k 0) (r.getD k 0) cc=lo at *;generalize qiy (l.getD k 0) (r.getD k 0) cc=hi at *;generalize l.getD k 0=x at *;generalize s.getD k 0=old at *;clear eS Mt eT jT fO eF kY fD dL dF cS ho HS hsb hb;by_cases Mu:k<r.length
    ·have hy:=HY.out Mu
     clear HY uC;generalize r.getD k 0=y at *;go_wp2_with fail;go_roundw
     case rel=>exact⟨k+1,hi,_,by omega,by go_num,rfl,hh,HSL',cF.out,HO.out,cI,aG.out⟩
     case measure=>simp[intOf];omega
    ·rw[uC.out Mu,show((0:Nat):Int)=0 from rfl] at nU
     clear HY uC;go_wp2_with fail;go_roundw
     case rel=>exact⟨k+1,hi,_,by omega,by go_num,rfl,hh,HSL',cF.out,HO.out,cI,aG.out⟩
     case measure=>simp[intOf];omega
   ·have e:k=l.length:=by omega
    subst e;obtain⟨hg,mJ⟩:=ho.2 l.length (by rw[aT.out];omega);have Cf:cc<B64:=by rw[qai];omega
    have mH:=qb3 B64 s l.length cc (by rw[aT.out];omega);have Ei:=qbi B64 (s.set l.length cc) (l.length+1) (by rw[List.length_set,aT.out];exact qac _)
    have kC:val B64 (s.set l.length cc)=val B64 l+val B64 r:=by
     rw[←Ei,mH,HS.out,qbi B64 l _ (qac _),qbi B64 r _ HL.out]
    have ho':=ho.setWord l.length (by rw[aT.out];omega) cc;have hlen':(s.set l.length cc).length=l.length+1:=by rw[List.length_set];exact aT.out
    have hw:Wds (wr.setCell ⟨w.heap.size,l.length,none⟩ (.int .u64 (cc:Nat))) (.slice (some ⟨w.heap.size,0,none⟩) (l.length+1) (l.length+1)) (s.set l.length cc):=by
     have:=qmg ho' (qc8 hsb l.length cc Cf) (qac _) (by rw[hlen'];unfold maxLen;omega);rw[hlen'] at this;exact this
    have HT:=hid (qjk _ _ _ hw);have HB:Hid (Below w.heap.size w (wr.setCell ⟨w.heap.size,l.length,none⟩ (.int .u64 (cc:Nat)))):=hid (hb.setCell (qac _) _);rw[kC] at HT;clear hw hlen' ho' kC mH Ei Cf ho HS hsb hb fD dL dF cS;generalize hgo:wd s l.length=old at *;clear hgo;go_wp2_with fail;refine HT.out.mono ?_;rintro e w' ⟨⟨v',rfl,hn⟩,hw'⟩;subst hw';go_wp2_with fail;go_ret;exact⟨⟨_,rfl,hn⟩,HB.out⟩
theorem qki{w:World}{v:Value}{n:Nat}(h:qa5 w v n):∃(l:List Nat) (p:Option Addr) (c:Nat),v = .slice p l.length c∧Wds w v l∧val B64 l=n∧l.length=wl n:=by
 obtain⟨h1,p,c,hv,h2⟩:=h;exact⟨qan B64 n,p,c,hv,⟨h1,p,c,hv,h2⟩,qar _ _ qal,rfl⟩
theorem qeu{n:Nat}(h:wl n=0):n=0:=(qe4 qal).1 (List.eq_nil_of_length_eq_zero h)
theorem q0q(va vb:Value)(m n:Nat)(w:World)(ha:qa5 w va m)(hb:qa5 w vb n)(hm:wl m≤Cap)(hn:wl n≤Cap):
  Calls Tryz.prog 149 #[va,vb] w fun e w'=>(∃v',e = .returned v'∧qa5 w' v' (m+n))∧Below w.heap.size w w':=by
 have HA:=hid ha;have HB:=hid hb;obtain⟨l,pa,ca,rfl,kZ,rfl,dF⟩:=qki ha;obtain⟨r,pb,cb,rfl,iK,rfl,cS⟩:=qki hb;rw[←dF] at hm;rw[←cS] at hn;have Hla:=hid dF;have Hlb:=hid cS;clear dF cS ha hb;rcases Nat.lt_or_ge l.length r.length with aY|aY
 ·by_cases kD:l.length=0
  ·have e0:val B64 l=0:=qeu (by rw[←Hla.out];exact kD)
   have aZ:((l.length:Int)==0)=true:=by rw[kD];rfl
   have aR:(l.length:Int)<r.length:=by omega
   rw[e0,Nat.zero_add];clear kZ iK kD hm hn e0 aY;go_enter Tryz.func149,Tryz.ntmps149;go_wp2_with fail;go_ret;exact⟨⟨_,rfl,HB.out⟩,qaa _ _⟩
  ·rw[Nat.add_comm]
   exact q6p _ _ pb pa cb ca r l w iK kZ kD (by omega) hn (.inr ⟨rfl,rfl,aY⟩)
 ·by_cases rI:r.length=0
  ·have e0:val B64 r=0:=qeu (by rw[←Hlb.out];exact rI)
   have aZ:((r.length:Int)==0)=true:=by rw[rI];rfl
   have aR:¬(l.length:Int)<r.length:=by omega
   rw[e0,Nat.add_zero];clear kZ iK rI hm hn e0 aY;go_enter Tryz.func149,Tryz.ntmps149;go_wp2_with fail;go_ret;exact⟨⟨_,rfl,HA.out⟩,qaa _ _⟩
  ·exact q6p _ _ pa pb ca cb l r w kZ iK rI aY hm (.inl ⟨rfl,rfl⟩)
theorem q4o{B b s la ra lo hi c x y ls:Nat}(h:s+ra=la+b*c)(hx:lo+y+c=x+B*hi)(hl:ls=s+b*lo):ls+(ra+b*y)=(la+b*x)+(b*B)*hi:=by
 subst hl;have:=congrArg (b * ·) hx;simp only[Nat.mul_add] at this;rw[Nat.mul_assoc];omega
theorem q67{s r l p c:Nat}(h1:s+r=l+p*c)(h2:s<p)(h3:r≤l)(hc:c≤1):s=l-r:=by
 have:c=0∨c=1:=by omega
 rcases this with rfl|rfl<;>omega
theorem qm8(va vb:Value)(m n:Nat)(w:World)(ha:qa5 w va m)(hb:qa5 w vb n)(Ej:n≤m)(hm:wl m≤Cap):
  Calls Tryz.prog 167 #[va,vb] w fun e w'=>(∃v',e = .returned v'∧qa5 w' v' (m-n))∧Below w.heap.size w w':=by
 have HA:=hid ha;have aX:=hid (qak qal Ej);obtain⟨l,pa,ca,rfl,kZ,sU,dF⟩:=qki ha;obtain⟨r,pb,cb,rfl,iK,Bi,cS⟩:=qki hb;by_cases rI:r.length=0
 ·have e0:n=0:=qeu (by rw[←cS];exact rI)
  subst e0;have aZ:((r.length:Int)==0)=true:=by rw[rI];rfl
  rw[Nat.sub_zero];clear kZ iK rI hm sU Bi dF cS Ej aX ha hb;go_enter Tryz.func167,Tryz.ntmps167;go_wp2_with fail;go_ret;exact⟨⟨_,rfl,HA.out⟩,qaa _ _⟩
 ·have Kx:Hid (r.length≤l.length):=hid (by rw[dF,cS];exact aX.out)
  have HV:Hid (val B64 r≤val B64 l∧val B64 l-val B64 r=m-n):=hid (by rw[sU,Bi];exact⟨Ej,rfl⟩);rw[←dF] at hm;obtain⟨hla',pa',ca',he,kB,fI,hcellsa⟩:=kZ;cases he
  obtain⟨hlb',pb',cb',he,jJ,fQ,hcellsb⟩:=iK;cases he
  unfold maxLen at fI fQ;rcases hcellsa with h0|⟨ba,oa,rfl,fD⟩
  ·have:=Kx.out;omega
  rcases hcellsb with h0|⟨bb,ob,rfl,dL⟩
  ·omega
  have lO:=fun w=>qf8 l.length (l.length:Int) rfl (by omega) w;have hr0':((r.length:Int)==0)=false:=qam (by omega);have rJ:l.length<4611686018427387904:=by have:=hm;unfold Cap at this;omega
  clear rI hm sU Bi dF cS Ej aX ha hb HA;go_enter Tryz.func167,Tryz.ntmps167;go_wp2_with fail;have aU:=qg6 w l.length;have bK:Below w.heap.size w (w.alloc (qbk l.length)):=qad _ _;have aX:Hid ((List.replicate l.length 0).length=l.length):=hid (by simp);have iH:=qcf (b:=B64) (by rw[qai];omega) l.length;have lQ:Hid (low B64 (List.replicate l.length 0) 0+low B64 r 0=low B64 l 0+B64^0*0):=hid (by simp);have bF:Own (w.alloc (qbk l.length)) w.heap.size (List.replicate l.length 0).length (wd (List.replicate l.length 0)):=by rw[aX.out];exact aU
  clear aU;generalize List.replicate l.length 0=s0 at *;generalize w.alloc (qbk l.length)=w1 at *
  go_loopw [6,18] (fun c i wr=>∃k cc:Nat,∃s:List Nat,k≤l.length∧i = .int .i64 k∧c = .int .u64 cc∧cc≤1∧Hid (s.length=l.length)∧(∀d ∈ s,d<B64)∧Own wr w.heap.size s.length (wd s)∧Hid (low B64 s k+low B64 r k=low B64 l k+B64^k*cc)∧Below w.heap.size w wr) (fun _ i _=>l.length-(intOf i).toNat)
  case atStart=>exact⟨0,0,s0,Nat.zero_le _,rfl,rfl,by omega,aX,iH,bF,lQ,bK⟩
  case round=>
   obtain⟨k,cc,s,hk,rfl,rfl,fR,aT,hsb,ho,HS,hb⟩:=hrel;clear lQ aX bF iH bK;by_cases cT:k<l.length
   ·have hx:=(fD.later hb) k cT
    obtain⟨hg,mJ⟩:=ho.2 k (by rw[aT.out];omega);have eF:=qaz (b:=B64) (by rw[qai];omega) hla' k;have kY:=qaz (b:=B64) (by rw[qai];omega) hlb' k;have jT:=qsp eF kY fR;have hh:=qnw (l.getD k 0) (r.getD k 0) cc;have fO:=qk4 (l.getD k 0) (r.getD k 0) cc;have nU:=fun w=>qi0 (l.getD k 0) (r.getD k 0) cc fR w;have eS:=qa0 B64 l k;have Mt:=qa0 B64 r k;have eT:=qb3 B64 s k (qhs (l.getD k 0) (r.getD k 0) cc) (by rw[aT.out];omega);have HO:Hid (Own (wr.setCell ⟨w.heap.size,k,none⟩ (.int .u64 (qhs (l.getD k 0) (r.getD k 0) cc:Nat))) w.heap.size (s.set k (qhs (l.getD k 0) (r.getD k 0) cc)).length (wd (s.set k (qhs (l.getD k 0) (r.getD k 0) cc)))):=hid (ho.setWord k (by rw[aT.out];omega) _);have cF:Hid (∀d ∈ s.set k (qhs (l.getD k 0) (r.getD k 0) cc),d<B64):=hid (qc8 hsb k _ fO);have HSL':Hid ((s.set k (qhs (l.getD k 0) (r.getD k 0) cc)).length=l.length):=hid (by rw[List.length_set];exact aT.out)
    have cI:Hid (low B64 (s.set k (qhs (l.getD k 0) (r.getD k 0) cc)) (k+1)+low B64 r (k+1)=low B64 l (k+1)+B64^(k+1)*(qmd (l.getD k 0) (r.getD k 0) cc)):=
     hid (by rw[eS,Mt,Nat.pow_succ];exact q4o HS.out jT eT)
    have aG:Hid (Below w.heap.size w (wr.setCell ⟨w.heap.size,k,none⟩ (.int .u64 (qhs (l.getD k 0) (r.getD k 0) cc:Nat)))):=hid (hb.setCell (qac _) _);have HY:Hid (k<r.length→wr.cell? ⟨bb,ob+k,none⟩=some (.int .u64 (r.getD k 0:Nat))):=hid fun h=>(dL.later hb) k h;have uC:Hid (¬k<r.length→r.getD k 0=0):=hid fun h=>by simp[List.getElem?_eq_none (by omega:r.length≤k)]
    unfold wd at hx hg;generalize qhs (l.getD k 0) (r.getD k 0) cc=lo at *;generalize qmd (l.getD k 0) (r.getD k 0) cc=hi at *;generalize l.getD k 0=x at *;generalize s.getD k 0=old at *;clear eS Mt eT jT fO eF kY fD dL hla' hlb' ho HS hsb hb;by_cases Mu:k<r.length
    ·have hy:=HY.out Mu
     clear HY uC;generalize r.getD k 0=y at *;go_wp2_with fail;go_roundw
     case rel=>exact⟨k+1,hi,_,by omega,by go_num,rfl,hh,HSL',cF.out,HO.out,cI,aG.out⟩
     case measure=>simp[intOf];omega
    ·rw[uC.out Mu,show((0:Nat):Int)=0 from rfl] at nU
     clear HY uC;go_wp2_with fail;go_roundw
     case rel=>exact⟨k+1,hi,_,by omega,by go_num,rfl,hh,HSL',cF.out,HO.out,cI,aG.out⟩
     case measure=>simp[intOf];omega
   ·have e:k=l.length:=by omega
    subst e
    have kC:val B64 s=m-n:=by
     have h1:=HS.out;rw[qbi B64 s _ (by rw[aT.out];exact qac _),qbi B64 l _ (qac _),qbi B64 r _ Kx.out] at h1;have h2:=qiu B64 s hsb;rw[aT.out] at h2;rw[←HV.out.2];exact q67 h1 h2 HV.out.1 fR
    have hw:Wds wr (.slice (some ⟨w.heap.size,0,none⟩) l.length l.length) s:=by
     have:=qmg ho hsb (qac _) (by rw[aT.out];unfold maxLen;omega);rw[aT.out] at this;exact this
    have HT:=hid (qjk _ _ _ hw);rw[kC] at HT;have aG:=hid hb;clear hw kC ho HS hsb hb fD dL hla' hlb';go_wp2_with fail;refine HT.out.mono ?_;rintro e w' ⟨⟨v',rfl,hn⟩,hw'⟩;subst hw';go_wp2_with fail;go_ret;exact⟨⟨_,rfl,hn⟩,aG.out⟩
theorem qnx:qan B64 1=[1]:=by
 rw[qfx B64 1 qal (by omega)];have h1:1 % B64=1:=by rw[qai]
 have h2:1/B64=0:=by rw[qai]
 rw[h1,h2,qat]
theorem quu{n:Nat}:qan B64 n=[1]↔n=1:=by
 constructor
 ·intro h;rw[←qnx] at h;exact qq9 qal h
 ·rintro rfl;exact qnx
theorem qcm(v:Value)(n:Nat)(b:Bool)(hb:b=decide (n=1))(w:World)(h:qa5 w v n):
  Calls Tryz.prog 143 #[v] w fun e w'=>e = .returned (.bool b)∧w=w':=by
 refine(q0l v _ w h).mono ?_;rintro e w' ⟨rfl,rfl⟩;refine⟨qa9 ?_,rfl⟩;rw[hb];exact decide_eq_decide.2 quu
theorem quv{B x y p z lo hi s c:Nat}(hx:x<B)(hy:y<B)(hp:p<B)(hz:z<B)(h1:lo+B*hi=y*x+z)(h2:s+B*c=p+lo):hi+c<B∧s+B*(hi+c)=p+y*x+z:=by
 have e:s+B*(hi+c)=p+y*x+z:=by rw[Nat.mul_add];omega
 refine⟨?_,e⟩;rcases Nat.lt_or_ge (hi+c) B with h|h
 ·exact h
 ·have h3:B*B≤B*(hi+c):=Nat.mul_le_mul_left B h
  have h4:y*x≤(B-1)*(B-1):=Nat.mul_le_mul (by omega) (by omega);obtain⟨b,rfl⟩:∃b,B=b+1:=⟨B-1,by omega⟩;simp only[Nat.add_sub_cancel] at h4;have e2:(b+1)*(b+1)=b*b+2*b+1:=by grind
  omega
theorem qwy{B P x s0 s r more more' p y sum q ls ls0 lr:Nat}(h:s+(P*q)*more=s0+P*x*r)(hs:sum+B*more'=p+y*x+more)
  (hls:ls=s+(P*q)*sum) (hls0:ls0=s0+(P*q)*p) (hlr:lr=r+q*y):ls+(P*q*B)*more'=ls0+P*x*lr:=by
 subst hls hls0 hlr;have:=congrArg ((P*q) * ·) hs;simp only[Nat.mul_add] at this;have e1:P*q*(B*more')=P*q*B*more':=(Nat.mul_assoc _ _ _).symm;have e2:P*q*(y*x)=P*x*(q*y):=by grind
 rw[Nat.mul_add,←e2];omega
theorem qre(va vb:Value)(m n:Nat)(w:World)(ha:qa5 w va m)(hb:qa5 w vb n)(eU:m≠1)(dZ:n≠1)(hm:wl m≤Cap)(hn:wl n≤Cap):
  Calls Tryz.prog 108 #[va,vb] w fun e w'=>(∃v',e = .returned v'∧qa5 w' v' (m*n))∧Below w.heap.size w w':=by
 have eP:=hid (qcm va m false (by simp[eU]) w ha);have aP:=hid (qcm vb n false (by simp[dZ]) w hb);obtain⟨l,pa,ca,rfl,kZ,rfl,dF⟩:=qki ha;obtain⟨r,pb,cb,rfl,iK,rfl,cS⟩:=qki hb;rw[←dF] at hm;rw[←cS] at hn;have kE:=hid hm;have Ky:=hid hn;obtain⟨hla',pa',ca',he,kB,fI,hcellsa⟩:=kZ;cases he
 obtain⟨hlb',pb',cb',he,jJ,fQ,hcellsb⟩:=iK;cases he
 have lO:=fun w=>qf8 (l.length+r.length) ((l.length:Int)+(r.length:Int)) (by omega) (by omega) w;have rJ:l.length<1152921504606846976:=by have:=hm;unfold Cap at this;omega
 have hr62:r.length<1152921504606846976:=by have:=hn;unfold Cap at this;omega
 have rK:Hid (l.length=0∨∃b o,pa=some ⟨b,o,none⟩∧qmc w b o l.length (wd l)):=hcellsa;have xX:Hid (r.length=0∨∃b o,pb=some ⟨b,o,none⟩∧qmc w b o r.length (wd r)):=hcellsb;have lA:=hid hla';have jE:=hid hlb';clear eU dZ hm hn dF cS ha hb hcellsa hcellsb hla' hlb' kB fI jJ fQ;go_enter Tryz.func108,Tryz.ntmps108;go_wp2_with fail;refine eP.out.mono ?_;rintro e w' ⟨rfl,hw⟩;subst hw;go_wp2_with fail;refine aP.out.mono ?_;rintro e w' ⟨rfl,hw⟩;subst hw;go_wp2_with fail;have aU:=qg6 w (l.length+r.length);have bK:Below w.heap.size w (w.alloc (qbk (l.length+r.length))):=qad _ _;have aX:Hid ((List.replicate (l.length+r.length) 0).length=l.length+r.length):=hid (by simp);have iH:=qcf (b:=B64) (by rw[qai];omega) (l.length+r.length);have lQ:Hid (low B64 (List.replicate (l.length+r.length) 0) (0+r.length)=low B64 l 0*val B64 r):=hid (by simp[low,qgn]);have bF:Own (w.alloc (qbk (l.length+r.length))) w.heap.size (List.replicate (l.length+r.length) 0).length (wd (List.replicate (l.length+r.length) 0)):=by rw[aX.out];exact aU
 clear aU;generalize List.replicate (l.length+r.length) 0=s0 at *;generalize w.alloc (qbk (l.length+r.length))=w1 at *
 go_loopw [29] (fun i wr=>∃k:Nat,∃s:List Nat,k≤l.length∧i = .int .i64 k∧Hid (s.length=l.length+r.length)∧(∀d ∈ s,d<B64)∧Own wr w.heap.size s.length (wd s)∧Hid (low B64 s (k+r.length)=low B64 l k*val B64 r)∧Below w.heap.size w wr) (fun i _=>l.length-(intOf i).toNat)
 case atStart=>exact⟨0,s0,Nat.zero_le _,rfl,aX,iH,bF,lQ,bK⟩
 case round=>
  obtain⟨k,s,hk,rfl,aT,hsb,ho,HS,hb⟩:=hrel;clear lQ aX bF iH bK;by_cases cT:k<l.length
  ·rcases rK.out with h0|⟨ba,oa,rfl,fD⟩
   ·omega
   have hx:=(fD.later hb) k cT;have HXL:=hid (qaz (b:=B64) (by rw[qai];omega) lA.out k);have Gx:=hid (qa0 B64 l k);unfold wd at hx;generalize l.getD k 0=x at *;clear fD;have cP:=hid hsb;have HO:=hid ho;have HB:=hid hb;clear hsb ho hb;go_wp2_with fail
   go_loopw [8,36] (fun c i wr=>∃j cc:Nat,∃s':List Nat,j≤r.length∧i = .int .i64 j∧c = .int .u64 cc∧Hid (cc<B64)∧Hid (s'.length=l.length+r.length)∧Hid (∀d ∈ s',d<B64)∧Hid (Own wr w.heap.size s'.length (wd s'))∧Hid (low B64 s' (k+j)+(B64^k*B64^j)*cc=low B64 s (k+j)+B64^k*x*low B64 r j)∧Hid (∀i,k+j≤i→s'.getD i 0=s.getD i 0)∧Hid (Below w.heap.size w wr)) (fun _ i _=>r.length-(intOf i).toNat)
   case atStart=>exact⟨0,0,s,Nat.zero_le _,rfl,rfl,hid (by rw[qai];omega),aT,cP,HO,hid (by simp),hid (fun _ _=>rfl),HB⟩
   case round=>
    obtain⟨j,cc,s',hj,rfl,rfl,Ek,HSL',HSB',HO',cI,aS,HB'⟩:=hrel;by_cases hjr:j<r.length
    ·rcases xX.out with h0|⟨bb,ob,rfl,dL⟩
     ·omega
     have pY:k+j<s'.length:=by rw[HSL'.out];omega
     have hy:=(dL.later HB'.out) j hjr;obtain⟨hg,mJ⟩:=HO'.out.2 (k+j) pY;have kY:=qaz (b:=B64) (by rw[qai];omega) jE.out j;have nV:=qaz (b:=B64) (by rw[qai];omega) HSB'.out (k+j);have El:=qrb (r.getD j 0) x cc;have fO:=qkg (r.getD j 0) x cc
     have HM:Hid (∀w,Calls Tryz.prog 142 #[.int .u64 (r.getD j 0:Nat),.int .u64 x,.int .u64 cc] w fun e w'=>e = .returned (.tuple #[.int .u64 (qis (r.getD j 0) x cc:Nat),.int .u64 (qit (r.getD j 0) x cc:Nat)])∧w'=w):=
      fun w=>qcb _ _ _ kY HXL.out Ek.out w
     have bQ:=aS.out (k+j) (qac _);have yO:=qa0 B64 s (k+j);have yP:=qa0 B64 r j;unfold wd at hy hg;have eQ:=fun v=>qb3 B64 s' (k+j) v pY;have lB:Hid (∀v:Nat,Own (wr.setCell ⟨w.heap.size,k+j,none⟩ (.int .u64 (v:Nat))) w.heap.size (s'.set (k+j) v).length (wd (s'.set (k+j) v))):=hid fun v=>HO'.out.setWord (k+j) pY v
     have cE:Hid (∀v i,k+(j+1)≤i→(s'.set (k+j) v).getD i 0=s.getD i 0):=hid fun v i hi=>by
      rw[qa6 _ _ _ _ (by omega)];exact aS.out i (by omega)
     rw[bQ] at hg nV;generalize r.getD j 0=y at *;generalize s.getD (k+j) 0=p at *;generalize qis y x cc=lo at *;generalize qit y x cc=hi at *;have nU:∀w,(callFunc 152 #[.int .u64 p,.int .u64 lo,.int .u64 0]).run Tryz.prog w = .ok (.value (.tuple #[.int .u64 (qgy p lo 0:Nat),.int .u64 (qiy p lo 0:Nat)])) w:=fun w=>qiz p lo 0 (by omega) w;have hae:=qws p lo 0;have iS:=qnv p lo 0;generalize qgy p lo 0=sum at *;generalize qiy p lo 0=c2 at *;obtain⟨jK,bZ⟩:=quv HXL.out kY nV Ek.out El (by rw[Nat.add_zero] at hae;exact hae)
     have dT:Hid (low B64 (s'.set (k+j) sum) (k+(j+1))+(B64^k*B64^(j+1))*(hi+c2)=low B64 s (k+(j+1))+B64^k*x*low B64 r (j+1)):=by
      refine hid ?_;rw[←Nat.add_assoc,eQ sum,yO,yP,Nat.pow_succ,←Nat.mul_assoc (B64^k)];exact qwy cI.out bZ (by rw[Nat.pow_add]) (by rw[Nat.pow_add]) rfl
     have HW:Hid (IntKind.u64.wrap ((hi:Int)+(c2:Int))=((hi+c2:Nat):Int)):=by
      refine hid ?_;rw[qai] at jK;rw[IntKind.wrap_u64];omega
     have cF:Hid (∀d ∈ s'.set (k+j) sum,d<B64):=hid (qc8 HSB'.out _ _ iS);have bW:Hid ((s'.set (k+j) sum).length=l.length+r.length):=hid (by rw[List.length_set];exact HSL'.out);have yQ:=hid jK;have aK:Hid (Below w.heap.size w (wr.setCell ⟨w.heap.size,k+j,none⟩ (.int .u64 (sum:Nat)))):=hid (HB'.out.setCell (qac _) _);have Gy:k+j<l.length+r.length:=by omega
     clear eQ yO yP bQ hae iS jK bZ El fO kY nV dL cI aS HSL' HSB' HO' HB' pY;go_wp2_with fail;refine(HM.out _).mono ?_;rintro e w' ⟨rfl,hw'⟩;rw[hw'];clear hw' HM;go_wp2_with fail;go_roundw
     case rel=>exact⟨j+1,hi+c2,_,by omega,by go_num,by rw[HW.out],yQ,bW,cF,hid (lB.out sum),dT,hid (cE.out sum),aK⟩
     case measure=>simp[intOf];omega
    ·have e:j=r.length:=by omega
     subst e;have pY:k+r.length<s'.length:=by rw[HSL'.out];omega
     obtain⟨hg,mJ⟩:=HO'.out.2 (k+r.length) pY;have iL:Hid (Own (wr.setCell ⟨w.heap.size,k+r.length,none⟩ (.int .u64 (cc:Nat))) w.heap.size (s'.set (k+r.length) cc).length (wd (s'.set (k+r.length) cc))):=hid (HO'.out.setWord (k+r.length) pY cc)
     have dT:Hid (low B64 (s'.set (k+r.length) cc) (k+1+r.length)=low B64 l (k+1)*val B64 r):=by
      refine hid ?_;rw[show k+1+r.length=k+r.length+1 from by omega,qb3 B64 s' (k+r.length) cc pY,Gx.out,Nat.add_mul,←HS.out,Nat.pow_add,cI.out,qbi B64 r _ (qac _)]
     have cF:Hid (∀d ∈ s'.set (k+r.length) cc,d<B64):=hid (qc8 HSB'.out _ _ Ek.out);have bW:Hid ((s'.set (k+r.length) cc).length=l.length+r.length):=hid (by rw[List.length_set];exact HSL'.out);have aK:Hid (Below w.heap.size w (wr.setCell ⟨w.heap.size,k+r.length,none⟩ (.int .u64 (cc:Nat)))):=hid (HB'.out.setCell (qac _) _);have Gy:k+r.length<l.length+r.length:=by omega
     generalize wd s' (k+r.length)=old at *;clear cI aS HSL' HSB' HO' HB' pY;go_wp2_with fail;go_roundw
     case rel=>exact⟨k+1,_,by omega,by go_num,bW,cF.out,iL.out,dT,aK.out⟩
     case measure=>simp[intOf];omega
  ·have e:k=l.length:=by omega
   subst e
   have kC:val B64 s=val B64 l*val B64 r:=by
    rw[←qbi B64 s (l.length+r.length) (by rw[aT.out];exact qac _),HS.out,qbi B64 l _ (qac _)]
   have hw:Wds wr (.slice (some ⟨w.heap.size,0,none⟩) (l.length+r.length) (l.length+r.length)) s:=by
    have:=qmg ho hsb (qac _) (by rw[aT.out];unfold maxLen;omega);rw[aT.out] at this;exact this
   have HT:=hid (qjk _ _ _ hw);rw[kC] at HT;have aG:=hid hb;clear hw kC ho hsb hb;go_wp2_with fail;refine HT.out.mono ?_;rintro e w' ⟨⟨v',rfl,hn⟩,hw'⟩;subst hw';go_wp2_with fail;go_ret;exact⟨⟨_,rfl,hn⟩,aG.out⟩
theorem qgo(va vb:Value)(m n:Nat)(w:World)(ha:qa5 w va m)(hb:qa5 w vb n)(hm:wl m≤Cap)(hn:wl n≤Cap):
  Calls Tryz.prog 108 #[va,vb] w fun e w'=>(∃v',e = .returned v'∧qa5 w' v' (m*n))∧Below w.heap.size w w':=by
 by_cases eU:m=1
 ·subst eU
  have eP:=hid (qcm va 1 true rfl w ha);rw[Nat.one_mul];have HB:=hid hb;clear ha hb hm hn;go_enter Tryz.func108,Tryz.ntmps108;go_wp2_with fail;refine eP.out.mono ?_;rintro e w' ⟨rfl,hw⟩;subst hw;go_wp2_with fail;go_ret;exact⟨⟨_,rfl,HB.out⟩,qaa _ _⟩
 ·by_cases dZ:n=1
  ·subst dZ
   have eP:=hid (qcm va m false (by simp[eU]) w ha);have aP:=hid (qcm vb 1 true rfl w hb);rw[Nat.mul_one];have HA:=hid ha;clear ha hb hm hn eU;go_enter Tryz.func108,Tryz.ntmps108;go_wp2_with fail;refine eP.out.mono ?_;rintro e w' ⟨rfl,hw⟩;subst hw;go_wp2_with fail;refine aP.out.mono ?_;rintro e w' ⟨rfl,hw⟩;subst hw;go_wp2_with fail;go_ret;exact⟨⟨_,rfl,HA.out⟩,qaa _ _⟩
  ·exact qre va vb m n w ha hb eU dZ hm hn
theorem qev(a b:Nat)(w:World):Calls Tryz.prog 156 #[.int .u64 a,.int .u64 b] w fun e w'=>e = .returned (.int .u64 (Nat.gcd a b:Nat))∧∃q,w'=w.drewN q:=by
 generalize hg:Nat.gcd a b=g;have HG:=hid hg;clear hg;go_enter Tryz.func156,Tryz.ntmps156;go_wp2_with fail
 go_loopw [0,1] (fun s t wr=>∃x y:Nat,s = .int .u64 x∧t = .int .u64 y∧Hid (Nat.gcd x y=g)∧∃q,wr=w.drewN q) (fun _ t _=>(intOf t).toNat)
 case atStart=>exact⟨a,b,rfl,rfl,HG,0,rfl⟩
 case round=>
  obtain⟨x,y,rfl,rfl,HR,q,rfl⟩:=hrel;by_cases hy:0<y
  ·have hy':0<(y:Int):=by omega
   have cK:Hid (Nat.gcd y (x % y)=g):=hid (by rw[←HR.out,Nat.gcd_comm x y,Nat.gcd_rec y x,Nat.gcd_comm]);have HM:Hid (x % y<y):=hid (Nat.mod_lt _ hy);go_wp2_with fail
   go_quiet (fail)
   go_wp2_with fail;exact⟨⟨y,x % y,rfl,by rw[Int.natCast_emod],cK,_,World.drewN_drewN _ _ _⟩,by show((x:Int) % (y:Int)).toNat<(y:Int).toNat;have:=HM.out;omega⟩
  ·have hy':¬0<(y:Int):=by omega
   have:y=0:=by omega
   subst this;have HX:Hid (x=g):=hid (by rw[←HR.out,Nat.gcd_zero_right]);go_wp2_with fail;go_ret;exact⟨by rw[HX.out];rfl,_,rfl⟩
def qga(w:World)(base:Nat)(v:Value)(l:List Nat):Prop:=
 (∀d ∈ l,d<B64)∧∃p c,v = .slice p l.length c∧l.length≤c∧c≤maxLen∧(l.length=0∨∃g,base≤g∧p=some ⟨g,0,none⟩∧Own w g l.length (wd l))
theorem qga.wds{w:World}{base:Nat}{v:Value}{l:List Nat}(h:qga w base v l):Wds w v l:=by
 obtain⟨h1,p,c,h2,h3,h4,h5⟩:=h;refine⟨h1,p,c,h2,h3,h4, ?_⟩;rcases h5 with h5|⟨g,_,h6,h7⟩
 ·exact .inl h5
 ·exact .inr ⟨g,0,h6,h7.row⟩
theorem qg7{w:World}{base:Nat}{v:Value}{l:List Nat}(hl:∀d ∈ l,d<B64)(h:w.ownsRow base 160 1 v l.length (l.map fun x=>Value.int .u64 (x:Nat))):qga w base v l:=by
 refine⟨hl, ?_⟩;have h0:=h;obtain⟨_,⟨rfl,hn⟩|⟨g,cap,cur,rfl,hg,rL,hn,aQ,_,_⟩⟩:=h
 ·exact⟨none,0,by rw[hn],by omega,by unfold maxLen;omega,.inl hn⟩
 ·refine⟨some ⟨g,0,none⟩,cap,rfl,hn,aQ,.inr ⟨g,hg,rfl, ?_,fun i hi=>⟨?_,h0.frozenAt i⟩⟩⟩
  ·rcases Nat.lt_or_ge g w.heap.size with h1|h1
   ·exact h1
   ·rw[Array.getElem?_eq_none h1] at rL;cases rL
  ·rw[h0.cellAt i (by omega)]
   unfold wd;simp[hi]
theorem qoj(v:Value)(l:List Nat)(w:World)(h:Wds w v l)(aQ:l.length≤Cap):
  Calls Tryz.prog 153 #[v] w fun e w'=>(∃v',e = .returned v'∧qga w' w.heap.size v' l)∧Below w.heap.size w w':=by
 obtain⟨hl,p,c,rfl,bO,bG,aA⟩:=h;have q22:∀(w:World) (a:Option Addr) (n c n' c':Nat),(binOp .eql 85 (.slice a n c) (.slice none n' c')).run Tryz.prog w = .ok (.bool a.isNone) w:=fun w a n c n' c'=>Lib.run_eql_slice_nil w _ _ a n c n' c' Tryz.underlying85;rcases p with _|⟨b,o,sp⟩
 ·have h0:l.length=0:=by
   rcases aA with h0|⟨b,o,h1,_⟩
   ·exact h0
   ·cases h1
  have HF:Hid (qga w w.heap.size (.slice none 0 0) l):=hid ⟨hl,none,0,by rw[h0],by omega,by unfold maxLen;omega,.inl h0⟩;clear hl bO bG aA aQ h0;go_enter Tryz.func153,Tryz.ntmps153;go_wp2_with fail;go_ret;exact⟨⟨_,rfl,HF.out⟩,qaa _ _⟩
 ·obtain⟨i0,hi,cU,eE,eK⟩:=info_parts (show(Tryz.prog.info? 160).map (fun i=>(i.zero,i.size,i.bytes))=some (some (.int .u64 0),1,8) by kernel_rfl)
  have HI:=hid hi;have HL:=hid hl
  have HC:Hid (∀i,i<l.length→w.cell? ((⟨b,o,sp⟩:Addr).add i)=some (wd l i)):=by
   refine hid fun i hi => ?_;rcases aA with h0|⟨b',o',h1,h2⟩
   ·omega
   ·cases h1
    rw[Addr.add_lit];exact h2 i hi
  have cQ:Hid (l.length≤1099511627776):=aQ;clear hl bO bG aA aQ;go_enter Tryz.func153,Tryz.ntmps153;go_wp2_with (at_builtin;refine wpList_append_own _ rfl _ _ 85 rfl w.heap.size 160 i0 (.int .u64 0) 1 8 Tryz.underlying85 HI.out cU eE eK rfl (by decide) _ _ _ rfl (World.ownsRow_made w #[] 0 (qac _) (Nat.zero_le _) rfl) ⟨b,o,sp⟩ l.length c (l.map fun x=>Value.int .u64 (x:Nat)) rfl ?mK ?Cg ?Ch ?Ci ?Cj ?Ck ?_)
  case mK=>simp
  case Cg=>
   intro j u hj
   have lC:j<l.length:=by
    have:=(List.getElem?_eq_some_iff.1 hj).1
    simpa using this
   have h1:=HC.out j lC;have e:(l.map fun x=>Value.int .u64 (x:Nat))[j]? = some (wd l j):=by unfold wd;simp[lC]
   rw[e] at hj;cases hj
   rw[((qaa w.heap.size w).alloc (qac _) _).cell (qae w _ h1)];exact h1
  case Ch=>intro u hu;obtain⟨x,_,rfl⟩:=List.mem_map.1 hu;rfl
  case Ci=>have:=cQ.out;unfold maxLen;omega
  case Cj=>have:=cQ.out;omega
  case Ck=>simp
  intro v' w1 aU bN rM;have HO:Hid (qga w1 w.heap.size v' l):=hid (qg7 HL.out (by simpa using aU));have HB:Hid (Below w.heap.size w w1):=hid (((qaa _ w).alloc (qac _) _).grown bN (by simp) (by intro k hk;simp[Value.ownBlock] at hk;omega));clear aU bN rM;go_wp2_with fail;go_ret;exact⟨⟨_,rfl,HO.out⟩,HB.out⟩
def qdm(w:World)(base g cap:Nat)(l:List Nat):Prop:=
 (∀d ∈ l,d<B64)∧w.ownsRow base 160 1 (.slice (some ⟨g,0,none⟩) l.length cap) l.length (l.map fun x=>Value.int .u64 (x:Nat))
theorem qdm.parts{w:World}{base g cap:Nat}{l:List Nat}(h:qdm w base g cap l):
  base≤g∧l.length≤cap∧cap≤maxLen∧∃cur:Array Value,w.heap[g]? = some (.cells cur 160 (0,0))∧cur.size=cap∧cur.toList.take l.length=l.map fun x=>Value.int .u64 (x:Nat):=by
 obtain⟨_,_,⟨h',_⟩|⟨g',cap',cur,h',hb,hg,hnc,hcm,uD,Mv⟩⟩:=h
 ·simp at h'
 ·simp only[Value.slice.injEq,Option.some.injEq,Addr.mk.injEq,and_true,true_and] at h'
  obtain⟨rfl,rfl⟩:=h';exact⟨hb,hnc,hcm,cur,hg,by simpa using uD,by simpa using Mv⟩
theorem qok{w:World}{base g cap:Nat}{l:List Nat}(hl:∀d ∈ l,d<B64)(hb:base≤g)(h1:l.length≤cap)(h2:cap≤maxLen){cur:Array Value}(hg:w.heap[g]? = some (.cells cur 160 (0,0)))(hs:cur.size=cap)
  (ht:cur.toList.take l.length=l.map fun x=>Value.int .u64 (x:Nat)):qdm w base g cap l:=
 ⟨hl,by simp,.inr ⟨g,cap,cur,rfl,hb,hg,h1,h2,by simpa using hs,by simpa using ht⟩⟩
theorem qdm.lt{w:World}{base g cap:Nat}{l:List Nat}(h:qdm w base g cap l):g<w.heap.size:=by
 obtain⟨_,_,_,cur,hg,_⟩:=h.parts;rcases Nat.lt_or_ge g w.heap.size with h1|h1
 ·exact h1
 ·rw[Array.getElem?_eq_none h1] at hg;cases hg
theorem qdm.own{w:World}{base g cap:Nat}{l:List Nat}(h:qdm w base g cap l):Own w g l.length (wd l):=by
 refine⟨h.lt,fun i hi=>⟨?_,h.2.frozenAt i⟩⟩;rw[h.2.cellAt i (by omega)];unfold wd;simp[hi]
theorem qdm.wds{w:World}{base g cap:Nat}{l:List Nat}(h:qdm w base g cap l):Wds w (.slice (some ⟨g,0,none⟩) l.length cap) l:=by
 obtain⟨_,h1,h2,_⟩:=h.parts;exact⟨h.1,_,cap,rfl,h1,h2,.inr ⟨g,0,rfl,h.own.row⟩⟩
theorem qdm.nat{w:World}{base g cap x:Nat}(h:qdm w base g cap (qan B64 x)):qa5 w (.slice (some ⟨g,0,none⟩) (wl x) cap) x:=h.wds
theorem qdm.same{w w':World}{base g cap:Nat}{l:List Nat}(h:qdm w base g cap l)(he:w'.heap[g]? = w.heap[g]?):qdm w' base g cap l:=by
 obtain⟨h1,h2,h3,cur,hg,h4,h5⟩:=h.parts;exact qok h.1 h1 h2 h3 (he.trans hg) h4 h5
theorem qdm.mono{w:World}{base base' g cap:Nat}{l:List Nat}(h:qdm w base g cap l)(hb:base'≤base):qdm w base' g cap l:=by
 obtain⟨h1,h2,h3,cur,hg,h4,h5⟩:=h.parts;exact qok h.1 (by omega) h2 h3 hg h4 h5
theorem qyk(w:World)(n:Nat)(hn:n≤maxLen):qdm (w.alloc (qbk n)) w.heap.size w.heap.size n (List.replicate n 0):=by
 have aE:(List.replicate n 0).length=n:=by simp
 refine qok (qcf (by rw[qai];omega) n) (qac _) (by rw[aE];exact qac _) hn (heap_alloc_new w _) ?_ ?_
 ·rw[←Array.length_toList,toList_madeCells_one];simp
 ·rw[toList_madeCells_one,aE];simp
theorem qdm.later{w w':World}{base g cap B:Nat}{l:List Nat}(h:qdm w base g cap l)(hb:Below B w w')(hB:g<B):qdm w' base g cap l:=
 h.same (hb.block g hB)
theorem qdm.first{w:World}{base g cap:Nat}{l:List Nat}(h:qdm w base g cap l)(k:Nat)(hk:k≤l.length):qdm w base g cap (l.take k):=by
 obtain⟨h1,h2,h3,cur,hg,h4,h5⟩:=h.parts;have aE:(l.take k).length=k:=by simp;omega
 refine qok (fun d hd=>h.1 d (List.mem_of_mem_take hd)) h1 (by omega) h3 hg h4 ?_;rw[aE,List.map_take,←h5,List.take_take,Nat.min_eq_left hk]
def qns(w w':World):Prop:=∀(g:Nat) (cur:Array Value),w.heap[g]? = some (.cells cur 160 (0,0))→∃cur':Array Value,w'.heap[g]? = some (.cells cur' 160 (0,0))∧cur'.size=cur.size
theorem qns.refl(w:World):qns w w:=fun _ cur h=>⟨cur,h,rfl⟩
theorem qns.trans{a b c:World}(h:qns a b)(k:qns b c):qns a c:=fun g cur hg=>by
 obtain⟨c1,h1,e1⟩:=h g cur hg;obtain⟨c2,h2,e2⟩:=k g c1 h1;exact⟨c2,h2,e2.trans e1⟩
theorem qns.drew(w:World):qns w w.drew:=fun _ cur h=>⟨cur,h,rfl⟩
theorem qns.alloc(w:World)(o:Obj):qns w (w.alloc o):=fun g cur hg=>by
 refine⟨cur, ?_,rfl⟩;rcases Nat.lt_or_ge g w.heap.size with h1|h1
 ·rw[Below.heap_alloc _ _ _ h1];exact hg
 ·rw[Array.getElem?_eq_none h1] at hg;cases hg
theorem qns.setCell(w:World)(g o:Nat)(v:Value):qns w (w.setCell ⟨g,o,none⟩ v):=fun k cur hk=>by
 by_cases e:k=g
 ·subst e
  exact⟨_,heap_setCell_same w k o cur _ v hk,by simp⟩
 ·exact⟨cur,(Below.heap_setCell w ⟨g,o,none⟩ v k e).trans hk,rfl⟩
theorem qdm.after{w w':World}{base g cap:Nat}{l:List Nat}(h:qdm w base g cap l)(hk:qns w w'){S:List Nat}(hS:S.length=l.length)(hd:∀d ∈ S,d<B64)(ho:Own w' g S.length (wd S)):qdm w' base g cap S:=by
 obtain⟨h1,h2,h3,cur,hg,h4,h5⟩:=h.parts;obtain⟨cur',hg',hs'⟩:=hk g cur hg;refine qok hd h1 (by omega) h3 hg' (hs'.trans h4) ?_;apply List.ext_getElem?;intro i;rw[List.getElem?_take];by_cases hi:i<S.length
 ·have hc:=(ho.2 i hi).1
  rw[cell_of_row w' g i cur' _ (0,0) hg'] at hc;rw[if_pos hi,Array.getElem?_toList,hc];unfold wd;simp[hi]
 ·rw[if_neg hi]
  exact(List.getElem?_eq_none (by rw[List.length_map];exact Nat.le_of_not_lt hi)).symm
theorem q0r(base g cap:Nat)(l:List Nat)(w:World)(h:qdm w base g cap l):
  Calls Tryz.prog 110 #[.slice (some ⟨g,0,none⟩) l.length cap] w fun e w'=>(e = .returned (.slice (some ⟨g,0,none⟩) (wl (val B64 l)) cap)∧qdm w base g cap (qan B64 (val B64 l)))∧w=w':=by
 refine(qg5 _ cap l w h.wds).mono ?_;rintro e w' ⟨⟨k,hk,rfl,hd⟩,rfl⟩;have aE:wl (val B64 l)=k:=by unfold wl;rw[hd];simp;omega
 exact⟨⟨by rw[aE],by rw[hd];exact h.first k hk⟩,rfl⟩
theorem qg8(base g cap n x:Nat)(l:List Nat)(w:World)(h:qdm w base g cap l)(hl:l.length=n)(hx:val B64 l=x):
  Calls Tryz.prog 110 #[.slice (some ⟨g,0,none⟩) n cap] w fun e w'=>(e = .returned (.slice (some ⟨g,0,none⟩) (wl x) cap)∧qdm w base g cap (qan B64 x))∧w=w':=by
 rw[←hl,←hx];exact q0r base g cap l w h
end Go.Proofs.YtlkdlffhmakbgaaGreatDoor
