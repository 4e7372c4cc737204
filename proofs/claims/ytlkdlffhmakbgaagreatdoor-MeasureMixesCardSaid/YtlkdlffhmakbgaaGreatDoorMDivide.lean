/- divide: quotient and remainder of natural numbers. -/
import Derived.Test.YtlkdlffhmakbgaaGreatDoorMGuess
set_option linter.all false
namespace Go.Proofs.YtlkdlffhmakbgaaGreatDoor
open Go.RowKit
set_option maxRecDepth 100000
set_option maxHeartbeats 2000000
theorem qwz(R:List Nat)(j n:Nat):qbn B64 R j=seg R j n+B64^n*qbn B64 R (j+n):=by
 induction n with
 | zero=>simp[qrg]
 | succ n ih=>
  rw[ih,qew,qbx B64 R (j+n),Nat.pow_succ,Nat.mul_add,Nat.mul_assoc,←Nat.add_assoc j n 1];omega
theorem q0y{R S:List Nat}{j:Nat}(aE:S.length=R.length)(h:∀i,j≤i→S.getD i 0=R.getD i 0):qbn B64 S j=qbn B64 R j:=by
 unfold qbn
 congr 1
 apply List.ext_getElem
 ·simp[aE]
 ·intro i h1 h2
  have:=h (j+i) (by omega);simp at h1 h2
  simpa [h1,h2,(by omega:j+i<S.length),(by omega:j+i<R.length)] using this
theorem q68{p B a b c X:Nat}(h:X=c+p*a+p*B*b):X=c+p*(b*B+a):=by
 rw[h,Nat.mul_add,Nat.mul_comm b B,Nat.mul_assoc];omega
theorem q0z{p B x a b c X:Nat}(h:X=c+p*x+p*B*a+p*B*B*b):X=c+p*(x+B*(b*B+a)):=by
 have e:p*(B*(b*B+a))=p*B*a+p*B*B*b:=by
  rw[Nat.mul_add,Nat.mul_add,Nat.mul_comm b B];simp only[Nat.mul_assoc];omega
 rw[h,Nat.mul_add,e];omega
theorem qyq{B x H Dv:Nat}(hx:x<B)(hH:H<Dv):x+B*H<B*Dv:=by
 have:B*(H+1)≤B*Dv:=Nat.mul_le_mul_left _ hH;rw[Nat.mul_add] at this;omega
theorem qyr{V word Dv W:Nat}(hD:0<Dv)(h:V+word*Dv=W)(hQ:W/Dv≤word):word=W/Dv∧V=W % Dv:=by
 have h1:word≤W/Dv:=by rw[Nat.le_div_iff_mul_le hD];omega
 have h2:word=W/Dv:=Nat.le_antisymm h1 hQ;refine⟨h2, ?_⟩;have h3:=Nat.div_add_mod W Dv;rw[←h2,Nat.mul_comm] at h3;omega
theorem q00{V word Dv W P:Nat}(hD:0<Dv)(h:V+word*Dv=W+P)(hV:V<P):W/Dv≤word-1∧1≤word:=by
 have h1:W<word*Dv:=by omega
 have h2:W/Dv<word:=(Nat.div_lt_iff_lt_mul hD).2 h1;generalize W/Dv=Q at *;omega
theorem q4s{B Dv hq word W O H x V:Nat}(hO:O=Dv*hq+H)(hW:W=x+B*H)(hV:V+word*Dv=W):x+B*O=Dv*(word+B*hq)+V:=by
 rw[hO,Nat.mul_add,Nat.mul_add,show B*(Dv*hq)=Dv*(B*hq) from by grind,Nat.mul_comm Dv word];omega
theorem qgb{w:World}{v:Value}{n:Nat}(h:qa5 w v n):∃(l:List Nat) (p:Option Addr) (c:Nat),v = .slice p l.length c∧Wds w v l∧val B64 l=n∧l.length=wl n∧l=qan B64 n:=by
 obtain⟨h1,p,c,hv,h2⟩:=h;exact⟨qan B64 n,p,c,hv,⟨h1,p,c,hv,h2⟩,qar _ _ qal,rfl,rfl⟩
theorem qp1{r:List Nat}{md s n:Nat}(hr:∀d ∈ r,d<B64)(aE:r.length=md+2)(hv:val B64 r=n)(hy:r.getD (md+1) 0*2^s<B64)(hs:s<64)(lM:r.getD (md+1) 0≠0):
  (qan B64 (n*2^s)).length=md+2:=by
 have h1:=qa0 B64 r (md+1);rw[qbi B64 r (md+1+1) (by omega),hv] at h1;have h2:=qm6 B64 r (md+1) (by rw[qai];omega) hr
 have h3:r.getD (md+1) 0<2^(64-s):=by
  rw[qdn (s:=s) (by omega)] at hy;exact Nat.lt_of_mul_lt_mul_right hy
 generalize r.getD (md+1) 0=y at *;apply Nat.le_antisymm
 ·refine qce qal ?_
  have h4:n<B64^(md+1)*2^(64-s):=by
   have:B64^(md+1)*(y+1)≤B64^(md+1)*2^(64-s):=Nat.mul_le_mul_left _ h3;rw[Nat.mul_add] at this;omega
  have h5:n*2^s<B64^(md+1)*2^(64-s)*2^s:=Nat.mul_lt_mul_of_pos_right h4 (Nat.two_pow_pos s);rw[Nat.mul_assoc,←qdn (by omega)] at h5;exact h5
 ·have h6:B64^(md+1)≤n:=by
   have:B64^(md+1)*1≤B64^(md+1)*y:=Nat.mul_le_mul_left _ (by omega);omega
  have h7:n≤n*2^s:=Nat.le_mul_of_pos_right _ (Nat.two_pow_pos s);rcases Nat.lt_or_ge (qan B64 (n*2^s)).length (md+2) with h|h
  ·have h8:=qch B64 (n*2^s) qal
   have h9:B64^(qan B64 (n*2^s)).length≤B64^(md+1):=Nat.pow_le_pow_right (by rw[qai];omega) (by omega);omega
  ·exact h
theorem qgc(va vb:Value)(m n:Nat)(w:World)(ha:qa5 w va m)(hb:qa5 w vb n)(rO:n≤m)(h2:2≤wl n)(hm:wl m≤Cap):
  Calls Tryz.prog 112 #[va,vb] w fun e w'=>(∃vq g cap,e = .returned (.tuple #[vq,.slice (some ⟨g,0,none⟩) (wl (m % n)) cap])∧qa5 w' vq (m/n)∧qdm w' w.heap.size g cap (qan B64 (m % n)))∧Below w.heap.size w w':=by
 have eM:=hid (qei va vb m n w ha hb)
 have qU:¬qex m n<0:=by
  unfold qex;rcases Nat.lt_or_ge n m with h|h
  ·rw[qcr (by omega)];omega
  ·rw[qet (by omega)];omega
 generalize qex m n=cv at *;have dZ:n≠1:=by rintro rfl;unfold wl at h2;rw[qnx] at h2;simp at h2
 have wJ:=hid (qcm vb n false (by simp[dZ]));obtain⟨l,pa,ca,rfl,kZ,sU,dF,Bk⟩:=qgb ha;obtain⟨r,pb,cb,rfl,iK,Bi,cS,yA⟩:=qgb hb;have aE:r.length≤l.length:=by rw[dF,cS];exact qak qal rO
 have lF:=hid Bk;have cJ:=hid yA;rw[←cS] at h2;rw[←dF] at hm;have HWA:=hid kZ;have zC:=hid iK;have iT:=hid sU;have Nf:=hid Bi;obtain⟨md,Ep⟩:∃md,r.length=md+2:=⟨r.length-2,by omega⟩;obtain⟨t,ht⟩:∃t,l.length=md+2+t:=⟨l.length-(md+2),by omega⟩;have kF:=hid Ep;have qV:=hid ht;rw[ht] at hm;have hcapm:md+2+t<1152921504606846976:=by unfold Cap at hm;omega
 have cQ:=hid hm;rw[ht,Ep] at eM;rw[Ep] at wJ;rw[ht,Ep];clear ha hb kZ iK sU Bi dF cS h2 hm aE Ep ht dZ rO Bk yA;go_enter Tryz.func112,Tryz.ntmps112;go_wp2_with fail;refine eM.out.mono ?_;rintro e w1 ⟨rfl,q,cY⟩;have aZ:Below w.heap.size w w1:=by rw[cY];exact below_drewN (qaa _ _) q
 have dO:w1.heap.size=w.heap.size:=by rw[cY];rfl
 have aP:=hid aZ;have dN:=hid dO;have HWA1:=hid (HWA.out.later aZ);have zD:=hid (zC.out.later aZ);clear cY aZ dO eM;go_wp2_with fail;refine(wJ.out w1 (by have:=zD.out;rw[kF.out] at this;unfold qa5;rw[←cJ.out];exact this)).mono ?_;rintro e w' ⟨rfl,hw'⟩;subst hw';have aR:((md:Int)+2==1)=false:=qam (by omega);obtain⟨Gw,p',c',he,jJ,fQ,hcellsb⟩:=zD.out;rw[kF.out] at he jJ hcellsb;cases he
 rcases hcellsb with h0|⟨bb,ob,rfl,dL⟩
 ·omega
 have Er:=dL (md+1) (by omega)
 have rP:r.getD (md+1) 0≠0:=by
  have h1:=cJ.out;rcases List.eq_nil_or_concat r with e|⟨z,x,e⟩
  ·have:=kF.out;rw[e] at this;simp at this
  ·rw[List.concat_eq_append] at e
   have hz:z.length=md+1:=by have:=kF.out;rw[e] at this;simpa using this
   rw[e,←hz];have:=qiw qal (h1.symm.trans e)
   simpa using this
 obtain⟨s,hs,uY,yN,Hb⟩:=q0s (r.getD (md+1) 0) (by omega) (qaz (by rw[qai];omega) Gw _)
 have pL:Hid (2^63*B64^(md+1)≤n*2^s):=by
  refine hid ?_;have h1:=qa0 B64 r (md+1);rw[qbi B64 r (md+1+1) (by have:=kF.out;omega),Nf.out] at h1;have h3:2^63≤r.getD (md+1) 0*2^s:=by rw[qai] at yN;omega
  have h4:B64^(md+1)*r.getD (md+1) 0≤n:=by omega
  have h5:=Nat.mul_le_mul_right (2^s) h4;have h6:=Nat.mul_le_mul_left (B64^(md+1)) h3;rw[Nat.mul_assoc] at h5;rw[Nat.mul_comm];exact Nat.le_trans h6 h5
 have pJ:=hid (qp1 Gw kF.out Nf.out uY hs rP);have sG:=hid Hb;unfold wd at Er;generalize r.getD (md+1) 0=y at *;have HS:=hid hs;have Hf:=hid (qk7 _ r s w1 zD.out hs (by have:=cQ.out;have:=kF.out;omega));rw[kF.out] at Hf;clear Gw jJ fQ dL rP uY yN Hb hs;go_wp2_with fail;refine(sG.out _).mono ?_;rintro e w' ⟨rfl,hw'⟩;rw[hw'];clear hw' sG Er;go_wp2_with fail;refine Hf.out.mono ?_;rintro e w2 ⟨⟨R1,rfl,hR1l,hR1b,hR1o,hR1v⟩,gM⟩;have Hg:=hid hR1l;have oF:Hid (w1.heap.size<w2.heap.size):=hid hR1o.1
 have mR:=hid (qg5 (some ⟨w1.heap.size,0,none⟩) (md+2+1) R1 w2 (by
  have:=qmg hR1o hR1b (qac _) (by rw[hR1l];unfold maxLen;omega);rw[hR1l] at this ⊢
  exact this))
 have fX:=hid (fun k hk=>qwr w2 (some ⟨w1.heap.size,0,none⟩) (md+2+1) R1 k hR1b hk (by rw[hR1l];exact qac _) (by unfold maxLen;omega) (.inr ⟨_,_,rfl,hR1o.row⟩));have Hh:Hid (val B64 R1=n*2^s):=hid (by rw[hR1v,Nf.out]);have fK:=hid gM;rw[hR1l] at mR;clear hR1l hR1b hR1o hR1v gM Hf;go_wp2_with fail;refine mR.out.mono ?_;rintro e w' ⟨⟨k,hk,rfl,hd⟩,hw'⟩;subst hw'
 have Ng:k=md+2:=by
  have h1:=pJ.out;rw[←Hh.out,hd] at h1;simp at h1;have:=Hg.out;omega
 subst Ng;have nM:Hid (qa5 w2 (.slice (some ⟨w1.heap.size,0,none⟩) (md+2) (md+2+1)) (n*2^s)):=hid (by rw[←Hh.out];exact fX.out _ (by rw[Hg.out];omega) hd);have Nh:=hid (HWA1.out.later fK.out);have Hi:=hid (qk7 _ l s w2 Nh.out HS.out (by have:=cQ.out;have:=qV.out;omega));rw[qV.out] at Hi;clear hk hd mR fX Hh Hg;go_wp2_with fail;refine Hi.out.mono ?_;rintro e w3 ⟨⟨R,rfl,hRl,hRb,hRo,hRv⟩,fA⟩;have HD3:=hid (nM.out.later fA);have zE:=hid fA;have Ni:=hid hRl;have HRB3:=hid hRb;have Hj:=hid hRo;have Nj:Hid (val B64 R=m*2^s):=hid (by rw[hRv,iT.out]);clear hRl hRb hRo hRv fA Hi;have Cs:(md:Int)+2+t-(md+2)=(t:Int):=by omega
 have lO:=fun w=>qf8 (t+1) ((t:Int)+1) (by omega) (by have:=cQ.out;have:=qkh;omega) w;go_wp2_with fail;clear Cs lO;have aU:=qg6 w3 (t+1);have bK:Below w3.heap.size w3 (w3.alloc (qbk (t+1))):=qad _ _;have dK:(w3.alloc (qbk (t+1))).heap.size=w3.heap.size+1:=by rw[qab]
 have jU:Hid ((List.replicate (t+1) 0).length=t+1):=hid (by simp);have nW:=hid (qcf (b:=B64) (by rw[qai];omega) (t+1));have Mw:Hid (qbn B64 (List.replicate (t+1) 0) (t+1)=0):=hid (qdj _ _ _ (by simp));have HQO:Hid (Own (w3.alloc (qbk (t+1))) w3.heap.size (List.replicate (t+1) 0).length (wd (List.replicate (t+1) 0))):=by refine hid ?_;rw[jU.out];exact aU
 have HB34:=hid bK;have HSZ4:=hid dK;have cK:Hid (w2.heap.size<w3.heap.size):=hid Hj.out.1
 have HDW:Hid (∀w',Below w2.heap.size w3 w'→Wds w' (.slice (some ⟨w1.heap.size,0,none⟩) (qan B64 (n*2^s)).length (md+2+1)) (qan B64 (n*2^s))):=by
  refine hid fun w' hb' => ?_;rw[pJ.out];exact nM.out.later (zE.out.trans hb')
 have HRO4:Hid (Own (w3.alloc (qbk (t+1))) w2.heap.size R.length (wd R)):=hid (Hj.out.later (bK.mono (by have:=Hj.out.1;omega)));clear aU bK dK;generalize List.replicate (t+1) 0=Qs0 at *;generalize w3.alloc (qbk (t+1))=w4 at *
 have Nk:Hid (qbn B64 R (t+1)<n*2^s):=by
  refine hid ?_;have h1:=qfj B64 R (t+1) (by have:=Ni.out;omega);have h2:=Nj.out
  have h3:m<B64^(md+2+t):=by
   have:=qiu B64 l (Nh.out.1);rw[iT.out,qV.out] at this;exact this
  have h4:B64^(t+1)*qbn B64 R (t+1)<B64^(md+2+t)*2^s:=by
   have:=Nat.mul_lt_mul_of_pos_right h3 (Nat.two_pow_pos s);omega
  have hp:B64^(md+2+t)=B64^(t+1)*B64^(md+1):=by rw[←Nat.pow_add];congr 1;omega
  rw[hp,Nat.mul_assoc] at h4;have h5:=Nat.lt_of_mul_lt_mul_left h4
  have h6:B64^(md+1)*2^s≤2^63*B64^(md+1):=by
   rw[Nat.mul_comm];exact Nat.mul_le_mul_right _ (Nat.pow_le_pow_right (by omega) (by have:=HS.out;omega))
  exact Nat.lt_of_lt_of_le h5 (Nat.le_trans h6 pL.out)
 have HW2:=hid cK.out
 go_loopw [12] (fun i wr=>∃k:Nat,∃S Qs:List Nat,k≤t+1∧i = .int .i64 ((k:Int)-1)∧Hid (S.length=md+2+t+1)∧Hid (∀d ∈ S,d<B64)∧Hid (Own wr w2.heap.size S.length (wd S))∧Hid (Qs.length=t+1)∧Hid (∀d ∈ Qs,d<B64)∧Hid (Own wr w3.heap.size Qs.length (wd Qs))∧Hid (∀j,j<k→S.getD j 0=R.getD j 0)∧Hid (qbn B64 R k=n*2^s*qbn B64 Qs k+qbn B64 S k)∧Hid (qbn B64 S k<n*2^s)∧Hid (Below w2.heap.size w3 wr)) (fun i _=>(intOf i+1).toNat)
 case atStart=>exact⟨t+1,R,Qs0,qac _,by go_num,Ni,HRB3,HRO4,jU,nW,HQO,hid (fun _ _=>rfl),hid (by rw[Mw.out,Nat.mul_zero,Nat.zero_add]),Nk,hid (HB34.out.mono (by have:=cK.out;omega))⟩
 case round=>
  obtain⟨k,S,Qs,hk,rfl,aT,cP,rH,Ct,Nl,Cu,aS,cI,lS,HB⟩:=hrel;rcases k with _|j
  ·have hv:=cI.out
   rw[high_zero,high_zero,high_zero,Nj.out] at hv;have aY:=lS.out;rw[high_zero] at aY;have hdm:=qoh (Nat.two_pow_pos s) (by rw[Nat.mul_comm (n*2^s)] at hv;exact hv) aY;have sI:Hid (m/n=val B64 Qs):=hid hdm.1;have HR1':Hid (val B64 S/2^s=m % n):=hid hdm.2
   have hwQ:Wds wr (.slice (some ⟨w3.heap.size,0,none⟩) (t+1) (t+1)) Qs:=by
    have:=qmg Cu.out Nl.out (qac _) (by rw[Ct.out];unfold maxLen;omega);rw[Ct.out] at this;exact this
   have hwS:Wds wr (.slice (some ⟨w2.heap.size,0,none⟩) (md+2+t+1) (md+2+t+1)) S:=by
    have:=qmg rH.out cP.out (qac _) (by rw[aT.out];unfold maxLen;omega);rw[aT.out] at this;exact this
   have zF:=hid (qjk _ _ _ hwQ);have pM:=hid (qjk _ _ _ hwS)
   have oG:Hid ((qan B64 (val B64 S)).length≤Cap):=hid (by
    have h1:(qan B64 (val B64 S)).length≤md+2:=by
     have h2:=qak (b:=B64) qal (Nat.le_of_lt aY);rw[pJ.out] at h2;exact h2
    have:=cQ.out
    omega)
   clear hv aY hdm hwQ hwS Cu rH aS cI lS;go_wp2_with fail;refine zF.out.mono ?_;rintro e w' ⟨⟨vq,rfl,hnq⟩,hw'⟩;subst hw';have HNQ:=hid hnq;clear hnq;go_wp2_with fail;refine pM.out.mono ?_;rintro e w' ⟨⟨vs,rfl,hns⟩,hw'⟩;subst hw';have HSR:=hid (qom vs (qan B64 (val B64 S)) s wr hns HS.out oG.out);rw[qar _ _ qal,HR1'.out] at HSR;clear hns zF pM;go_wp2_with fail;refine HSR.out.mono ?_;rintro e w9 ⟨⟨gr,cr,rfl,hnr⟩,hb9⟩;have gV:Hid (qdm w9 w.heap.size gr cr (qan B64 (m % n))):=hid (hnr.mono (by have:=HB.out.size;have:=dN.out;have:=oF.out;have:=cK.out;omega));have kH:=hid (HNQ.out.later hb9);rw[←sI.out] at kH;have wK:Hid (Below w.heap.size w w9):=hid (aP.out.trans ((fK.out.mono (by have:=dN.out;omega)).trans ((zE.out.mono (by have:=dN.out;have:=oF.out;omega)).trans ((HB.out.mono (by have:=dN.out;have:=oF.out;omega)).trans (hb9.mono (by have:=HB.out.size;have:=dN.out;have:=oF.out;have:=cK.out;omega))))));clear hnr hb9 HSR;go_wp2_with fail;go_ret2;exact⟨⟨_,_,_,rfl,kH.out,gV.out⟩,wK.out⟩
  ·have e1:((j+1:Nat):Int)-1=(j:Int):=by omega
   simp only[e1];have hj:j≤t:=by omega
   have hE1:j+(md+2)+1-j=md+2+1:=by omega
   have hDpos:0<n*2^s:=by have:=lS.out;omega
   have hDB:n*2^s<B64^(md+2):=by
    have:=qch B64 (n*2^s) qal;rw[pJ.out] at this;exact this
   have kI:qbn B64 S j<B64*(n*2^s):=by
    rw[qbx B64 S j];exact qyq (qaz (by rw[qai];omega) cP.out j) lS.out
   have hWB:qbn B64 S j<B64^(md+2+1):=by
    have h1:B64*(n*2^s)<B64*B64^(md+2):=Nat.mul_lt_mul_of_pos_left hDB (by rw[qai];omega);rw[Nat.pow_succ,Nat.mul_comm (B64^(md+2))];omega
   have Nm:=qwz S j (md+2+1)
   have hz:qbn B64 S (j+(md+2+1))=0:=by
    rcases qas (qbn B64 S (j+(md+2+1))) with h|h
    ·exact h
    ·have:B64^(md+2+1)*1≤B64^(md+2+1)*qbn B64 S (j+(md+2+1)):=Nat.mul_le_mul_left _ h
     omega
   have hWseg:qbn B64 S j=seg S j (md+2+1):=by rw[Nm,hz,Nat.mul_zero,Nat.add_zero]
   have hQlt:qbn B64 S j/(n*2^s)<B64:=(Nat.div_lt_iff_lt_mul hDpos).2 kI;have hQmul:qbn B64 S j/(n*2^s)*(n*2^s)≤qbn B64 S j:=Nat.div_mul_le_self _ _;have HD0:=HDW.out wr HB.out;obtain⟨hDl,pD,cD,heD,_,_,hcellsD⟩:=HD0;cases heD
   rw[pJ.out] at hcellsD;rcases hcellsD with h0|⟨bD,oD,hpD,hrowD⟩
   ·omega
   cases hpD
   have hlowD:=qa0 B64 (qan B64 (n*2^s)) md;have pZ:=qa0 B64 (qan B64 (n*2^s)) (md+1);rw[qbi B64 _ (md+1+1) (by rw[pJ.out];omega),qar _ _ qal] at pZ;have dO:=qew S j (md+2);have fS:=qew S j (md+1);have uF:=qew S j md;have Hk:qbn B64 S j=seg S j (md+1)+B64^(md+1)*(S.getD (j+(md+2)) 0*B64+S.getD (j+(md+1)) 0):=q68 (by rw[hWseg,dO,fS,←Nat.pow_succ]);have hW3:qbn B64 S j=seg S j md+B64^md*(S.getD (j+md) 0+B64*(S.getD (j+(md+2)) 0*B64+S.getD (j+(md+1)) 0)):=q0z (by rw[hWseg,dO,fS,uF,←Nat.pow_succ,←Nat.pow_succ]);have mS:=q0t S j (md+1) cP.out;have pN:=q0t S j md cP.out
   have hD3:n*2^s=low B64 (qan B64 (n*2^s)) md+B64^md*((qan B64 (n*2^s)).getD md 0+B64*(qan B64 (n*2^s)).getD (md+1) 0):=by
    rw[Nat.mul_add,←Nat.mul_assoc,←Nat.pow_succ,←Nat.add_assoc,←hlowD,←pZ]
   have iR:=qyp w2.heap.size j (md+2+t+1-j) md (md+2+1) w1.heap.size 0 (S.getD (j+(md+2)) 0) (S.getD (j+(md+1)) 0) (S.getD (j+md) 0) ((qan B64 (n*2^s)).getD (md+1) 0) ((qan B64 (n*2^s)).getD md 0) (qbn B64 S j/(n*2^s)) wr (by omega)
    ((rH.out.2 (j+(md+2)) (by rw[aT.out];omega)).1) ((rH.out.2 (j+(md+1)) (by rw[aT.out];omega)).1) ((rH.out.2 (j+md) (by rw[aT.out];omega)).1)
    (hrowD (md+1) (by omega)) (hrowD md (by omega))
    (hid (qaz (by rw[qai];omega) cP.out _)) (hid (qaz (by rw[qai];omega) cP.out _)) (hid (qaz (by rw[qai];omega) hDl _)) (hid (qaz (by rw[qai];omega) hDl _)) (hid hQlt)
    (hid fun h=>quw (B:=B64) Hk mS pZ (by omega) hQmul)
    (hid fun word r h1 h2 h3=>qyn hW3 pN hD3 hQmul h1 h2 h3)
   have mE:=hid iR;have rQ:=hid hDpos;have wO:Hid (qbn B64 S j=seg S j (md+2+1)):=hid hWseg;have HZ:=hid hz;clear iR dO fS uF Hk hW3 mS pN hD3 hlowD pZ hrowD hDl hQmul hQlt hWseg hz Nm hWB kI hDB hDpos;go_wp2_with fail;refine mE.out.mono ?_;rintro e w5 ⟨⟨word,rfl,hQw,hwB⟩,k5,hw5⟩;have Nn:Hid (Own w5 w2.heap.size S.length (wd S)):=hid (by rw[hw5];exact rH.out.drewN k5);have Es:Hid (Own w5 w3.heap.size Qs.length (wd Qs)):=hid (by rw[hw5];exact Cu.out.drewN k5);have lG:Hid (Below w2.heap.size w3 w5):=hid (by rw[hw5];exact below_drewN HB.out k5);have Lc:=hid hQw;have zC:=hid hwB;have htt:=qrh w2.heap.size j (md+2+t+1-j) word w2.heap.size (some ⟨w1.heap.size,0,none⟩) (md+2+1) S (qan B64 (n*2^s)) w5 cP.out Nn.out (fun w' hb'=>HDW.out w' (lG.out.trans hb')) (by rw[pJ.out,aT.out];omega) (by rw[aT.out];have:=cQ.out;have:=qkh;omega) (qac _) hwB;rw[pJ.out,qar _ _ qal] at htt;have HTT:=hid htt;clear hw5 hQw hwB htt mE rH Cu HB;go_wp2_with fail;refine HTT.out.mono ?_;rintro e w6 ⟨⟨S6,mis,rfl,hmis,hS6l,hS6b,hS6o,hS6s,hS6v⟩,Hl⟩;have Np:Hid (S6.length=md+2+t+1):=hid (by rw[hS6l];exact aT.out);have Nq:=hid hS6b;have Nr:=hid hS6o;have Ns:=hid hS6s;have Nt:Hid (seg S6 j (md+2+1)+word*(n*2^s)=qbn B64 S j+B64^(md+2+1)*mis):=hid (by rw[wO.out];exact hS6v);have Et:Hid (Own w6 w3.heap.size Qs.length (wd Qs)):=hid (Hl.own Es.out (by have:=cK.out;omega));have lH:Hid (Below w2.heap.size w3 w6):=hid (lG.out.trans (Hl.below (qac _)));clear hS6l hS6b hS6o hS6s hS6v Hl HTT Nn Es lG;go_wp2_with fail
   go_loopw [14,15] (fun a b wr=>∃v ms:Nat,∃T:List Nat,a = .int .u64 v∧b = .int .u64 ms∧ms≤1∧Hid (v<B64)∧Hid (T.length=md+2+t+1)∧Hid (∀d ∈ T,d<B64)∧Hid (Own wr w2.heap.size T.length (wd T))∧Hid (∀i,i<j∨j+(md+2)<i→T.getD i 0=S.getD i 0)∧Hid (seg T j (md+2+1)+v*(n*2^s)=qbn B64 S j+B64^(md+2+1)*ms)∧Hid (qbn B64 S j/(n*2^s)≤v)∧Hid (Own wr w3.heap.size Qs.length (wd Qs))∧Hid (Below w2.heap.size w3 wr)) (fun a _ _=>(intOf a).toNat)
   case atStart=>exact⟨word,mis,S6,rfl,rfl,hmis,zC,Np,Nq,Nr,Ns,Nt,Lc,Et,lH⟩
   case round=>
    obtain⟨v,ms,T,rfl,rfl,jM,qW,qX,uI,HTO,pM,zG,Mw,zH,Nu⟩:=hrel;clear zC Np Nq Nr Ns Nt Lc Et lH;by_cases mT:ms=1
    ·subst mT
     have jK:=q00 rQ.out zG.out (by rw[Nat.mul_one];exact q0t T j _ uI.out);obtain⟨uA,oE⟩:=jK;have pI:=hid uA;have e2:(v:Int)-1=((v-1:Nat):Int):=by omega
     have e1':IntKind.u64.wrap ((v-1:Nat):Int)=((v-1:Nat):Int):=qbr _ (by have:=qW.out;omega);have e3:IntKind.u64.wrap ((v:Int)-1)=((v-1:Nat):Int):=by rw[e2,e1']
     have Nv:Hid (v-1<B64):=hid (by have:=qW.out;omega);have wQ:Hid (v-1<v):=hid (by omega)
     have Eu:Hid (v*(n*2^s)=(v-1)*(n*2^s)+n*2^s):=hid (by
      obtain⟨u,rfl⟩:∃u,v=u+1:=⟨v-1,by omega⟩
      rw[Nat.add_mul,Nat.one_mul,Nat.add_sub_cancel])
     have uZ:=qsv w2.heap.size j (md+2+t+1-j) w2.heap.size (some ⟨w1.heap.size,0,none⟩) (md+2+1) T (qan B64 (n*2^s)) wr uI.out HTO.out (fun w' hb'=>HDW.out w' (Nu.out.trans hb')) (by rw[pJ.out,qX.out];omega) (by rw[qX.out];have:=cQ.out;have:=qkh;omega) (qac _);rw[pJ.out,qar _ _ qal] at uZ;have qA:=hid uZ;clear uZ uA oE;generalize v-1=u at *;go_wp2_with fail;refine qA.out.mono ?_;rintro e w7 ⟨⟨T7,mc,rfl,hmc,hT7l,hT7b,hT7o,hT7s,hT7v⟩,Hm⟩;have Nw:Hid (T7.length=md+2+t+1):=hid (by rw[hT7l];exact qX.out);have Nx:=hid hT7b;have Ny:=hid hT7o;have Nz:Hid (∀i,i<j∨j+(md+2)<i→T7.getD i 0=S.getD i 0):=hid fun i hi=>(hT7s i hi).trans (pM.out i hi);have Ev:Hid (Own w7 w3.heap.size Qs.length (wd Qs)):=hid (Hm.own zH.out (by have:=cK.out;omega));have kK:Hid (Below w2.heap.size w3 w7):=hid (Nu.out.trans (Hm.below (qac _)))
     have Ew:Hid (seg T7 j (md+2+1)+B64^(md+2+1)*mc+u*(n*2^s)=qbn B64 S j+B64^(md+2+1)*1):=hid (by
      have h1:=zG.out;rw[Eu.out] at h1
      omega)
     clear hT7l hT7b hT7o hT7s hT7v Hm qA qX uI HTO pM zG zH Nu Eu;have hmc':mc=0∨mc=1:=by omega
     rcases hmc' with rfl|rfl
     ·have zI:Hid (seg T7 j (md+2+1)+u*(n*2^s)=qbn B64 S j+B64^(md+2+1)*1):=hid (by have:=Ew.out;rw[Nat.mul_zero] at this;omega)
      go_wp2_with fail;go_roundw
      case rel=>exact⟨u,1,T7,rfl,rfl,by omega,Nv,Nw,Nx,Ny,Nz,zI,pI,Ev,kK⟩
      case measure=>simp only[intOf];have:=wQ.out;omega
     ·have zI:Hid (seg T7 j (md+2+1)+u*(n*2^s)=qbn B64 S j+B64^(md+2+1)*0):=hid (by have:=Ew.out;rw[Nat.mul_one] at this;rw[Nat.mul_zero];omega)
      go_wp2_with fail;go_roundw
      case rel=>exact⟨u,0,T7,rfl,rfl,by omega,Nv,Nw,Nx,Ny,Nz,zI,pI,Ev,kK⟩
      case measure=>simp only[intOf];have:=wQ.out;omega
    ·have e0:ms=0:=by omega
     subst e0;have zJ:=qyr rQ.out (by have:=zG.out;rw[Nat.mul_zero,Nat.add_zero] at this;exact this) Mw.out
     have hTj:qbn B64 T j=seg T j (md+2+1):=by
      rw[qwz T j (md+2+1),q0y (R:=S) (S:=T) (by rw[qX.out,aT.out]) (fun i hi=>pM.out i (.inr (by omega))),HZ.out,Nat.mul_zero,Nat.add_zero]
     have rD:=cI.out;have hR:=qbx B64 R j;have hS:=qbx B64 S j;rw[←aS.out j (Nat.lt_succ_self j)] at hR;have cG:=q4s (B:=B64) rD hS (by have:=zG.out;rw[Nat.mul_zero,Nat.add_zero] at this;exact this);rw[←hR] at cG;have sL:j<Qs.length:=by rw[Ct.out];omega
     have hQj:qbn B64 (Qs.set j v) j=v+B64*qbn B64 Qs (j+1):=by
      rw[qbx,qcl _ _ _ sL];unfold qbn;rw[List.drop_set_of_lt (by omega)]
     rw[←hQj,←hTj] at cG;have bY:=hid cG;have HLT3:Hid (qbn B64 T j<n*2^s):=hid (by rw[hTj,zJ.2];exact Nat.mod_lt _ rQ.out);obtain⟨hg,mJ⟩:=zH.out.2 j sL;unfold wd at hg;have HQO2:Hid (Own (wr.setCell ⟨w3.heap.size,j,none⟩ (.int .u64 v)) w3.heap.size (Qs.set j v).length (wd (Qs.set j v))):=hid (zH.out.setWord j sL v);have HTO2:Hid (Own (wr.setCell ⟨w3.heap.size,j,none⟩ (.int .u64 v)) w2.heap.size T.length (wd T)):=hid (((qfd.refl w3.heap.size wr).set j (.int .u64 v)).own HTO.out (by have:=cK.out;omega));have HBT2:Hid (Below w2.heap.size w3 (wr.setCell ⟨w3.heap.size,j,none⟩ (.int .u64 v))):=hid (Nu.out.setCell (by have:=cK.out;show w2.heap.size≤w3.heap.size;omega) _);have rR:Hid ((Qs.set j v).length=t+1):=hid (by rw[List.length_set];exact Ct.out);have HQB2:Hid (∀d ∈ Qs.set j v,d<B64):=hid (qc8 Nl.out _ _ qW.out);have cE:Hid (∀i,i<j→T.getD i 0=R.getD i 0):=hid fun i hi=>(pM.out i (.inl hi)).trans (aS.out i (by omega));have Oa:Hid (qbn B64 R j=n*2^s*qbn B64 (Qs.set j v) j+qbn B64 T j):=hid (by rw[bY.out]);generalize Qs.getD j 0=old at *;clear zJ hTj rD hR hS cG sL hQj zG zH Nu HTO pM cI aS bY;go_wp2_with fail;go_roundw
     case rel=>exact⟨j,T,_,by omega,by go_num,qX,uI,HTO2,rR,HQB2,HQO2,cE,Oa,HLT3,HBT2⟩
     case measure=>simp[intOf]
theorem qux(va vb:Value)(m n:Nat)(w:World)(ha:qa5 w va m)(hb:qa5 w vb n)(rO:n≤m)(h2:2≤wl n)(hm:wl m≤Cap):
  Calls Tryz.prog 112 #[va,vb] w fun e w'=>(∃vq vr,e = .returned (.tuple #[vq,vr])∧qa5 w' vq (m/n)∧qa5 w' vr (m % n))∧Below w.heap.size w w':=by
 refine(qgc va vb m n w ha hb rO h2 hm).mono ?_;rintro e w' ⟨⟨vq,g,cap,rfl,hq,hr⟩,hb⟩;exact⟨⟨_,_,rfl,hq,hr.nat⟩,hb⟩
end Go.Proofs.YtlkdlffhmakbgaaGreatDoor
