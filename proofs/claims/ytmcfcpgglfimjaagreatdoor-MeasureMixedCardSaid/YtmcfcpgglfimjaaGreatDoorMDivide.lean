/- divide: quotient and remainder of natural numbers. -/
import Derived.Test.YtmcfcpgglfimjaaGreatDoorMGuess
set_option linter.all false
namespace Go.Proofs.YtmcfcpgglfimjaaGreatDoor
open Go.RowKit
set_option maxRecDepth 100000
set_option maxHeartbeats 2000000
theorem qw4(R:List Nat)(j n:Nat):qbi B64 R j=seg R j n+B64^n*qbi B64 R (j+n):=by
 induction n with
 | zero=>simp[qrc]
 | succ n ih=>
  rw[ih,qeq,qbv B64 R (j+n),Nat.pow_succ,Nat.mul_add,Nat.mul_assoc,←Nat.add_assoc j n 1];omega
theorem q08{R S:List Nat}{j:Nat}(aE:S.length=R.length)(h:∀i,j≤i→S.getD i 0=R.getD i 0):qbi B64 S j=qbi B64 R j:=by
 unfold qbi
 congr 1
 apply List.ext_getElem
 ·simp[aE]
 ·intro i h1 h2
  have:=h (j+i) (by omega);simp at h1 h2
  simpa [h1,h2,(by omega:j+i<S.length),(by omega:j+i<R.length)] using this
theorem q7o{p B a b c X:Nat}(h:X=c+p*a+p*B*b):X=c+p*(b*B+a):=by
 rw[h,Nat.mul_add,Nat.mul_comm b B,Nat.mul_assoc];omega
theorem q09{p B x a b c X:Nat}(h:X=c+p*x+p*B*a+p*B*B*b):X=c+p*(x+B*(b*B+a)):=by
 have e:p*(B*(b*B+a))=p*B*a+p*B*B*b:=by
  rw[Nat.mul_add,Nat.mul_add,Nat.mul_comm b B];simp only[Nat.mul_assoc];omega
 rw[h,Nat.mul_add,e];omega
theorem qyw{B x H Dv:Nat}(hx:x<B)(hH:H<Dv):x+B*H<B*Dv:=by
 have:B*(H+1)≤B*Dv:=Nat.mul_le_mul_left _ hH;rw[Nat.mul_add] at this;omega
theorem qyx{V word Dv W:Nat}(hD:0<Dv)(h:V+word*Dv=W)(hQ:W/Dv≤word):word=W/Dv∧V=W % Dv:=by
 have h1:word≤W/Dv:=by rw[Nat.le_div_iff_mul_le hD];omega
 have h2:word=W/Dv:=Nat.le_antisymm h1 hQ;refine⟨h2, ?_⟩;have h3:=Nat.div_add_mod W Dv;rw[←h2,Nat.mul_comm] at h3;omega
theorem q1a{V word Dv W P:Nat}(hD:0<Dv)(h:V+word*Dv=W+P)(hV:V<P):W/Dv≤word-1∧1≤word:=by
 have h1:W<word*Dv:=by omega
 have h2:W/Dv<word:=(Nat.div_lt_iff_lt_mul hD).2 h1;generalize W/Dv=Q at *;omega
theorem q45{B Dv hq word W O H x V:Nat}(hO:O=Dv*hq+H)(hW:W=x+B*H)(hV:V+word*Dv=W):x+B*O=Dv*(word+B*hq)+V:=by
 rw[hO,Nat.mul_add,Nat.mul_add,show B*(Dv*hq)=Dv*(B*hq) from by grind,Nat.mul_comm Dv word];omega
theorem qgd{w:World}{v:Value}{n:Nat}(h:qa2 w v n):∃(l:List Nat) (p:Option Addr) (c:Nat),v = .slice p l.length c∧Wds w v l∧val B64 l=n∧l.length=wl n∧l=qao B64 n:=by
 obtain⟨h1,p,c,hv,h2⟩:=h;exact⟨qao B64 n,p,c,hv,⟨h1,p,c,hv,h2⟩,qar _ _ qam,rfl,rfl⟩
theorem qp1{r:List Nat}{md s n:Nat}(hr:∀d ∈ r,d<B64)(aE:r.length=md+2)(hv:val B64 r=n)(hy:r.getD (md+1) 0*2^s<B64)(hs:s<64)(jN:r.getD (md+1) 0≠0):
  (qao B64 (n*2^s)).length=md+2:=by
 have h1:=qa0 B64 r (md+1);rw[qbf B64 r (md+1+1) (by omega),hv] at h1;have h2:=qm3 B64 r (md+1) (by rw[qaj];omega) hr
 have h3:r.getD (md+1) 0<2^(64-s):=by
  rw[qdm (s:=s) (by omega)] at hy;exact Nat.lt_of_mul_lt_mul_right hy
 generalize r.getD (md+1) 0=y at *;apply Nat.le_antisymm
 ·refine qcf qam ?_
  have h4:n<B64^(md+1)*2^(64-s):=by
   have:B64^(md+1)*(y+1)≤B64^(md+1)*2^(64-s):=Nat.mul_le_mul_left _ h3;rw[Nat.mul_add] at this;omega
  have h5:n*2^s<B64^(md+1)*2^(64-s)*2^s:=Nat.mul_lt_mul_of_pos_right h4 (Nat.two_pow_pos s);rw[Nat.mul_assoc,←qdm (by omega)] at h5;exact h5
 ·have h6:B64^(md+1)≤n:=by
   have:B64^(md+1)*1≤B64^(md+1)*y:=Nat.mul_le_mul_left _ (by omega);omega
  have h7:n≤n*2^s:=Nat.le_mul_of_pos_right _ (Nat.two_pow_pos s);rcases Nat.lt_or_ge (qao B64 (n*2^s)).length (md+2) with h|h
  ·have h8:=qcj B64 (n*2^s) qam
   have h9:B64^(qao B64 (n*2^s)).length≤B64^(md+1):=Nat.pow_le_pow_right (by rw[qaj];omega) (by omega);omega
  ·exact h
theorem qge(va vb:Value)(m n:Nat)(w:World)(ha:qa2 w va m)(hb:qa2 w vb n)(qW:n≤m)(h2:2≤wl n)(hm:wl m≤Cap):
  Calls Tryz.prog 103 #[va,vb] w fun e w'=>(∃vq g cap,e = .returned (.tuple #[vq,.slice (some ⟨g,0,none⟩) (wl (m % n)) cap])∧qa2 w' vq (m/n)∧qdl w' w.heap.size g cap (qao B64 (m % n)))∧Below w.heap.size w w':=by
 have eH:=hid (qee va vb m n w ha hb)
 have pY:¬qer m n<0:=by
  unfold qer;rcases Nat.lt_or_ge n m with h|h
  ·rw[qcq (by omega)];omega
  ·rw[qem (by omega)];omega
 generalize qer m n=cv at *;have dT:n≠1:=by rintro rfl;unfold wl at h2;rw[qnr] at h2;simp at h2
 have uP:=hid (qcl vb n false (by simp[dT]));obtain⟨l,pa,ca,rfl,kJ,sE,cX,Ac⟩:=qgd ha;obtain⟨r,pb,cb,rfl,hU,Aa,cS,wR⟩:=qgd hb;have aE:r.length≤l.length:=by rw[cX,cS];exact qal qam qW
 have kQ:=hid Ac;have cH:=hid wR;rw[←cS] at h2;rw[←cX] at hm;have HWA:=hid kJ;have xZ:=hid hU;have iH:=hid sE;have Mk:=hid Aa;obtain⟨md,Dk⟩:∃md,r.length=md+2:=⟨r.length-2,by omega⟩;obtain⟨t,ht⟩:∃t,l.length=md+2+t:=⟨l.length-(md+2),by omega⟩;have lE:=hid Dk;have qB:=hid ht;rw[ht] at hm;have hcapm:md+2+t<1152921504606846976:=by unfold Cap at hm;omega
 have cM:=hid hm;rw[ht,Dk] at eH;rw[Dk] at uP;rw[ht,Dk];clear ha hb kJ hU sE Aa cX cS h2 hm aE Dk ht dT qW Ac wR;go_enter Tryz.func103,Tryz.ntmps103;go_wp2_with fail;refine eH.out.mono ?_;rintro e w1 ⟨rfl,q,cU⟩;have aY:Below w.heap.size w w1:=by rw[cU];exact below_drewN (qaa _ _) q
 have dL:w1.heap.size=w.heap.size:=by rw[cU];rfl
 have aP:=hid aY;have eJ:=hid dL;have HWA1:=hid (HWA.out.later aY);have yF:=hid (xZ.out.later aY);clear cU aY dL eH;go_wp2_with fail;refine(uP.out w1 (by have:=yF.out;rw[lE.out] at this;unfold qa2;rw[←cH.out];exact this)).mono ?_;rintro e w' ⟨rfl,hw'⟩;subst hw';have aR:((md:Int)+2==1)=false:=qan (by omega);obtain⟨Fr,p',c',he,jA,fK,hcellsb⟩:=yF.out;rw[lE.out] at he jA hcellsb;cases he
 rcases hcellsb with h0|⟨bb,ob,rfl,dH⟩
 ·omega
 have Dm:=dH (md+1) (by omega)
 have qX:r.getD (md+1) 0≠0:=by
  have h1:=cH.out;rcases List.eq_nil_or_concat r with e|⟨z,x,e⟩
  ·have:=lE.out;rw[e] at this;simp at this
  ·rw[List.concat_eq_append] at e
   have hz:z.length=md+1:=by have:=lE.out;rw[e] at this;simpa using this
   rw[e,←hz];have:=qix qam (h1.symm.trans e)
   simpa using this
 obtain⟨s,hs,uF,xO,Fx⟩:=q0v (r.getD (md+1) 0) (by omega) (qaz (by rw[qaj];omega) Fr _)
 have oJ:Hid (2^63*B64^(md+1)≤n*2^s):=by
  refine hid ?_;have h1:=qa0 B64 r (md+1);rw[qbf B64 r (md+1+1) (by have:=lE.out;omega),Mk.out] at h1;have h3:2^63≤r.getD (md+1) 0*2^s:=by rw[qaj] at xO;omega
  have h4:B64^(md+1)*r.getD (md+1) 0≤n:=by omega
  have h5:=Nat.mul_le_mul_right (2^s) h4;have h6:=Nat.mul_le_mul_left (B64^(md+1)) h3;rw[Nat.mul_assoc] at h5;rw[Nat.mul_comm];exact Nat.le_trans h6 h5
 have qV:=hid (qp1 Fr lE.out Mk.out uF hs qX);have sF:=hid Fx;unfold wd at Dm;generalize r.getD (md+1) 0=y at *;have HS:=hid hs;have Gg:=hid (qk8 _ r s w1 yF.out hs (by have:=cM.out;have:=lE.out;omega));rw[lE.out] at Gg;clear Fr jA fK dH qX uF xO Fx hs;go_wp2_with fail;refine(sF.out _).mono ?_;rintro e w' ⟨rfl,hw'⟩;rw[hw'];clear hw' sF Dm;go_wp2_with fail;refine Gg.out.mono ?_;rintro e w2 ⟨⟨R1,rfl,hR1l,hR1b,hR1o,hR1v⟩,gA⟩;have Gh:=hid hR1l;have nQ:Hid (w1.heap.size<w2.heap.size):=hid hR1o.1
 have mD:=hid (qg9 (some ⟨w1.heap.size,0,none⟩) (md+2+1) R1 w2 (by
  have:=ql9 hR1o hR1b (qac _) (by rw[hR1l];unfold maxLen;omega);rw[hR1l] at this ⊢
  exact this))
 have iB:=hid (fun k hk=>qwu w2 (some ⟨w1.heap.size,0,none⟩) (md+2+1) R1 k hR1b hk (by rw[hR1l];exact qac _) (by unfold maxLen;omega) (.inr ⟨_,_,rfl,hR1o.row⟩));have Gi:Hid (val B64 R1=n*2^s):=hid (by rw[hR1v,Mk.out]);have fG:=hid gA;rw[hR1l] at mD;clear hR1l hR1b hR1o hR1v gA Gg;go_wp2_with fail;refine mD.out.mono ?_;rintro e w' ⟨⟨k,hk,rfl,hd⟩,hw'⟩;subst hw'
 have Ml:k=md+2:=by
  have h1:=qV.out;rw[←Gi.out,hd] at h1;simp at h1;have:=Gh.out;omega
 subst Ml;have mZ:Hid (qa2 w2 (.slice (some ⟨w1.heap.size,0,none⟩) (md+2) (md+2+1)) (n*2^s)):=hid (by rw[←Gi.out];exact iB.out _ (by rw[Gh.out];omega) hd);have Mm:=hid (HWA1.out.later fG.out);have Gj:=hid (qk8 _ l s w2 Mm.out HS.out (by have:=cM.out;have:=qB.out;omega));rw[qB.out] at Gj;clear hk hd mD iB Gi Gh;go_wp2_with fail;refine Gj.out.mono ?_;rintro e w3 ⟨⟨R,rfl,hRl,hRb,hRo,hRv⟩,eR⟩;have HD3:=hid (mZ.out.later eR);have yG:=hid eR;have Mn:=hid hRl;have HRB3:=hid hRb;have Gk:=hid hRo;have Mo:Hid (val B64 R=m*2^s):=hid (by rw[hRv,iH.out]);clear hRl hRb hRo hRv eR Gj;have Bk:(md:Int)+2+t-(md+2)=(t:Int):=by omega
 have kX:=fun w=>qf7 (t+1) ((t:Int)+1) (by omega) (by have:=cM.out;have:=qkg;omega) w;go_wp2_with fail;clear Bk kX;have aT:=qha w3 (t+1);have bI:Below w3.heap.size w3 (w3.alloc (qbg (t+1))):=qad _ _;have dG:(w3.alloc (qbg (t+1))).heap.size=w3.heap.size+1:=by rw[qab]
 have jI:Hid ((List.replicate (t+1) 0).length=t+1):=hid (by simp);have nH:=hid (qcg (b:=B64) (by rw[qaj];omega) (t+1));have Lw:Hid (qbi B64 (List.replicate (t+1) 0) (t+1)=0):=hid (qdg _ _ _ (by simp));have HQO:Hid (Own (w3.alloc (qbg (t+1))) w3.heap.size (List.replicate (t+1) 0).length (wd (List.replicate (t+1) 0))):=by refine hid ?_;rw[jI.out];exact aT
 have HB34:=hid bI;have HSZ4:=hid dG;have cN:Hid (w2.heap.size<w3.heap.size):=hid Gk.out.1
 have HDW:Hid (∀w',Below w2.heap.size w3 w'→Wds w' (.slice (some ⟨w1.heap.size,0,none⟩) (qao B64 (n*2^s)).length (md+2+1)) (qao B64 (n*2^s))):=by
  refine hid fun w' hb' => ?_;rw[qV.out];exact mZ.out.later (yG.out.trans hb')
 have HRO4:Hid (Own (w3.alloc (qbg (t+1))) w2.heap.size R.length (wd R)):=hid (Gk.out.later (bI.mono (by have:=Gk.out.1;omega)));clear aT bI dG;generalize List.replicate (t+1) 0=Qs0 at *;generalize w3.alloc (qbg (t+1))=w4 at *
 have Mp:Hid (qbi B64 R (t+1)<n*2^s):=by
  refine hid ?_;have h1:=qfi B64 R (t+1) (by have:=Mn.out;omega);have h2:=Mo.out
  have h3:m<B64^(md+2+t):=by
   have:=qiv B64 l (Mm.out.1);rw[iH.out,qB.out] at this;exact this
  have h4:B64^(t+1)*qbi B64 R (t+1)<B64^(md+2+t)*2^s:=by
   have:=Nat.mul_lt_mul_of_pos_right h3 (Nat.two_pow_pos s);omega
  have hp:B64^(md+2+t)=B64^(t+1)*B64^(md+1):=by rw[←Nat.pow_add];congr 1;omega
  rw[hp,Nat.mul_assoc] at h4;have h5:=Nat.lt_of_mul_lt_mul_left h4
  have h6:B64^(md+1)*2^s≤2^63*B64^(md+1):=by
   rw[Nat.mul_comm];exact Nat.mul_le_mul_right _ (Nat.pow_le_pow_right (by omega) (by have:=HS.out;omega))
  exact Nat.lt_of_lt_of_le h5 (Nat.le_trans h6 oJ.out)
 have HW2:=hid cN.out
 go_loopw [12] (fun i wr=>∃k:Nat,∃S Qs:List Nat,k≤t+1∧i = .int .i64 ((k:Int)-1)∧Hid (S.length=md+2+t+1)∧Hid (∀d ∈ S,d<B64)∧Hid (Own wr w2.heap.size S.length (wd S))∧Hid (Qs.length=t+1)∧Hid (∀d ∈ Qs,d<B64)∧Hid (Own wr w3.heap.size Qs.length (wd Qs))∧Hid (∀j,j<k→S.getD j 0=R.getD j 0)∧Hid (qbi B64 R k=n*2^s*qbi B64 Qs k+qbi B64 S k)∧Hid (qbi B64 S k<n*2^s)∧Hid (Below w2.heap.size w3 wr)) (fun i _=>(intOf i+1).toNat)
 case atStart=>exact⟨t+1,R,Qs0,qac _,by go_num,Mn,HRB3,HRO4,jI,nH,HQO,hid (fun _ _=>rfl),hid (by rw[Lw.out,Nat.mul_zero,Nat.zero_add]),Mp,hid (HB34.out.mono (by have:=cN.out;omega))⟩
 case round=>
  obtain⟨k,S,Qs,hk,rfl,aU,cL,wJ,Bl,Mq,Bm,aS,cG,kY,HB⟩:=hrel;rcases k with _|j
  ·have hv:=cG.out
   rw[high_zero,high_zero,high_zero,Mo.out] at hv;have bC:=kY.out;rw[high_zero] at bC;have hdm:=qob (Nat.two_pow_pos s) (by rw[Nat.mul_comm (n*2^s)] at hv;exact hv) bC;have rO:Hid (m/n=val B64 Qs):=hid hdm.1;have HR1':Hid (val B64 S/2^s=m % n):=hid hdm.2
   have hwQ:Wds wr (.slice (some ⟨w3.heap.size,0,none⟩) (t+1) (t+1)) Qs:=by
    have:=ql9 Bm.out Mq.out (qac _) (by rw[Bl.out];unfold maxLen;omega);rw[Bl.out] at this;exact this
   have hwS:Wds wr (.slice (some ⟨w2.heap.size,0,none⟩) (md+2+t+1) (md+2+t+1)) S:=by
    have:=ql9 wJ.out cL.out (qac _) (by rw[aU.out];unfold maxLen;omega);rw[aU.out] at this;exact this
   have yH:=hid (qjo _ _ _ hwQ);have oI:=hid (qjo _ _ _ hwS)
   have qC:Hid ((qao B64 (val B64 S)).length≤Cap):=hid (by
    have h1:(qao B64 (val B64 S)).length≤md+2:=by
     have h2:=qal (b:=B64) qam (Nat.le_of_lt bC);rw[qV.out] at h2;exact h2
    have:=cM.out
    omega)
   clear hv bC hdm hwQ hwS Bm wJ aS cG kY;go_wp2_with fail;refine yH.out.mono ?_;rintro e w' ⟨⟨vq,rfl,hnq⟩,hw'⟩;subst hw';have HNQ:=hid hnq;clear hnq;go_wp2_with fail;refine oI.out.mono ?_;rintro e w' ⟨⟨vs,rfl,hns⟩,hw'⟩;subst hw';have HSR:=hid (qoh vs (qao B64 (val B64 S)) s wr hns HS.out qC.out);rw[qar _ _ qam,HR1'.out] at HSR;clear hns yH oI;go_wp2_with fail;refine HSR.out.mono ?_;rintro e w9 ⟨⟨gr,cr,rfl,hnr⟩,hb9⟩;have gI:Hid (qdl w9 w.heap.size gr cr (qao B64 (m % n))):=hid (hnr.mono (by have:=HB.out.size;have:=eJ.out;have:=nQ.out;have:=cN.out;omega));have jT:=hid (HNQ.out.later hb9);rw[←rO.out] at jT;have uQ:Hid (Below w.heap.size w w9):=hid (aP.out.trans ((fG.out.mono (by have:=eJ.out;omega)).trans ((yG.out.mono (by have:=eJ.out;have:=nQ.out;omega)).trans ((HB.out.mono (by have:=eJ.out;have:=nQ.out;omega)).trans (hb9.mono (by have:=HB.out.size;have:=eJ.out;have:=nQ.out;have:=cN.out;omega))))));clear hnr hb9 HSR;go_wp2_with fail;go_ret2;exact⟨⟨_,_,_,rfl,jT.out,gI.out⟩,uQ.out⟩
  ·have e1:((j+1:Nat):Int)-1=(j:Int):=by omega
   simp only[e1];have hj:j≤t:=by omega
   have hE1:j+(md+2)+1-j=md+2+1:=by omega
   have hDpos:0<n*2^s:=by have:=kY.out;omega
   have hDB:n*2^s<B64^(md+2):=by
    have:=qcj B64 (n*2^s) qam;rw[qV.out] at this;exact this
   have jW:qbi B64 S j<B64*(n*2^s):=by
    rw[qbv B64 S j];exact qyw (qaz (by rw[qaj];omega) cL.out j) kY.out
   have hWB:qbi B64 S j<B64^(md+2+1):=by
    have h1:B64*(n*2^s)<B64*B64^(md+2):=Nat.mul_lt_mul_of_pos_left hDB (by rw[qaj];omega);rw[Nat.pow_succ,Nat.mul_comm (B64^(md+2))];omega
   have Mr:=qw4 S j (md+2+1)
   have hz:qbi B64 S (j+(md+2+1))=0:=by
    rcases qas (qbi B64 S (j+(md+2+1))) with h|h
    ·exact h
    ·have:B64^(md+2+1)*1≤B64^(md+2+1)*qbi B64 S (j+(md+2+1)):=Nat.mul_le_mul_left _ h
     omega
   have hWseg:qbi B64 S j=seg S j (md+2+1):=by rw[Mr,hz,Nat.mul_zero,Nat.add_zero]
   have hQlt:qbi B64 S j/(n*2^s)<B64:=(Nat.div_lt_iff_lt_mul hDpos).2 jW;have hQmul:qbi B64 S j/(n*2^s)*(n*2^s)≤qbi B64 S j:=Nat.div_mul_le_self _ _;have HD0:=HDW.out wr HB.out;obtain⟨hDl,pD,cD,heD,_,_,hcellsD⟩:=HD0;cases heD
   rw[qV.out] at hcellsD;rcases hcellsD with h0|⟨bD,oD,hpD,hrowD⟩
   ·omega
   cases hpD
   have hlowD:=qa0 B64 (qao B64 (n*2^s)) md;have pH:=qa0 B64 (qao B64 (n*2^s)) (md+1);rw[qbf B64 _ (md+1+1) (by rw[qV.out];omega),qar _ _ qam] at pH;have dL:=qeq S j (md+2);have fN:=qeq S j (md+1);have tN:=qeq S j md;have Gl:qbi B64 S j=seg S j (md+1)+B64^(md+1)*(S.getD (j+(md+2)) 0*B64+S.getD (j+(md+1)) 0):=q7o (by rw[hWseg,dL,fN,←Nat.pow_succ]);have hW3:qbi B64 S j=seg S j md+B64^md*(S.getD (j+md) 0+B64*(S.getD (j+(md+2)) 0*B64+S.getD (j+(md+1)) 0)):=q09 (by rw[hWseg,dL,fN,tN,←Nat.pow_succ,←Nat.pow_succ]);have oK:=q03 S j (md+1) cL.out;have oL:=q03 S j md cL.out
   have hD3:n*2^s=low B64 (qao B64 (n*2^s)) md+B64^md*((qao B64 (n*2^s)).getD md 0+B64*(qao B64 (n*2^s)).getD (md+1) 0):=by
    rw[Nat.mul_add,←Nat.mul_assoc,←Nat.pow_succ,←Nat.add_assoc,←hlowD,←pH]
   have jO:=qyv w2.heap.size j (md+2+t+1-j) md (md+2+1) w1.heap.size 0 (S.getD (j+(md+2)) 0) (S.getD (j+(md+1)) 0) (S.getD (j+md) 0) ((qao B64 (n*2^s)).getD (md+1) 0) ((qao B64 (n*2^s)).getD md 0) (qbi B64 S j/(n*2^s)) wr (by omega)
    ((wJ.out.2 (j+(md+2)) (by rw[aU.out];omega)).1) ((wJ.out.2 (j+(md+1)) (by rw[aU.out];omega)).1) ((wJ.out.2 (j+md) (by rw[aU.out];omega)).1)
    (hrowD (md+1) (by omega)) (hrowD md (by omega))
    (hid (qaz (by rw[qaj];omega) cL.out _)) (hid (qaz (by rw[qaj];omega) cL.out _)) (hid (qaz (by rw[qaj];omega) hDl _)) (hid (qaz (by rw[qaj];omega) hDl _)) (hid hQlt)
    (hid fun h=>qu0 (B:=B64) Gl oK pH (by omega) hQmul)
    (hid fun word r h1 h2 h3=>qyt hW3 oL hD3 hQmul h1 h2 h3)
   have lG:=hid jO;have qT:=hid hDpos;have uR:Hid (qbi B64 S j=seg S j (md+2+1)):=hid hWseg;have HZ:=hid hz;clear jO dL fN tN Gl hW3 oK oL hD3 hlowD pH hrowD hDl hQmul hQlt hWseg hz Mr hWB jW hDB hDpos;go_wp2_with fail;refine lG.out.mono ?_;rintro e w5 ⟨⟨word,rfl,hQw,hwB⟩,k5,hw5⟩;have Ms:Hid (Own w5 w2.heap.size S.length (wd S)):=hid (by rw[hw5];exact wJ.out.drewN k5);have Dn:Hid (Own w5 w3.heap.size Qs.length (wd Qs)):=hid (by rw[hw5];exact Bm.out.drewN k5);have nC:Hid (Below w2.heap.size w3 w5):=hid (by rw[hw5];exact below_drewN HB.out k5);have Kf:=hid hQw;have xZ:=hid hwB;have htt:=qrd w2.heap.size j (md+2+t+1-j) word w2.heap.size (some ⟨w1.heap.size,0,none⟩) (md+2+1) S (qao B64 (n*2^s)) w5 cL.out Ms.out (fun w' hb'=>HDW.out w' (nC.out.trans hb')) (by rw[qV.out,aU.out];omega) (by rw[aU.out];have:=cM.out;have:=qkg;omega) (qac _) hwB;rw[qV.out,qar _ _ qam] at htt;have HTT:=hid htt;clear hw5 hQw hwB htt lG wJ Bm HB;go_wp2_with fail;refine HTT.out.mono ?_;rintro e w6 ⟨⟨S6,mis,rfl,hmis,hS6l,hS6b,hS6o,hS6s,hS6v⟩,Gm⟩;have Mt:Hid (S6.length=md+2+t+1):=hid (by rw[hS6l];exact aU.out);have Mu:=hid hS6b;have Mv:=hid hS6o;have Mw:=hid hS6s;have Mx:Hid (seg S6 j (md+2+1)+word*(n*2^s)=qbi B64 S j+B64^(md+2+1)*mis):=hid (by rw[uR.out];exact hS6v);have Do:Hid (Own w6 w3.heap.size Qs.length (wd Qs)):=hid (Gm.own Dn.out (by have:=cN.out;omega));have oM:Hid (Below w2.heap.size w3 w6):=hid (nC.out.trans (Gm.below (qac _)));clear hS6l hS6b hS6o hS6s hS6v Gm HTT Ms Dn nC;go_wp2_with fail
   go_loopw [14,15] (fun a b wr=>∃v ms:Nat,∃T:List Nat,a = .int .u64 v∧b = .int .u64 ms∧ms≤1∧Hid (v<B64)∧Hid (T.length=md+2+t+1)∧Hid (∀d ∈ T,d<B64)∧Hid (Own wr w2.heap.size T.length (wd T))∧Hid (∀i,i<j∨j+(md+2)<i→T.getD i 0=S.getD i 0)∧Hid (seg T j (md+2+1)+v*(n*2^s)=qbi B64 S j+B64^(md+2+1)*ms)∧Hid (qbi B64 S j/(n*2^s)≤v)∧Hid (Own wr w3.heap.size Qs.length (wd Qs))∧Hid (Below w2.heap.size w3 wr)) (fun a _ _=>(intOf a).toNat)
   case atStart=>exact⟨word,mis,S6,rfl,rfl,hmis,xZ,Mt,Mu,Mv,Mw,Mx,Kf,Do,oM⟩
   case round=>
    obtain⟨v,ms,T,rfl,rfl,lH,qD,qE,tR,HTO,oI,yI,Lw,yJ,My⟩:=hrel;clear xZ Mt Mu Mv Mw Mx Kf Do oM;by_cases mC:ms=1
    ·subst mC
     have jC:=q1a qT.out yI.out (by rw[Nat.mul_one];exact q03 T j _ tR.out);obtain⟨tI,nN⟩:=jC;have oH:=hid tI;have e2:(v:Int)-1=((v-1:Nat):Int):=by omega
     have e1':IntKind.u64.wrap ((v-1:Nat):Int)=((v-1:Nat):Int):=qbn _ (by have:=qD.out;omega);have e3:IntKind.u64.wrap ((v:Int)-1)=((v-1:Nat):Int):=by rw[e2,e1']
     have Mz:Hid (v-1<B64):=hid (by have:=qD.out;omega);have uS:Hid (v-1<v):=hid (by omega)
     have Dp:Hid (v*(n*2^s)=(v-1)*(n*2^s)+n*2^s):=hid (by
      obtain⟨u,rfl⟩:∃u,v=u+1:=⟨v-1,by omega⟩
      rw[Nat.add_mul,Nat.one_mul,Nat.add_sub_cancel])
     have uG:=qsz w2.heap.size j (md+2+t+1-j) w2.heap.size (some ⟨w1.heap.size,0,none⟩) (md+2+1) T (qao B64 (n*2^s)) wr tR.out HTO.out (fun w' hb'=>HDW.out w' (My.out.trans hb')) (by rw[qV.out,qE.out];omega) (by rw[qE.out];have:=cM.out;have:=qkg;omega) (qac _);rw[qV.out,qar _ _ qam] at uG;have pG:=hid uG;clear uG tI nN;generalize v-1=u at *;go_wp2_with fail;refine pG.out.mono ?_;rintro e w7 ⟨⟨T7,mc,rfl,hmc,hT7l,hT7b,hT7o,hT7s,hT7v⟩,Gn⟩;have Na:Hid (T7.length=md+2+t+1):=hid (by rw[hT7l];exact qE.out);have Nb:=hid hT7b;have Nc:=hid hT7o;have Nd:Hid (∀i,i<j∨j+(md+2)<i→T7.getD i 0=S.getD i 0):=hid fun i hi=>(hT7s i hi).trans (oI.out i hi);have Dq:Hid (Own w7 w3.heap.size Qs.length (wd Qs)):=hid (Gn.own yJ.out (by have:=cN.out;omega));have nR:Hid (Below w2.heap.size w3 w7):=hid (My.out.trans (Gn.below (qac _)))
     have Dr:Hid (seg T7 j (md+2+1)+B64^(md+2+1)*mc+u*(n*2^s)=qbi B64 S j+B64^(md+2+1)*1):=hid (by
      have h1:=yI.out;rw[Dp.out] at h1
      omega)
     clear hT7l hT7b hT7o hT7s hT7v Gn pG qE tR HTO oI yI yJ My Dp;have hmc':mc=0∨mc=1:=by omega
     rcases hmc' with rfl|rfl
     ·have yK:Hid (seg T7 j (md+2+1)+u*(n*2^s)=qbi B64 S j+B64^(md+2+1)*1):=hid (by have:=Dr.out;rw[Nat.mul_zero] at this;omega)
      go_wp2_with fail;go_roundw
      case rel=>exact⟨u,1,T7,rfl,rfl,by omega,Mz,Na,Nb,Nc,Nd,yK,oH,Dq,nR⟩
      case measure=>simp only[intOf];have:=uS.out;omega
     ·have yK:Hid (seg T7 j (md+2+1)+u*(n*2^s)=qbi B64 S j+B64^(md+2+1)*0):=hid (by have:=Dr.out;rw[Nat.mul_one] at this;rw[Nat.mul_zero];omega)
      go_wp2_with fail;go_roundw
      case rel=>exact⟨u,0,T7,rfl,rfl,by omega,Mz,Na,Nb,Nc,Nd,yK,oH,Dq,nR⟩
      case measure=>simp only[intOf];have:=uS.out;omega
    ·have e0:ms=0:=by omega
     subst e0;have yL:=qyx qT.out (by have:=yI.out;rw[Nat.mul_zero,Nat.add_zero] at this;exact this) Lw.out
     have hTj:qbi B64 T j=seg T j (md+2+1):=by
      rw[qw4 T j (md+2+1),q08 (R:=S) (S:=T) (by rw[qE.out,aU.out]) (fun i hi=>oI.out i (.inr (by omega))),HZ.out,Nat.mul_zero,Nat.add_zero]
     have qJ:=cG.out;have hR:=qbv B64 R j;have hS:=qbv B64 S j;rw[←aS.out j (Nat.lt_succ_self j)] at hR;have bZ:=q45 (B:=B64) qJ hS (by have:=yI.out;rw[Nat.mul_zero,Nat.add_zero] at this;exact this);rw[←hR] at bZ;have rT:j<Qs.length:=by rw[Bl.out];omega
     have hQj:qbi B64 (Qs.set j v) j=v+B64*qbi B64 Qs (j+1):=by
      rw[qbv,qck _ _ _ rT];unfold qbi;rw[List.drop_set_of_lt (by omega)]
     rw[←hQj,←hTj] at bZ;have bV:=hid bZ;have HLT3:Hid (qbi B64 T j<n*2^s):=hid (by rw[hTj,yL.2];exact Nat.mod_lt _ qT.out);obtain⟨hg,lO⟩:=yJ.out.2 j rT;unfold wd at hg;have HQO2:Hid (Own (wr.setCell ⟨w3.heap.size,j,none⟩ (.int .u64 v)) w3.heap.size (Qs.set j v).length (wd (Qs.set j v))):=hid (yJ.out.setWord j rT v);have HTO2:Hid (Own (wr.setCell ⟨w3.heap.size,j,none⟩ (.int .u64 v)) w2.heap.size T.length (wd T)):=hid (((qfb.refl w3.heap.size wr).set j (.int .u64 v)).own HTO.out (by have:=cN.out;omega));have HBT2:Hid (Below w2.heap.size w3 (wr.setCell ⟨w3.heap.size,j,none⟩ (.int .u64 v))):=hid (My.out.setCell (by have:=cN.out;show w2.heap.size≤w3.heap.size;omega) _);have qY:Hid ((Qs.set j v).length=t+1):=hid (by rw[List.length_set];exact Bl.out);have HQB2:Hid (∀d ∈ Qs.set j v,d<B64):=hid (qc7 Mq.out _ _ qD.out);have bW:Hid (∀i,i<j→T.getD i 0=R.getD i 0):=hid fun i hi=>(oI.out i (.inl hi)).trans (aS.out i (by omega));have Nf:Hid (qbi B64 R j=n*2^s*qbi B64 (Qs.set j v) j+qbi B64 T j):=hid (by rw[bV.out]);generalize Qs.getD j 0=old at *;clear yL hTj qJ hR hS bZ rT hQj yI yJ My HTO oI cG aS bV;go_wp2_with fail;go_roundw
     case rel=>exact⟨j,T,_,by omega,by go_num,qE,tR,HTO2,qY,HQB2,HQO2,bW,Nf,HLT3,HBT2⟩
     case measure=>simp[intOf]
theorem qu1(va vb:Value)(m n:Nat)(w:World)(ha:qa2 w va m)(hb:qa2 w vb n)(qW:n≤m)(h2:2≤wl n)(hm:wl m≤Cap):
  Calls Tryz.prog 103 #[va,vb] w fun e w'=>(∃vq vr,e = .returned (.tuple #[vq,vr])∧qa2 w' vq (m/n)∧qa2 w' vr (m % n))∧Below w.heap.size w w':=by
 refine(qge va vb m n w ha hb qW h2 hm).mono ?_;rintro e w' ⟨⟨vq,g,cap,rfl,hq,hr⟩,hb⟩;exact⟨⟨_,_,rfl,hq,hr.nat⟩,hb⟩
end Go.Proofs.YtmcfcpgglfimjaaGreatDoor
