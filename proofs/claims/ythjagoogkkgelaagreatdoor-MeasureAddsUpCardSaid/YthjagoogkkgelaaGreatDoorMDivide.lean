/- divide: quotient and remainder of natural numbers. -/
import Derived.Test.YthjagoogkkgelaaGreatDoorMGuess
set_option linter.all false
namespace Go.Proofs.YthjagoogkkgelaaGreatDoor
open Go.RowKit
set_option maxRecDepth 100000
set_option maxHeartbeats 2000000
theorem qxt(R:List Nat)(j n:Nat):qa7 B64 R j=seg R j n+B64^n*qa7 B64 R (j+n):=by
 induction n with
 | zero=>simp[qr0]
 | succ n ih=>
  rw[ih,qew,qbj B64 R (j+n),Nat.pow_succ,Nat.mul_add,Nat.mul_assoc,←Nat.add_assoc j n 1];omega
theorem q1q{R S:List Nat}{j:Nat}(hlen:S.length=R.length)(h:∀i,j≤i→S.getD i 0=R.getD i 0):qa7 B64 S j=qa7 B64 R j:=by
 unfold qa7
 congr 1
 apply List.ext_getElem
 ·simp[hlen]
 ·intro i h1 h2
  have:=h (j+i) (by omega);simp at h1 h2
  simpa [h1,h2,(by omega:j+i<S.length),(by omega:j+i<R.length)] using this
theorem q8q{p B a b c X:Nat}(h:X=c+p*a+p*B*b):X=c+p*(b*B+a):=by
 rw[h,Nat.mul_add,Nat.mul_comm b B,Nat.mul_assoc];omega
theorem q1r{p B x a b c X:Nat}(h:X=c+p*x+p*B*a+p*B*B*b):X=c+p*(x+B*(b*B+a)):=by
 have e:p*(B*(b*B+a))=p*B*a+p*B*B*b:=by
  rw[Nat.mul_add,Nat.mul_add,Nat.mul_comm b B];simp only[Nat.mul_assoc];omega
 rw[h,Nat.mul_add,e];omega
theorem qza{B x H Dv:Nat}(hx:x<B)(hH:H<Dv):x+B*H<B*Dv:=by
 have:B*(H+1)≤B*Dv:=Nat.mul_le_mul_left _ hH;rw[Nat.mul_add] at this;omega
theorem qzb{V word Dv W:Nat}(hD:0<Dv)(h:V+word*Dv=W)(hQ:W/Dv≤word):word=W/Dv∧V=W % Dv:=by
 have h1:word≤W/Dv:=by rw[Nat.le_div_iff_mul_le hD];omega
 have h2:word=W/Dv:=Nat.le_antisymm h1 hQ;refine⟨h2, ?_⟩;have h3:=Nat.div_add_mod W Dv;rw[←h2,Nat.mul_comm] at h3;omega
theorem q1s{V word Dv W P:Nat}(hD:0<Dv)(h:V+word*Dv=W+P)(hV:V<P):W/Dv≤word-1∧1≤word:=by
 have h1:W<word*Dv:=by omega
 have h2:W/Dv<word:=(Nat.div_lt_iff_lt_mul hD).2 h1;generalize W/Dv=Q at *;omega
theorem q5o{B Dv hq word W O H x V:Nat}(hO:O=Dv*hq+H)(hW:W=x+B*H)(hV:V+word*Dv=W):x+B*O=Dv*(word+B*hq)+V:=by
 rw[hO,Nat.mul_add,Nat.mul_add,show B*(Dv*hq)=Dv*(B*hq) from by grind,Nat.mul_comm Dv word];omega
theorem qgp{w:World}{v:Value}{n:Nat}(h:qaq w v n):∃(l:List Nat) (p:Option Addr) (c:Nat),v = .slice p l.length c∧Wds w v l∧val B64 l=n∧l.length=wl n∧l=qaf B64 n:=by
 obtain⟨h1,p,c,hv,h2⟩:=h;exact⟨qaf B64 n,p,c,hv,⟨h1,p,c,hv,h2⟩,qah _ _ qae,rfl,rfl⟩
theorem qqm{r:List Nat}{md s n:Nat}(hr:∀d ∈ r,d<B64)(hlen:r.length=md+2)(hv:val B64 r=n)(hy:r.getD (md+1) 0*2^s<B64)(hs:s<64)(hpos:r.getD (md+1) 0≠0):
  (qaf B64 (n*2^s)).length=md+2:=by
 have h1:=qap B64 r (md+1);rw[qa5 B64 r (md+1+1) (by omega),hv] at h1;have h2:=qnk B64 r (md+1) (by rw[qab];omega) hr
 have h3:r.getD (md+1) 0<2^(64-s):=by
  rw[qdh (s:=s) (by omega)] at hy;exact Nat.lt_of_mul_lt_mul_right hy
 generalize r.getD (md+1) 0=y at *;apply Nat.le_antisymm
 ·refine qb4 qae ?_
  have h4:n<B64^(md+1)*2^(64-s):=by
   have:B64^(md+1)*(y+1)≤B64^(md+1)*2^(64-s):=Nat.mul_le_mul_left _ h3;rw[Nat.mul_add] at this;omega
  have h5:n*2^s<B64^(md+1)*2^(64-s)*2^s:=Nat.mul_lt_mul_of_pos_right h4 (Nat.two_pow_pos s);rw[Nat.mul_assoc,←qdh (by omega)] at h5;exact h5
 ·have h6:B64^(md+1)≤n:=by
   have:B64^(md+1)*1≤B64^(md+1)*y:=Nat.mul_le_mul_left _ (by omega);omega
  have h7:n≤n*2^s:=Nat.le_mul_of_pos_right _ (Nat.two_pow_pos s);rcases Nat.lt_or_ge (qaf B64 (n*2^s)).length (md+2) with h|h
  ·have h8:=qb8 B64 (n*2^s) qae
   have h9:B64^(qaf B64 (n*2^s)).length≤B64^(md+1):=Nat.pow_le_pow_right (by rw[qab];omega) (by omega);omega
  ·exact h
theorem qgq(va vb:Value)(m n:Nat)(w:World)(ha:qaq w va m)(hb:qaq w vb n)(hnm:n≤m)(h2:2≤wl n)(hm:wl m≤Cap):
  Calls Tryz.prog 81 #[va,vb] w fun e w'=>(∃vq g cap,e = .returned (.tuple #[vq,.slice (some ⟨g,0,none⟩) (wl (m % n)) cap])∧qaq w' vq (m/n)∧qdg w' w.heap.size g cap (qaf B64 (m % n)))∧Below w.heap.size w w':=by
 have HCMP:=hid (qef va vb m n w ha hb)
 have hcv:¬qex m n<0:=by
  unfold qex;rcases Nat.lt_or_ge n m with h|h
  ·rw[qcl (by omega)];omega
  ·rw[qet (by omega)];omega
 generalize qex m n=cv at *;have hn1:n≠1:=by rintro rfl;unfold wl at h2;rw[qoc] at h2;simp at h2
 have HONE:=hid (qce vb n false (by simp[hn1]));obtain⟨l,pa,ca,rfl,hwa,hvl,hla,hld⟩:=qgp ha;obtain⟨r,pb,cb,rfl,hwb,hvr,hlb,hrd⟩:=qgp hb;have hlen:r.length≤l.length:=by rw[hla,hlb];exact qad qae hnm
 have HLD:=hid hld;have HRD:=hid hrd;rw[←hlb] at h2;rw[←hla] at hm;have HWA:=hid hwa;have HWB:=hid hwb;have HVL:=hid hvl;have HVR:=hid hvr;obtain⟨md,hmd⟩:∃md,r.length=md+2:=⟨r.length-2,by omega⟩;obtain⟨t,ht⟩:∃t,l.length=md+2+t:=⟨l.length-(md+2),by omega⟩;have HRL:=hid hmd;have HLL:=hid ht;rw[ht] at hm;have hcapm:md+2+t<1152921504606846976:=by unfold Cap at hm;omega
 have HCAP:=hid hm;rw[ht,hmd] at HCMP;rw[hmd] at HONE;rw[ht,hmd];clear ha hb hwa hwb hvl hvr hla hlb h2 hm hlen hmd ht hn1 hnm hld hrd;go_enter Tryz.func81,Tryz.ntmps81;go_wp2_with fail;refine HCMP.out.mono ?_;rintro e w1 ⟨rfl,q,hw1⟩;have hb1:Below w.heap.size w w1:=by rw[hw1];exact below_drewN (Below.refl _ _) q
 have hs1:w1.heap.size=w.heap.size:=by rw[hw1];rfl
 have HB1:=hid hb1;have HS1:=hid hs1;have HWA1:=hid (HWA.out.later hb1);have HWB1:=hid (HWB.out.later hb1);clear hw1 hb1 hs1 HCMP;go_wp2_with fail;refine(HONE.out w1 (by have:=HWB1.out;rw[HRL.out] at this;unfold qaq;rw[←HRD.out];exact this)).mono ?_;rintro e w' ⟨rfl,hw'⟩;subst hw';have hb2:((md:Int)+2==1)=false:=beq_eq_false_iff_ne.2 (by omega);obtain⟨hrl,p',c',he,hcb1,hcb2,hcellsb⟩:=HWB1.out;rw[HRL.out] at he hcb1 hcellsb;cases he
 rcases hcellsb with h0|⟨bb,ob,rfl,hrowb⟩
 ·omega
 have hytop:=hrowb (md+1) (by omega)
 have hypos:r.getD (md+1) 0≠0:=by
  have h1:=HRD.out;rcases List.eq_nil_or_concat r with e|⟨z,x,e⟩
  ·have:=HRL.out;rw[e] at this;simp at this
  ·rw[List.concat_eq_append] at e
   have hz:z.length=md+1:=by have:=HRL.out;rw[e] at this;simpa using this
   rw[e,←hz];have:=qi3 qae (h1.symm.trans e)
   simpa using this
 obtain⟨s,hs,hy1,hy2,hlz⟩:=q1k (r.getD (md+1) 0) (by omega) (qao (by rw[qab];omega) hrl _)
 have HNORM:Hid (2^63*B64^(md+1)≤n*2^s):=by
  refine hid ?_;have h1:=qap B64 r (md+1);rw[qa5 B64 r (md+1+1) (by have:=HRL.out;omega),HVR.out] at h1;have h3:2^63≤r.getD (md+1) 0*2^s:=by rw[qab] at hy2;omega
  have h4:B64^(md+1)*r.getD (md+1) 0≤n:=by omega
  have h5:=Nat.mul_le_mul_right (2^s) h4;have h6:=Nat.mul_le_mul_left (B64^(md+1)) h3;rw[Nat.mul_assoc] at h5;rw[Nat.mul_comm];exact Nat.le_trans h6 h5
 have HDL:=hid (qqm hrl HRL.out HVR.out hy1 hs hypos);have HLZ:=hid hlz;unfold wd at hytop;generalize r.getD (md+1) 0=y at *;have HS:=hid hs;have HSH1:=hid (qlm _ r s w1 HWB1.out hs (by have:=HCAP.out;have:=HRL.out;omega));rw[HRL.out] at HSH1;clear hrl hcb1 hcb2 hrowb hypos hy1 hy2 hlz hs;go_wp2_with fail;refine(HLZ.out _).mono ?_;rintro e w' ⟨rfl,hw'⟩;rw[hw'];clear hw' HLZ hytop;go_wp2_with fail;refine HSH1.out.mono ?_;rintro e w2 ⟨⟨R1,rfl,hR1l,hR1b,hR1o,hR1v⟩,hb12⟩;have HR1L:=hid hR1l;have HR1:Hid (w1.heap.size<w2.heap.size):=hid hR1o.1
 have HTRIM:=hid (qhm (some ⟨w1.heap.size,0,none⟩) (md+2+1) R1 w2 (by
  have:=qmr hR1o hR1b (Nat.le_refl _) (by rw[hR1l];unfold maxLen;omega);rw[hR1l] at this ⊢
  exact this))
 have HTN:=hid (fun k hk=>qxo w2 (some ⟨w1.heap.size,0,none⟩) (md+2+1) R1 k hR1b hk (by rw[hR1l];exact Nat.le_refl _) (by unfold maxLen;omega) (.inr ⟨_,_,rfl,hR1o.row⟩));have HR1V:Hid (val B64 R1=n*2^s):=hid (by rw[hR1v,HVR.out]);have HB12:=hid hb12;rw[hR1l] at HTRIM;clear hR1l hR1b hR1o hR1v hb12 HSH1;go_wp2_with fail;refine HTRIM.out.mono ?_;rintro e w' ⟨⟨k,hk,rfl,hd⟩,hw'⟩;subst hw'
 have hkk:k=md+2:=by
  have h1:=HDL.out;rw[←HR1V.out,hd] at h1;simp at h1;have:=HR1L.out;omega
 subst hkk;have HD2:Hid (qaq w2 (.slice (some ⟨w1.heap.size,0,none⟩) (md+2) (md+2+1)) (n*2^s)):=hid (by rw[←HR1V.out];exact HTN.out _ (by rw[HR1L.out];omega) hd);have HWA2:=hid (HWA1.out.later HB12.out);have HSH2:=hid (qlm _ l s w2 HWA2.out HS.out (by have:=HCAP.out;have:=HLL.out;omega));rw[HLL.out] at HSH2;clear hk hd HTRIM HTN HR1V HR1L;go_wp2_with fail;refine HSH2.out.mono ?_;rintro e w3 ⟨⟨R,rfl,hRl,hRb,hRo,hRv⟩,hb23⟩;have HD3:=hid (HD2.out.later hb23);have HB23:=hid hb23;have HRL3:=hid hRl;have HRB3:=hid hRb;have HRO3:=hid hRo;have HRV3:Hid (val B64 R=m*2^s):=hid (by rw[hRv,HVL.out]);clear hRl hRb hRo hRv hb23 HSH2;have hE0:(md:Int)+2+t-(md+2)=(t:Int):=by omega
 have hmk:=fun w=>qgj (t+1) ((t:Int)+1) (by omega) (by have:=HCAP.out;have:=qkq;omega) w;go_wp2_with fail;clear hE0 hmk;have hown:=qhn w3 (t+1);have hbel:Below w3.heap.size w3 (w3.alloc (qa6 (t+1))):=(Below.refl _ _).alloc (Nat.le_refl _) _;have hsz:(w3.alloc (qa6 (t+1))).heap.size=w3.heap.size+1:=by rw[World.size_alloc]
 have HQL:Hid ((List.replicate (t+1) 0).length=t+1):=hid (by simp);have HQB:=hid (qb5 (b:=B64) (by rw[qab];omega) (t+1));have HQV:Hid (qa7 B64 (List.replicate (t+1) 0) (t+1)=0):=hid (qdc _ _ _ (by simp));have HQO:Hid (Own (w3.alloc (qa6 (t+1))) w3.heap.size (List.replicate (t+1) 0).length (wd (List.replicate (t+1) 0))):=by refine hid ?_;rw[HQL.out];exact hown
 have HB34:=hid hbel;have HSZ4:=hid hsz;have HR2:Hid (w2.heap.size<w3.heap.size):=hid HRO3.out.1
 have HDW:Hid (∀w',Below w2.heap.size w3 w'→Wds w' (.slice (some ⟨w1.heap.size,0,none⟩) (qaf B64 (n*2^s)).length (md+2+1)) (qaf B64 (n*2^s))):=by
  refine hid fun w' hb' => ?_;rw[HDL.out];exact HD2.out.later (HB23.out.trans hb')
 have HRO4:Hid (Own (w3.alloc (qa6 (t+1))) w2.heap.size R.length (wd R)):=hid (HRO3.out.later (hbel.mono (by have:=HRO3.out.1;omega)));clear hown hbel hsz;generalize List.replicate (t+1) 0=Qs0 at *;generalize w3.alloc (qa6 (t+1))=w4 at *
 have HINIT:Hid (qa7 B64 R (t+1)<n*2^s):=by
  refine hid ?_;have h1:=qfm B64 R (t+1) (by have:=HRL3.out;omega);have h2:=HRV3.out
  have h3:m<B64^(md+2+t):=by
   have:=qi1 B64 l (HWA2.out.1);rw[HVL.out,HLL.out] at this;exact this
  have h4:B64^(t+1)*qa7 B64 R (t+1)<B64^(md+2+t)*2^s:=by
   have:=Nat.mul_lt_mul_of_pos_right h3 (Nat.two_pow_pos s);omega
  have hp:B64^(md+2+t)=B64^(t+1)*B64^(md+1):=by rw[←Nat.pow_add];congr 1;omega
  rw[hp,Nat.mul_assoc] at h4;have h5:=Nat.lt_of_mul_lt_mul_left h4
  have h6:B64^(md+1)*2^s≤2^63*B64^(md+1):=by
   rw[Nat.mul_comm];exact Nat.mul_le_mul_right _ (Nat.pow_le_pow_right (by omega) (by have:=HS.out;omega))
  exact Nat.lt_of_lt_of_le h5 (Nat.le_trans h6 HNORM.out)
 have HW2:=hid HR2.out
 go_loopw [12] (fun i wr=>∃k:Nat,∃S Qs:List Nat,k≤t+1∧i = .int .i64 ((k:Int)-1)∧Hid (S.length=md+2+t+1)∧Hid (∀d ∈ S,d<B64)∧Hid (Own wr w2.heap.size S.length (wd S))∧Hid (Qs.length=t+1)∧Hid (∀d ∈ Qs,d<B64)∧Hid (Own wr w3.heap.size Qs.length (wd Qs))∧Hid (∀j,j<k→S.getD j 0=R.getD j 0)∧Hid (qa7 B64 R k=n*2^s*qa7 B64 Qs k+qa7 B64 S k)∧Hid (qa7 B64 S k<n*2^s)∧Hid (Below w2.heap.size w3 wr)) (fun i _=>(intOf i+1).toNat)
 case atStart=>exact⟨t+1,R,Qs0,Nat.le_refl _,by go_num,HRL3,HRB3,HRO4,HQL,HQB,HQO,hid (fun _ _=>rfl),hid (by rw[HQV.out,Nat.mul_zero,Nat.zero_add]),HINIT,hid (HB34.out.mono (by have:=HR2.out;omega))⟩
 case round=>
  obtain⟨k,S,Qs,hk,rfl,HSL,HSB,HSO,HQSL,HQSB,HQSO,HSAME,HREL,HLT,HB⟩:=hrel;rcases k with _|j
  ·have hv:=HREL.out
   rw[high_zero,high_zero,high_zero,HRV3.out] at hv;have hlt:=HLT.out;rw[high_zero] at hlt;have hdm:=qow (Nat.two_pow_pos s) (by rw[Nat.mul_comm (n*2^s)] at hv;exact hv) hlt;have HQ1:Hid (m/n=val B64 Qs):=hid hdm.1;have HR1':Hid (val B64 S/2^s=m % n):=hid hdm.2
   have hwQ:Wds wr (.slice (some ⟨w3.heap.size,0,none⟩) (t+1) (t+1)) Qs:=by
    have:=qmr HQSO.out HQSB.out (Nat.le_refl _) (by rw[HQSL.out];unfold maxLen;omega);rw[HQSL.out] at this;exact this
   have hwS:Wds wr (.slice (some ⟨w2.heap.size,0,none⟩) (md+2+t+1) (md+2+t+1)) S:=by
    have:=qmr HSO.out HSB.out (Nat.le_refl _) (by rw[HSL.out];unfold maxLen;omega);rw[HSL.out] at this;exact this
   have HTQ:=hid (qjt _ _ _ hwQ);have HTS:=hid (qjt _ _ _ hwS)
   have HSC:Hid ((qaf B64 (val B64 S)).length≤Cap):=hid (by
    have h1:(qaf B64 (val B64 S)).length≤md+2:=by
     have h2:=qad (b:=B64) qae (Nat.le_of_lt hlt);rw[HDL.out] at h2;exact h2
    have:=HCAP.out
    omega)
   clear hv hlt hdm hwQ hwS HQSO HSO HSAME HREL HLT;go_wp2_with fail;refine HTQ.out.mono ?_;rintro e w' ⟨⟨vq,rfl,hnq⟩,hw'⟩;subst hw';have HNQ:=hid hnq;clear hnq;go_wp2_with fail;refine HTS.out.mono ?_;rintro e w' ⟨⟨vs,rfl,hns⟩,hw'⟩;subst hw';have HSR:=hid (qo2 vs (qaf B64 (val B64 S)) s wr hns HS.out HSC.out);rw[qah _ _ qae,HR1'.out] at HSR;clear hns HTQ HTS;go_wp2_with fail;refine HSR.out.mono ?_;rintro e w9 ⟨⟨gr,cr,rfl,hnr⟩,hb9⟩;have HF1:Hid (qdg w9 w.heap.size gr cr (qaf B64 (m % n))):=hid (hnr.mono (by have:=HB.out.size;have:=HS1.out;have:=HR1.out;have:=HR2.out;omega));have HF2:=hid (HNQ.out.later hb9);rw[←HQ1.out] at HF2;have HF3:Hid (Below w.heap.size w w9):=hid (HB1.out.trans ((HB12.out.mono (by have:=HS1.out;omega)).trans ((HB23.out.mono (by have:=HS1.out;have:=HR1.out;omega)).trans ((HB.out.mono (by have:=HS1.out;have:=HR1.out;omega)).trans (hb9.mono (by have:=HB.out.size;have:=HS1.out;have:=HR1.out;have:=HR2.out;omega))))));clear hnr hb9 HSR;go_wp2_with fail;go_ret2;exact⟨⟨_,_,_,rfl,HF2.out,HF1.out⟩,HF3.out⟩
  ·have e1:((j+1:Nat):Int)-1=(j:Int):=by omega
   simp only[e1];have hj:j≤t:=by omega
   have hE1:j+(md+2)+1-j=md+2+1:=by omega
   have hDpos:0<n*2^s:=by have:=HLT.out;omega
   have hDB:n*2^s<B64^(md+2):=by
    have:=qb8 B64 (n*2^s) qae;rw[HDL.out] at this;exact this
   have hwin:qa7 B64 S j<B64*(n*2^s):=by
    rw[qbj B64 S j];exact qza (qao (by rw[qab];omega) HSB.out j) HLT.out
   have hWB:qa7 B64 S j<B64^(md+2+1):=by
    have h1:B64*(n*2^s)<B64*B64^(md+2):=Nat.mul_lt_mul_of_pos_left hDB (by rw[qab];omega);rw[Nat.pow_succ,Nat.mul_comm (B64^(md+2))];omega
   have hseg:=qxt S j (md+2+1)
   have hz:qa7 B64 S (j+(md+2+1))=0:=by
    rcases Nat.eq_zero_or_pos (qa7 B64 S (j+(md+2+1))) with h|h
    ·exact h
    ·have:B64^(md+2+1)*1≤B64^(md+2+1)*qa7 B64 S (j+(md+2+1)):=Nat.mul_le_mul_left _ h
     omega
   have hWseg:qa7 B64 S j=seg S j (md+2+1):=by rw[hseg,hz,Nat.mul_zero,Nat.add_zero]
   have hQlt:qa7 B64 S j/(n*2^s)<B64:=(Nat.div_lt_iff_lt_mul hDpos).2 hwin;have hQmul:qa7 B64 S j/(n*2^s)*(n*2^s)≤qa7 B64 S j:=Nat.div_mul_le_self _ _;have HD0:=HDW.out wr HB.out;obtain⟨hDl,pD,cD,heD,_,_,hcellsD⟩:=HD0;cases heD
   rw[HDL.out] at hcellsD;rcases hcellsD with h0|⟨bD,oD,hpD,hrowD⟩
   ·omega
   cases hpD
   have hlowD:=qap B64 (qaf B64 (n*2^s)) md;have hlowD1:=qap B64 (qaf B64 (n*2^s)) (md+1);rw[qa5 B64 _ (md+1+1) (by rw[HDL.out];omega),qah _ _ qae] at hlowD1;have hs1:=qew S j (md+2);have hs2:=qew S j (md+1);have hs3:=qew S j md;have hW2:qa7 B64 S j=seg S j (md+1)+B64^(md+1)*(S.getD (j+(md+2)) 0*B64+S.getD (j+(md+1)) 0):=q8q (by rw[hWseg,hs1,hs2,←Nat.pow_succ]);have hW3:qa7 B64 S j=seg S j md+B64^md*(S.getD (j+md) 0+B64*(S.getD (j+(md+2)) 0*B64+S.getD (j+(md+1)) 0)):=q1r (by rw[hWseg,hs1,hs2,hs3,←Nat.pow_succ,←Nat.pow_succ]);have hl1:=q1l S j (md+1) HSB.out;have hl2:=q1l S j md HSB.out
   have hD3:n*2^s=low B64 (qaf B64 (n*2^s)) md+B64^md*((qaf B64 (n*2^s)).getD md 0+B64*(qaf B64 (n*2^s)).getD (md+1) 0):=by
    rw[Nat.mul_add,←Nat.mul_assoc,←Nat.pow_succ,←Nat.add_assoc,←hlowD,←hlowD1]
   have hg1:=qy9 w2.heap.size j (md+2+t+1-j) md (md+2+1) w1.heap.size 0 (S.getD (j+(md+2)) 0) (S.getD (j+(md+1)) 0) (S.getD (j+md) 0) ((qaf B64 (n*2^s)).getD (md+1) 0) ((qaf B64 (n*2^s)).getD md 0) (qa7 B64 S j/(n*2^s)) wr (by omega)
    ((HSO.out.2 (j+(md+2)) (by rw[HSL.out];omega)).1) ((HSO.out.2 (j+(md+1)) (by rw[HSL.out];omega)).1) ((HSO.out.2 (j+md) (by rw[HSL.out];omega)).1)
    (hrowD (md+1) (by omega)) (hrowD md (by omega))
    (hid (qao (by rw[qab];omega) HSB.out _)) (hid (qao (by rw[qab];omega) HSB.out _)) (hid (qao (by rw[qab];omega) hDl _)) (hid (qao (by rw[qab];omega) hDl _)) (hid hQlt)
    (hid fun h=>qvr (B:=B64) hW2 hl1 hlowD1 (by omega) hQmul)
    (hid fun word r h1 h2 h3=>qy7 hW3 hl2 hD3 hQmul h1 h2 h3)
   have HG1:=hid hg1;have HDP:=hid hDpos;have HWS:Hid (qa7 B64 S j=seg S j (md+2+1)):=hid hWseg;have HZ:=hid hz;clear hg1 hs1 hs2 hs3 hW2 hW3 hl1 hl2 hD3 hlowD hlowD1 hrowD hDl hQmul hQlt hWseg hz hseg hWB hwin hDB hDpos;go_wp2_with fail;refine HG1.out.mono ?_;rintro e w5 ⟨⟨word,rfl,hQw,hwB⟩,k5,hw5⟩;have HSO5:Hid (Own w5 w2.heap.size S.length (wd S)):=hid (by rw[hw5];exact HSO.out.drewN k5);have HQSO5:Hid (Own w5 w3.heap.size Qs.length (wd Qs)):=hid (by rw[hw5];exact HQSO.out.drewN k5);have HB5:Hid (Below w2.heap.size w3 w5):=hid (by rw[hw5];exact below_drewN HB.out k5);have HQW:=hid hQw;have HWB:=hid hwB;have htt:=qr1 w2.heap.size j (md+2+t+1-j) word w2.heap.size (some ⟨w1.heap.size,0,none⟩) (md+2+1) S (qaf B64 (n*2^s)) w5 HSB.out HSO5.out (fun w' hb'=>HDW.out w' (HB5.out.trans hb')) (by rw[HDL.out,HSL.out];omega) (by rw[HSL.out];have:=HCAP.out;have:=qkq;omega) (Nat.le_refl _) hwB;rw[HDL.out,qah _ _ qae] at htt;have HTT:=hid htt;clear hw5 hQw hwB htt HG1 HSO HQSO HB;go_wp2_with fail;refine HTT.out.mono ?_;rintro e w6 ⟨⟨S6,mis,rfl,hmis,hS6l,hS6b,hS6o,hS6s,hS6v⟩,hon6⟩;have HS6L:Hid (S6.length=md+2+t+1):=hid (by rw[hS6l];exact HSL.out);have HS6B:=hid hS6b;have HS6O:=hid hS6o;have HS6S:=hid hS6s;have HS6V:Hid (seg S6 j (md+2+1)+word*(n*2^s)=qa7 B64 S j+B64^(md+2+1)*mis):=hid (by rw[HWS.out];exact hS6v);have HQSO6:Hid (Own w6 w3.heap.size Qs.length (wd Qs)):=hid (hon6.own HQSO5.out (by have:=HR2.out;omega));have HB6:Hid (Below w2.heap.size w3 w6):=hid (HB5.out.trans (hon6.below (Nat.le_refl _)));clear hS6l hS6b hS6o hS6s hS6v hon6 HTT HSO5 HQSO5 HB5;go_wp2_with fail
   go_loopw [14,15] (fun a b wr=>∃v ms:Nat,∃T:List Nat,a = .int .u64 v∧b = .int .u64 ms∧ms≤1∧Hid (v<B64)∧Hid (T.length=md+2+t+1)∧Hid (∀d ∈ T,d<B64)∧Hid (Own wr w2.heap.size T.length (wd T))∧Hid (∀i,i<j∨j+(md+2)<i→T.getD i 0=S.getD i 0)∧Hid (seg T j (md+2+1)+v*(n*2^s)=qa7 B64 S j+B64^(md+2+1)*ms)∧Hid (qa7 B64 S j/(n*2^s)≤v)∧Hid (Own wr w3.heap.size Qs.length (wd Qs))∧Hid (Below w2.heap.size w3 wr)) (fun a _ _=>(intOf a).toNat)
   case atStart=>exact⟨word,mis,S6,rfl,rfl,hmis,HWB,HS6L,HS6B,HS6O,HS6S,HS6V,HQW,HQSO6,HB6⟩
   case round=>
    obtain⟨v,ms,T,rfl,rfl,hms,HVB,HTL,HTB,HTO,HTS,HTV,HQV,HQTO,HBT⟩:=hrel;clear HWB HS6L HS6B HS6O HS6S HS6V HQW HQSO6 HB6;by_cases hm0:ms=1
    ·subst hm0
     have hmore:=q1s HDP.out HTV.out (by rw[Nat.mul_one];exact q1l T j _ HTB.out);obtain⟨hq1,hq2⟩:=hmore;have HQ2:=hid hq1;have e2:(v:Int)-1=((v-1:Nat):Int):=by omega
     have e1':IntKind.u64.wrap ((v-1:Nat):Int)=((v-1:Nat):Int):=qba _ (by have:=HVB.out;omega);have e3:IntKind.u64.wrap ((v:Int)-1)=((v-1:Nat):Int):=by rw[e2,e1']
     have HVB2:Hid (v-1<B64):=hid (by have:=HVB.out;omega);have HLT2:Hid (v-1<v):=hid (by omega)
     have HMULV:Hid (v*(n*2^s)=(v-1)*(n*2^s)+n*2^s):=hid (by
      obtain⟨u,rfl⟩:∃u,v=u+1:=⟨v-1,by omega⟩
      rw[Nat.add_mul,Nat.one_mul,Nat.add_sub_cancel])
     have hgb:=qtc w2.heap.size j (md+2+t+1-j) w2.heap.size (some ⟨w1.heap.size,0,none⟩) (md+2+1) T (qaf B64 (n*2^s)) wr HTB.out HTO.out (fun w' hb'=>HDW.out w' (HBT.out.trans hb')) (by rw[HDL.out,HTL.out];omega) (by rw[HTL.out];have:=HCAP.out;have:=qkq;omega) (Nat.le_refl _);rw[HDL.out,qah _ _ qae] at hgb;have HGB:=hid hgb;clear hgb hq1 hq2;generalize v-1=u at *;go_wp2_with fail;refine HGB.out.mono ?_;rintro e w7 ⟨⟨T7,mc,rfl,hmc,hT7l,hT7b,hT7o,hT7s,hT7v⟩,hon7⟩;have HT7L:Hid (T7.length=md+2+t+1):=hid (by rw[hT7l];exact HTL.out);have HT7B:=hid hT7b;have HT7O:=hid hT7o;have HT7S:Hid (∀i,i<j∨j+(md+2)<i→T7.getD i 0=S.getD i 0):=hid fun i hi=>(hT7s i hi).trans (HTS.out i hi);have HQTO7:Hid (Own w7 w3.heap.size Qs.length (wd Qs)):=hid (hon7.own HQTO.out (by have:=HR2.out;omega));have HB7:Hid (Below w2.heap.size w3 w7):=hid (HBT.out.trans (hon7.below (Nat.le_refl _)))
     have HV7:Hid (seg T7 j (md+2+1)+B64^(md+2+1)*mc+u*(n*2^s)=qa7 B64 S j+B64^(md+2+1)*1):=hid (by
      have h1:=HTV.out;rw[HMULV.out] at h1
      omega)
     clear hT7l hT7b hT7o hT7s hT7v hon7 HGB HTL HTB HTO HTS HTV HQTO HBT HMULV;have hmc':mc=0∨mc=1:=by omega
     rcases hmc' with rfl|rfl
     ·have HV8:Hid (seg T7 j (md+2+1)+u*(n*2^s)=qa7 B64 S j+B64^(md+2+1)*1):=hid (by have:=HV7.out;rw[Nat.mul_zero] at this;omega)
      go_wp2_with fail;go_roundw
      case rel=>exact⟨u,1,T7,rfl,rfl,by omega,HVB2,HT7L,HT7B,HT7O,HT7S,HV8,HQ2,HQTO7,HB7⟩
      case measure=>simp only[intOf];have:=HLT2.out;omega
     ·have HV8:Hid (seg T7 j (md+2+1)+u*(n*2^s)=qa7 B64 S j+B64^(md+2+1)*0):=hid (by have:=HV7.out;rw[Nat.mul_one] at this;rw[Nat.mul_zero];omega)
      go_wp2_with fail;go_roundw
      case rel=>exact⟨u,0,T7,rfl,rfl,by omega,HVB2,HT7L,HT7B,HT7O,HT7S,HV8,HQ2,HQTO7,HB7⟩
      case measure=>simp only[intOf];have:=HLT2.out;omega
    ·have e0:ms=0:=by omega
     subst e0;have hfound:=qzb HDP.out (by have:=HTV.out;rw[Nat.mul_zero,Nat.add_zero] at this;exact this) HQV.out
     have hTj:qa7 B64 T j=seg T j (md+2+1):=by
      rw[qxt T j (md+2+1),q1q (R:=S) (S:=T) (by rw[HTL.out,HSL.out]) (fun i hi=>HTS.out i (.inr (by omega))),HZ.out,Nat.mul_zero,Nat.add_zero]
     have hrel2:=HREL.out;have hR:=qbj B64 R j;have hS:=qbj B64 S j;rw[←HSAME.out j (Nat.lt_succ_self j)] at hR;have hnew:=q5o (B:=B64) hrel2 hS (by have:=HTV.out;rw[Nat.mul_zero,Nat.add_zero] at this;exact this);rw[←hR] at hnew;have hjQ:j<Qs.length:=by rw[HQSL.out];omega
     have hQj:qa7 B64 (Qs.set j v) j=v+B64*qa7 B64 Qs (j+1):=by
      rw[qbj,qcc _ _ _ hjQ];unfold qa7;rw[List.drop_set_of_lt (by omega)]
     rw[←hQj,←hTj] at hnew;have HNEW:=hid hnew;have HLT3:Hid (qa7 B64 T j<n*2^s):=hid (by rw[hTj,hfound.2];exact Nat.mod_lt _ HDP.out);obtain⟨hg,hfz⟩:=HQTO.out.2 j hjQ;unfold wd at hg;have HQO2:Hid (Own (wr.setCell ⟨w3.heap.size,j,none⟩ (.int .u64 v)) w3.heap.size (Qs.set j v).length (wd (Qs.set j v))):=hid (HQTO.out.setWord j hjQ v);have HTO2:Hid (Own (wr.setCell ⟨w3.heap.size,j,none⟩ (.int .u64 v)) w2.heap.size T.length (wd T)):=hid (((qfh.refl w3.heap.size wr).set j (.int .u64 v)).own HTO.out (by have:=HR2.out;omega));have HBT2:Hid (Below w2.heap.size w3 (wr.setCell ⟨w3.heap.size,j,none⟩ (.int .u64 v))):=hid (HBT.out.setCell (by have:=HR2.out;show w2.heap.size≤w3.heap.size;omega) _);have HQL2:Hid ((Qs.set j v).length=t+1):=hid (by rw[List.length_set];exact HQSL.out);have HQB2:Hid (∀d ∈ Qs.set j v,d<B64):=hid (qcs HQSB.out _ _ HVB.out);have HSAME2:Hid (∀i,i<j→T.getD i 0=R.getD i 0):=hid fun i hi=>(HTS.out i (.inl hi)).trans (HSAME.out i (by omega));have HNEW2:Hid (qa7 B64 R j=n*2^s*qa7 B64 (Qs.set j v) j+qa7 B64 T j):=hid (by rw[HNEW.out]);generalize Qs.getD j 0=old at *;clear hfound hTj hrel2 hR hS hnew hjQ hQj HTV HQTO HBT HTO HTS HREL HSAME HNEW;go_wp2_with fail;go_roundw
     case rel=>exact⟨j,T,_,by omega,by go_num,HTL,HTB,HTO2,HQL2,HQB2,HQO2,HSAME2,HNEW2,HLT3,HBT2⟩
     case measure=>simp[intOf]
theorem qvs(va vb:Value)(m n:Nat)(w:World)(ha:qaq w va m)(hb:qaq w vb n)(hnm:n≤m)(h2:2≤wl n)(hm:wl m≤Cap):
  Calls Tryz.prog 81 #[va,vb] w fun e w'=>(∃vq vr,e = .returned (.tuple #[vq,vr])∧qaq w' vq (m/n)∧qaq w' vr (m % n))∧Below w.heap.size w w':=by
 refine(qgq va vb m n w ha hb hnm h2 hm).mono ?_;rintro e w' ⟨⟨vq,g,cap,rfl,hq,hr⟩,hb⟩;exact⟨⟨_,_,rfl,hq,hr.nat⟩,hb⟩
end Go.Proofs.YthjagoogkkgelaaGreatDoor
