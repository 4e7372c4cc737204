/- divide: quotient and remainder of natural numbers. -/
import Derived.Test.YtclimablgihlhaaGreatDoorMGuess
set_option linter.all false
namespace Go.Proofs.YtclimablgihlhaaGreatDoor
open Go.RowKit
set_option maxRecDepth 100000
set_option maxHeartbeats 2000000
theorem qwg(R:List Nat)(j n:Nat):qa6 B64 R j=seg R j n+B64^n*qa6 B64 R (j+n):=by
 induction n with
 | zero=>simp[qq2]
 | succ n ih=>
  rw[ih,qem,qbj B64 R (j+n),Nat.pow_succ,Nat.mul_add,Nat.mul_assoc,←Nat.add_assoc j n 1];omega
theorem qz5{R S:List Nat}{j:Nat}(aF:S.length=R.length)(h:∀i,j≤i→S.getD i 0=R.getD i 0):qa6 B64 S j=qa6 B64 R j:=by
 unfold qa6
 congr 1
 apply List.ext_getElem
 ·simp[aF]
 ·intro i h1 h2
  have:=h (j+i) (by omega);simp at h1 h2
  simpa [h1,h2,(by omega:j+i<S.length),(by omega:j+i<R.length)] using this
theorem q60{p B a b c X:Nat}(h:X=c+p*a+p*B*b):X=c+p*(b*B+a):=by
 rw[h,Nat.mul_add,Nat.mul_comm b B,Nat.mul_assoc];omega
theorem qz6{p B x a b c X:Nat}(h:X=c+p*x+p*B*a+p*B*B*b):X=c+p*(x+B*(b*B+a)):=by
 have e:p*(B*(b*B+a))=p*B*a+p*B*B*b:=by
  rw[Nat.mul_add,Nat.mul_add,Nat.mul_comm b B];simp only[Nat.mul_assoc];omega
 rw[h,Nat.mul_add,e];omega
theorem qxv{B x H Dv:Nat}(hx:x<B)(hH:H<Dv):x+B*H<B*Dv:=by
 have:B*(H+1)≤B*Dv:=Nat.mul_le_mul_left _ hH;rw[Nat.mul_add] at this;omega
theorem qxw{V word Dv W:Nat}(hD:0<Dv)(h:V+word*Dv=W)(hQ:W/Dv≤word):word=W/Dv∧V=W % Dv:=by
 have h1:word≤W/Dv:=by rw[Nat.le_div_iff_mul_le hD];omega
 have h2:word=W/Dv:=Nat.le_antisymm h1 hQ;refine⟨h2, ?_⟩;have h3:=Nat.div_add_mod W Dv;rw[←h2,Nat.mul_comm] at h3;omega
theorem qz7{V word Dv W P:Nat}(hD:0<Dv)(h:V+word*Dv=W+P)(hV:V<P):W/Dv≤word-1∧1≤word:=by
 have h1:W<word*Dv:=by omega
 have h2:W/Dv<word:=(Nat.div_lt_iff_lt_mul hD).2 h1;generalize W/Dv=Q at *;omega
theorem q31{B Dv hq word W O H x V:Nat}(hO:O=Dv*hq+H)(hW:W=x+B*H)(hV:V+word*Dv=W):x+B*O=Dv*(word+B*hq)+V:=by
 rw[hO,Nat.mul_add,Nat.mul_add,show B*(Dv*hq)=Dv*(B*hq) from by grind,Nat.mul_comm Dv word];omega
theorem qgb{w:World}{v:Value}{n:Nat}(h:qap w v n):∃(l:List Nat) (p:Option Addr) (c:Nat),v = .slice p l.length c∧Wds w v l∧val B64 l=n∧l.length=wl n∧l=qaf B64 n:=by
 obtain⟨h1,p,c,hv,h2⟩:=h;exact⟨qaf B64 n,p,c,hv,⟨h1,p,c,hv,h2⟩,qah _ _ qae,rfl,rfl⟩
theorem qpo{r:List Nat}{md s n:Nat}(hr:∀d ∈ r,d<B64)(aF:r.length=md+2)(hv:val B64 r=n)(hy:r.getD (md+1) 0*2^s<B64)(hs:s<64)(jM:r.getD (md+1) 0≠0):
  (qaf B64 (n*2^s)).length=md+2:=by
 have h1:=qao B64 r (md+1);rw[qa4 B64 r (md+1+1) (by omega),hv] at h1;have h2:=qmr B64 r (md+1) (by rw[qab];omega) hr
 have h3:r.getD (md+1) 0<2^(64-s):=by
  rw[qdc (s:=s) (by omega)] at hy;exact Nat.lt_of_mul_lt_mul_right hy
 generalize r.getD (md+1) 0=y at *;apply Nat.le_antisymm
 ·refine qb2 qae ?_
  have h4:n<B64^(md+1)*2^(64-s):=by
   have:B64^(md+1)*(y+1)≤B64^(md+1)*2^(64-s):=Nat.mul_le_mul_left _ h3;rw[Nat.mul_add] at this;omega
  have h5:n*2^s<B64^(md+1)*2^(64-s)*2^s:=Nat.mul_lt_mul_of_pos_right h4 (Nat.two_pow_pos s);rw[Nat.mul_assoc,←qdc (by omega)] at h5;exact h5
 ·have h6:B64^(md+1)≤n:=by
   have:B64^(md+1)*1≤B64^(md+1)*y:=Nat.mul_le_mul_left _ (by omega);omega
  have h7:n≤n*2^s:=Nat.le_mul_of_pos_right _ (Nat.two_pow_pos s);rcases Nat.lt_or_ge (qaf B64 (n*2^s)).length (md+2) with h|h
  ·have h8:=qb6 B64 (n*2^s) qae
   have h9:B64^(qaf B64 (n*2^s)).length≤B64^(md+1):=Nat.pow_le_pow_right (by rw[qab];omega) (by omega);omega
  ·exact h
theorem qgc(va vb:Value)(m n:Nat)(w:World)(ha:qap w va m)(hb:qap w vb n)(sH:n≤m)(h2:2≤wl n)(hm:wl m≤Cap):
  Calls Tryz.prog 78 #[va,vb] w fun e w'=>(∃vq g cap,e = .returned (.tuple #[vq,.slice (some ⟨g,0,none⟩) (wl (m % n)) cap])∧qap w' vq (m/n)∧qdb w' w.heap.size g cap (qaf B64 (m % n)))∧Below w.heap.size w w':=by
 have eM:=hid (qd7 va vb m n w ha hb)
 have rJ:¬qen m n<0:=by
  unfold qen;rcases Nat.lt_or_ge n m with h|h
  ·rw[qch (by omega)];omega
  ·rw[qei (by omega)];omega
 generalize qen m n=cv at *;have dR:n≠1:=by rintro rfl;unfold wl at h2;rw[qni] at h2;simp at h2
 have yF:=hid (qca vb n false (by simp[dR]));obtain⟨l,pa,ca,rfl,lF,tV,dJ,Cz⟩:=qgb ha;obtain⟨r,pb,cb,rfl,jD,Cw,dG,zL⟩:=qgb hb;have aF:r.length≤l.length:=by rw[dJ,dG];exact qad qae sH
 have mK:=hid Cz;have cM:=hid zL;rw[←dG] at h2;rw[←dJ] at hm;have HWA:=hid lF;have Ao:=hid jD;have jO:=hid tV;have Pn:=hid Cw;obtain⟨md,Gc⟩:∃md,r.length=md+2:=⟨r.length-2,by omega⟩;obtain⟨t,ht⟩:∃t,l.length=md+2+t:=⟨l.length-(md+2),by omega⟩;have mG:=hid Gc;have rK:=hid ht;rw[ht] at hm;have hcapm:md+2+t<1152921504606846976:=by unfold Cap at hm;omega
 have cS:=hid hm;rw[ht,Gc] at eM;rw[Gc] at yF;rw[ht,Gc];clear ha hb lF jD tV Cw dJ dG h2 hm aF Gc ht dR sH Cz zL;go_enter Tryz.func78,Tryz.ntmps78;go_wp2_with fail;refine eM.out.mono ?_;rintro e w1 ⟨rfl,q,dI⟩;have bB:Below w.heap.size w w1:=by rw[dI];exact below_drewN (zan _ _) q
 have eW:w1.heap.size=w.heap.size:=by rw[dI];rfl
 have aQ:=hid bB;have eH:=hid eW;have HWA1:=hid (HWA.out.later bB);have Ap:=hid (Ao.out.later bB);clear dI bB eW eM;go_wp2_with fail;refine(yF.out w1 (by have:=Ap.out;rw[mG.out] at this;unfold qap;rw[←cM.out];exact this)).mono ?_;rintro e w' ⟨rfl,hw'⟩;subst hw';have aT:((md:Int)+2==1)=false:=zat (by omega);obtain⟨Iv,p',c',he,kE,fZ,hcellsb⟩:=Ap.out;rw[mG.out] at he kE hcellsb;cases he
 rcases hcellsb with h0|⟨bb,ob,rfl,dS⟩
 ·omega
 have Gd:=dS (md+1) (by omega)
 have sI:r.getD (md+1) 0≠0:=by
  have h1:=cM.out;rcases List.eq_nil_or_concat r with e|⟨z,x,e⟩
  ·have:=mG.out;rw[e] at this;simp at this
  ·rw[List.concat_eq_append] at e
   have hz:z.length=md+1:=by have:=mG.out;rw[e] at this;simpa using this
   rw[e,←hz];have:=qil qae (h1.symm.trans e)
   simpa using this
 obtain⟨s,hs,rT,tU,Fz⟩:=qzz (r.getD (md+1) 0) (by omega) (qan (by rw[qab];omega) Iv _)
 have pQ:Hid (2^63*B64^(md+1)≤n*2^s):=by
  refine hid ?_;have h1:=qao B64 r (md+1);rw[qa4 B64 r (md+1+1) (by have:=mG.out;omega),Pn.out] at h1;have h3:2^63≤r.getD (md+1) 0*2^s:=by rw[qab] at tU;omega
  have h4:B64^(md+1)*r.getD (md+1) 0≤n:=by omega
  have h5:=Nat.mul_le_mul_right (2^s) h4;have h6:=Nat.mul_le_mul_left (B64^(md+1)) h3;rw[Nat.mul_assoc] at h5;rw[Nat.mul_comm];exact Nat.le_trans h6 h5
 have pO:=hid (qpo Iv mG.out Pn.out rT hs sI);have tX:=hid Fz;unfold wd at Gd;generalize r.getD (md+1) 0=y at *;have HS:=hid hs;have Jd:=hid (qkz _ r s w1 Ap.out hs (by have:=cS.out;have:=mG.out;omega));rw[mG.out] at Jd;clear Iv kE fZ dS sI rT tU Fz hs;go_wp2_with fail;refine(tX.out _).mono ?_;rintro e w' ⟨rfl,hw'⟩;rw[hw'];clear hw' tX Gd;go_wp2_with fail;refine Jd.out.mono ?_;rintro e w2 ⟨⟨R1,rfl,hR1l,hR1b,hR1o,hR1v⟩,hG⟩;have Je:=hid hR1l;have nB:Hid (w1.heap.size<w2.heap.size):=hid hR1o.1
 have nC:=hid (qg5 (some ⟨w1.heap.size,0,none⟩) (md+2+1) R1 w2 (by
  have:=ql0 hR1o hR1b (zap _) (by rw[hR1l];unfold maxLen;omega);rw[hR1l] at this ⊢
  exact this))
 have gJ:=hid (fun k hk=>qwb w2 (some ⟨w1.heap.size,0,none⟩) (md+2+1) R1 k hR1b hk (by rw[hR1l];exact zap _) (by unfold maxLen;omega) (.inr ⟨_,_,rfl,hR1o.row⟩));have Jf:Hid (val B64 R1=n*2^s):=hid (by rw[hR1v,Pn.out]);have fR:=hid hG;rw[hR1l] at nC;clear hR1l hR1b hR1o hR1v hG Jd;go_wp2_with fail;refine nC.out.mono ?_;rintro e w' ⟨⟨k,hk,rfl,hd⟩,hw'⟩;subst hw'
 have hkk:k=md+2:=by
  have h1:=pO.out;rw[←Jf.out,hd] at h1;simp at h1;have:=Je.out;omega
 subst hkk;have pP:Hid (qap w2 (.slice (some ⟨w1.heap.size,0,none⟩) (md+2) (md+2+1)) (n*2^s)):=hid (by rw[←Jf.out];exact gJ.out _ (by rw[Je.out];omega) hd);have Po:=hid (HWA1.out.later fR.out);have Jg:=hid (qkz _ l s w2 Po.out HS.out (by have:=cS.out;have:=rK.out;omega));rw[rK.out] at Jg;clear hk hd nC gJ Jf Je;go_wp2_with fail;refine Jg.out.mono ?_;rintro e w3 ⟨⟨R,rfl,hRl,hRb,hRo,hRv⟩,fD⟩;have HD3:=hid (pP.out.later fD);have Aq:=hid fD;have Pp:=hid hRl;have HRB3:=hid hRb;have Jh:=hid hRo;have Pq:Hid (val B64 R=m*2^s):=hid (by rw[hRv,jO.out]);clear hRl hRb hRo hRv fD Jg;have Nj:(md:Int)+2+t-(md+2)=(t:Int):=by omega
 have lS:=fun w=>qf5 (t+1) ((t:Int)+1) (by omega) (by have:=cS.out;have:=qj4;omega) w;go_wp2_with fail;clear Nj lS;have bG:=qg6 w3 (t+1);have bM:Below w3.heap.size w3 (w3.alloc (qa5 (t+1))):=zam _ _;have dM:(w3.alloc (qa5 (t+1))).heap.size=w3.heap.size+1:=by rw[zao]
 have kS:Hid ((List.replicate (t+1) 0).length=t+1):=hid (by simp);have oK:=hid (qb3 (b:=B64) (by rw[qab];omega) (t+1));have Pg:Hid (qa6 B64 (List.replicate (t+1) 0) (t+1)=0):=hid (qc7 _ _ _ (by simp));have HQO:Hid (Own (w3.alloc (qa5 (t+1))) w3.heap.size (List.replicate (t+1) 0).length (wd (List.replicate (t+1) 0))):=by refine hid ?_;rw[kS.out];exact bG
 have HB34:=hid bM;have HSZ4:=hid dM;have cY:Hid (w2.heap.size<w3.heap.size):=hid Jh.out.1
 have HDW:Hid (∀w',Below w2.heap.size w3 w'→Wds w' (.slice (some ⟨w1.heap.size,0,none⟩) (qaf B64 (n*2^s)).length (md+2+1)) (qaf B64 (n*2^s))):=by
  refine hid fun w' hb' => ?_;rw[pO.out];exact pP.out.later (Aq.out.trans hb')
 have HRO4:Hid (Own (w3.alloc (qa5 (t+1))) w2.heap.size R.length (wd R)):=hid (Jh.out.later (bM.mono (by have:=Jh.out.1;omega)));clear bG bM dM;generalize List.replicate (t+1) 0=Qs0 at *;generalize w3.alloc (qa5 (t+1))=w4 at *
 have Pr:Hid (qa6 B64 R (t+1)<n*2^s):=by
  refine hid ?_;have h1:=qfc B64 R (t+1) (by have:=Pp.out;omega);have h2:=Pq.out
  have h3:m<B64^(md+2+t):=by
   have:=qij B64 l (Po.out.1);rw[jO.out,rK.out] at this;exact this
  have h4:B64^(t+1)*qa6 B64 R (t+1)<B64^(md+2+t)*2^s:=by
   have:=Nat.mul_lt_mul_of_pos_right h3 (Nat.two_pow_pos s);omega
  have hp:B64^(md+2+t)=B64^(t+1)*B64^(md+1):=by rw[←Nat.pow_add];congr 1;omega
  rw[hp,Nat.mul_assoc] at h4;have h5:=Nat.lt_of_mul_lt_mul_left h4
  have h6:B64^(md+1)*2^s≤2^63*B64^(md+1):=by
   rw[Nat.mul_comm];exact Nat.mul_le_mul_right _ (Nat.pow_le_pow_right (by omega) (by have:=HS.out;omega))
  exact Nat.lt_of_lt_of_le h5 (Nat.le_trans h6 pQ.out)
 have zK:=hid cY.out
 go_loopw [12] (fun i wr=>∃k:Nat,∃S Qs:List Nat,k≤t+1∧i = .int .i64 ((k:Int)-1)∧Hid (S.length=md+2+t+1)∧Hid (∀d ∈ S,d<B64)∧Hid (Own wr w2.heap.size S.length (wd S))∧Hid (Qs.length=t+1)∧Hid (∀d ∈ Qs,d<B64)∧Hid (Own wr w3.heap.size Qs.length (wd Qs))∧Hid (∀j,j<k→S.getD j 0=R.getD j 0)∧Hid (qa6 B64 R k=n*2^s*qa6 B64 Qs k+qa6 B64 S k)∧Hid (qa6 B64 S k<n*2^s)∧Hid (Below w2.heap.size w3 wr)) (fun i _=>(intOf i+1).toNat)
 case atStart=>exact⟨t+1,R,Qs0,zap _,by go_num,Pp,HRB3,HRO4,kS,oK,HQO,hid (fun _ _=>rfl),hid (by rw[Pg.out,Nat.mul_zero,Nat.zero_add]),Pr,hid (HB34.out.mono (by have:=cY.out;omega))⟩
 case round=>
  obtain⟨k,S,Qs,hk,rfl,bH,cQ,zG,Eg,Ps,Eh,aW,cL,lV,HB⟩:=hrel;rcases k with _|j
  ·have hv:=cL.out
   rw[high_zero,high_zero,high_zero,Pq.out] at hv;have bI:=lV.out;rw[high_zero] at bI;have hdm:=qn2 (Nat.two_pow_pos s) (by rw[Nat.mul_comm (n*2^s)] at hv;exact hv) bI;have tF:Hid (m/n=val B64 Qs):=hid hdm.1;have HR1':Hid (val B64 S/2^s=m % n):=hid hdm.2
   have hwQ:Wds wr (.slice (some ⟨w3.heap.size,0,none⟩) (t+1) (t+1)) Qs:=by
    have:=ql0 Eh.out Ps.out (zap _) (by rw[Eg.out];unfold maxLen;omega);rw[Eg.out] at this;exact this
   have hwS:Wds wr (.slice (some ⟨w2.heap.size,0,none⟩) (md+2+t+1) (md+2+t+1)) S:=by
    have:=ql0 zG.out cQ.out (zap _) (by rw[bH.out];unfold maxLen;omega);rw[bH.out] at this;exact this
   have Ar:=hid (qi9 _ _ _ hwQ);have pS:=hid (qi9 _ _ _ hwS)
   have uB:Hid ((qaf B64 (val B64 S)).length≤Cap):=hid (by
    have h1:(qaf B64 (val B64 S)).length≤md+2:=by
     have h2:=qad (b:=B64) qae (Nat.le_of_lt bI);rw[pO.out] at h2;exact h2
    have:=cS.out
    omega)
   clear hv bI hdm hwQ hwS Eh zG aW cL lV;go_wp2_with fail;refine Ar.out.mono ?_;rintro e w' ⟨⟨vq,rfl,hnq⟩,hw'⟩;subst hw';have HNQ:=hid hnq;clear hnq;go_wp2_with fail;refine pS.out.mono ?_;rintro e w' ⟨⟨vs,rfl,hns⟩,hw'⟩;subst hw';have HSR:=hid (qoa vs (qaf B64 (val B64 S)) s wr hns HS.out uB.out);rw[qah _ _ qae,HR1'.out] at HSR;clear hns Ar pS;go_wp2_with fail;refine HSR.out.mono ?_;rintro e w9 ⟨⟨gr,cr,rfl,hnr⟩,hb9⟩;have rH:Hid (qdb w9 w.heap.size gr cr (qaf B64 (m % n))):=hid (hnr.mono (by have:=HB.out.size;have:=eH.out;have:=nB.out;have:=cY.out;omega));have mH:=hid (HNQ.out.later hb9);rw[←tF.out] at mH;have uC:Hid (Below w.heap.size w w9):=hid (aQ.out.trans ((fR.out.mono (by have:=eH.out;omega)).trans ((Aq.out.mono (by have:=eH.out;have:=nB.out;omega)).trans ((HB.out.mono (by have:=eH.out;have:=nB.out;omega)).trans (hb9.mono (by have:=HB.out.size;have:=eH.out;have:=nB.out;have:=cY.out;omega))))));clear hnr hb9 HSR;go_wp2_with fail;go_ret2;exact⟨⟨_,_,_,rfl,mH.out,rH.out⟩,uC.out⟩
  ·have e1:((j+1:Nat):Int)-1=(j:Int):=by omega
   simp only[e1];have hj:j≤t:=by omega
   have hE1:j+(md+2)+1-j=md+2+1:=by omega
   have hDpos:0<n*2^s:=by have:=lV.out;omega
   have hDB:n*2^s<B64^(md+2):=by
    have:=qb6 B64 (n*2^s) qae;rw[pO.out] at this;exact this
   have gW:qa6 B64 S j<B64*(n*2^s):=by
    rw[qbj B64 S j];exact qxv (qan (by rw[qab];omega) cQ.out j) lV.out
   have hWB:qa6 B64 S j<B64^(md+2+1):=by
    have h1:B64*(n*2^s)<B64*B64^(md+2):=Nat.mul_lt_mul_of_pos_left hDB (by rw[qab];omega);rw[Nat.pow_succ,Nat.mul_comm (B64^(md+2))];omega
   have Pt:=qwg S j (md+2+1)
   have hz:qa6 B64 S (j+(md+2+1))=0:=by
    rcases zav (qa6 B64 S (j+(md+2+1))) with h|h
    ·exact h
    ·have:B64^(md+2+1)*1≤B64^(md+2+1)*qa6 B64 S (j+(md+2+1)):=Nat.mul_le_mul_left _ h
     omega
   have hWseg:qa6 B64 S j=seg S j (md+2+1):=by rw[Pt,hz,Nat.mul_zero,Nat.add_zero]
   have hQlt:qa6 B64 S j/(n*2^s)<B64:=(Nat.div_lt_iff_lt_mul hDpos).2 gW;have hQmul:qa6 B64 S j/(n*2^s)*(n*2^s)≤qa6 B64 S j:=Nat.div_mul_le_self _ _;have HD0:=HDW.out wr HB.out;obtain⟨hDl,pD,cD,heD,_,_,hcellsD⟩:=HD0;cases heD
   rw[pO.out] at hcellsD;rcases hcellsD with h0|⟨bD,oD,hpD,hrowD⟩
   ·omega
   cases hpD
   have hlowD:=qao B64 (qaf B64 (n*2^s)) md;have qK:=qao B64 (qaf B64 (n*2^s)) (md+1);rw[qa4 B64 _ (md+1+1) (by rw[pO.out];omega),qah _ _ qae] at qK;have eW:=qem S j (md+2);have jF:=qem S j (md+1);have lH:=qem S j md;have Ji:qa6 B64 S j=seg S j (md+1)+B64^(md+1)*(S.getD (j+(md+2)) 0*B64+S.getD (j+(md+1)) 0):=q60 (by rw[hWseg,eW,jF,←Nat.pow_succ]);have hW3:qa6 B64 S j=seg S j md+B64^md*(S.getD (j+md) 0+B64*(S.getD (j+(md+2)) 0*B64+S.getD (j+(md+1)) 0)):=qz6 (by rw[hWseg,eW,jF,lH,←Nat.pow_succ,←Nat.pow_succ]);have mC:=qz0 S j (md+1) cQ.out;have mL:=qz0 S j md cQ.out
   have hD3:n*2^s=low B64 (qaf B64 (n*2^s)) md+B64^md*((qaf B64 (n*2^s)).getD md 0+B64*(qaf B64 (n*2^s)).getD (md+1) 0):=by
    rw[Nat.mul_add,←Nat.mul_assoc,←Nat.pow_succ,←Nat.add_assoc,←hlowD,←qK]
   have lR:=qxu w2.heap.size j (md+2+t+1-j) md (md+2+1) w1.heap.size 0 (S.getD (j+(md+2)) 0) (S.getD (j+(md+1)) 0) (S.getD (j+md) 0) ((qaf B64 (n*2^s)).getD (md+1) 0) ((qaf B64 (n*2^s)).getD md 0) (qa6 B64 S j/(n*2^s)) wr (by omega)
    ((zG.out.2 (j+(md+2)) (by rw[bH.out];omega)).1) ((zG.out.2 (j+(md+1)) (by rw[bH.out];omega)).1) ((zG.out.2 (j+md) (by rw[bH.out];omega)).1)
    (hrowD (md+1) (by omega)) (hrowD md (by omega))
    (hid (qan (by rw[qab];omega) cQ.out _)) (hid (qan (by rw[qab];omega) cQ.out _)) (hid (qan (by rw[qab];omega) hDl _)) (hid (qan (by rw[qab];omega) hDl _)) (hid hQlt)
    (hid fun h=>qum (B:=B64) Ji mC qK (by omega) hQmul)
    (hid fun word r h1 h2 h3=>qxs hW3 mL hD3 hQmul h1 h2 h3)
   have mM:=hid lR;have sJ:=hid hDpos;have yG:Hid (qa6 B64 S j=seg S j (md+2+1)):=hid hWseg;have HZ:=hid hz;clear lR eW jF lH Ji hW3 mC mL hD3 hlowD qK hrowD hDl hQmul hQlt hWseg hz Pt hWB gW hDB hDpos;go_wp2_with fail;refine mM.out.mono ?_;rintro e w5 ⟨⟨word,rfl,hQw,hwB⟩,k5,hw5⟩;have Pv:Hid (Own w5 w2.heap.size S.length (wd S)):=hid (by rw[hw5];exact zG.out.drewN k5);have Ge:Hid (Own w5 w3.heap.size Qs.length (wd Qs)):=hid (by rw[hw5];exact Eh.out.drewN k5);have lJ:Hid (Below w2.heap.size w3 w5):=hid (by rw[hw5];exact below_drewN HB.out k5);have Ni:=hid hQw;have Ao:=hid hwB;have htt:=qq3 w2.heap.size j (md+2+t+1-j) word w2.heap.size (some ⟨w1.heap.size,0,none⟩) (md+2+1) S (qaf B64 (n*2^s)) w5 cQ.out Pv.out (fun w' hb'=>HDW.out w' (lJ.out.trans hb')) (by rw[pO.out,bH.out];omega) (by rw[bH.out];have:=cS.out;have:=qj4;omega) (zap _) hwB;rw[pO.out,qah _ _ qae] at htt;have Nk:=hid htt;clear hw5 hQw hwB htt mM zG Eh HB;go_wp2_with fail;refine Nk.out.mono ?_;rintro e w6 ⟨⟨S6,mis,rfl,hmis,hS6l,hS6b,hS6o,hS6s,hS6v⟩,Jj⟩;have Pw:Hid (S6.length=md+2+t+1):=hid (by rw[hS6l];exact bH.out);have Px:=hid hS6b;have Py:=hid hS6o;have Pz:=hid hS6s;have Qa:Hid (seg S6 j (md+2+1)+word*(n*2^s)=qa6 B64 S j+B64^(md+2+1)*mis):=hid (by rw[yG.out];exact hS6v);have Gf:Hid (Own w6 w3.heap.size Qs.length (wd Qs)):=hid (Jj.own Ge.out (by have:=cY.out;omega));have lK:Hid (Below w2.heap.size w3 w6):=hid (lJ.out.trans (Jj.below (zap _)));clear hS6l hS6b hS6o hS6s hS6v Jj Nk Pv Ge lJ;go_wp2_with fail
   go_loopw [14,15] (fun a b wr=>∃v ms:Nat,∃T:List Nat,a = .int .u64 v∧b = .int .u64 ms∧ms≤1∧Hid (v<B64)∧Hid (T.length=md+2+t+1)∧Hid (∀d ∈ T,d<B64)∧Hid (Own wr w2.heap.size T.length (wd T))∧Hid (∀i,i<j∨j+(md+2)<i→T.getD i 0=S.getD i 0)∧Hid (seg T j (md+2+1)+v*(n*2^s)=qa6 B64 S j+B64^(md+2+1)*ms)∧Hid (qa6 B64 S j/(n*2^s)≤v)∧Hid (Own wr w3.heap.size Qs.length (wd Qs))∧Hid (Below w2.heap.size w3 wr)) (fun a _ _=>(intOf a).toNat)
   case atStart=>exact⟨word,mis,S6,rfl,rfl,hmis,Ao,Pw,Px,Py,Pz,Qa,Ni,Gf,lK⟩
   case round=>
    obtain⟨v,ms,T,rfl,rfl,xG,rL,rM,pT,HTO,pS,As,Pg,At,Qb⟩:=hrel;clear Ao Pw Px Py Pz Qa Ni Gf lK;by_cases pU:ms=1
    ·subst pU
     have kG:=qz7 sJ.out As.out (by rw[Nat.mul_one];exact qz0 T j _ pT.out);obtain⟨xZ,qJ⟩:=kG;have pN:=hid xZ;have e2:(v:Int)-1=((v-1:Nat):Int):=by omega
     have e1':IntKind.u64.wrap ((v-1:Nat):Int)=((v-1:Nat):Int):=qa9 _ (by have:=rL.out;omega);have e3:IntKind.u64.wrap ((v:Int)-1)=((v-1:Nat):Int):=by rw[e2,e1']
     have Qc:Hid (v-1<B64):=hid (by have:=rL.out;omega);have yH:Hid (v-1<v):=hid (by omega)
     have Gg:Hid (v*(n*2^s)=(v-1)*(n*2^s)+n*2^s):=hid (by
      obtain⟨u,rfl⟩:∃u,v=u+1:=⟨v-1,by omega⟩
      rw[Nat.add_mul,Nat.one_mul,Nat.add_sub_cancel])
     have yB:=qsf w2.heap.size j (md+2+t+1-j) w2.heap.size (some ⟨w1.heap.size,0,none⟩) (md+2+1) T (qaf B64 (n*2^s)) wr pT.out HTO.out (fun w' hb'=>HDW.out w' (Qb.out.trans hb')) (by rw[pO.out,rM.out];omega) (by rw[rM.out];have:=cS.out;have:=qj4;omega) (zap _);rw[pO.out,qah _ _ qae] at yB;have qL:=hid yB;clear yB xZ qJ;generalize v-1=u at *;go_wp2_with fail;refine qL.out.mono ?_;rintro e w7 ⟨⟨T7,mc,rfl,hmc,hT7l,hT7b,hT7o,hT7s,hT7v⟩,Jk⟩;have Qd:Hid (T7.length=md+2+t+1):=hid (by rw[hT7l];exact rM.out);have Qe:=hid hT7b;have Qf:=hid hT7o;have Qg:Hid (∀i,i<j∨j+(md+2)<i→T7.getD i 0=S.getD i 0):=hid fun i hi=>(hT7s i hi).trans (pS.out i hi);have Gh:Hid (Own w7 w3.heap.size Qs.length (wd Qs)):=hid (Jk.own At.out (by have:=cY.out;omega));have kX:Hid (Below w2.heap.size w3 w7):=hid (Qb.out.trans (Jk.below (zap _)))
     have Gi:Hid (seg T7 j (md+2+1)+B64^(md+2+1)*mc+u*(n*2^s)=qa6 B64 S j+B64^(md+2+1)*1):=hid (by
      have h1:=As.out;rw[Gg.out] at h1
      omega)
     clear hT7l hT7b hT7o hT7s hT7v Jk qL rM pT HTO pS As At Qb Gg;have hmc':mc=0∨mc=1:=by omega
     rcases hmc' with rfl|rfl
     ·have Au:Hid (seg T7 j (md+2+1)+u*(n*2^s)=qa6 B64 S j+B64^(md+2+1)*1):=hid (by have:=Gi.out;rw[Nat.mul_zero] at this;omega)
      go_wp2_with fail;go_roundw
      case rel=>exact⟨u,1,T7,rfl,rfl,by omega,Qc,Qd,Qe,Qf,Qg,Au,pN,Gh,kX⟩
      case measure=>simp only[intOf];have:=yH.out;omega
     ·have Au:Hid (seg T7 j (md+2+1)+u*(n*2^s)=qa6 B64 S j+B64^(md+2+1)*0):=hid (by have:=Gi.out;rw[Nat.mul_one] at this;rw[Nat.mul_zero];omega)
      go_wp2_with fail;go_roundw
      case rel=>exact⟨u,0,T7,rfl,rfl,by omega,Qc,Qd,Qe,Qf,Qg,Au,pN,Gh,kX⟩
      case measure=>simp only[intOf];have:=yH.out;omega
    ·have e0:ms=0:=by omega
     subst e0;have Av:=qxw sJ.out (by have:=As.out;rw[Nat.mul_zero,Nat.add_zero] at this;exact this) Pg.out
     have hTj:qa6 B64 T j=seg T j (md+2+1):=by
      rw[qwg T j (md+2+1),qz5 (R:=S) (S:=T) (by rw[rM.out,bH.out]) (fun i hi=>pS.out i (.inr (by omega))),HZ.out,Nat.mul_zero,Nat.add_zero]
     have rU:=cL.out;have hR:=qbj B64 R j;have hS:=qbj B64 S j;rw[←aW.out j (Nat.lt_succ_self j)] at hR;have cK:=q31 (B:=B64) rU hS (by have:=As.out;rw[Nat.mul_zero,Nat.add_zero] at this;exact this);rw[←hR] at cK;have tI:j<Qs.length:=by rw[Eg.out];omega
     have hQj:qa6 B64 (Qs.set j v) j=v+B64*qa6 B64 Qs (j+1):=by
      rw[qbj,qb9 _ _ _ tI];unfold qa6;rw[List.drop_set_of_lt (by omega)]
     rw[←hQj,←hTj] at cK;have cH:=hid cK;have HLT3:Hid (qa6 B64 T j<n*2^s):=hid (by rw[hTj,Av.2];exact Nat.mod_lt _ sJ.out);obtain⟨hg,oI⟩:=At.out.2 j tI;unfold wd at hg;have HQO2:Hid (Own (wr.setCell ⟨w3.heap.size,j,none⟩ (.int .u64 v)) w3.heap.size (Qs.set j v).length (wd (Qs.set j v))):=hid (At.out.setWord j tI v);have HTO2:Hid (Own (wr.setCell ⟨w3.heap.size,j,none⟩ (.int .u64 v)) w2.heap.size T.length (wd T)):=hid (((qe6.refl w3.heap.size wr).set j (.int .u64 v)).own HTO.out (by have:=cY.out;omega));have HBT2:Hid (Below w2.heap.size w3 (wr.setCell ⟨w3.heap.size,j,none⟩ (.int .u64 v))):=hid (Qb.out.setCell (by have:=cY.out;show w2.heap.size≤w3.heap.size;omega) _);have sK:Hid ((Qs.set j v).length=t+1):=hid (by rw[List.length_set];exact Eg.out);have HQB2:Hid (∀d ∈ Qs.set j v,d<B64):=hid (qco Ps.out _ _ rL.out);have cI:Hid (∀i,i<j→T.getD i 0=R.getD i 0):=hid fun i hi=>(pS.out i (.inl hi)).trans (aW.out i (by omega));have Qh:Hid (qa6 B64 R j=n*2^s*qa6 B64 (Qs.set j v) j+qa6 B64 T j):=hid (by rw[cH.out]);generalize Qs.getD j 0=old at *;clear Av hTj rU hR hS cK tI hQj As At Qb HTO pS cL aW cH;go_wp2_with fail;go_roundw
     case rel=>exact⟨j,T,_,by omega,by go_num,rM,pT,HTO2,sK,HQB2,HQO2,cI,Qh,HLT3,HBT2⟩
     case measure=>simp[intOf]
theorem qun(va vb:Value)(m n:Nat)(w:World)(ha:qap w va m)(hb:qap w vb n)(sH:n≤m)(h2:2≤wl n)(hm:wl m≤Cap):
  Calls Tryz.prog 78 #[va,vb] w fun e w'=>(∃vq vr,e = .returned (.tuple #[vq,vr])∧qap w' vq (m/n)∧qap w' vr (m % n))∧Below w.heap.size w w':=by
 refine(qgc va vb m n w ha hb sH h2 hm).mono ?_;rintro e w' ⟨⟨vq,g,cap,rfl,hq,hr⟩,hb⟩;exact⟨⟨_,_,rfl,hq,hr.nat⟩,hb⟩
end Go.Proofs.YtclimablgihlhaaGreatDoor
