/- divide in all cases. -/
import Derived.Test.YthjagoogkkgelaaGreatDoorMDivide
import Derived.Deep.RegionWith
set_option linter.all false
namespace Go.Proofs.YthjagoogkkgelaaGreatDoor
open Go.RowKit
set_option maxRecDepth 100000
set_option maxHeartbeats 1000000
theorem qvt(va vb:Value)(m n:Nat)(w:World)(ha:qaq w va m)(hb:qaq w vb n)(hnm:m<n):
  Calls Tryz.prog 81 #[va,vb] w fun e w'=>(∃vq vr,e = .returned (.tuple #[vq,vr])∧qaq w' vq (m/n)∧qaq w' vr (m % n))∧Below w.heap.size w w':=by
 have HCMP:=hid (qef va vb m n w ha hb);have hcv:qex m n<0:=by unfold qex;rw[qda (by omega)];omega
 generalize qex m n=cv at *;have HA:=hid ha;have HE1:Hid (m/n=0):=hid (Nat.div_eq_of_lt hnm);have HE2:Hid (m % n=m):=hid (Nat.mod_eq_of_lt hnm);clear ha hb hnm;go_enter Tryz.func81,Tryz.ntmps81;go_wp2_with fail;refine HCMP.out.mono ?_;rintro e w1 ⟨rfl,q,hw1⟩;have HB1:Hid (Below w.heap.size w w1):=hid (by rw[hw1];exact below_drewN (Below.refl _ _) q);clear hw1 HCMP;go_wp2_with fail;go_ret2;exact⟨⟨_,_,rfl,by rw[HE1.out];exact qaq.nil w1,by rw[HE2.out];exact HA.out.later HB1.out⟩,HB1.out⟩
theorem qzc(va vb:Value)(m:Nat)(w:World)(ha:qaq w va m)(hb:qaq w vb 1)(hm:1≤m):
  Calls Tryz.prog 81 #[va,vb] w fun e w'=>(∃vq vr,e = .returned (.tuple #[vq,vr])∧qaq w' vq (m/1)∧qaq w' vr (m % 1))∧Below w.heap.size w w':=by
 have HCMP:=hid (qef va vb m 1 w ha hb)
 have hcv:¬qex m 1<0:=by
  unfold qex;rcases Nat.lt_or_ge 1 m with h|h
  ·rw[qcl (by omega)];omega
  ·rw[qet (by omega)];omega
 generalize qex m 1=cv at *;have HA:=hid ha;have HONE:=hid (qce vb 1 true rfl);have HBB:=hid hb;have HE1:Hid (m/1=m):=hid (Nat.div_one m);have HE2:Hid (m % 1=0):=hid (Nat.mod_one m);clear ha hb hm;go_enter Tryz.func81,Tryz.ntmps81;go_wp2_with fail;refine HCMP.out.mono ?_;rintro e w1 ⟨rfl,q,hw1⟩;have HB1:Hid (Below w.heap.size w w1):=hid (by rw[hw1];exact below_drewN (Below.refl _ _) q);clear hw1 HCMP;go_wp2_with fail;refine(HONE.out w1 (HBB.out.later HB1.out)).mono ?_;rintro e w' ⟨rfl,hw'⟩;subst hw';go_wp2_with fail;go_ret2;exact⟨⟨_,_,rfl,by rw[HE1.out];exact HA.out.later HB1.out,by rw[HE2.out];exact qaq.nil w1⟩,HB1.out⟩
theorem qxu(w:World)(x:Nat)(hx:x<B64):Wds (w.alloc (.cells #[.int .u64 (x:Nat)] 136)) (.slice (some ⟨w.heap.size,0,none⟩) 1 1) [x]:=by
 refine⟨by simpa using hx,some ⟨w.heap.size,0,none⟩,1,rfl,Nat.le_refl _,by unfold maxLen;omega,.inr ⟨_,_,rfl,fun i hi => ?_⟩⟩;have:i=0:=by simpa using hi
 subst this;rw[World.cell?_alloc_at _ _ _ _ rfl];simp[wd]
theorem qxv(w:World)(x:Nat)(hx:x<B64):Calls Tryz.prog 78 #[.slice (some ⟨w.heap.size,0,none⟩) 1 1] (w.alloc (.cells #[.int .u64 (x:Nat)] 136)) fun e w'=>
  (∃v',e = .returned v'∧qaq (w.alloc (.cells #[.int .u64 (x:Nat)] 136)) v' x)∧w.alloc (.cells #[.int .u64 (x:Nat)] 136)=w':=by
 have h:=qjt _ _ _ (qxu w x hx);rw[show val B64 [x]=x from by simp] at h;exact h
theorem qvu(va vb:Value)(m n:Nat)(w:World)(ha:qaq w va m)(hb:qaq w vb n)(hnm:n≤m)(hn1:n≠1)(h2:wl n=1)(hm:wl m≤Cap):
  Calls Tryz.prog 81 #[va,vb] w fun e w'=>(∃vq vr,e = .returned (.tuple #[vq,vr])∧qaq w' vq (m/n)∧qaq w' vr (m % n))∧Below w.heap.size w w':=by
 have HCMP:=hid (qef va vb m n w ha hb)
 have hcv:¬qex m n<0:=by
  unfold qex;rcases Nat.lt_or_ge n m with h|h
  ·rw[qcl (by omega)];omega
  ·rw[qet (by omega)];omega
 generalize qex m n=cv at *;have HONE:=hid (qce vb n false (by simp[hn1]));have HA:=hid ha;have HBN:=hid hb
 obtain⟨x,hr⟩:∃x,qaf B64 n=[x]:=by
  have h3:(qaf B64 n).length=1:=h2
  match qaf B64 n,h3 with
  | [x],_=>exact⟨x,rfl⟩
 have hxn:x=n:=by
  have:=qah B64 n qae;rw[hr] at this
  simpa using this
 subst hxn;have hxB:x<B64:=qee B64 x qae x (by rw[hr];simp)
 have hx0:0<x:=by
  rcases Nat.eq_zero_or_pos x with e|e
  ·rw[e,qam] at hr;cases hr
  ·exact e
 have hwb:Wds w vb [x]:=by unfold qaq at hb;rw[hr] at hb;exact hb
 obtain⟨pb,cb,rfl⟩:∃pb cb,vb = .slice pb 1 cb:=by
  obtain⟨_,p,c,h3,_⟩:=hwb;exact⟨p,c,h3⟩
 have HWB:=hid hwb;have HXB:=hid hxB;have HX0:=hid hx0;have HML:=hid hm;clear ha hb hwb hr hxB hx0 hm h2 hn1 hnm;go_enter Tryz.func81,Tryz.ntmps81;go_wp2_with fail;refine HCMP.out.mono ?_;rintro e w1 ⟨rfl,q,hw1⟩;have HB1:Hid (Below w.heap.size w w1):=hid (by rw[hw1];exact below_drewN (Below.refl _ _) q);have HS1:Hid (w1.heap.size=w.heap.size):=hid (by rw[hw1];rfl);clear hw1 HCMP;go_wp2_with fail;refine(HONE.out w1 (HBN.out.later HB1.out)).mono ?_;rintro e w' ⟨rfl,hw'⟩;subst hw';have HA1:=hid (HA.out.later HB1.out);have HWB1:=hid (HWB.out.later HB1.out);obtain⟨_,p',c',he,_,_,hcells⟩:=HWB1.out;cases he
 rcases hcells with h0|⟨bb,ob,rfl,hrow⟩
 ·cases h0
 have hcell:=hrow 0 (by simp);simp[wd] at hcell
 have HCELL:Hid (∀w',Below w1.heap.size w1 w'→w'.cell? ⟨bb,ob,none⟩=some (.int .u64 x)):=hid fun w' hb'=>by
  rw[hb'.cell (p:=⟨bb,ob,none⟩) (World.block_lt_of_cell? w1 _ hcell)];exact hcell
 have hdrew:Below w1.heap.size w1 w1.drew:=(Below.refl _ _).drew
 have HCLONE:Hid (Calls Tryz.prog 116 #[va] w1.drew fun e w'=>(∃v',e = .returned v'∧qgo w' w1.heap.size v' (qaf B64 m))∧Below w1.heap.size w1 w'):=by
  refine hid ((qoz va _ w1.drew (HA1.out.later hdrew) HML.out).mono ?_);rintro e w' ⟨⟨v',rfl,ho⟩,hb'⟩;exact⟨⟨v',rfl,ho⟩,hdrew.trans hb'⟩
 clear hdrew;clear hrow
 have HDIV:Hid (∀w2 v2,qgo w2 w1.heap.size v2 (qaf B64 m)→Calls Tryz.prog 121 #[v2,.int .u64 x] w2 fun e w'=>(∃v',e = .returned (.tuple #[v',.int .u64 (val B64 (qaf B64 m) % x:Nat)])∧qgo w' w1.heap.size v' (qaf B64 (val B64 (qaf B64 m)/x)))∧Below w1.heap.size w2 w'):=
  hid fun w2 v2 ho=>qms v2 _ x w1.heap.size w2 ho HX0.out HXB.out
 rw[qah _ _ qae] at HDIV;have HRX:Hid (m % x<B64):=hid (Nat.lt_trans (Nat.mod_lt _ HX0.out) HXB.out);obtain⟨rm,hrm⟩:∃rm,m % x=rm:=⟨_,rfl⟩;rw[hrm] at HDIV HRX;have HRM:=hid hrm;clear hrm;go_wp2_with fail
 go_region_with (first|(go_at_call 116;refine HCLONE.out.mono ?_;rintro e w2 ⟨⟨v2,rfl,how⟩,hb12⟩;have hc2:=HCELL.out w2 hb12;have HOW:=hid how;have HB12:=hid hb12;clear how hb12)|(go_at_call 121;refine(HDIV.out _ _ HOW.out).mono ?_;rintro e w3 ⟨⟨v3,rfl,how3⟩,hb23⟩;have HOW3:=hid how3;have HB23:=hid hb23;clear how3 hb23))
 all_goals
  go_wp2_with fail;refine(qxv _ _ HRX.out).mono ?_;rintro e w4 ⟨⟨v4,rfl,hn4⟩,hw4⟩;have hb34:Below w3.heap.size w3 w4:=by rw[←hw4];exact(Below.refl _ _).alloc (Nat.le_refl _) _
  rw[hw4] at hn4;have hsz:w1.heap.size≤w3.heap.size:=Nat.le_trans HB12.out.size HB23.out.size;have HF1:=hid hn4;have HF2:Hid (qaq w4 v3 (m/x)):=hid (HOW3.out.wds.later hb34);have HF3:Hid (Below w.heap.size w w4):=hid (HB1.out.trans ((HB12.out.trans (HB23.out.trans (hb34.mono hsz))).mono (Nat.le_of_eq HS1.out.symm)));clear hn4 hw4 hb34 hsz;go_wp2_with fail;go_ret2;exact⟨⟨_,_,rfl,HF2.out,by rw[HRM.out];exact HF1.out⟩,HF3.out⟩
theorem qmt(va vb:Value)(m n:Nat)(w:World)(ha:qaq w va m)(hb:qaq w vb n)(hn:0<n)(hm:wl m≤Cap):
  Calls Tryz.prog 81 #[va,vb] w fun e w'=>(∃vq vr,e = .returned (.tuple #[vq,vr])∧qaq w' vq (m/n)∧qaq w' vr (m % n))∧Below w.heap.size w w':=by
 rcases Nat.lt_or_ge m n with h|h
 ·exact qvt va vb m n w ha hb h
 ·by_cases h1:n=1
  ·subst h1;exact qzc va vb m w ha hb h
  ·have h2:wl n≠0:=fun e=>by have:=qeu e;omega
   by_cases h3:wl n=1
   ·exact qvu va vb m n w ha hb h h1 h3 hm
   ·exact qvs va vb m n w ha hb h (by omega) hm
theorem qjw(v:Value)(l:List Nat)(w:World)(h:Wds w v l)(h0:0<l.length)(hcap:l.length≤Cap):
  Calls Tryz.prog 116 #[v] w fun e w'=>(∃g cap,e = .returned (.slice (some ⟨g,0,none⟩) l.length cap)∧qdg w' w.heap.size g cap l)∧Below w.heap.size w w':=by
 obtain⟨hl,p,c,rfl,hc1,hc2,hcells⟩:=h;have q22:∀(w:World) (a:Option Addr) (n c n' c':Nat),(binOp .eql 78 (.slice a n c) (.slice none n' c')).run Tryz.prog w = .ok (.bool a.isNone) w:=fun w a n c n' c'=>Lib.run_eql_slice_nil w _ _ a n c n' c' Tryz.underlying78
 obtain⟨b,o,rfl,hrow⟩:∃b o,p=some ⟨b,o,none⟩∧qmo w b o l.length (wd l):=by
  rcases hcells with h1|h1
  ·omega
  ·exact h1
 obtain⟨i0,hi,hz0,hz1,hz2⟩:=info_parts (show(Tryz.prog.info? 136).map (fun i=>(i.zero,i.size,i.bytes))=some (some (.int .u64 0),1,8) by kernel_rfl);have HI:=hid hi;have HL:=hid hl;have HL0:=hid h0;have HC:Hid (∀i,i<l.length→w.cell? ((⟨b,o,none⟩:Addr).add i)=some (wd l i)):=hid fun i hi=>by rw[Addr.add_lit];exact hrow i hi
 have HCAP:Hid (l.length≤1099511627776):=hcap;clear hl hc1 hc2 hcells hcap hrow h0;go_enter Tryz.func116,Tryz.ntmps116;go_wp2_with (at_builtin;refine wpList_append_own _ rfl _ _ 78 rfl w.heap.size 136 i0 (.int .u64 0) 1 8 Tryz.underlying78 HI.out hz0 hz1 hz2 rfl (by decide) _ _ _ rfl (World.ownsRow_made w #[] 0 (Nat.le_refl _) (Nat.zero_le _) rfl) ⟨b,o,none⟩ l.length c (l.map fun x=>Value.int .u64 (x:Nat)) rfl ?qc1 ?qc2 ?qc3 ?qc4 ?qc5 ?qc6 ?_)
 case qc1=>simp
 case qc2=>
  intro j u hj
  have hjn:j<l.length:=by
   have:=(List.getElem?_eq_some_iff.1 hj).1
   simpa using this
  have h1:=HC.out j hjn;have e:(l.map fun x=>Value.int .u64 (x:Nat))[j]? = some (wd l j):=by unfold wd;simp[hjn]
  rw[e] at hj;cases hj
  rw[((Below.refl w.heap.size w).alloc (Nat.le_refl _) _).cell (World.block_lt_of_cell? w _ h1)];exact h1
 case qc3=>intro u hu;obtain⟨x,_,rfl⟩:=List.mem_map.1 hu;rfl
 case qc4=>have:=HCAP.out;unfold maxLen;omega
 case qc5=>have:=HCAP.out;omega
 case qc6=>simp
 intro v' w1 hown hgrow hnil;have HB:Hid (Below w.heap.size w w1):=hid (((Below.refl _ w).alloc (Nat.le_refl _) _).grown hgrow (by simp) (by intro k hk;simp[Value.ownBlock] at hk;omega));have hown':w1.ownsRow w.heap.size 136 1 v' l.length (l.map fun x=>Value.int .u64 (x:Nat)):=by simpa using hown
 obtain⟨g,cap,rfl,_,_⟩:=hown'.form HL0.out;have HO:Hid (qdg w1 w.heap.size g cap l):=hid ⟨HL.out,hown'⟩;clear hown hgrow hnil hown';go_wp2_with fail;go_ret;exact⟨⟨_,_,rfl,HO.out⟩,HB.out⟩
theorem q5p{B H rest b x r:Nat}(h2:H % b=rest)(hr:r=(rest*B+x) % b):(x+B*H) % b=r:=by
 have e:x+B*H=(rest*B+x)+b*(B*(H/b)):=by
  have:=Nat.div_add_mod H b;rw[h2] at this;rw[←this]
  have e2:(b*(H/b)+rest)/b=H/b:=by
   rw[this]
  rw[e2,Nat.mul_add,←Nat.mul_assoc b B,Nat.mul_comm b B,Nat.mul_assoc B b,Nat.mul_comm rest];omega
 rw[e,Nat.add_mul_mod_self_left,hr]
theorem qf7(v:Value)(m b:Nat)(w:World)(h:qaq w v m)(hb:0<b)(hbB:b<B64):
  Calls Tryz.prog 120 #[v,.int .u64 b] w fun e w'=>e = .returned (.int .u64 (m % b:Nat))∧Below w.heap.size w w':=by
 obtain⟨l,p,c,rfl,hwds,hvl,hq1,hq2⟩:=qgp h;clear hq1 hq2;obtain⟨hl,p',c',he,hc1,hc2,hcells⟩:=hwds;cases he
 have HL:=hid hl;have HBB:=hid hbB;have HVL:=hid hvl;have hl63:l.length≤9223372036854775807:=by unfold maxLen at hc2;omega
 clear h hl hbB hc1 hc2 hvl;go_enter Tryz.func120,Tryz.ntmps120;go_wp2_with fail
 go_loopw [5,6] (fun r i wr=>∃k rest:Nat,k≤l.length∧i = .int .i64 ((k:Int)-1)∧r = .int .u64 rest∧Hid (qa7 B64 l k % b=rest)∧Hid (Below w.heap.size w wr)) (fun _ i _=>(intOf i+1).toNat)
 case atStart=>exact⟨l.length,0,Nat.le_refl _,rfl,rfl,hid (by rw[qdc _ _ _ (Nat.le_refl _),Nat.zero_mod]),hid (Below.refl _ _)⟩
 case round=>
  obtain⟨k,rest,hk,rfl,rfl,HR,HB⟩:=hrel;rcases k with _|j
  ·have HR':Hid (rest=m % b):=hid (by have:=HR.out;rw[high_zero,HVL.out] at this;exact this.symm)
   go_wp2_with fail;go_ret;exact⟨by rw[HR'.out];rfl,HB.out⟩
  ·have e1:((j+1:Nat):Int)-1=(j:Int):=by omega
   simp only[e1]
   obtain⟨bb,o,rfl,hrow⟩:∃b o,p=some ⟨b,o,none⟩∧qmo w b o l.length (wd l):=by
    rcases hcells with h1|h1
    ·omega
    ·exact h1
   have hcell:=hrow j (by omega)
   have hcell2:wr.cell? ⟨bb,o+j,none⟩=some (.int .u64 (l.getD j 0:Nat)):=by
    rw[HB.out.cell (p:=⟨bb,o+j,none⟩) (World.block_lt_of_cell? w _ hcell)];exact hcell
   have hrestb:rest<b:=by rw[←HR.out];exact Nat.mod_lt _ hb
   have hxl:=qao (b:=B64) (by rw[qab];omega) HL.out j;have hhl:=qbj B64 l j;have HD:=hid (fun w=>qlk rest (l.getD j 0) b hrestb HBB.out hxl w);have HF:Hid (qa7 B64 l j % b=(rest*B64+l.getD j 0) % b):=hid (by rw[hhl];exact q5p HR.out rfl);clear hhl hxl hrestb hcell hrow HR;generalize (rest*B64+l.getD j 0)/b=q at *;generalize (rest*B64+l.getD j 0) % b=r at *;generalize l.getD j 0=x at *;go_wp2_with fail;refine(HD.out _).mono ?_;rintro e w2 ⟨rfl,n,hw2⟩;have HB2:Hid (Below w.heap.size w w2):=hid (by rw[hw2];exact below_drewN HB.out n);clear hw2 HD hcell2;go_wp2_with fail;go_roundw
   case rel=>exact⟨j,r,by omega,by go_num,rfl,HF,HB2⟩
   case measure=>simp[intOf]
end Go.Proofs.YthjagoogkkgelaaGreatDoor
