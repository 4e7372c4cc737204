/- divide in all cases. -/
import Derived.Test.YtmcfcpgglfimjaaGreatDoorMDivide
import Derived.Deep.RegionWith
set_option linter.all false
namespace Go.Proofs.YtmcfcpgglfimjaaGreatDoor
open Go.RowKit
set_option maxRecDepth 100000
set_option maxHeartbeats 1000000
theorem qu2(va vb:Value)(m n:Nat)(w:World)(ha:qa2 w va m)(hb:qa2 w vb n)(qW:m<n):
  Calls Tryz.prog 103 #[va,vb] w fun e w'=>(∃vq vr,e = .returned (.tuple #[vq,vr])∧qa2 w' vq (m/n)∧qa2 w' vr (m % n))∧Below w.heap.size w w':=by
 have eH:=hid (qee va vb m n w ha hb);have pY:qer m n<0:=by unfold qer;rw[qde (by omega)];omega
 generalize qer m n=cv at *;have HA:=hid ha;have Lz:Hid (m/n=0):=hid (Nat.div_eq_of_lt qW);have gB:Hid (m % n=m):=hid (Nat.mod_eq_of_lt qW);clear ha hb qW;go_enter Tryz.func103,Tryz.ntmps103;go_wp2_with fail;refine eH.out.mono ?_;rintro e w1 ⟨rfl,q,cU⟩;have aP:Hid (Below w.heap.size w w1):=hid (by rw[cU];exact below_drewN (qaa _ _) q);clear cU eH;go_wp2_with fail;go_ret2;exact⟨⟨_,_,rfl,by rw[Lz.out];exact qa2.nil w1,by rw[gB.out];exact HA.out.later aP.out⟩,aP.out⟩
theorem qyy(va vb:Value)(m:Nat)(w:World)(ha:qa2 w va m)(hb:qa2 w vb 1)(hm:1≤m):
  Calls Tryz.prog 103 #[va,vb] w fun e w'=>(∃vq vr,e = .returned (.tuple #[vq,vr])∧qa2 w' vq (m/1)∧qa2 w' vr (m % 1))∧Below w.heap.size w w':=by
 have eH:=hid (qee va vb m 1 w ha hb)
 have pY:¬qer m 1<0:=by
  unfold qer;rcases Nat.lt_or_ge 1 m with h|h
  ·rw[qcq (by omega)];omega
  ·rw[qem (by omega)];omega
 generalize qer m 1=cv at *;have HA:=hid ha;have uP:=hid (qcl vb 1 true rfl);have aV:=hid hb;have Lz:Hid (m/1=m):=hid (Nat.div_one m);have gB:Hid (m % 1=0):=hid (Nat.mod_one m);clear ha hb hm;go_enter Tryz.func103,Tryz.ntmps103;go_wp2_with fail;refine eH.out.mono ?_;rintro e w1 ⟨rfl,q,cU⟩;have aP:Hid (Below w.heap.size w w1):=hid (by rw[cU];exact below_drewN (qaa _ _) q);clear cU eH;go_wp2_with fail;refine(uP.out w1 (aV.out.later aP.out)).mono ?_;rintro e w' ⟨rfl,hw'⟩;subst hw';go_wp2_with fail;go_ret2;exact⟨⟨_,_,rfl,by rw[Lz.out];exact HA.out.later aP.out,by rw[gB.out];exact qa2.nil w1⟩,aP.out⟩
theorem qw5(w:World)(x:Nat)(hx:x<B64):Wds (w.alloc (.cells #[.int .u64 (x:Nat)] 155)) (.slice (some ⟨w.heap.size,0,none⟩) 1 1) [x]:=by
 refine⟨by simpa using hx,some ⟨w.heap.size,0,none⟩,1,rfl,qac _,by unfold maxLen;omega,.inr ⟨_,_,rfl,fun i hi => ?_⟩⟩;have:i=0:=by simpa using hi
 subst this;rw[World.cell?_alloc_at _ _ _ _ rfl];simp[wd]
theorem qw6(w:World)(x:Nat)(hx:x<B64):Calls Tryz.prog 101 #[.slice (some ⟨w.heap.size,0,none⟩) 1 1] (w.alloc (.cells #[.int .u64 (x:Nat)] 155)) fun e w'=>
  (∃v',e = .returned v'∧qa2 (w.alloc (.cells #[.int .u64 (x:Nat)] 155)) v' x)∧w.alloc (.cells #[.int .u64 (x:Nat)] 155)=w':=by
 have h:=qjo _ _ _ (qw5 w x hx);rw[show val B64 [x]=x from by simp] at h;exact h
theorem qu3(va vb:Value)(m n:Nat)(w:World)(ha:qa2 w va m)(hb:qa2 w vb n)(qW:n≤m)(dT:n≠1)(h2:wl n=1)(hm:wl m≤Cap):
  Calls Tryz.prog 103 #[va,vb] w fun e w'=>(∃vq vr,e = .returned (.tuple #[vq,vr])∧qa2 w' vq (m/n)∧qa2 w' vr (m % n))∧Below w.heap.size w w':=by
 have eH:=hid (qee va vb m n w ha hb)
 have pY:¬qer m n<0:=by
  unfold qer;rcases Nat.lt_or_ge n m with h|h
  ·rw[qcq (by omega)];omega
  ·rw[qem (by omega)];omega
 generalize qer m n=cv at *;have uP:=hid (qcl vb n false (by simp[dT]));have HA:=hid ha;have HBN:=hid hb
 obtain⟨x,hr⟩:∃x,qao B64 n=[x]:=by
  have h3:(qao B64 n).length=1:=h2
  match qao B64 n,h3 with
  | [x],_=>exact⟨x,rfl⟩
 have hxn:x=n:=by
  have:=qar B64 n qam;rw[hr] at this
  simpa using this
 subst hxn;have hxB:x<B64:=qed B64 x qam x (by rw[hr];simp)
 have oZ:0<x:=by
  rcases qas x with e|e
  ·rw[e,qau] at hr;cases hr
  ·exact e
 have hU:Wds w vb [x]:=by unfold qa2 at hb;rw[hr] at hb;exact hb
 obtain⟨pb,cb,rfl⟩:∃pb cb,vb = .slice pb 1 cb:=by
  obtain⟨_,p,c,h3,_⟩:=hU;exact⟨p,c,h3⟩
 have xZ:=hid hU;have HXB:=hid hxB;have HX0:=hid oZ;have Dj:=hid hm;clear ha hb hU hr hxB oZ hm h2 dT qW;go_enter Tryz.func103,Tryz.ntmps103;go_wp2_with fail;refine eH.out.mono ?_;rintro e w1 ⟨rfl,q,cU⟩;have aP:Hid (Below w.heap.size w w1):=hid (by rw[cU];exact below_drewN (qaa _ _) q);have eJ:Hid (w1.heap.size=w.heap.size):=hid (by rw[cU];rfl);clear cU eH;go_wp2_with fail;refine(uP.out w1 (HBN.out.later aP.out)).mono ?_;rintro e w' ⟨rfl,hw'⟩;subst hw';have eM:=hid (HA.out.later aP.out);have yF:=hid (xZ.out.later aP.out);obtain⟨_,p',c',he,_,_,aA⟩:=yF.out;cases he
 rcases aA with h0|⟨bb,ob,rfl,aB⟩
 ·cases h0
 have aC:=aB 0 (by simp);simp[wd] at aC
 have bT:Hid (∀w',Below w1.heap.size w1 w'→w'.cell? ⟨bb,ob,none⟩=some (.int .u64 x)):=hid fun w' hb'=>by
  rw[hb'.cell (p:=⟨bb,ob,none⟩) (qaf w1 _ aC)];exact aC
 have bQ:Below w1.heap.size w1 w1.drew:=(qaa _ _).drew
 have Gp:Hid (Calls Tryz.prog 145 #[va] w1.drew fun e w'=>(∃v',e = .returned v'∧qgb w' w1.heap.size v' (qao B64 m))∧Below w1.heap.size w1 w'):=by
  refine hid ((qod va _ w1.drew (eM.out.later bQ) Dj.out).mono ?_);rintro e w' ⟨⟨v',rfl,ho⟩,hb'⟩;exact⟨⟨v',rfl,ho⟩,bQ.trans hb'⟩
 clear bQ;clear aB
 have cT:Hid (∀w2 v2,qgb w2 w1.heap.size v2 (qao B64 m)→Calls Tryz.prog 150 #[v2,.int .u64 x] w2 fun e w'=>(∃v',e = .returned (.tuple #[v',.int .u64 (val B64 (qao B64 m) % x:Nat)])∧qgb w' w1.heap.size v' (qao B64 (val B64 (qao B64 m)/x)))∧Below w1.heap.size w2 w'):=
  hid fun w2 v2 ho=>qma v2 _ x w1.heap.size w2 ho HX0.out HXB.out
 rw[qar _ _ qam] at cT;have yM:Hid (m % x<B64):=hid (Nat.lt_trans (Nat.mod_lt _ HX0.out) HXB.out);obtain⟨rm,pI⟩:∃rm,m % x=rm:=⟨_,rfl⟩;rw[pI] at cT yM;have Ng:=hid pI;clear pI;go_wp2_with fail
 go_region_with (first|(go_at_call 145;refine Gp.out.mono ?_;rintro e w2 ⟨⟨v2,rfl,how⟩,gA⟩;have bJ:=bT.out w2 gA;have oN:=hid how;have fG:=hid gA;clear how gA)|(go_at_call 150;refine(cT.out _ _ oN.out).mono ?_;rintro e w3 ⟨⟨v3,rfl,Nh⟩,eR⟩;have Bn:=hid Nh;have yG:=hid eR;clear Nh eR))
 all_goals
  go_wp2_with fail;refine(qw6 _ _ yM.out).mono ?_;rintro e w4 ⟨⟨v4,rfl,hn4⟩,mF⟩;have Gq:Below w3.heap.size w3 w4:=by rw[←mF];exact qad _ _
  rw[mF] at hn4;have dG:w1.heap.size≤w3.heap.size:=Nat.le_trans fG.out.size yG.out.size;have gI:=hid hn4;have jT:Hid (qa2 w4 v3 (m/x)):=hid (Bn.out.wds.later Gq);have uQ:Hid (Below w.heap.size w w4):=hid (aP.out.trans ((fG.out.trans (yG.out.trans (Gq.mono dG))).mono (Nat.le_of_eq eJ.out.symm)));clear hn4 mF Gq dG;go_wp2_with fail;go_ret2;exact⟨⟨_,_,rfl,jT.out,by rw[Ng.out];exact gI.out⟩,uQ.out⟩
theorem qme(va vb:Value)(m n:Nat)(w:World)(ha:qa2 w va m)(hb:qa2 w vb n)(hn:0<n)(hm:wl m≤Cap):
  Calls Tryz.prog 103 #[va,vb] w fun e w'=>(∃vq vr,e = .returned (.tuple #[vq,vr])∧qa2 w' vq (m/n)∧qa2 w' vr (m % n))∧Below w.heap.size w w':=by
 rcases Nat.lt_or_ge m n with h|h
 ·exact qu2 va vb m n w ha hb h
 ·by_cases h1:n=1
  ·subst h1;exact qyy va vb m w ha hb h
  ·have h2:wl n≠0:=fun e=>by have:=qen e;omega
   by_cases h3:wl n=1
   ·exact qu3 va vb m n w ha hb h h1 h3 hm
   ·exact qu1 va vb m n w ha hb h (by omega) hm
theorem qjr(v:Value)(l:List Nat)(w:World)(h:Wds w v l)(h0:0<l.length)(aQ:l.length≤Cap):
  Calls Tryz.prog 145 #[v] w fun e w'=>(∃g cap,e = .returned (.slice (some ⟨g,0,none⟩) l.length cap)∧qdl w' w.heap.size g cap l)∧Below w.heap.size w w':=by
 obtain⟨hl,p,c,rfl,bO,bJ,aA⟩:=h;have q22:∀(w:World) (a:Option Addr) (n c n' c':Nat),(binOp .eql 83 (.slice a n c) (.slice none n' c')).run Tryz.prog w = .ok (.bool a.isNone) w:=fun w a n c n' c'=>Lib.run_eql_slice_nil w _ _ a n c n' c' Tryz.underlying83
 obtain⟨b,o,rfl,aB⟩:∃b o,p=some ⟨b,o,none⟩∧ql5 w b o l.length (wd l):=by
  rcases aA with h1|h1
  ·omega
  ·exact h1
 obtain⟨i0,hi,cP,dV,eF⟩:=info_parts (show(Tryz.prog.info? 155).map (fun i=>(i.zero,i.size,i.bytes))=some (some (.int .u64 0),1,8) by kernel_rfl);have HI:=hid hi;have HL:=hid hl;have HL0:=hid h0;have HC:Hid (∀i,i<l.length→w.cell? ((⟨b,o,none⟩:Addr).add i)=some (wd l i)):=hid fun i hi=>by rw[Addr.add_lit];exact aB i hi
 have cM:Hid (l.length≤1099511627776):=aQ;clear hl bO bJ aA aQ aB h0;go_enter Tryz.func145,Tryz.ntmps145;go_wp2_with (at_builtin;refine wpList_append_own _ rfl _ _ 83 rfl w.heap.size 155 i0 (.int .u64 0) 1 8 Tryz.underlying83 HI.out cP dV eF rfl (by decide) _ _ _ rfl (World.ownsRow_made w #[] 0 (qac _) (Nat.zero_le _) rfl) ⟨b,o,none⟩ l.length c (l.map fun x=>Value.int .u64 (x:Nat)) rfl ?lQ ?Au ?Av ?Aw ?Ax ?Ay ?_)
 case lQ=>simp
 case Au=>
  intro j u hj
  have kN:j<l.length:=by
   have:=(List.getElem?_eq_some_iff.1 hj).1
   simpa using this
  have h1:=HC.out j kN;have e:(l.map fun x=>Value.int .u64 (x:Nat))[j]? = some (wd l j):=by unfold wd;simp[kN]
  rw[e] at hj;cases hj
  rw[((qaa w.heap.size w).alloc (qac _) _).cell (qaf w _ h1)];exact h1
 case Av=>intro u hu;obtain⟨x,_,rfl⟩:=List.mem_map.1 hu;rfl
 case Aw=>have:=cM.out;unfold maxLen;omega
 case Ax=>have:=cM.out;omega
 case Ay=>simp
 intro v' w1 aT bK qQ;have HB:Hid (Below w.heap.size w w1):=hid (((qaa _ w).alloc (qac _) _).grown bK (by simp) (by intro k hk;simp[Value.ownBlock] at hk;omega));have hown':w1.ownsRow w.heap.size 155 1 v' l.length (l.map fun x=>Value.int .u64 (x:Nat)):=by simpa using aT
 obtain⟨g,cap,rfl,_,_⟩:=hown'.form HL0.out;have HO:Hid (qdl w1 w.heap.size g cap l):=hid ⟨HL.out,hown'⟩;clear aT bK qQ hown';go_wp2_with fail;go_ret;exact⟨⟨_,_,rfl,HO.out⟩,HB.out⟩
theorem q46{B H rest b x r:Nat}(h2:H % b=rest)(hr:r=(rest*B+x) % b):(x+B*H) % b=r:=by
 have e:x+B*H=(rest*B+x)+b*(B*(H/b)):=by
  have:=Nat.div_add_mod H b;rw[h2] at this;rw[←this]
  have e2:(b*(H/b)+rest)/b=H/b:=by
   rw[this]
  rw[e2,Nat.mul_add,←Nat.mul_assoc b B,Nat.mul_comm b B,Nat.mul_assoc B b,Nat.mul_comm rest];omega
 rw[e,Nat.add_mul_mod_self_left,hr]
theorem qf0(v:Value)(m b:Nat)(w:World)(h:qa2 w v m)(hb:0<b)(xV:b<B64):
  Calls Tryz.prog 149 #[v,.int .u64 b] w fun e w'=>e = .returned (.int .u64 (m % b:Nat))∧Below w.heap.size w w':=by
 obtain⟨l,p,c,rfl,hwds,sE,tI,nN⟩:=qgd h;clear tI nN;obtain⟨hl,p',c',he,bO,bJ,aA⟩:=hwds;cases he
 have HL:=hid hl;have aV:=hid xV;have iH:=hid sE;have Fy:l.length≤9223372036854775807:=by unfold maxLen at bJ;omega
 clear h hl xV bO bJ sE;go_enter Tryz.func149,Tryz.ntmps149;go_wp2_with fail
 go_loopw [5,6] (fun r i wr=>∃k rest:Nat,k≤l.length∧i = .int .i64 ((k:Int)-1)∧r = .int .u64 rest∧Hid (qbi B64 l k % b=rest)∧Hid (Below w.heap.size w wr)) (fun _ i _=>(intOf i+1).toNat)
 case atStart=>exact⟨l.length,0,qac _,rfl,rfl,hid (by rw[qdg _ _ _ (qac _),Nat.zero_mod]),hid (qaa _ _)⟩
 case round=>
  obtain⟨k,rest,hk,rfl,rfl,HR,HB⟩:=hrel;rcases k with _|j
  ·have HR':Hid (rest=m % b):=hid (by have:=HR.out;rw[high_zero,iH.out] at this;exact this.symm)
   go_wp2_with fail;go_ret;exact⟨by rw[HR'.out];rfl,HB.out⟩
  ·have e1:((j+1:Nat):Int)-1=(j:Int):=by omega
   simp only[e1]
   obtain⟨bb,o,rfl,aB⟩:∃b o,p=some ⟨b,o,none⟩∧ql5 w b o l.length (wd l):=by
    rcases aA with h1|h1
    ·omega
    ·exact h1
   have aC:=aB j (by omega)
   have Gr:wr.cell? ⟨bb,o+j,none⟩=some (.int .u64 (l.getD j 0:Nat)):=by
    rw[HB.out.cell (p:=⟨bb,o+j,none⟩) (qaf w _ aC)];exact aC
   have fE:rest<b:=by rw[←HR.out];exact Nat.mod_lt _ hb
   have eP:=qaz (b:=B64) (by rw[qaj];omega) HL.out j;have pX:=qbv B64 l j;have HD:=hid (fun w=>qk4 rest (l.getD j 0) b fE aV.out eP w);have HF:Hid (qbi B64 l j % b=(rest*B64+l.getD j 0) % b):=hid (by rw[pX];exact q46 HR.out rfl);clear pX eP fE aC aB HR;generalize (rest*B64+l.getD j 0)/b=q at *;generalize (rest*B64+l.getD j 0) % b=r at *;generalize l.getD j 0=x at *;go_wp2_with fail;refine(HD.out _).mono ?_;rintro e w2 ⟨rfl,n,kZ⟩;have aK:Hid (Below w.heap.size w w2):=hid (by rw[kZ];exact below_drewN HB.out n);clear kZ HD Gr;go_wp2_with fail;go_roundw
   case rel=>exact⟨j,r,by omega,by go_num,rfl,HF,aK⟩
   case measure=>simp[intOf]
end Go.Proofs.YtmcfcpgglfimjaaGreatDoor
