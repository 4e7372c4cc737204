/- divide in all cases. -/
import Derived.Test.YtlkdlffhmakbgaaGreatDoorMDivide
import Derived.Deep.RegionWith
set_option linter.all false
namespace Go.Proofs.YtlkdlffhmakbgaaGreatDoor
open Go.RowKit
set_option maxRecDepth 100000
set_option maxHeartbeats 1000000
theorem quy(va vb:Value)(m n:Nat)(w:World)(ha:qa5 w va m)(hb:qa5 w vb n)(rO:m<n):
  Calls Tryz.prog 112 #[va,vb] w fun e w'=>(∃vq vr,e = .returned (.tuple #[vq,vr])∧qa5 w' vq (m/n)∧qa5 w' vr (m % n))∧Below w.heap.size w w':=by
 have eM:=hid (qei va vb m n w ha hb);have qU:qex m n<0:=by unfold qex;rw[qdf (by omega)];omega
 generalize qex m n=cv at *;have HA:=hid ha;have Mz:Hid (m/n=0):=hid (Nat.div_eq_of_lt rO);have gN:Hid (m % n=m):=hid (Nat.mod_eq_of_lt rO);clear ha hb rO;go_enter Tryz.func112,Tryz.ntmps112;go_wp2_with fail;refine eM.out.mono ?_;rintro e w1 ⟨rfl,q,cY⟩;have aP:Hid (Below w.heap.size w w1):=hid (by rw[cY];exact below_drewN (qaa _ _) q);clear cY eM;go_wp2_with fail;go_ret2;exact⟨⟨_,_,rfl,by rw[Mz.out];exact qa5.nil w1,by rw[gN.out];exact HA.out.later aP.out⟩,aP.out⟩
theorem qys(va vb:Value)(m:Nat)(w:World)(ha:qa5 w va m)(hb:qa5 w vb 1)(hm:1≤m):
  Calls Tryz.prog 112 #[va,vb] w fun e w'=>(∃vq vr,e = .returned (.tuple #[vq,vr])∧qa5 w' vq (m/1)∧qa5 w' vr (m % 1))∧Below w.heap.size w w':=by
 have eM:=hid (qei va vb m 1 w ha hb)
 have qU:¬qex m 1<0:=by
  unfold qex;rcases Nat.lt_or_ge 1 m with h|h
  ·rw[qcr (by omega)];omega
  ·rw[qet (by omega)];omega
 generalize qex m 1=cv at *;have HA:=hid ha;have wJ:=hid (qcm vb 1 true rfl);have aW:=hid hb;have Mz:Hid (m/1=m):=hid (Nat.div_one m);have gN:Hid (m % 1=0):=hid (Nat.mod_one m);clear ha hb hm;go_enter Tryz.func112,Tryz.ntmps112;go_wp2_with fail;refine eM.out.mono ?_;rintro e w1 ⟨rfl,q,cY⟩;have aP:Hid (Below w.heap.size w w1):=hid (by rw[cY];exact below_drewN (qaa _ _) q);clear cY eM;go_wp2_with fail;refine(wJ.out w1 (aW.out.later aP.out)).mono ?_;rintro e w' ⟨rfl,hw'⟩;subst hw';go_wp2_with fail;go_ret2;exact⟨⟨_,_,rfl,by rw[Mz.out];exact HA.out.later aP.out,by rw[gN.out];exact qa5.nil w1⟩,aP.out⟩
theorem qw0(w:World)(x:Nat)(hx:x<B64):Wds (w.alloc (.cells #[.int .u64 (x:Nat)] 160)) (.slice (some ⟨w.heap.size,0,none⟩) 1 1) [x]:=by
 refine⟨by simpa using hx,some ⟨w.heap.size,0,none⟩,1,rfl,qac _,by unfold maxLen;omega,.inr ⟨_,_,rfl,fun i hi => ?_⟩⟩;have:i=0:=by simpa using hi
 subst this;rw[World.cell?_alloc_at _ _ _ _ rfl];simp[wd]
theorem qw1(w:World)(x:Nat)(hx:x<B64):Calls Tryz.prog 110 #[.slice (some ⟨w.heap.size,0,none⟩) 1 1] (w.alloc (.cells #[.int .u64 (x:Nat)] 160)) fun e w'=>
  (∃v',e = .returned v'∧qa5 (w.alloc (.cells #[.int .u64 (x:Nat)] 160)) v' x)∧w.alloc (.cells #[.int .u64 (x:Nat)] 160)=w':=by
 have h:=qjk _ _ _ (qw0 w x hx);rw[show val B64 [x]=x from by simp] at h;exact h
theorem quz(va vb:Value)(m n:Nat)(w:World)(ha:qa5 w va m)(hb:qa5 w vb n)(rO:n≤m)(dZ:n≠1)(h2:wl n=1)(hm:wl m≤Cap):
  Calls Tryz.prog 112 #[va,vb] w fun e w'=>(∃vq vr,e = .returned (.tuple #[vq,vr])∧qa5 w' vq (m/n)∧qa5 w' vr (m % n))∧Below w.heap.size w w':=by
 have eM:=hid (qei va vb m n w ha hb)
 have qU:¬qex m n<0:=by
  unfold qex;rcases Nat.lt_or_ge n m with h|h
  ·rw[qcr (by omega)];omega
  ·rw[qet (by omega)];omega
 generalize qex m n=cv at *;have wJ:=hid (qcm vb n false (by simp[dZ]));have HA:=hid ha;have Ld:=hid hb
 obtain⟨x,hr⟩:∃x,qan B64 n=[x]:=by
  have h3:(qan B64 n).length=1:=h2
  match qan B64 n,h3 with
  | [x],_=>exact⟨x,rfl⟩
 have hxn:x=n:=by
  have:=qar B64 n qal;rw[hr] at this
  simpa using this
 subst hxn;have hxB:x<B64:=qeh B64 x qal x (by rw[hr];simp)
 have nT:0<x:=by
  rcases qas x with e|e
  ·rw[e,qat] at hr;cases hr
  ·exact e
 have iK:Wds w vb [x]:=by unfold qa5 at hb;rw[hr] at hb;exact hb
 obtain⟨pb,cb,rfl⟩:∃pb cb,vb = .slice pb 1 cb:=by
  obtain⟨_,p,c,h3,_⟩:=iK;exact⟨p,c,h3⟩
 have zC:=hid iK;have HXB:=hid hxB;have HX0:=hid nT;have yY:=hid hm;clear ha hb iK hr hxB nT hm h2 dZ rO;go_enter Tryz.func112,Tryz.ntmps112;go_wp2_with fail;refine eM.out.mono ?_;rintro e w1 ⟨rfl,q,cY⟩;have aP:Hid (Below w.heap.size w w1):=hid (by rw[cY];exact below_drewN (qaa _ _) q);have dN:Hid (w1.heap.size=w.heap.size):=hid (by rw[cY];rfl);clear cY eM;go_wp2_with fail;refine(wJ.out w1 (Ld.out.later aP.out)).mono ?_;rintro e w' ⟨rfl,hw'⟩;subst hw';have eP:=hid (HA.out.later aP.out);have zD:=hid (zC.out.later aP.out);obtain⟨_,p',c',he,_,_,aA⟩:=zD.out;cases he
 rcases aA with h0|⟨bb,ob,rfl,aB⟩
 ·cases h0
 have aC:=aB 0 (by simp);simp[wd] at aC
 have bA:Hid (∀w',Below w1.heap.size w1 w'→w'.cell? ⟨bb,ob,none⟩=some (.int .u64 x)):=hid fun w' hb'=>by
  rw[hb'.cell (p:=⟨bb,ob,none⟩) (qae w1 _ aC)];exact aC
 have bT:Below w1.heap.size w1 w1.drew:=(qaa _ _).drew
 have Hn:Hid (Calls Tryz.prog 153 #[va] w1.drew fun e w'=>(∃v',e = .returned v'∧qga w' w1.heap.size v' (qan B64 m))∧Below w1.heap.size w1 w'):=by
  refine hid ((qoj va _ w1.drew (eP.out.later bT) yY.out).mono ?_);rintro e w' ⟨⟨v',rfl,ho⟩,hb'⟩;exact⟨⟨v',rfl,ho⟩,bT.trans hb'⟩
 clear bT;clear aB
 have cW:Hid (∀w2 v2,qga w2 w1.heap.size v2 (qan B64 m)→Calls Tryz.prog 158 #[v2,.int .u64 x] w2 fun e w'=>(∃v',e = .returned (.tuple #[v',.int .u64 (val B64 (qan B64 m) % x:Nat)])∧qga w' w1.heap.size v' (qan B64 (val B64 (qan B64 m)/x)))∧Below w1.heap.size w2 w'):=
  hid fun w2 v2 ho=>qmh v2 _ x w1.heap.size w2 ho HX0.out HXB.out
 rw[qar _ _ qal] at cW;have zK:Hid (m % x<B64):=hid (Nat.lt_trans (Nat.mod_lt _ HX0.out) HXB.out);obtain⟨rm,qB⟩:∃rm,m % x=rm:=⟨_,rfl⟩;rw[qB] at cW zK;have Ex:=hid qB;clear qB;go_wp2_with fail
 go_region_with (first|(go_at_call 153;refine Hn.out.mono ?_;rintro e w2 ⟨⟨v2,rfl,how⟩,gM⟩;have bG:=bA.out w2 gM;have lT:=hid how;have fK:=hid gM;clear how gM)|(go_at_call 158;refine(cW.out _ _ lT.out).mono ?_;rintro e w3 ⟨⟨v3,rfl,Ob⟩,fA⟩;have qC:=hid Ob;have zE:=hid fA;clear Ob fA))
 all_goals
  go_wp2_with fail;refine(qw1 _ _ zK.out).mono ?_;rintro e w4 ⟨⟨v4,rfl,hn4⟩,mU⟩;have Ho:Below w3.heap.size w3 w4:=by rw[←mU];exact qad _ _
  rw[mU] at hn4;have dK:w1.heap.size≤w3.heap.size:=Nat.le_trans fK.out.size zE.out.size;have gV:=hid hn4;have kH:Hid (qa5 w4 v3 (m/x)):=hid (qC.out.wds.later Ho);have wK:Hid (Below w.heap.size w w4):=hid (aP.out.trans ((fK.out.trans (zE.out.trans (Ho.mono dK))).mono (Nat.le_of_eq dN.out.symm)));clear hn4 mU Ho dK;go_wp2_with fail;go_ret2;exact⟨⟨_,_,rfl,kH.out,by rw[Ex.out];exact gV.out⟩,wK.out⟩
theorem qmi(va vb:Value)(m n:Nat)(w:World)(ha:qa5 w va m)(hb:qa5 w vb n)(hn:0<n)(hm:wl m≤Cap):
  Calls Tryz.prog 112 #[va,vb] w fun e w'=>(∃vq vr,e = .returned (.tuple #[vq,vr])∧qa5 w' vq (m/n)∧qa5 w' vr (m % n))∧Below w.heap.size w w':=by
 rcases Nat.lt_or_ge m n with h|h
 ·exact quy va vb m n w ha hb h
 ·by_cases h1:n=1
  ·subst h1;exact qys va vb m w ha hb h
  ·have h2:wl n≠0:=fun e=>by have:=qeu e;omega
   by_cases h3:wl n=1
   ·exact quz va vb m n w ha hb h h1 h3 hm
   ·exact qux va vb m n w ha hb h (by omega) hm
theorem qjm(v:Value)(l:List Nat)(w:World)(h:Wds w v l)(h0:0<l.length)(aQ:l.length≤Cap):
  Calls Tryz.prog 153 #[v] w fun e w'=>(∃g cap,e = .returned (.slice (some ⟨g,0,none⟩) l.length cap)∧qdm w' w.heap.size g cap l)∧Below w.heap.size w w':=by
 obtain⟨hl,p,c,rfl,bO,bG,aA⟩:=h;have q22:∀(w:World) (a:Option Addr) (n c n' c':Nat),(binOp .eql 85 (.slice a n c) (.slice none n' c')).run Tryz.prog w = .ok (.bool a.isNone) w:=fun w a n c n' c'=>Lib.run_eql_slice_nil w _ _ a n c n' c' Tryz.underlying85
 obtain⟨b,o,rfl,aB⟩:∃b o,p=some ⟨b,o,none⟩∧qmc w b o l.length (wd l):=by
  rcases aA with h1|h1
  ·omega
  ·exact h1
 obtain⟨i0,hi,cU,eE,eK⟩:=info_parts (show(Tryz.prog.info? 160).map (fun i=>(i.zero,i.size,i.bytes))=some (some (.int .u64 0),1,8) by kernel_rfl);have HI:=hid hi;have HL:=hid hl;have HL0:=hid h0;have HC:Hid (∀i,i<l.length→w.cell? ((⟨b,o,none⟩:Addr).add i)=some (wd l i)):=hid fun i hi=>by rw[Addr.add_lit];exact aB i hi
 have cQ:Hid (l.length≤1099511627776):=aQ;clear hl bO bG aA aQ aB h0;go_enter Tryz.func153,Tryz.ntmps153;go_wp2_with (at_builtin;refine wpList_append_own _ rfl _ _ 85 rfl w.heap.size 160 i0 (.int .u64 0) 1 8 Tryz.underlying85 HI.out cU eE eK rfl (by decide) _ _ _ rfl (World.ownsRow_made w #[] 0 (qac _) (Nat.zero_le _) rfl) ⟨b,o,none⟩ l.length c (l.map fun x=>Value.int .u64 (x:Nat)) rfl ?mK ?Cg ?Ch ?Ci ?Cj ?Ck ?_)
 case mK=>simp
 case Cg=>
  intro j u hj
  have lC:j<l.length:=by
   have:=(List.getElem?_eq_some_iff.1 hj).1
   simpa using this
  have h1:=HC.out j lC;have e:(l.map fun x=>Value.int .u64 (x:Nat))[j]? = some (wd l j):=by unfold wd;simp[lC]
  rw[e] at hj;cases hj
  rw[((qaa w.heap.size w).alloc (qac _) _).cell (qae w _ h1)];exact h1
 case Ch=>intro u hu;obtain⟨x,_,rfl⟩:=List.mem_map.1 hu;rfl
 case Ci=>have:=cQ.out;unfold maxLen;omega
 case Cj=>have:=cQ.out;omega
 case Ck=>simp
 intro v' w1 aU bN rM;have HB:Hid (Below w.heap.size w w1):=hid (((qaa _ w).alloc (qac _) _).grown bN (by simp) (by intro k hk;simp[Value.ownBlock] at hk;omega));have hown':w1.ownsRow w.heap.size 160 1 v' l.length (l.map fun x=>Value.int .u64 (x:Nat)):=by simpa using aU
 obtain⟨g,cap,rfl,_,_⟩:=hown'.form HL0.out;have HO:Hid (qdm w1 w.heap.size g cap l):=hid ⟨HL.out,hown'⟩;clear aU bN rM hown';go_wp2_with fail;go_ret;exact⟨⟨_,_,rfl,HO.out⟩,HB.out⟩
theorem q4t{B H rest b x r:Nat}(h2:H % b=rest)(hr:r=(rest*B+x) % b):(x+B*H) % b=r:=by
 have e:x+B*H=(rest*B+x)+b*(B*(H/b)):=by
  have:=Nat.div_add_mod H b;rw[h2] at this;rw[←this]
  have e2:(b*(H/b)+rest)/b=H/b:=by
   rw[this]
  rw[e2,Nat.mul_add,←Nat.mul_assoc b B,Nat.mul_comm b B,Nat.mul_assoc B b,Nat.mul_comm rest];omega
 rw[e,Nat.add_mul_mod_self_left,hr]
theorem qfz(v:Value)(m b:Nat)(w:World)(h:qa5 w v m)(hb:0<b)(yT:b<B64):
  Calls Tryz.prog 157 #[v,.int .u64 b] w fun e w'=>e = .returned (.int .u64 (m % b:Nat))∧Below w.heap.size w w':=by
 obtain⟨l,p,c,rfl,hwds,sU,uA,oE⟩:=qgb h;clear uA oE;obtain⟨hl,p',c',he,bO,bG,aA⟩:=hwds;cases he
 have HL:=hid hl;have aW:=hid yT;have iT:=hid sU;have Hc:l.length≤9223372036854775807:=by unfold maxLen at bG;omega
 clear h hl yT bO bG sU;go_enter Tryz.func157,Tryz.ntmps157;go_wp2_with fail
 go_loopw [5,6] (fun r i wr=>∃k rest:Nat,k≤l.length∧i = .int .i64 ((k:Int)-1)∧r = .int .u64 rest∧Hid (qbn B64 l k % b=rest)∧Hid (Below w.heap.size w wr)) (fun _ i _=>(intOf i+1).toNat)
 case atStart=>exact⟨l.length,0,qac _,rfl,rfl,hid (by rw[qdj _ _ _ (qac _),Nat.zero_mod]),hid (qaa _ _)⟩
 case round=>
  obtain⟨k,rest,hk,rfl,rfl,HR,HB⟩:=hrel;rcases k with _|j
  ·have HR':Hid (rest=m % b):=hid (by have:=HR.out;rw[high_zero,iT.out] at this;exact this.symm)
   go_wp2_with fail;go_ret;exact⟨by rw[HR'.out];rfl,HB.out⟩
  ·have e1:((j+1:Nat):Int)-1=(j:Int):=by omega
   simp only[e1]
   obtain⟨bb,o,rfl,aB⟩:∃b o,p=some ⟨b,o,none⟩∧qmc w b o l.length (wd l):=by
    rcases aA with h1|h1
    ·omega
    ·exact h1
   have aC:=aB j (by omega)
   have Hp:wr.cell? ⟨bb,o+j,none⟩=some (.int .u64 (l.getD j 0:Nat)):=by
    rw[HB.out.cell (p:=⟨bb,o+j,none⟩) (qae w _ aC)];exact aC
   have fJ:rest<b:=by rw[←HR.out];exact Nat.mod_lt _ hb
   have eF:=qaz (b:=B64) (by rw[qai];omega) HL.out j;have qS:=qbx B64 l j;have HD:=hid (fun w=>qk5 rest (l.getD j 0) b fJ aW.out eF w);have HF:Hid (qbn B64 l j % b=(rest*B64+l.getD j 0) % b):=hid (by rw[qS];exact q4t HR.out rfl);clear qS eF fJ aC aB HR;generalize (rest*B64+l.getD j 0)/b=q at *;generalize (rest*B64+l.getD j 0) % b=r at *;generalize l.getD j 0=x at *;go_wp2_with fail;refine(HD.out _).mono ?_;rintro e w2 ⟨rfl,n,mD⟩;have aK:Hid (Below w.heap.size w w2):=hid (by rw[mD];exact below_drewN HB.out n);clear mD HD Hp;go_wp2_with fail;go_roundw
   case rel=>exact⟨j,r,by omega,by go_num,rfl,HF,aK⟩
   case measure=>simp[intOf]
end Go.Proofs.YtlkdlffhmakbgaaGreatDoor
