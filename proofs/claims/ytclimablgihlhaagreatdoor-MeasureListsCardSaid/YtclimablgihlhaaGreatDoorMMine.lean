/- divide in all cases. -/
import Derived.Test.YtclimablgihlhaaGreatDoorMDivide
import Derived.Deep.RegionWith
set_option linter.all false
namespace Go.Proofs.YtclimablgihlhaaGreatDoor
open Go.RowKit
set_option maxRecDepth 100000
set_option maxHeartbeats 1000000
theorem quo(va vb:Value)(m n:Nat)(w:World)(ha:qap w va m)(hb:qap w vb n)(sH:m<n):
  Calls Tryz.prog 78 #[va,vb] w fun e w'=>(∃vq vr,e = .returned (.tuple #[vq,vr])∧qap w' vq (m/n)∧qap w' vr (m % n))∧Below w.heap.size w w':=by
 have eM:=hid (qd7 va vb m n w ha hb);have rJ:qen m n<0:=by unfold qen;rw[qcy (by omega)];omega
 generalize qen m n=cv at *;have HA:=hid ha;have Pj:Hid (m/n=0):=hid (Nat.div_eq_of_lt sH);have jR:Hid (m % n=m):=hid (Nat.mod_eq_of_lt sH);clear ha hb sH;go_enter Tryz.func78,Tryz.ntmps78;go_wp2_with fail;refine eM.out.mono ?_;rintro e w1 ⟨rfl,q,dI⟩;have aQ:Hid (Below w.heap.size w w1):=hid (by rw[dI];exact below_drewN (zan _ _) q);clear dI eM;go_wp2_with fail;go_ret2;exact⟨⟨_,_,rfl,by rw[Pj.out];exact qap.nil w1,by rw[jR.out];exact HA.out.later aQ.out⟩,aQ.out⟩
theorem qxx(va vb:Value)(m:Nat)(w:World)(ha:qap w va m)(hb:qap w vb 1)(hm:1≤m):
  Calls Tryz.prog 78 #[va,vb] w fun e w'=>(∃vq vr,e = .returned (.tuple #[vq,vr])∧qap w' vq (m/1)∧qap w' vr (m % 1))∧Below w.heap.size w w':=by
 have eM:=hid (qd7 va vb m 1 w ha hb)
 have rJ:¬qen m 1<0:=by
  unfold qen;rcases Nat.lt_or_ge 1 m with h|h
  ·rw[qch (by omega)];omega
  ·rw[qei (by omega)];omega
 generalize qen m 1=cv at *;have HA:=hid ha;have yF:=hid (qca vb 1 true rfl);have aX:=hid hb;have Pj:Hid (m/1=m):=hid (Nat.div_one m);have jR:Hid (m % 1=0):=hid (Nat.mod_one m);clear ha hb hm;go_enter Tryz.func78,Tryz.ntmps78;go_wp2_with fail;refine eM.out.mono ?_;rintro e w1 ⟨rfl,q,dI⟩;have aQ:Hid (Below w.heap.size w w1):=hid (by rw[dI];exact below_drewN (zan _ _) q);clear dI eM;go_wp2_with fail;refine(yF.out w1 (aX.out.later aQ.out)).mono ?_;rintro e w' ⟨rfl,hw'⟩;subst hw';go_wp2_with fail;go_ret2;exact⟨⟨_,_,rfl,by rw[Pj.out];exact HA.out.later aQ.out,by rw[jR.out];exact qap.nil w1⟩,aQ.out⟩
theorem qwh(w:World)(x:Nat)(hx:x<B64):Wds (w.alloc (.cells #[.int .u64 (x:Nat)] 130)) (.slice (some ⟨w.heap.size,0,none⟩) 1 1) [x]:=by
 refine⟨by simpa using hx,some ⟨w.heap.size,0,none⟩,1,rfl,zap _,by unfold maxLen;omega,.inr ⟨_,_,rfl,fun i hi => ?_⟩⟩;have:i=0:=by simpa using hi
 subst this;rw[World.cell?_alloc_at _ _ _ _ rfl];simp[wd]
theorem qwi(w:World)(x:Nat)(hx:x<B64):Calls Tryz.prog 75 #[.slice (some ⟨w.heap.size,0,none⟩) 1 1] (w.alloc (.cells #[.int .u64 (x:Nat)] 130)) fun e w'=>
  (∃v',e = .returned v'∧qap (w.alloc (.cells #[.int .u64 (x:Nat)] 130)) v' x)∧w.alloc (.cells #[.int .u64 (x:Nat)] 130)=w':=by
 have h:=qi9 _ _ _ (qwh w x hx);rw[show val B64 [x]=x from by simp] at h;exact h
theorem qup(va vb:Value)(m n:Nat)(w:World)(ha:qap w va m)(hb:qap w vb n)(sH:n≤m)(dR:n≠1)(h2:wl n=1)(hm:wl m≤Cap):
  Calls Tryz.prog 78 #[va,vb] w fun e w'=>(∃vq vr,e = .returned (.tuple #[vq,vr])∧qap w' vq (m/n)∧qap w' vr (m % n))∧Below w.heap.size w w':=by
 have eM:=hid (qd7 va vb m n w ha hb)
 have rJ:¬qen m n<0:=by
  unfold qen;rcases Nat.lt_or_ge n m with h|h
  ·rw[qch (by omega)];omega
  ·rw[qei (by omega)];omega
 generalize qen m n=cv at *;have yF:=hid (qca vb n false (by simp[dR]));have HA:=hid ha;have Nl:=hid hb
 obtain⟨x,hr⟩:∃x,qaf B64 n=[x]:=by
  have h3:(qaf B64 n).length=1:=h2
  match qaf B64 n,h3 with
  | [x],_=>exact⟨x,rfl⟩
 have hxn:x=n:=by
  have:=qah B64 n qae;rw[hr] at this
  simpa using this
 subst hxn;have hxB:x<B64:=qd6 B64 x qae x (by rw[hr];simp)
 have oH:0<x:=by
  rcases zav x with e|e
  ·rw[e,qal] at hr;cases hr
  ·exact e
 have jD:Wds w vb [x]:=by unfold qap at hb;rw[hr] at hb;exact hb
 obtain⟨pb,cb,rfl⟩:∃pb cb,vb = .slice pb 1 cb:=by
  obtain⟨_,p,c,h3,_⟩:=jD;exact⟨p,c,h3⟩
 have Ao:=hid jD;have HXB:=hid hxB;have HX0:=hid oH;have Gb:=hid hm;clear ha hb jD hr hxB oH hm h2 dR sH;go_enter Tryz.func78,Tryz.ntmps78;go_wp2_with fail;refine eM.out.mono ?_;rintro e w1 ⟨rfl,q,dI⟩;have aQ:Hid (Below w.heap.size w w1):=hid (by rw[dI];exact below_drewN (zan _ _) q);have eH:Hid (w1.heap.size=w.heap.size):=hid (by rw[dI];rfl);clear dI eM;go_wp2_with fail;refine(yF.out w1 (Nl.out.later aQ.out)).mono ?_;rintro e w' ⟨rfl,hw'⟩;subst hw';have eF:=hid (HA.out.later aQ.out);have Ap:=hid (Ao.out.later aQ.out);obtain⟨_,p',c',he,_,_,aA⟩:=Ap.out;cases he
 rcases aA with h0|⟨bb,ob,rfl,aB⟩
 ·cases h0
 have aC:=aB 0 (by simp);simp[wd] at aC
 have aV:Hid (∀w',Below w1.heap.size w1 w'→w'.cell? ⟨bb,ob,none⟩=some (.int .u64 x)):=hid fun w' hb'=>by
  rw[hb'.cell (p:=⟨bb,ob,none⟩) (zaq w1 _ aC)];exact aC
 have bX:Below w1.heap.size w1 w1.drew:=(zan _ _).drew
 have Jl:Hid (Calls Tryz.prog 113 #[va] w1.drew fun e w'=>(∃v',e = .returned v'∧qga w' w1.heap.size v' (qaf B64 m))∧Below w1.heap.size w1 w'):=by
  refine hid ((qn7 va _ w1.drew (eF.out.later bX) Gb.out).mono ?_);rintro e w' ⟨⟨v',rfl,ho⟩,hb'⟩;exact⟨⟨v',rfl,ho⟩,bX.trans hb'⟩
 clear bX;clear aB
 have dH:Hid (∀w2 v2,qga w2 w1.heap.size v2 (qaf B64 m)→Calls Tryz.prog 118 #[v2,.int .u64 x] w2 fun e w'=>(∃v',e = .returned (.tuple #[v',.int .u64 (val B64 (qaf B64 m) % x:Nat)])∧qga w' w1.heap.size v' (qaf B64 (val B64 (qaf B64 m)/x)))∧Below w1.heap.size w2 w'):=
  hid fun w2 v2 ho=>ql1 v2 _ x w1.heap.size w2 ho HX0.out HXB.out
 rw[qah _ _ qae] at dH;have sL:Hid (m % x<B64):=hid (Nat.lt_trans (Nat.mod_lt _ HX0.out) HXB.out);obtain⟨rm,qM⟩:∃rm,m % x=rm:=⟨_,rfl⟩;rw[qM] at dH sL;have zM:=hid qM;clear qM;go_wp2_with fail
 go_region_with (first|(go_at_call 113;refine Jl.out.mono ?_;rintro e w2 ⟨⟨v2,rfl,how⟩,hG⟩;have bK:=aV.out w2 hG;have tJ:=hid how;have fR:=hid hG;clear how hG)|(go_at_call 118;refine(dH.out _ _ tJ.out).mono ?_;rintro e w3 ⟨⟨v3,rfl,Qi⟩,fD⟩;have HOW3:=hid Qi;have Aq:=hid fD;clear Qi fD))
 all_goals
  go_wp2_with fail;refine(qwi _ _ sL.out).mono ?_;rintro e w4 ⟨⟨v4,rfl,hn4⟩,nD⟩;have Jm:Below w3.heap.size w3 w4:=by rw[←nD];exact zam _ _
  rw[nD] at hn4;have dM:w1.heap.size≤w3.heap.size:=Nat.le_trans fR.out.size Aq.out.size;have rH:=hid hn4;have mH:Hid (qap w4 v3 (m/x)):=hid (HOW3.out.wds.later Jm);have uC:Hid (Below w.heap.size w w4):=hid (aQ.out.trans ((fR.out.trans (Aq.out.trans (Jm.mono dM))).mono (Nat.le_of_eq eH.out.symm)));clear hn4 nD Jm dM;go_wp2_with fail;go_ret2;exact⟨⟨_,_,rfl,mH.out,by rw[zM.out];exact rH.out⟩,uC.out⟩
theorem ql2(va vb:Value)(m n:Nat)(w:World)(ha:qap w va m)(hb:qap w vb n)(hn:0<n)(hm:wl m≤Cap):
  Calls Tryz.prog 78 #[va,vb] w fun e w'=>(∃vq vr,e = .returned (.tuple #[vq,vr])∧qap w' vq (m/n)∧qap w' vr (m % n))∧Below w.heap.size w w':=by
 rcases Nat.lt_or_ge m n with h|h
 ·exact quo va vb m n w ha hb h
 ·by_cases h1:n=1
  ·subst h1;exact qxx va vb m w ha hb h
  ·have h2:wl n≠0:=fun e=>by have:=qek e;omega
   by_cases h3:wl n=1
   ·exact qup va vb m n w ha hb h h1 h3 hm
   ·exact qun va vb m n w ha hb h (by omega) hm
theorem qjb(v:Value)(l:List Nat)(w:World)(h:Wds w v l)(h0:0<l.length)(aP:l.length≤Cap):
  Calls Tryz.prog 113 #[v] w fun e w'=>(∃g cap,e = .returned (.slice (some ⟨g,0,none⟩) l.length cap)∧qdb w' w.heap.size g cap l)∧Below w.heap.size w w':=by
 obtain⟨hl,p,c,rfl,bP,bK,aA⟩:=h;have q22:∀(w:World) (a:Option Addr) (n c n' c':Nat),(binOp .eql 72 (.slice a n c) (.slice none n' c')).run Tryz.prog w = .ok (.bool a.isNone) w:=fun w a n c n' c'=>Lib.run_eql_slice_nil w _ _ a n c n' c' Tryz.underlying72
 obtain⟨b,o,rfl,aB⟩:∃b o,p=some ⟨b,o,none⟩∧qlx w b o l.length (wd l):=by
  rcases aA with h1|h1
  ·omega
  ·exact h1
 obtain⟨i0,hi,cT,dT,dU⟩:=info_parts (show(Tryz.prog.info? 130).map (fun i=>(i.zero,i.size,i.bytes))=some (some (.int .u64 0),1,8) by kernel_rfl);have HI:=hid hi;have HL:=hid hl;have Nm:=hid h0;have HC:Hid (∀i,i<l.length→w.cell? ((⟨b,o,none⟩:Addr).add i)=some (wd l i)):=hid fun i hi=>by rw[Addr.add_lit];exact aB i hi
 have cS:Hid (l.length≤1099511627776):=aP;clear hl bP bK aA aP aB h0;go_enter Tryz.func113,Tryz.ntmps113;go_wp2_with (at_builtin;refine wpList_append_own _ rfl _ _ 72 rfl w.heap.size 130 i0 (.int .u64 0) 1 8 Tryz.underlying72 HI.out cT dT dU rfl (by decide) _ _ _ rfl (World.ownsRow_made w #[] 0 (zap _) (Nat.zero_le _) rfl) ⟨b,o,none⟩ l.length c (l.map fun x=>Value.int .u64 (x:Nat)) rfl ?mT ?Dx ?Dy ?Dz ?Ea ?Eb ?_)
 case mT=>simp
 case Dx=>
  intro j u hj
  have pM:j<l.length:=by
   have:=(List.getElem?_eq_some_iff.1 hj).1
   simpa using this
  have h1:=HC.out j pM;have e:(l.map fun x=>Value.int .u64 (x:Nat))[j]? = some (wd l j):=by unfold wd;simp[pM]
  rw[e] at hj;cases hj
  rw[((zan w.heap.size w).alloc (zap _) _).cell (zaq w _ h1)];exact h1
 case Dy=>intro u hu;obtain⟨x,_,rfl⟩:=List.mem_map.1 hu;rfl
 case Dz=>have:=cS.out;unfold maxLen;omega
 case Ea=>have:=cS.out;omega
 case Eb=>simp
 intro v' w1 bG bW sC;have HB:Hid (Below w.heap.size w w1):=hid (((zan _ w).alloc (zap _) _).grown bW (by simp) (by intro k hk;simp[Value.ownBlock] at hk;omega));have hown':w1.ownsRow w.heap.size 130 1 v' l.length (l.map fun x=>Value.int .u64 (x:Nat)):=by simpa using bG
 obtain⟨g,cap,rfl,_,_⟩:=hown'.form Nm.out;have HO:Hid (qdb w1 w.heap.size g cap l):=hid ⟨HL.out,hown'⟩;clear bG bW sC hown';go_wp2_with fail;go_ret;exact⟨⟨_,_,rfl,HO.out⟩,HB.out⟩
theorem q32{B H rest b x r:Nat}(h2:H % b=rest)(hr:r=(rest*B+x) % b):(x+B*H) % b=r:=by
 have e:x+B*H=(rest*B+x)+b*(B*(H/b)):=by
  have:=Nat.div_add_mod H b;rw[h2] at this;rw[←this]
  have e2:(b*(H/b)+rest)/b=H/b:=by
   rw[this]
  rw[e2,Nat.mul_add,←Nat.mul_assoc b B,Nat.mul_comm b B,Nat.mul_assoc B b,Nat.mul_comm rest];omega
 rw[e,Nat.add_mul_mod_self_left,hr]
theorem qfu(v:Value)(m b:Nat)(w:World)(h:qap w v m)(hb:0<b)(Ah:b<B64):
  Calls Tryz.prog 117 #[v,.int .u64 b] w fun e w'=>e = .returned (.int .u64 (m % b:Nat))∧Below w.heap.size w w':=by
 obtain⟨l,p,c,rfl,hwds,tV,xZ,qJ⟩:=qgb h;clear xZ qJ;obtain⟨hl,p',c',he,bP,bK,aA⟩:=hwds;cases he
 have HL:=hid hl;have aX:=hid Ah;have jO:=hid tV;have Ja:l.length≤9223372036854775807:=by unfold maxLen at bK;omega
 clear h hl Ah bP bK tV;go_enter Tryz.func117,Tryz.ntmps117;go_wp2_with fail
 go_loopw [5,6] (fun r i wr=>∃k rest:Nat,k≤l.length∧i = .int .i64 ((k:Int)-1)∧r = .int .u64 rest∧Hid (qa6 B64 l k % b=rest)∧Hid (Below w.heap.size w wr)) (fun _ i _=>(intOf i+1).toNat)
 case atStart=>exact⟨l.length,0,zap _,rfl,rfl,hid (by rw[qc7 _ _ _ (zap _),Nat.zero_mod]),hid (zan _ _)⟩
 case round=>
  obtain⟨k,rest,hk,rfl,rfl,HR,HB⟩:=hrel;rcases k with _|j
  ·have HR':Hid (rest=m % b):=hid (by have:=HR.out;rw[high_zero,jO.out] at this;exact this.symm)
   go_wp2_with fail;go_ret;exact⟨by rw[HR'.out];rfl,HB.out⟩
  ·have e1:((j+1:Nat):Int)-1=(j:Int):=by omega
   simp only[e1]
   obtain⟨bb,o,rfl,aB⟩:∃b o,p=some ⟨b,o,none⟩∧qlx w b o l.length (wd l):=by
    rcases aA with h1|h1
    ·omega
    ·exact h1
   have aC:=aB j (by omega)
   have Jn:wr.cell? ⟨bb,o+j,none⟩=some (.int .u64 (l.getD j 0:Nat)):=by
    rw[HB.out.cell (p:=⟨bb,o+j,none⟩) (zaq w _ aC)];exact aC
   have fQ:rest<b:=by rw[←HR.out];exact Nat.mod_lt _ hb
   have fI:=qan (b:=B64) (by rw[qab];omega) HL.out j;have rG:=qbj B64 l j;have HD:=hid (fun w=>qkx rest (l.getD j 0) b fQ aX.out fI w);have HF:Hid (qa6 B64 l j % b=(rest*B64+l.getD j 0) % b):=hid (by rw[rG];exact q32 HR.out rfl);clear rG fI fQ aC aB HR;generalize (rest*B64+l.getD j 0)/b=q at *;generalize (rest*B64+l.getD j 0) % b=r at *;generalize l.getD j 0=x at *;go_wp2_with fail;refine(HD.out _).mono ?_;rintro e w2 ⟨rfl,n,mI⟩;have aR:Hid (Below w.heap.size w w2):=hid (by rw[mI];exact below_drewN HB.out n);clear mI HD Jn;go_wp2_with fail;go_roundw
   case rel=>exact⟨j,r,by omega,by go_num,rfl,HF,aR⟩
   case measure=>simp[intOf]
end Go.Proofs.YtclimablgihlhaaGreatDoor
