/- readDigits: the walk. -/
import Derived.Test.YtlkdlffhmakbgaaGreatDoorMWrite
import Derived.Test.YtlkdlffhmakbgaaGreatDoorMText
set_option linter.all false
namespace Go.Proofs.YtlkdlffhmakbgaaGreatDoor
open Go.RowKit
set_option maxRecDepth 100000
set_option maxHeartbeats 4000000
theorem q43{w:World}{base g cap:Nat}{l:List Nat}(h:w.ownsRow base 160 1 (.slice (some ⟨g,0,none⟩) l.length cap) l.length (uw l))(k:Nat)(hk:k<l.length):
  w.cell? ⟨g,k,none⟩=some (.int .u64 (l.getD k 0:Nat))∧w.frozen? ⟨g,k,none⟩=false:=
 ⟨by rw[h.cellAt k (by omega),q9i l k hk],h.frozenAt k⟩
theorem q1c{w:World}{base g cap:Nat}{l:List Nat}(h:w.ownsRow base 160 1 (.slice (some ⟨g,0,none⟩) l.length cap) l.length (uw l))(k x:Nat):
  (w.setCell ⟨g,k,none⟩ (.int .u64 (x:Nat))).ownsRow base 160 1 (.slice (some ⟨g,0,none⟩) (l.set k x).length cap) (l.set k x).length (uw (l.set k x)):=by
 rw[q9h,List.length_set];exact(h.stored k _).1
theorem qw5{w:World}{base g cap n:Nat}{xs:List Value}(h:w.ownsRow base 160 1 (.slice (some ⟨g,0,none⟩) n cap) n xs):base≤g∧g<w.heap.size:=h.lt g rfl
theorem q1d{w:World}{base n:Nat}{v:Value}{xs:List Value}(h:w.ownsRow base 160 1 v (n+1) xs):∃g cap,v = .slice (some ⟨g,0,none⟩) (n+1) cap:=by
 rcases h.2 with⟨_,h'⟩|⟨g',cap',cur,h',_⟩
 ·omega
 ·exact⟨g',cap',h'⟩
theorem q7i{w:World}{base g cap n:Nat}(h:w.ownsRow base 160 1 (.slice (some ⟨g,0,none⟩) (qan B64 n).length cap) (qan B64 n).length (uw (qan B64 n))):qa5 w (.slice (some ⟨g,0,none⟩) (qan B64 n).length cap) n:=
 (qg7 (qeh B64 n qal) h).wds
theorem qp2(s:BA)(w:World)(hd:∀c ∈ s.data.toList,isD c=true)(aQ:s.size≤Cap):
  Calls Tryz.prog 93 #[.string s] w fun e w'=>(∃v',e = .returned v'∧qa5 w' v' (qbd 0 s.data.toList))∧Below w.heap.size w w':=by
 have cQ:Hid (s.size≤1099511627776):=hid aQ;have HD:=hid hd;have hs63:s.size≤9223372036854775807:=by unfold Cap at aQ;omega
 obtain⟨i0,hi,cU,eE,eK⟩:=info_parts (show(Tryz.prog.info? 160).map (fun i=>(i.zero,i.size,i.bytes))=some (some (.int .u64 0),1,8) by kernel_rfl);have HI:=hid hi;have Fp:=hid cU;have De:=hid eE;have kW:=hid eK;obtain⟨wm,hmr,hmo,Lw⟩:=run_make_own (P:=Tryz.prog) w w.heap.size 85 160 i0 (.int .u64 0) 1 Tryz.underlying85 hi cU eE .i64 .i64 (s.size/19+1) (by rw[eK];unfold Cap at aQ;omega) (by unfold maxLen;omega) (qac _);have uM:=hid hmo;have rA:Hid (Below w.heap.size w wm):=hid ⟨Lw.os,Lw.tape,Lw.output,Lw.size,fun k hk=>Lw.block k hk (by simp)⟩;have hE:(s.size:Int)/19+1=((s.size/19+1:Nat):Int):=by omega
 rw[←hE] at hmr;clear hi cU eE eK hd aQ hmo Lw hE;go_enter Tryz.func93,Tryz.ntmps93;go_wp2_with fail;clear hmr;have bX:Hid (s.data.toList=s.data.toList.drop 0):=hid (by simp);have lI:∃c0,c0=s.size/19+1:=⟨_,rfl⟩
 go_loopw [0,3] (fun d a wr=>∃(k g cap:Nat) (t:BA),d = .string t∧a = .slice (some ⟨g,0,none⟩) (qan B64 (qbd 0 (s.data.toList.take k))).length cap∧k≤s.size∧Hid (t.data.toList=s.data.toList.drop k)∧Hid (k=0∨t.size % 19=0)∧Hid (wr.ownsRow w.heap.size 160 1 (.slice (some ⟨g,0,none⟩) (qan B64 (qbd 0 (s.data.toList.take k))).length cap) (qan B64 (qbd 0 (s.data.toList.take k))).length (uw (qan B64 (qbd 0 (s.data.toList.take k)))))∧Hid ((qan B64 (qbd 0 (s.data.toList.take k))).length≤k)∧Hid (Below w.heap.size w wr)) (fun d _ _=>match d with | .string t=>t.size|_=>0)
 case atStart=>exact⟨0,w.heap.size,_,s,rfl,by rw[List.take_zero,qhy,qat];rfl,Nat.zero_le _,bX,hid (.inl rfl),hid (by rw[List.take_zero,qhy,qat];exact uM.out),hid (by rw[List.take_zero,qhy,qat];exact qac _),rA⟩
 case round=>
  obtain⟨k,g,cap,t,rfl,rfl,pV,HT,gW,bL,HLK,eG⟩:=hrel;clear uM rA bX
  have pM:Hid (t.size=s.size-k):=hid (by
   have:=congrArg List.length HT.out
   simpa using this)
  by_cases jG:0<t.size
  ·obtain⟨n,hn⟩:∃n,n=(t.size-1) % 19+1:=⟨_,rfl⟩
   have hE:((t.size:Int)-1) % 19+1=(n:Int):=by omega
   have h0:1≤(t.size:Int):=by omega
   have h00:0≤(t.size:Int)-1:=by omega
   have h1:(t.size:Int)≤1099511627776:=by have:=cQ.out;have:=pM.out;omega
   have h2:n≤t.size:=by omega
   have h3:n≤19:=by omega
   have h4:1≤n:=by omega
   have fX:Hid ((t.extract n t.size).data.toList=s.data.toList.drop (k+n)):=hid (by
    rw[Lib.extract_data,HT.out,List.drop_drop,List.take_of_length_le];have:=pM.out;simp
    omega)
   have hJ:Hid ((t.extract 0 n).data.toList=(s.data.toList.drop k).take n):=hid (by rw[Lib.extract_from_zero,HT.out]);have hpd:∀c ∈ (s.data.toList.drop k).take n,isD c=true:=fun c hc=>HD.out c (List.mem_of_mem_drop (List.mem_of_mem_take hc))
   have nV:((s.data.toList.drop k).take n).length=n:=by
    have:=pM.out;simp;omega
   have Ps:=qft _ hpd
   have Fs:Hid (∀W,Calls Tryz.prog 141 #[.string (t.extract 0 n),.int .i64 10,.int .i64 64] W fun e w'=>e = .returned (.tuple #[.int .u64 (qbd 0 ((s.data.toList.drop k).take n):Nat),.nilIface])∧Below W.heap.size W w'):=hid fun W=>by
    have h:=q40 (t.extract 0 n) W (by rw[hJ.out];exact hpd) (by rw[hJ.out];intro e;rw[e] at nV;simp at nV;omega) (by rw[hJ.out,nV];exact h3);rw[hJ.out] at h;exact h
   have HV:Hid (qbd 0 (s.data.toList.take (k+n))=qbd 0 (s.data.toList.take k)*10000000000000000000+qbd 0 ((s.data.toList.drop k).take n)):=hid (by
    rw[List.take_add,qkl,qjo]
    congr 1
    rcases gW.out with e|e
    ·subst e;simp[qhy]
    ·have:n=19:=by omega
     rw[nV,this])
   have yC:Hid (qbd 0 ((s.data.toList.drop k).take n)<B64):=hid (by
    rw[nV] at Ps;have h5:10^n≤10^19:=Nat.pow_le_pow_right (by omega) h3;have h6:10^19=10000000000000000000:=by decide
    rw[qai]
    omega)
   have Fu:Hid (k+n=0∨(t.extract n t.size).size % 19=0):=hid (by
    have h5:(t.extract n t.size).size=t.size-n:=by
     have:=congrArg List.length fX.out;have:=pM.out;simp at *
    rw[h5]
    right
    omega)
   have Fd:Hid (k+n≤s.size):=hid (by have:=pM.out;omega)
   have nY:Hid ((t.extract n t.size).size<t.size):=hid (by
    have h5:(t.extract n t.size).size=t.size-n:=by
     have:=congrArg List.length fX.out;have:=pM.out;simp at *
    omega)
   have kQ:Hid ((qan B64 (qbd 0 (s.data.toList.take k))).length≤k):=HLK;clear hn hpd nV Ps hJ gW pM HT HLK pV h3;obtain⟨v,hv⟩:∃v,v=qbd 0 (s.data.toList.take k):=⟨_,rfl⟩;rw[←hv] at bL HV kQ ⊢;clear hv;generalize qbd 0 ((s.data.toList.drop k).take n)=p at *;obtain⟨l,hl⟩:∃l,l=qan B64 v:=⟨_,rfl⟩;have lF:=hid hl;rw[←hl] at bL kQ ⊢;have jE:Hid (∀d ∈ l,d<B64):=hid (by rw[hl];exact qeh B64 v qal);clear hl;have Hc:l.length≤1099511627776:=by have:=kQ.out;have:=Fd.out;have:=cQ.out;omega
   go_wp2_with fail;refine(Fs.out _).mono ?_;rintro e w1 ⟨rfl,hb⟩;have Fv:=hid (qs6 bL.out hb);have Pt:Hid (Below w.heap.size w w1):=hid (eG.out.trans (hb.mono eG.out.size));clear hb Fs bL eG;go_wp2_with fail
   go_loopw [5,31] (fun m i wq=>∃(j more:Nat) (S:List Nat),j≤l.length∧i = .int .i64 j∧m = .int .u64 more∧Hid (more<B64)∧Hid (S.length=l.length)∧Hid (∀d ∈ S,d<B64)∧Hid (∀q,j≤q→S.getD q 0=l.getD q 0)∧Hid (wq.ownsRow w.heap.size 160 1 (.slice (some ⟨g,0,none⟩) S.length cap) S.length (uw S))∧Hid (low B64 S j+B64^j*more=low B64 l j*10000000000000000000+p)∧Hid (Below w.heap.size w wq)) (fun _ i _=>l.length-(intOf i).toNat)
   case atStart=>exact⟨0,p,l,Nat.zero_le _,rfl,rfl,yC,hid rfl,jE,hid (fun _ _=>rfl),Fv,hid (by simp),Pt⟩
   case round=>
    obtain⟨j,more,S,hj,rfl,rfl,rA,aT,cP,aS,HR,uO,HB⟩:=hrel;clear Fv Pt;by_cases yD:j<l.length
    ·have hjS:j<S.length:=by rw[aT.out];exact yD
     obtain⟨hc,mJ⟩:=q43 HR.out j hjS;rw[aS.out j (qac _)] at hc;have eF:=qaz (b:=B64) (by rw[qai];omega) jE.out j;have eS:=qa0 B64 l j;have eQ:=fun x=>qb3 B64 S j x hjS;have lQ:Hid (∀(W:World) (x:Nat),W.ownsRow w.heap.size 160 1 (.slice (some ⟨g,0,none⟩) S.length cap) S.length (uw S)→(W.setCell ⟨g,j,none⟩ (.int .u64 (x:Nat))).ownsRow w.heap.size 160 1 (.slice (some ⟨g,0,none⟩) (S.set j x).length cap) (S.set j x).length (uw (S.set j x))):=hid fun W x h=>q1c h j x;have cE:Hid (∀x q,j+1≤q→(S.set j x).getD q 0=l.getD q 0):=hid fun x q hq=>by rw[qa6 _ _ _ _ (by omega)];exact aS.out q (by omega)
     have iK:=(qw5 HR.out).1;generalize l.getD j 0=x at *;have HM:Hid (∀w,Calls Tryz.prog 142 #[.int .u64 x,.int .u64 10000000000000000000,.int .u64 more] w fun e w'=>e = .returned (.tuple #[.int .u64 (qis x 10000000000000000000 more:Nat),.int .u64 (qit x 10000000000000000000 more:Nat)])∧w'=w):=hid fun w=>qcb x 10000000000000000000 more eF (by rw[qai];decide) rA.out w;have El:=qrb x 10000000000000000000 more;have fO:=qkg x 10000000000000000000 more;have Eo:=hid (qme eF (by rw[qai];decide:10000000000000000000<B64) rA.out);generalize qis x 10000000000000000000 more=lo at *;generalize qit x 10000000000000000000 more=hi at *
     have Dg:Hid (low B64 (S.set j lo) (j+1)+B64^(j+1)*hi=low B64 l (j+1)*10000000000000000000+p):=hid (by
      rw[eQ lo,eS,Nat.pow_succ]
      exact q7f uO.out El)
     have HSB2:Hid (∀d ∈ S.set j lo,d<B64):=hid (qc8 cP.out _ _ fO);have yV:Hid ((S.set j lo).length=l.length):=hid (by rw[List.length_set];exact aT.out);have cK:Hid ((wr.setCell ⟨g,j,none⟩ (.int .u64 (lo:Nat))).ownsRow w.heap.size 160 1 (.slice (some ⟨g,0,none⟩) (S.set j lo).length cap) (S.set j lo).length (uw (S.set j lo))):=hid (lQ.out _ _ HR.out);have aK:Hid (Below w.heap.size w (wr.setCell ⟨g,j,none⟩ (.int .u64 (lo:Nat)))):=hid (HB.out.setCell iK _);clear eQ eS El fO eF hjS uO cP aT aS lQ iK;go_wp2_with fail;refine(HM.out _).mono ?_;rintro e w' ⟨rfl,hw'⟩;rw[hw'];clear hw' HM;go_wp2_with fail;go_roundw
     case rel=>exact⟨j+1,hi,S.set j lo,by omega,by go_num,rfl,Eo,yV,HSB2,hid (cE.out lo),cK,Dg,aK⟩
     case measure=>simp[intOf];omega
    ·have hje:j=l.length:=by omega
     subst hje
     have pL:Hid (qan B64 (qbd 0 (s.data.toList.take (k+n)))=if 0<more then S++[more] else S):=hid (by
      rw[HV.out];refine q7g (l:=l) lF.out aT.out cP.out rA.out (by omega) ?_;have h:=uO.out;rw[qbi B64 S _ (by rw[aT.out];exact qac _),qbi B64 l _ (qac _)] at h
      rw[h,lF.out,qar _ _ qal])
     have oF:Hid (wr.ownsRow w.heap.size 160 1 (.slice (some ⟨g,0,none⟩) l.length cap) l.length (uw S)):=hid (by have:=HR.out;rwa [aT.out] at this);have iK:=(qw5 HR.out).1;have dK:=HB.out.size;clear HR uO aS HV jE cP rA lF;by_cases h0:0<more
     ·have h0':(0:Int)<(more:Int):=by omega
      have bY:Hid (qan B64 (qbd 0 (s.data.toList.take (k+n)))=S++[more]):=hid (by have:=pL.out;rwa [if_pos h0] at this);have xK:Hid ((qan B64 (qbd 0 (s.data.toList.take (k+n)))).length=l.length+1):=hid (by rw[bY.out,List.length_append,aT.out];rfl);clear pL h0;go_wp2_with (at_builtin;refine wpList_append_own _ rfl _ _ 85 rfl w.heap.size 160 i0 (.int .u64 0) 1 8 Tryz.underlying85 HI.out Fp.out De.out kW.out rfl (by decide) _ _ _ rfl (oF.out.alloc _) ⟨wr.heap.size,0,none⟩ 1 1 [.int .u64 (more:Nat)] rfl rfl ?c1 ?c2 ?c3 ?c4 ?c5 ?_)
      case c1=>exact qna _ _ _
      case c2=>intro u hu;rw[List.mem_singleton.1 hu];rfl
      case c3=>unfold maxLen;omega
      case c4=>omega
      case c5=>rw[qab];omega
      intro v' w9 aU bN _;obtain⟨g',cap',rfl⟩:=q1d aU;have Pv:=hid aU;have oI:Hid (Below w.heap.size w w9):=hid ((HB.out.alloc dK _).grown bN (by rw[qab];omega) (by intro q hq;simp[Value.ownBlock] at hq;omega));clear aU bN oF HB iK dK h0';go_wp2_with fail;go_roundw
      case rel=>exact⟨k+n,g',cap',_,rfl,by rw[xK.out],Fd.out,fX,Fu,hid (by rw[xK.out,bY.out,q7e];exact Pv.out),hid (by rw[xK.out];have:=kQ.out;omega),oI⟩
      case measure=>exact nY.out
     ·have h0':¬(0:Int)<(more:Int):=by omega
      have bY:Hid (qan B64 (qbd 0 (s.data.toList.take (k+n)))=S):=hid (by have:=pL.out;rwa [if_neg h0] at this);have xK:Hid ((qan B64 (qbd 0 (s.data.toList.take (k+n)))).length=l.length):=hid (by rw[bY.out,aT.out]);clear pL h0 iK dK;go_wp2_with fail;go_roundw
      case rel=>exact⟨k+n,g,cap,_,rfl,by rw[xK.out],Fd.out,fX,Fu,hid (by rw[xK.out,bY.out];exact oF.out),hid (by rw[xK.out];have:=kQ.out;omega),HB⟩
      case measure=>exact nY.out
  ·have ht0':t.size=0:=by omega
   have hk:k=s.size:=by have:=pM.out;omega
   have HF:Hid (qa5 wr (.slice (some ⟨g,0,none⟩) (qan B64 (qbd 0 (s.data.toList.take k))).length cap) (qbd 0 s.data.toList)):=hid (by
    have h:=q7i bL.out;have e:s.data.toList.take k=s.data.toList:=by rw[hk];exact List.take_of_length_le (by simp)
    rw[e] at h ⊢
    exact h)
   clear hk;generalize (qan B64 (qbd 0 (s.data.toList.take k))).length=n at *;go_wp2_with fail;go_ret;exact⟨⟨_,rfl,HF.out⟩,eG.out⟩
def GW(w:World):Prop:=0<w.heap.size∧∃m:Int,w.cell? ⟨0,0,none⟩=some (.int .i64 m)
theorem GW.later{w w':World}(h:GW w)(hb:Below w.heap.size w w'):GW w':=by
 obtain⟨h0,m,hm⟩:=h;refine⟨Nat.lt_of_lt_of_le h0 hb.size,m, ?_⟩;rw[hb.cell (qae w _ hm)];exact hm
def qcz(s:List UInt8):Bool × List UInt8 × List UInt8:=
 (Lib.hasPrefix s [45],(Lib.cut (Lib.trimPrefix s [45]) [47]).1,if(Lib.cut (Lib.trimPrefix s [45]) [47]).2.2 then(Lib.cut (Lib.trimPrefix s [45]) [47]).2.1 else[49])
def qf1(s:List UInt8):Option Rat:=
 if qj7 (qcz s).2.1&&qj7 (qcz s).2.2&&decide (qbd 0 (qcz s).2.2≠0) then
  some ((((if(qcz s).1 then -(qbd 0 (qcz s).2.1:Int) else(qbd 0 (qcz s).2.1:Int)):Int):Rat)/((qbd 0 (qcz s).2.2:Int):Rat))
 else none
def q1e(r:Option Rat)(w:World)(e:Ending)(w':World):Prop:=
 (match r with
  | some q=>∃v',e = .returned (.tuple #[v',.bool true])∧qau w' v' q
  | none=>e = .returned (.tuple #[.agg #[.bool false,.slice none 0 0,.slice none 0 0],.bool false]))∧Below w.heap.size w w'
theorem qe7{w w':World}{e:Ending}{r:Option Rat}(hr:r=none)(he:e = .returned (.tuple #[.agg #[.bool false,.slice none 0 0,.slice none 0 0],.bool false]))(hb:Below w.heap.size w w'):q1e r w e w':=by
 subst hr;exact⟨he,hb⟩
theorem qov{w w':World}{e:Ending}{r:Option Rat}{q:Rat}{v':Value}(hr:r=some q)(he:e = .returned (.tuple #[v',.bool true]))(hv:qau w' v' q)(hb:Below w.heap.size w w'):q1e r w e w':=by
 subst hr;exact⟨⟨v',he,hv⟩,hb⟩
theorem qmn(l:List UInt8)(h:∀c ∈ l,isD c=true):wl (qbd 0 l)≤l.length:=by
 refine qce qal ?_;exact Nat.lt_of_lt_of_le (qft l h) (Nat.pow_le_pow_left (by rw[qai];omega) _)
theorem qmo(s sep:List UInt8):(Lib.cut s sep).1.length≤s.length∧(Lib.cut s sep).2.1.length≤s.length:=by
 unfold Lib.cut;split<;>simp<;>omega
theorem qhc(s p:List UInt8):(Lib.trimPrefix s p).length≤s.length:=by
 unfold Lib.trimPrefix;split<;>simp
end Go.Proofs.YtlkdlffhmakbgaaGreatDoor
