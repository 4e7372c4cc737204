/- readDigits: the walk. -/
import Derived.Test.YtmcfcpgglfimjaaGreatDoorMWrite
import Derived.Test.YtmcfcpgglfimjaaGreatDoorMText
set_option linter.all false
namespace Go.Proofs.YtmcfcpgglfimjaaGreatDoor
open Go.RowKit
set_option maxRecDepth 100000
set_option maxHeartbeats 4000000
theorem q5c{w:World}{base g cap:Nat}{l:List Nat}(h:w.ownsRow base 155 1 (.slice (some ⟨g,0,none⟩) l.length cap) l.length (uw l))(k:Nat)(hk:k<l.length):
  w.cell? ⟨g,k,none⟩=some (.int .u64 (l.getD k 0:Nat))∧w.frozen? ⟨g,k,none⟩=false:=
 ⟨by rw[h.cellAt k (by omega),q9l l k hk],h.frozenAt k⟩
theorem q1f{w:World}{base g cap:Nat}{l:List Nat}(h:w.ownsRow base 155 1 (.slice (some ⟨g,0,none⟩) l.length cap) l.length (uw l))(k x:Nat):
  (w.setCell ⟨g,k,none⟩ (.int .u64 (x:Nat))).ownsRow base 155 1 (.slice (some ⟨g,0,none⟩) (l.set k x).length cap) (l.set k x).length (uw (l.set k x)):=by
 rw[q9k,List.length_set];exact(h.stored k _).1
theorem qw8{w:World}{base g cap n:Nat}{xs:List Value}(h:w.ownsRow base 155 1 (.slice (some ⟨g,0,none⟩) n cap) n xs):base≤g∧g<w.heap.size:=h.lt g rfl
theorem q1g{w:World}{base n:Nat}{v:Value}{xs:List Value}(h:w.ownsRow base 155 1 v (n+1) xs):∃g cap,v = .slice (some ⟨g,0,none⟩) (n+1) cap:=by
 rcases h.2 with⟨_,h'⟩|⟨g',cap',cur,h',_⟩
 ·omega
 ·exact⟨g',cap',h'⟩
theorem q7r{w:World}{base g cap n:Nat}(h:w.ownsRow base 155 1 (.slice (some ⟨g,0,none⟩) (qao B64 n).length cap) (qao B64 n).length (uw (qao B64 n))):qa2 w (.slice (some ⟨g,0,none⟩) (qao B64 n).length cap) n:=
 (qhb (qed B64 n qam) h).wds
theorem qp2(s:BA)(w:World)(hd:∀c ∈ s.data.toList,isD c=true)(aQ:s.size≤Cap):
  Calls Tryz.prog 84 #[.string s] w fun e w'=>(∃v',e = .returned v'∧qa2 w' v' (qbb 0 s.data.toList))∧Below w.heap.size w w':=by
 have cM:Hid (s.size≤1099511627776):=hid aQ;have HD:=hid hd;have hs63:s.size≤9223372036854775807:=by unfold Cap at aQ;omega
 obtain⟨i0,hi,cP,dV,eF⟩:=info_parts (show(Tryz.prog.info? 155).map (fun i=>(i.zero,i.size,i.bytes))=some (some (.int .u64 0),1,8) by kernel_rfl);have HI:=hid hi;have Df:=hid cP;have Bd:=hid dV;have kG:=hid eF;obtain⟨wm,hmr,hmo,Kq⟩:=run_make_own (P:=Tryz.prog) w w.heap.size 83 155 i0 (.int .u64 0) 1 Tryz.underlying83 hi cP dV .i64 .i64 (s.size/19+1) (by rw[eF];unfold Cap at aQ;omega) (by unfold maxLen;omega) (qac _);have Bf:=hid hmo;have qG:Hid (Below w.heap.size w wm):=hid ⟨Kq.os,Kq.tape,Kq.output,Kq.size,fun k hk=>Kq.block k hk (by simp)⟩;have hE:(s.size:Int)/19+1=((s.size/19+1:Nat):Int):=by omega
 rw[←hE] at hmr;clear hi cP dV eF hd aQ hmo Kq hE;go_enter Tryz.func84,Tryz.ntmps84;go_wp2_with fail;clear hmr;have cF:Hid (s.data.toList=s.data.toList.drop 0):=hid (by simp);have kS:∃c0,c0=s.size/19+1:=⟨_,rfl⟩
 go_loopw [0,3] (fun d a wr=>∃(k g cap:Nat) (t:BA),d = .string t∧a = .slice (some ⟨g,0,none⟩) (qao B64 (qbb 0 (s.data.toList.take k))).length cap∧k≤s.size∧Hid (t.data.toList=s.data.toList.drop k)∧Hid (k=0∨t.size % 19=0)∧Hid (wr.ownsRow w.heap.size 155 1 (.slice (some ⟨g,0,none⟩) (qao B64 (qbb 0 (s.data.toList.take k))).length cap) (qao B64 (qbb 0 (s.data.toList.take k))).length (uw (qao B64 (qbb 0 (s.data.toList.take k)))))∧Hid ((qao B64 (qbb 0 (s.data.toList.take k))).length≤k)∧Hid (Below w.heap.size w wr)) (fun d _ _=>match d with | .string t=>t.size|_=>0)
 case atStart=>exact⟨0,w.heap.size,_,s,rfl,by rw[List.take_zero,qhw,qau];rfl,Nat.zero_le _,cF,hid (.inl rfl),hid (by rw[List.take_zero,qhw,qau];exact Bf.out),hid (by rw[List.take_zero,qhw,qau];exact qac _),qG⟩
 case round=>
  obtain⟨k,g,cap,t,rfl,rfl,oT,HT,gL,bP,HLK,dW⟩:=hrel;clear Bf qG cF
  have oI:Hid (t.size=s.size-k):=hid (by
   have:=congrArg List.length HT.out
   simpa using this)
  by_cases iT:0<t.size
  ·obtain⟨n,hn⟩:∃n,n=(t.size-1) % 19+1:=⟨_,rfl⟩
   have hE:((t.size:Int)-1) % 19+1=(n:Int):=by omega
   have h0:1≤(t.size:Int):=by omega
   have h00:0≤(t.size:Int)-1:=by omega
   have h1:(t.size:Int)≤1099511627776:=by have:=cM.out;have:=oI.out;omega
   have h2:n≤t.size:=by omega
   have h3:n≤19:=by omega
   have h4:1≤n:=by omega
   have iB:Hid ((t.extract n t.size).data.toList=s.data.toList.drop (k+n)):=hid (by
    rw[Lib.extract_data,HT.out,List.drop_drop,List.take_of_length_le];have:=oI.out;simp
    omega)
   have iA:Hid ((t.extract 0 n).data.toList=(s.data.toList.drop k).take n):=hid (by rw[Lib.extract_from_zero,HT.out]);have hpd:∀c ∈ (s.data.toList.drop k).take n,isD c=true:=fun c hc=>HD.out c (List.mem_of_mem_drop (List.mem_of_mem_take hc))
   have nG:((s.data.toList.drop k).take n).length=n:=by
    have:=oI.out;simp;omega
   have Om:=qfq _ hpd
   have Ei:Hid (∀W,Calls Tryz.prog 133 #[.string (t.extract 0 n),.int .i64 10,.int .i64 64] W fun e w'=>e = .returned (.tuple #[.int .u64 (qbb 0 ((s.data.toList.drop k).take n):Nat),.nilIface])∧Below W.heap.size W w'):=hid fun W=>by
    have h:=q41 (t.extract 0 n) W (by rw[iA.out];exact hpd) (by rw[iA.out];intro e;rw[e] at nG;simp at nG;omega) (by rw[iA.out,nG];exact h3);rw[iA.out] at h;exact h
   have HV:Hid (qbb 0 (s.data.toList.take (k+n))=qbb 0 (s.data.toList.take k)*10000000000000000000+qbb 0 ((s.data.toList.drop k).take n)):=hid (by
    rw[List.take_add,qki,qjq]
    congr 1
    rcases gL.out with e|e
    ·subst e;simp[qhw]
    ·have:n=19:=by omega
     rw[nG,this])
   have xE:Hid (qbb 0 ((s.data.toList.drop k).take n)<B64):=hid (by
    rw[nG] at Om;have h5:10^n≤10^19:=Nat.pow_le_pow_right (by omega) h3;have h6:10^19=10000000000000000000:=by decide
    rw[qaj]
    omega)
   have Ej:Hid (k+n=0∨(t.extract n t.size).size % 19=0):=hid (by
    have h5:(t.extract n t.size).size=t.size-n:=by
     have:=congrArg List.length iB.out;have:=oI.out;simp at *
    rw[h5]
    right
    omega)
   have Dy:Hid (k+n≤s.size):=hid (by have:=oI.out;omega)
   have nI:Hid ((t.extract n t.size).size<t.size):=hid (by
    have h5:(t.extract n t.size).size=t.size-n:=by
     have:=congrArg List.length iB.out;have:=oI.out;simp at *
    omega)
   have mO:Hid ((qao B64 (qbb 0 (s.data.toList.take k))).length≤k):=HLK;clear hn hpd nG Om iA gL oI HT HLK oT h3;obtain⟨v,hv⟩:∃v,v=qbb 0 (s.data.toList.take k):=⟨_,rfl⟩;rw[←hv] at bP HV mO ⊢;clear hv;generalize qbb 0 ((s.data.toList.drop k).take n)=p at *;obtain⟨l,hl⟩:∃l,l=qao B64 v:=⟨_,rfl⟩;have kQ:=hid hl;rw[←hl] at bP mO ⊢;have iQ:Hid (∀d ∈ l,d<B64):=hid (by rw[hl];exact qed B64 v qam);clear hl;have Fy:l.length≤1099511627776:=by have:=mO.out;have:=Dy.out;have:=cM.out;omega
   go_wp2_with fail;refine(Ei.out _).mono ?_;rintro e w1 ⟨rfl,hb⟩;have Ek:=hid (q0y bP.out hb);have On:Hid (Below w.heap.size w w1):=hid (dW.out.trans (hb.mono dW.out.size));clear hb Ei bP dW;go_wp2_with fail
   go_loopw [5,31] (fun m i wq=>∃(j more:Nat) (S:List Nat),j≤l.length∧i = .int .i64 j∧m = .int .u64 more∧Hid (more<B64)∧Hid (S.length=l.length)∧Hid (∀d ∈ S,d<B64)∧Hid (∀q,j≤q→S.getD q 0=l.getD q 0)∧Hid (wq.ownsRow w.heap.size 155 1 (.slice (some ⟨g,0,none⟩) S.length cap) S.length (uw S))∧Hid (low B64 S j+B64^j*more=low B64 l j*10000000000000000000+p)∧Hid (Below w.heap.size w wq)) (fun _ i _=>l.length-(intOf i).toNat)
   case atStart=>exact⟨0,p,l,Nat.zero_le _,rfl,rfl,xE,hid rfl,iQ,hid (fun _ _=>rfl),Ek,hid (by simp),On⟩
   case round=>
    obtain⟨j,more,S,hj,rfl,rfl,qG,aU,cL,aS,HR,tX,HB⟩:=hrel;clear Ek On;by_cases xF:j<l.length
    ·have hjS:j<S.length:=by rw[aU.out];exact xF
     obtain⟨hc,lO⟩:=q5c HR.out j hjS;rw[aS.out j (qac _)] at hc;have eP:=qaz (b:=B64) (by rw[qaj];omega) iQ.out j;have eQ:=qa0 B64 l j;have eN:=fun x=>qb2 B64 S j x hjS;have mW:Hid (∀(W:World) (x:Nat),W.ownsRow w.heap.size 155 1 (.slice (some ⟨g,0,none⟩) S.length cap) S.length (uw S)→(W.setCell ⟨g,j,none⟩ (.int .u64 (x:Nat))).ownsRow w.heap.size 155 1 (.slice (some ⟨g,0,none⟩) (S.set j x).length cap) (S.set j x).length (uw (S.set j x))):=hid fun W x h=>q1f h j x;have bW:Hid (∀x q,j+1≤q→(S.set j x).getD q 0=l.getD q 0):=hid fun x q hq=>by rw[qa3 _ _ _ _ (by omega)];exact aS.out q (by omega)
     have hU:=(qw8 HR.out).1;generalize l.getD j 0=x at *;have HM:Hid (∀w,Calls Tryz.prog 134 #[.int .u64 x,.int .u64 10000000000000000000,.int .u64 more] w fun e w'=>e = .returned (.tuple #[.int .u64 (qit x 10000000000000000000 more:Nat),.int .u64 (qiu x 10000000000000000000 more:Nat)])∧w'=w):=hid fun w=>qcb x 10000000000000000000 more eP (by rw[qaj];decide) qG.out w;have Cz:=qq6 x 10000000000000000000 more;have fH:=qkf x 10000000000000000000 more;have Di:=hid (ql7 eP (by rw[qaj];decide:10000000000000000000<B64) qG.out);generalize qit x 10000000000000000000 more=lo at *;generalize qiu x 10000000000000000000 more=hi at *
     have Bw:Hid (low B64 (S.set j lo) (j+1)+B64^(j+1)*hi=low B64 l (j+1)*10000000000000000000+p):=hid (by
      rw[eN lo,eQ,Nat.pow_succ]
      exact q7l tX.out Cz)
     have HSB2:Hid (∀d ∈ S.set j lo,d<B64):=hid (qc7 cL.out _ _ fH);have xX:Hid ((S.set j lo).length=l.length):=hid (by rw[List.length_set];exact aU.out);have cN:Hid ((wr.setCell ⟨g,j,none⟩ (.int .u64 (lo:Nat))).ownsRow w.heap.size 155 1 (.slice (some ⟨g,0,none⟩) (S.set j lo).length cap) (S.set j lo).length (uw (S.set j lo))):=hid (mW.out _ _ HR.out);have aK:Hid (Below w.heap.size w (wr.setCell ⟨g,j,none⟩ (.int .u64 (lo:Nat)))):=hid (HB.out.setCell hU _);clear eN eQ Cz fH eP hjS tX cL aU aS mW hU;go_wp2_with fail;refine(HM.out _).mono ?_;rintro e w' ⟨rfl,hw'⟩;rw[hw'];clear hw' HM;go_wp2_with fail;go_roundw
     case rel=>exact⟨j+1,hi,S.set j lo,by omega,by go_num,rfl,Di,xX,HSB2,hid (bW.out lo),cN,Bw,aK⟩
     case measure=>simp[intOf];omega
    ·have hje:j=l.length:=by omega
     subst hje
     have oJ:Hid (qao B64 (qbb 0 (s.data.toList.take (k+n)))=if 0<more then S++[more] else S):=hid (by
      rw[HV.out];refine q7m (l:=l) kQ.out aU.out cL.out qG.out (by omega) ?_;have h:=tX.out;rw[qbf B64 S _ (by rw[aU.out];exact qac _),qbf B64 l _ (qac _)] at h
      rw[h,kQ.out,qar _ _ qam])
     have nQ:Hid (wr.ownsRow w.heap.size 155 1 (.slice (some ⟨g,0,none⟩) l.length cap) l.length (uw S)):=hid (by have:=HR.out;rwa [aU.out] at this);have hU:=(qw8 HR.out).1;have dG:=HB.out.size;clear HR tX aS HV iQ cL qG kQ;by_cases h0:0<more
     ·have h0':(0:Int)<(more:Int):=by omega
      have bV:Hid (qao B64 (qbb 0 (s.data.toList.take (k+n)))=S++[more]):=hid (by have:=oJ.out;rwa [if_pos h0] at this);have uW:Hid ((qao B64 (qbb 0 (s.data.toList.take (k+n)))).length=l.length+1):=hid (by rw[bV.out,List.length_append,aU.out];rfl);clear oJ h0;go_wp2_with (at_builtin;refine wpList_append_own _ rfl _ _ 83 rfl w.heap.size 155 i0 (.int .u64 0) 1 8 Tryz.underlying83 HI.out Df.out Bd.out kG.out rfl (by decide) _ _ _ rfl (nQ.out.alloc _) ⟨wr.heap.size,0,none⟩ 1 1 [.int .u64 (more:Nat)] rfl rfl ?c1 ?c2 ?c3 ?c4 ?c5 ?_)
      case c1=>exact qm7 _ _ _
      case c2=>intro u hu;rw[List.mem_singleton.1 hu];rfl
      case c3=>unfold maxLen;omega
      case c4=>omega
      case c5=>rw[qab];omega
      intro v' w9 aT bK _;obtain⟨g',cap',rfl⟩:=q1g aT;have Oo:=hid aT;have nM:Hid (Below w.heap.size w w9):=hid ((HB.out.alloc dG _).grown bK (by rw[qab];omega) (by intro q hq;simp[Value.ownBlock] at hq;omega));clear aT bK nQ HB hU dG h0';go_wp2_with fail;go_roundw
      case rel=>exact⟨k+n,g',cap',_,rfl,by rw[uW.out],Dy.out,iB,Ej,hid (by rw[uW.out,bV.out,q7k];exact Oo.out),hid (by rw[uW.out];have:=mO.out;omega),nM⟩
      case measure=>exact nI.out
     ·have h0':¬(0:Int)<(more:Int):=by omega
      have bV:Hid (qao B64 (qbb 0 (s.data.toList.take (k+n)))=S):=hid (by have:=oJ.out;rwa [if_neg h0] at this);have uW:Hid ((qao B64 (qbb 0 (s.data.toList.take (k+n)))).length=l.length):=hid (by rw[bV.out,aU.out]);clear oJ h0 hU dG;go_wp2_with fail;go_roundw
      case rel=>exact⟨k+n,g,cap,_,rfl,by rw[uW.out],Dy.out,iB,Ej,hid (by rw[uW.out,bV.out];exact nQ.out),hid (by rw[uW.out];have:=mO.out;omega),HB⟩
      case measure=>exact nI.out
  ·have ht0':t.size=0:=by omega
   have hk:k=s.size:=by have:=oI.out;omega
   have HF:Hid (qa2 wr (.slice (some ⟨g,0,none⟩) (qao B64 (qbb 0 (s.data.toList.take k))).length cap) (qbb 0 s.data.toList)):=hid (by
    have h:=q7r bP.out;have e:s.data.toList.take k=s.data.toList:=by rw[hk];exact List.take_of_length_le (by simp)
    rw[e] at h ⊢
    exact h)
   clear hk;generalize (qao B64 (qbb 0 (s.data.toList.take k))).length=n at *;go_wp2_with fail;go_ret;exact⟨⟨_,rfl,HF.out⟩,dW.out⟩
def GW(w:World):Prop:=0<w.heap.size∧∃m:Int,w.cell? ⟨0,0,none⟩=some (.int .i64 m)
theorem GW.later{w w':World}(h:GW w)(hb:Below w.heap.size w w'):GW w':=by
 obtain⟨h0,m,hm⟩:=h;refine⟨Nat.lt_of_lt_of_le h0 hb.size,m, ?_⟩;rw[hb.cell (qaf w _ hm)];exact hm
def qcy(s:List UInt8):Bool × List UInt8 × List UInt8:=
 (Lib.hasPrefix s [45],(Lib.cut (Lib.trimPrefix s [45]) [47]).1,if(Lib.cut (Lib.trimPrefix s [45]) [47]).2.2 then(Lib.cut (Lib.trimPrefix s [45]) [47]).2.1 else[49])
def qf1(s:List UInt8):Option Rat:=
 if qj8 (qcy s).2.1&&qj8 (qcy s).2.2&&decide (qbb 0 (qcy s).2.2≠0) then
  some ((((if(qcy s).1 then -(qbb 0 (qcy s).2.1:Int) else(qbb 0 (qcy s).2.1:Int)):Int):Rat)/((qbb 0 (qcy s).2.2:Int):Rat))
 else none
def q1h(r:Option Rat)(w:World)(e:Ending)(w':World):Prop:=
 (match r with
  | some q=>∃v',e = .returned (.tuple #[v',.bool true])∧qaw w' v' q
  | none=>e = .returned (.tuple #[.agg #[.bool false,.slice none 0 0,.slice none 0 0],.bool false]))∧Below w.heap.size w w'
theorem qe4{w w':World}{e:Ending}{r:Option Rat}(hr:r=none)(he:e = .returned (.tuple #[.agg #[.bool false,.slice none 0 0,.slice none 0 0],.bool false]))(hb:Below w.heap.size w w'):q1h r w e w':=by
 subst hr;exact⟨he,hb⟩
theorem qoo{w w':World}{e:Ending}{r:Option Rat}{q:Rat}{v':Value}(hr:r=some q)(he:e = .returned (.tuple #[v',.bool true]))(hv:qaw w' v' q)(hb:Below w.heap.size w w'):q1h r w e w':=by
 subst hr;exact⟨⟨v',he,hv⟩,hb⟩
theorem qmg(l:List UInt8)(h:∀c ∈ l,isD c=true):wl (qbb 0 l)≤l.length:=by
 refine qcf qam ?_;exact Nat.lt_of_lt_of_le (qfq l h) (Nat.pow_le_pow_left (by rw[qaj];omega) _)
theorem qmh(s sep:List UInt8):(Lib.cut s sep).1.length≤s.length∧(Lib.cut s sep).2.1.length≤s.length:=by
 unfold Lib.cut;split<;>simp<;>omega
theorem qhg(s p:List UInt8):(Lib.trimPrefix s p).length≤s.length:=by
 unfold Lib.trimPrefix;split<;>simp
end Go.Proofs.YtmcfcpgglfimjaaGreatDoor
