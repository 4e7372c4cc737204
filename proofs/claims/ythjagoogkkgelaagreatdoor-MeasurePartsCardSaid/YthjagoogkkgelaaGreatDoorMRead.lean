/- readDigits: the walk. -/
import Derived.Test.YthjagoogkkgelaaGreatDoorMWrite
import Derived.Test.YthjagoogkkgelaaGreatDoorMText
set_option linter.all false
namespace Go.Proofs.YthjagoogkkgelaaGreatDoor
open Go.RowKit
set_option maxRecDepth 100000
set_option maxHeartbeats 4000000
theorem q5z{w:World}{base g cap:Nat}{l:List Nat}(h:w.ownsRow base 136 1 (.slice (some ⟨g,0,none⟩) l.length cap) l.length (uw l))(k:Nat)(hk:k<l.length):
  w.cell? ⟨g,k,none⟩=some (.int .u64 (l.getD k 0:Nat))∧w.frozen? ⟨g,k,none⟩=false:=
 ⟨by rw[h.cellAt k (by omega),zax l k hk],h.frozenAt k⟩
theorem q15{w:World}{base g cap:Nat}{l:List Nat}(h:w.ownsRow base 136 1 (.slice (some ⟨g,0,none⟩) l.length cap) l.length (uw l))(k x:Nat):
  (w.setCell ⟨g,k,none⟩ (.int .u64 (x:Nat))).ownsRow base 136 1 (.slice (some ⟨g,0,none⟩) (l.set k x).length cap) (l.set k x).length (uw (l.set k x)):=by
 rw[zaw,List.length_set];exact(h.stored k _).1
theorem qxz{w:World}{base g cap n:Nat}{xs:List Value}(h:w.ownsRow base 136 1 (.slice (some ⟨g,0,none⟩) n cap) n xs):base≤g∧g<w.heap.size:=h.lt g rfl
theorem q16{w:World}{base n:Nat}{v:Value}{xs:List Value}(h:w.ownsRow base 136 1 v (n+1) xs):∃g cap,v = .slice (some ⟨g,0,none⟩) (n+1) cap:=by
 rcases h.2 with⟨_,h'⟩|⟨g',cap',cur,h',_⟩
 ·omega
 ·exact⟨g',cap',h'⟩
theorem q8z{w:World}{base g cap n:Nat}(h:w.ownsRow base 136 1 (.slice (some ⟨g,0,none⟩) (qaf B64 n).length cap) (qaf B64 n).length (uw (qaf B64 n))):qaq w (.slice (some ⟨g,0,none⟩) (qaf B64 n).length cap) n:=
 (qho (qee B64 n qae) h).wds
theorem qqn(s:ByteArray)(w:World)(hd:∀c ∈ s.data.toList,isD c=true)(hcap:s.size≤Cap):
  Calls Tryz.prog 96 #[.string s] w fun e w'=>(∃v',e = .returned v'∧qaq w' v' (qa0 0 s.data.toList))∧Below w.heap.size w w':=by
 have HCAP:Hid (s.size≤1099511627776):=hid hcap;have HD:=hid hd;have hs63:s.size≤9223372036854775807:=by unfold Cap at hcap;omega
 obtain⟨i0,hi,hz0,hz1,hz2⟩:=info_parts (show(Tryz.prog.info? 136).map (fun i=>(i.zero,i.size,i.bytes))=some (some (.int .u64 0),1,8) by kernel_rfl);have HI:=hid hi;have HZ0:=hid hz0;have HZ1:=hid hz1;have HZ2:=hid hz2;obtain⟨wm,hmr,hmo,hmg⟩:=run_make_own (P:=Tryz.prog) w w.heap.size 78 136 i0 (.int .u64 0) 1 Tryz.underlying78 hi hz0 hz1 .i64 .i64 (s.size/19+1) (by rw[hz2];unfold Cap at hcap;omega) (by unfold maxLen;omega) (Nat.le_refl _);have HMO:=hid hmo;have HMB:Hid (Below w.heap.size w wm):=hid ⟨hmg.os,hmg.tape,hmg.output,hmg.size,fun k hk=>hmg.block k hk (by simp)⟩;have hE:(s.size:Int)/19+1=((s.size/19+1:Nat):Int):=by omega
 rw[←hE] at hmr;clear hi hz0 hz1 hz2 hd hcap hmo hmg hE;go_enter Tryz.func96,Tryz.ntmps96;go_wp2_with fail;clear hmr;have HT0:Hid (s.data.toList=s.data.toList.drop 0):=hid (by simp);have HC0:∃c0,c0=s.size/19+1:=⟨_,rfl⟩
 go_loopw [0,3] (fun d a wr=>∃(k g cap:Nat) (t:ByteArray),d = .string t∧a = .slice (some ⟨g,0,none⟩) (qaf B64 (qa0 0 (s.data.toList.take k))).length cap∧k≤s.size∧Hid (t.data.toList=s.data.toList.drop k)∧Hid (k=0∨t.size % 19=0)∧Hid (wr.ownsRow w.heap.size 136 1 (.slice (some ⟨g,0,none⟩) (qaf B64 (qa0 0 (s.data.toList.take k))).length cap) (qaf B64 (qa0 0 (s.data.toList.take k))).length (uw (qaf B64 (qa0 0 (s.data.toList.take k)))))∧Hid ((qaf B64 (qa0 0 (s.data.toList.take k))).length≤k)∧Hid (Below w.heap.size w wr)) (fun d _ _=>match d with | .string t=>t.size|_=>0)
 case atStart=>exact⟨0,w.heap.size,_,s,rfl,by rw[List.take_zero,qic,qam];rfl,Nat.zero_le _,HT0,hid (.inl rfl),hid (by rw[List.take_zero,qic,qam];exact HMO.out),hid (by rw[List.take_zero,qic,qam];exact Nat.le_refl _),HMB⟩
 case round=>
  obtain⟨k,g,cap,t,rfl,rfl,hks,HT,HMOD,HROW,HLK,HBL⟩:=hrel;clear HMO HMB HT0
  have HTS:Hid (t.size=s.size-k):=hid (by
   have:=congrArg List.length HT.out
   simpa using this)
  by_cases ht0:0<t.size
  ·obtain⟨n,hn⟩:∃n,n=(t.size-1) % 19+1:=⟨_,rfl⟩
   have hE:((t.size:Int)-1) % 19+1=(n:Int):=by omega
   have h0:1≤(t.size:Int):=by omega
   have h00:0≤(t.size:Int)-1:=by omega
   have h1:(t.size:Int)≤1099511627776:=by have:=HCAP.out;have:=HTS.out;omega
   have h2:n≤t.size:=by omega
   have h3:n≤19:=by omega
   have h4:1≤n:=by omega
   have HTN:Hid ((t.extract n t.size).data.toList=s.data.toList.drop (k+n)):=hid (by
    rw[Lib.extract_data,HT.out,List.drop_drop,List.take_of_length_le];have:=HTS.out;simp
    omega)
   have HPL:Hid ((t.extract 0 n).data.toList=(s.data.toList.drop k).take n):=hid (by rw[Lib.extract_from_zero,HT.out]);have hpd:∀c ∈ (s.data.toList.drop k).take n,isD c=true:=fun c hc=>HD.out c (List.mem_of_mem_drop (List.mem_of_mem_take hc))
   have hpl:((s.data.toList.drop k).take n).length=n:=by
    have:=HTS.out;simp;omega
   have hplt:=qfz _ hpd
   have HPART:Hid (∀W,Calls Tryz.prog 153 #[.string (t.extract 0 n),.int .i64 10,.int .i64 64] W fun e w'=>e = .returned (.tuple #[.int .u64 (qa0 0 ((s.data.toList.drop k).take n):Nat),.nilIface])∧Below W.heap.size W w'):=hid fun W=>by
    have h:=q5w (t.extract 0 n) W (by rw[HPL.out];exact hpd) (by rw[HPL.out];intro e;rw[e] at hpl;simp at hpl;omega) (by rw[HPL.out,hpl];exact h3);rw[HPL.out] at h;exact h
   have HV:Hid (qa0 0 (s.data.toList.take (k+n))=qa0 0 (s.data.toList.take k)*10000000000000000000+qa0 0 ((s.data.toList.drop k).take n)):=hid (by
    rw[List.take_add,qkw,qjy]
    congr 1
    rcases HMOD.out with e|e
    ·subst e;simp[qic]
    ·have:n=19:=by omega
     rw[hpl,this])
   have HPB:Hid (qa0 0 ((s.data.toList.drop k).take n)<B64):=hid (by
    rw[hpl] at hplt;have h5:10^n≤10^19:=Nat.pow_le_pow_right (by omega) h3;have h6:10^19=10000000000000000000:=by decide
    rw[qab]
    omega)
   have HMOD2:Hid (k+n=0∨(t.extract n t.size).size % 19=0):=hid (by
    have h5:(t.extract n t.size).size=t.size-n:=by
     have:=congrArg List.length HTN.out;have:=HTS.out;simp at *
    rw[h5]
    right
    omega)
   have HKS:Hid (k+n≤s.size):=hid (by have:=HTS.out;omega)
   have HDEC:Hid ((t.extract n t.size).size<t.size):=hid (by
    have h5:(t.extract n t.size).size=t.size-n:=by
     have:=congrArg List.length HTN.out;have:=HTS.out;simp at *
    omega)
   have HLN:Hid ((qaf B64 (qa0 0 (s.data.toList.take k))).length≤k):=HLK;clear hn hpd hpl hplt HPL HMOD HTS HT HLK hks h3;obtain⟨v,hv⟩:∃v,v=qa0 0 (s.data.toList.take k):=⟨_,rfl⟩;rw[←hv] at HROW HV HLN ⊢;clear hv;generalize qa0 0 ((s.data.toList.drop k).take n)=p at *;obtain⟨l,hl⟩:∃l,l=qaf B64 v:=⟨_,rfl⟩;have HLD:=hid hl;rw[←hl] at HROW HLN ⊢;have HLB:Hid (∀d ∈ l,d<B64):=hid (by rw[hl];exact qee B64 v qae);clear hl;have hl63:l.length≤1099511627776:=by have:=HLN.out;have:=HKS.out;have:=HCAP.out;omega
   go_wp2_with fail;refine(HPART.out _).mono ?_;rintro e w1 ⟨rfl,hb⟩;have HROW1:=hid (qpa HROW.out hb);have HBL1:Hid (Below w.heap.size w w1):=hid (HBL.out.trans (hb.mono HBL.out.size));clear hb HPART HROW HBL;go_wp2_with fail
   go_loopw [5,31] (fun m i wq=>∃(j more:Nat) (S:List Nat),j≤l.length∧i = .int .i64 j∧m = .int .u64 more∧Hid (more<B64)∧Hid (S.length=l.length)∧Hid (∀d ∈ S,d<B64)∧Hid (∀q,j≤q→S.getD q 0=l.getD q 0)∧Hid (wq.ownsRow w.heap.size 136 1 (.slice (some ⟨g,0,none⟩) S.length cap) S.length (uw S))∧Hid (low B64 S j+B64^j*more=low B64 l j*10000000000000000000+p)∧Hid (Below w.heap.size w wq)) (fun _ i _=>l.length-(intOf i).toNat)
   case atStart=>exact⟨0,p,l,Nat.zero_le _,rfl,rfl,HPB,hid rfl,HLB,hid (fun _ _=>rfl),HROW1,hid (by simp),HBL1⟩
   case round=>
    obtain⟨j,more,S,hj,rfl,rfl,HMB,HSL,HSB,HSAME,HR,HEQ,HB⟩:=hrel;clear HROW1 HBL1;by_cases hjl:j<l.length
    ·have hjS:j<S.length:=by rw[HSL.out];exact hjl
     obtain⟨hc,hfz⟩:=q5z HR.out j hjS;rw[HSAME.out j (Nat.le_refl _)] at hc;have hxl:=qao (b:=B64) (by rw[qab];omega) HLB.out j;have hsl:=qap B64 l j;have hset:=fun x=>qbq B64 S j x hjS;have HST:Hid (∀(W:World) (x:Nat),W.ownsRow w.heap.size 136 1 (.slice (some ⟨g,0,none⟩) S.length cap) S.length (uw S)→(W.setCell ⟨g,j,none⟩ (.int .u64 (x:Nat))).ownsRow w.heap.size 136 1 (.slice (some ⟨g,0,none⟩) (S.set j x).length cap) (S.set j x).length (uw (S.set j x))):=hid fun W x h=>q15 h j x;have HSAME2:Hid (∀x q,j+1≤q→(S.set j x).getD q 0=l.getD q 0):=hid fun x q hq=>by rw[qar _ _ _ _ (by omega)];exact HSAME.out q (by omega)
     have hwb:=(qxz HR.out).1;generalize l.getD j 0=x at *;have HM:Hid (∀w,Calls Tryz.prog 113 #[.int .u64 x,.int .u64 10000000000000000000,.int .u64 more] w fun e w'=>e = .returned (.tuple #[.int .u64 (qiz x 10000000000000000000 more:Nat),.int .u64 (qi0 x 10000000000000000000 more:Nat)])∧w'=w):=hid fun w=>qb2 x 10000000000000000000 more hxl (by rw[qab];decide) HMB.out w;have hmw:=qrv x 10000000000000000000 more;have hlo:=qkp x 10000000000000000000 more;have HHI:=hid (qmq hxl (by rw[qab];decide:10000000000000000000<B64) HMB.out);generalize qiz x 10000000000000000000 more=lo at *;generalize qi0 x 10000000000000000000 more=hi at *
     have HEQ2:Hid (low B64 (S.set j lo) (j+1)+B64^(j+1)*hi=low B64 l (j+1)*10000000000000000000+p):=hid (by
      rw[hset lo,hsl,Nat.pow_succ]
      exact q8w HEQ.out hmw)
     have HSB2:Hid (∀d ∈ S.set j lo,d<B64):=hid (qcs HSB.out _ _ hlo);have HSL2:Hid ((S.set j lo).length=l.length):=hid (by rw[List.length_set];exact HSL.out);have HR2:Hid ((wr.setCell ⟨g,j,none⟩ (.int .u64 (lo:Nat))).ownsRow w.heap.size 136 1 (.slice (some ⟨g,0,none⟩) (S.set j lo).length cap) (S.set j lo).length (uw (S.set j lo))):=hid (HST.out _ _ HR.out);have HB2:Hid (Below w.heap.size w (wr.setCell ⟨g,j,none⟩ (.int .u64 (lo:Nat)))):=hid (HB.out.setCell hwb _);clear hset hsl hmw hlo hxl hjS HEQ HSB HSL HSAME HST hwb;go_wp2_with fail;refine(HM.out _).mono ?_;rintro e w' ⟨rfl,hw'⟩;rw[hw'];clear hw' HM;go_wp2_with fail;go_roundw
     case rel=>exact⟨j+1,hi,S.set j lo,by omega,by go_num,rfl,HHI,HSL2,HSB2,hid (HSAME2.out lo),HR2,HEQ2,HB2⟩
     case measure=>simp[intOf];omega
    ·have hje:j=l.length:=by omega
     subst hje
     have HNORM:Hid (qaf B64 (qa0 0 (s.data.toList.take (k+n)))=if 0<more then S++[more] else S):=hid (by
      rw[HV.out];refine q8x (l:=l) HLD.out HSL.out HSB.out HMB.out (by omega) ?_;have h:=HEQ.out;rw[qa5 B64 S _ (by rw[HSL.out];exact Nat.le_refl _),qa5 B64 l _ (Nat.le_refl _)] at h
      rw[h,HLD.out,qah _ _ qae])
     have HR1:Hid (wr.ownsRow w.heap.size 136 1 (.slice (some ⟨g,0,none⟩) l.length cap) l.length (uw S)):=hid (by have:=HR.out;rwa [HSL.out] at this);have hwb:=(qxz HR.out).1;have hsz:=HB.out.size;clear HR HEQ HSAME HV HLB HSB HMB HLD;by_cases h0:0<more
     ·have h0':(0:Int)<(more:Int):=by omega
      have HNEW:Hid (qaf B64 (qa0 0 (s.data.toList.take (k+n)))=S++[more]):=hid (by have:=HNORM.out;rwa [if_pos h0] at this);have HNL:Hid ((qaf B64 (qa0 0 (s.data.toList.take (k+n)))).length=l.length+1):=hid (by rw[HNEW.out,List.length_append,HSL.out];rfl);clear HNORM h0;go_wp2_with (at_builtin;refine wpList_append_own _ rfl _ _ 78 rfl w.heap.size 136 i0 (.int .u64 0) 1 8 Tryz.underlying78 HI.out HZ0.out HZ1.out HZ2.out rfl (by decide) _ _ _ rfl (HR1.out.alloc _) ⟨wr.heap.size,0,none⟩ 1 1 [.int .u64 (more:Nat)] rfl rfl ?c1 ?c2 ?c3 ?c4 ?c5 ?_)
      case c1=>exact qnq _ _ _
      case c2=>intro u hu;rw[List.mem_singleton.1 hu];rfl
      case c3=>unfold maxLen;omega
      case c4=>omega
      case c5=>rw[World.size_alloc];omega
      intro v' w9 hown hgrow _;obtain⟨g',cap',rfl⟩:=q16 hown;have HROW9:=hid hown;have HB9:Hid (Below w.heap.size w w9):=hid ((HB.out.alloc hsz _).grown hgrow (by rw[World.size_alloc];omega) (by intro q hq;simp[Value.ownBlock] at hq;omega));clear hown hgrow HR1 HB hwb hsz h0';go_wp2_with fail;go_roundw
      case rel=>exact⟨k+n,g',cap',_,rfl,by rw[HNL.out],HKS.out,HTN,HMOD2,hid (by rw[HNL.out,HNEW.out,q8v];exact HROW9.out),hid (by rw[HNL.out];have:=HLN.out;omega),HB9⟩
      case measure=>exact HDEC.out
     ·have h0':¬(0:Int)<(more:Int):=by omega
      have HNEW:Hid (qaf B64 (qa0 0 (s.data.toList.take (k+n)))=S):=hid (by have:=HNORM.out;rwa [if_neg h0] at this);have HNL:Hid ((qaf B64 (qa0 0 (s.data.toList.take (k+n)))).length=l.length):=hid (by rw[HNEW.out,HSL.out]);clear HNORM h0 hwb hsz;go_wp2_with fail;go_roundw
      case rel=>exact⟨k+n,g,cap,_,rfl,by rw[HNL.out],HKS.out,HTN,HMOD2,hid (by rw[HNL.out,HNEW.out];exact HR1.out),hid (by rw[HNL.out];have:=HLN.out;omega),HB⟩
      case measure=>exact HDEC.out
  ·have ht0':t.size=0:=by omega
   have hk:k=s.size:=by have:=HTS.out;omega
   have HF:Hid (qaq wr (.slice (some ⟨g,0,none⟩) (qaf B64 (qa0 0 (s.data.toList.take k))).length cap) (qa0 0 s.data.toList)):=hid (by
    have h:=q8z HROW.out;have e:s.data.toList.take k=s.data.toList:=by rw[hk];exact List.take_of_length_le (by simp)
    rw[e] at h ⊢
    exact h)
   clear hk;generalize (qaf B64 (qa0 0 (s.data.toList.take k))).length=n at *;go_wp2_with fail;go_ret;exact⟨⟨_,rfl,HF.out⟩,HBL.out⟩
def GW(w:World):Prop:=0<w.heap.size∧∃m:Int,w.cell? ⟨0,0,none⟩=some (.int .i64 m)
theorem GW.later{w w':World}(h:GW w)(hb:Below w.heap.size w w'):GW w':=by
 obtain⟨h0,m,hm⟩:=h;refine⟨Nat.lt_of_lt_of_le h0 hb.size,m, ?_⟩;rw[hb.cell (World.block_lt_of_cell? w _ hm)];exact hm
def qcq(s:List UInt8):Bool × List UInt8 × List UInt8:=
 (Lib.hasPrefix s [45],(Lib.cut (Lib.trimPrefix s [45]) [47]).1,if(Lib.cut (Lib.trimPrefix s [45]) [47]).2.2 then(Lib.cut (Lib.trimPrefix s [45]) [47]).2.1 else[49])
def qf9(s:List UInt8):Option Rat:=
 if qkv (qcq s).2.1&&qkv (qcq s).2.2&&decide (qa0 0 (qcq s).2.2≠0) then
  some ((((if(qcq s).1 then -(qa0 0 (qcq s).2.1:Int) else(qa0 0 (qcq s).2.1:Int)):Int):Rat)/((qa0 0 (qcq s).2.2:Int):Rat))
 else none
def q17(r:Option Rat)(w:World)(e:Ending)(w':World):Prop:=
 (match r with
  | some q=>∃v',e = .returned (.tuple #[v',.bool true])∧qaj w' v' q
  | none=>e = .returned (.tuple #[.agg #[.bool false,.slice none 0 0,.slice none 0 0],.bool false]))∧Below w.heap.size w w'
theorem qfb{w w':World}{e:Ending}{r:Option Rat}(hr:r=none)(he:e = .returned (.tuple #[.agg #[.bool false,.slice none 0 0,.slice none 0 0],.bool false]))(hb:Below w.heap.size w w'):q17 r w e w':=by
 subst hr;exact⟨he,hb⟩
theorem qpb{w w':World}{e:Ending}{r:Option Rat}{q:Rat}{v':Value}(hr:r=some q)(he:e = .returned (.tuple #[v',.bool true]))(hv:qaj w' v' q)(hb:Below w.heap.size w w'):q17 r w e w':=by
 subst hr;exact⟨⟨v',he,hv⟩,hb⟩
theorem qmz(l:List UInt8)(h:∀c ∈ l,isD c=true):wl (qa0 0 l)≤l.length:=by
 refine qb4 qae ?_;exact Nat.lt_of_lt_of_le (qfz l h) (Nat.pow_le_pow_left (by rw[qab];omega) _)
theorem qm0(s sep:List UInt8):(Lib.cut s sep).1.length≤s.length∧(Lib.cut s sep).2.1.length≤s.length:=by
 unfold Lib.cut;split<;>simp<;>omega
theorem qhv(s p:List UInt8):(Lib.trimPrefix s p).length≤s.length:=by
 unfold Lib.trimPrefix;split<;>simp
end Go.Proofs.YthjagoogkkgelaaGreatDoor
