/- readDigits: the walk. -/
import Derived.Test.YtclimablgihlhaaGreatDoorMWrite
import Derived.Test.YtclimablgihlhaaGreatDoorMText
set_option linter.all false
namespace Go.Proofs.YtclimablgihlhaaGreatDoor
open Go.RowKit
set_option maxRecDepth 100000
set_option maxHeartbeats 4000000
theorem q4c{w:World}{base g cap:Nat}{l:List Nat}(h:w.ownsRow base 130 1 (.slice (some ⟨g,0,none⟩) l.length cap) l.length (uw l))(k:Nat)(hk:k<l.length):
  w.cell? ⟨g,k,none⟩=some (.int .u64 (l.getD k 0:Nat))∧w.frozen? ⟨g,k,none⟩=false:=
 ⟨by rw[h.cellAt k (by omega),q80 l k hk],h.frozenAt k⟩
theorem q0i{w:World}{base g cap:Nat}{l:List Nat}(h:w.ownsRow base 130 1 (.slice (some ⟨g,0,none⟩) l.length cap) l.length (uw l))(k x:Nat):
  (w.setCell ⟨g,k,none⟩ (.int .u64 (x:Nat))).ownsRow base 130 1 (.slice (some ⟨g,0,none⟩) (l.set k x).length cap) (l.set k x).length (uw (l.set k x)):=by
 rw[q8z,List.length_set];exact(h.stored k _).1
theorem qwm{w:World}{base g cap n:Nat}{xs:List Value}(h:w.ownsRow base 130 1 (.slice (some ⟨g,0,none⟩) n cap) n xs):base≤g∧g<w.heap.size:=h.lt g rfl
theorem q0j{w:World}{base n:Nat}{v:Value}{xs:List Value}(h:w.ownsRow base 130 1 v (n+1) xs):∃g cap,v = .slice (some ⟨g,0,none⟩) (n+1) cap:=by
 rcases h.2 with⟨_,h'⟩|⟨g',cap',cur,h',_⟩
 ·omega
 ·exact⟨g',cap',h'⟩
theorem q69{w:World}{base g cap n:Nat}(h:w.ownsRow base 130 1 (.slice (some ⟨g,0,none⟩) (qaf B64 n).length cap) (qaf B64 n).length (uw (qaf B64 n))):qap w (.slice (some ⟨g,0,none⟩) (qaf B64 n).length cap) n:=
 (qg7 (qd6 B64 n qae) h).wds
theorem qpp(s:BA)(w:World)(hd:∀c ∈ s.data.toList,isD c=true)(aP:s.size≤Cap):
  Calls Tryz.prog 91 #[.string s] w fun e w'=>(∃v',e = .returned v'∧qap w' v' (qaz 0 s.data.toList))∧Below w.heap.size w w':=by
 have cS:Hid (s.size≤1099511627776):=hid aP;have HD:=hid hd;have hs63:s.size≤9223372036854775807:=by unfold Cap at aP;omega
 obtain⟨i0,hi,cT,dT,dU⟩:=info_parts (show(Tryz.prog.info? 130).map (fun i=>(i.zero,i.size,i.bytes))=some (some (.int .u64 0),1,8) by kernel_rfl);have HI:=hid hi;have Gz:=hid cT;have mF:=hid dT;have fY:=hid dU;obtain⟨wm,hmr,hmo,Ob⟩:=run_make_own (P:=Tryz.prog) w w.heap.size 72 130 i0 (.int .u64 0) 1 Tryz.underlying72 hi cT dT .i64 .i64 (s.size/19+1) (by rw[dU];unfold Cap at aP;omega) (by unfold maxLen;omega) (zap _);have Es:=hid hmo;have rP:Hid (Below w.heap.size w wm):=hid ⟨Ob.os,Ob.tape,Ob.output,Ob.size,fun k hk=>Ob.block k hk (by simp)⟩;have hE:(s.size:Int)/19+1=((s.size/19+1:Nat):Int):=by omega
 rw[←hE] at hmr;clear hi cT dT dU hd aP hmo Ob hE;go_enter Tryz.func91,Tryz.ntmps91;go_wp2_with fail;clear hmr;have cG:Hid (s.data.toList=s.data.toList.drop 0):=hid (by simp);have lL:∃c0,c0=s.size/19+1:=⟨_,rfl⟩
 go_loopw [0,3] (fun d a wr=>∃(k g cap:Nat) (t:BA),d = .string t∧a = .slice (some ⟨g,0,none⟩) (qaf B64 (qaz 0 (s.data.toList.take k))).length cap∧k≤s.size∧Hid (t.data.toList=s.data.toList.drop k)∧Hid (k=0∨t.size % 19=0)∧Hid (wr.ownsRow w.heap.size 130 1 (.slice (some ⟨g,0,none⟩) (qaf B64 (qaz 0 (s.data.toList.take k))).length cap) (qaf B64 (qaz 0 (s.data.toList.take k))).length (uw (qaf B64 (qaz 0 (s.data.toList.take k)))))∧Hid ((qaf B64 (qaz 0 (s.data.toList.take k))).length≤k)∧Hid (Below w.heap.size w wr)) (fun d _ _=>match d with | .string t=>t.size|_=>0)
 case atStart=>exact⟨0,w.heap.size,_,s,rfl,by rw[List.take_zero,qhv,qal];rfl,Nat.zero_le _,cG,hid (.inl rfl),hid (by rw[List.take_zero,qhv,qal];exact Es.out),hid (by rw[List.take_zero,qhv,qal];exact zap _),rP⟩
 case round=>
  obtain⟨k,g,cap,t,rfl,rfl,sN,HT,iE,bN,HLK,dV⟩:=hrel;clear Es rP cG
  have pS:Hid (t.size=s.size-k):=hid (by
   have:=congrArg List.length HT.out
   simpa using this)
  by_cases kB:0<t.size
  ·obtain⟨n,hn⟩:∃n,n=(t.size-1) % 19+1:=⟨_,rfl⟩
   have hE:((t.size:Int)-1) % 19+1=(n:Int):=by omega
   have h0:1≤(t.size:Int):=by omega
   have h00:0≤(t.size:Int)-1:=by omega
   have h1:(t.size:Int)≤1099511627776:=by have:=cS.out;have:=pS.out;omega
   have h2:n≤t.size:=by omega
   have h3:n≤19:=by omega
   have h4:1≤n:=by omega
   have gJ:Hid ((t.extract n t.size).data.toList=s.data.toList.drop (k+n)):=hid (by
    rw[Lib.extract_data,HT.out,List.drop_drop,List.take_of_length_le];have:=pS.out;simp
    omega)
   have iH:Hid ((t.extract 0 n).data.toList=(s.data.toList.drop k).take n):=hid (by rw[Lib.extract_from_zero,HT.out]);have hpd:∀c ∈ (s.data.toList.drop k).take n,isD c=true:=fun c hc=>HD.out c (List.mem_of_mem_drop (List.mem_of_mem_take hc))
   have oJ:((s.data.toList.drop k).take n).length=n:=by
    have:=pS.out;simp;omega
   have Rx:=qfn _ hpd
   have Hc:Hid (∀W,Calls Tryz.prog 148 #[.string (t.extract 0 n),.int .i64 10,.int .i64 64] W fun e w'=>e = .returned (.tuple #[.int .u64 (qaz 0 ((s.data.toList.drop k).take n):Nat),.nilIface])∧Below W.heap.size W w'):=hid fun W=>by
    have h:=q39 (t.extract 0 n) W (by rw[iH.out];exact hpd) (by rw[iH.out];intro e;rw[e] at oJ;simp at oJ;omega) (by rw[iH.out,oJ];exact h3);rw[iH.out] at h;exact h
   have HV:Hid (qaz 0 (s.data.toList.take (k+n))=qaz 0 (s.data.toList.take k)*10000000000000000000+qaz 0 ((s.data.toList.drop k).take n)):=hid (by
    rw[List.take_add,qka,qjd]
    congr 1
    rcases iE.out with e|e
    ·subst e;simp[qhv]
    ·have:n=19:=by omega
     rw[oJ,this])
   have zR:Hid (qaz 0 ((s.data.toList.drop k).take n)<B64):=hid (by
    rw[oJ] at Rx;have h5:10^n≤10^19:=Nat.pow_le_pow_right (by omega) h3;have h6:10^19=10000000000000000000:=by decide
    rw[qab]
    omega)
   have Hd:Hid (k+n=0∨(t.extract n t.size).size % 19=0):=hid (by
    have h5:(t.extract n t.size).size=t.size-n:=by
     have:=congrArg List.length gJ.out;have:=pS.out;simp at *
    rw[h5]
    right
    omega)
   have Gp:Hid (k+n≤s.size):=hid (by have:=pS.out;omega)
   have oL:Hid ((t.extract n t.size).size<t.size):=hid (by
    have h5:(t.extract n t.size).size=t.size-n:=by
     have:=congrArg List.length gJ.out;have:=pS.out;simp at *
    omega)
   have oE:Hid ((qaf B64 (qaz 0 (s.data.toList.take k))).length≤k):=HLK;clear hn hpd oJ Rx iH iE pS HT HLK sN h3;obtain⟨v,hv⟩:∃v,v=qaz 0 (s.data.toList.take k):=⟨_,rfl⟩;rw[←hv] at bN HV oE ⊢;clear hv;generalize qaz 0 ((s.data.toList.drop k).take n)=p at *;obtain⟨l,hl⟩:∃l,l=qaf B64 v:=⟨_,rfl⟩;have mK:=hid hl;rw[←hl] at bN oE ⊢;have jE:Hid (∀d ∈ l,d<B64):=hid (by rw[hl];exact qd6 B64 v qae);clear hl;have Ja:l.length≤1099511627776:=by have:=oE.out;have:=Gp.out;have:=cS.out;omega
   go_wp2_with fail;refine(Hc.out _).mono ?_;rintro e w1 ⟨rfl,hb⟩;have He:=hid (qoi bN.out hb);have Ry:Hid (Below w.heap.size w w1):=hid (dV.out.trans (hb.mono dV.out.size));clear hb Hc bN dV;go_wp2_with fail
   go_loopw [5,31] (fun m i wq=>∃(j more:Nat) (S:List Nat),j≤l.length∧i = .int .i64 j∧m = .int .u64 more∧Hid (more<B64)∧Hid (S.length=l.length)∧Hid (∀d ∈ S,d<B64)∧Hid (∀q,j≤q→S.getD q 0=l.getD q 0)∧Hid (wq.ownsRow w.heap.size 130 1 (.slice (some ⟨g,0,none⟩) S.length cap) S.length (uw S))∧Hid (low B64 S j+B64^j*more=low B64 l j*10000000000000000000+p)∧Hid (Below w.heap.size w wq)) (fun _ i _=>l.length-(intOf i).toNat)
   case atStart=>exact⟨0,p,l,Nat.zero_le _,rfl,rfl,zR,hid rfl,jE,hid (fun _ _=>rfl),He,hid (by simp),Ry⟩
   case round=>
    obtain⟨j,more,S,hj,rfl,rfl,rP,bH,cQ,aW,HR,xM,HB⟩:=hrel;clear He Ry;by_cases Rz:j<l.length
    ·have hjS:j<S.length:=by rw[bH.out];exact Rz
     obtain⟨hc,oI⟩:=q4c HR.out j hjS;rw[aW.out j (zap _)] at hc;have fI:=qan (b:=B64) (by rw[qab];omega) jE.out j;have iD:=qao B64 l j;have eT:=fun x=>qbp B64 S j x hjS;have nY:Hid (∀(W:World) (x:Nat),W.ownsRow w.heap.size 130 1 (.slice (some ⟨g,0,none⟩) S.length cap) S.length (uw S)→(W.setCell ⟨g,j,none⟩ (.int .u64 (x:Nat))).ownsRow w.heap.size 130 1 (.slice (some ⟨g,0,none⟩) (S.set j x).length cap) (S.set j x).length (uw (S.set j x))):=hid fun W x h=>q0i h j x;have cI:Hid (∀x q,j+1≤q→(S.set j x).getD q 0=l.getD q 0):=hid fun x q hq=>by rw[qaq _ _ _ _ (by omega)];exact aW.out q (by omega)
     have jD:=(qwm HR.out).1;generalize l.getD j 0=x at *;have HM:Hid (∀w,Calls Tryz.prog 110 #[.int .u64 x,.int .u64 10000000000000000000,.int .u64 more] w fun e w'=>e = .returned (.tuple #[.int .u64 (qig x 10000000000000000000 more:Nat),.int .u64 (qih x 10000000000000000000 more:Nat)])∧w'=w):=hid fun w=>qb0 x 10000000000000000000 more fI (by rw[qab];decide) rP.out w;have Fw:=qqw x 10000000000000000000 more;have fW:=qj3 x 10000000000000000000 more;have Ga:=hid (qlz fI (by rw[qab];decide:10000000000000000000<B64) rP.out);generalize qig x 10000000000000000000 more=lo at *;generalize qih x 10000000000000000000 more=hi at *
     have Et:Hid (low B64 (S.set j lo) (j+1)+B64^(j+1)*hi=low B64 l (j+1)*10000000000000000000+p):=hid (by
      rw[eT lo,iD,Nat.pow_succ]
      exact q66 xM.out Fw)
     have HSB2:Hid (∀d ∈ S.set j lo,d<B64):=hid (qco cQ.out _ _ fW);have Aj:Hid ((S.set j lo).length=l.length):=hid (by rw[List.length_set];exact bH.out);have cY:Hid ((wr.setCell ⟨g,j,none⟩ (.int .u64 (lo:Nat))).ownsRow w.heap.size 130 1 (.slice (some ⟨g,0,none⟩) (S.set j lo).length cap) (S.set j lo).length (uw (S.set j lo))):=hid (nY.out _ _ HR.out);have aR:Hid (Below w.heap.size w (wr.setCell ⟨g,j,none⟩ (.int .u64 (lo:Nat)))):=hid (HB.out.setCell jD _);clear eT iD Fw fW fI hjS xM cQ bH aW nY jD;go_wp2_with fail;refine(HM.out _).mono ?_;rintro e w' ⟨rfl,hw'⟩;rw[hw'];clear hw' HM;go_wp2_with fail;go_roundw
     case rel=>exact⟨j+1,hi,S.set j lo,by omega,by go_num,rfl,Ga,Aj,HSB2,hid (cI.out lo),cY,Et,aR⟩
     case measure=>simp[intOf];omega
    ·have hje:j=l.length:=by omega
     subst hje
     have pQ:Hid (qaf B64 (qaz 0 (s.data.toList.take (k+n)))=if 0<more then S++[more] else S):=hid (by
      rw[HV.out];refine q67 (l:=l) mK.out bH.out cQ.out rP.out (by omega) ?_;have h:=xM.out;rw[qa4 B64 S _ (by rw[bH.out];exact zap _),qa4 B64 l _ (zap _)] at h
      rw[h,mK.out,qah _ _ qae])
     have nB:Hid (wr.ownsRow w.heap.size 130 1 (.slice (some ⟨g,0,none⟩) l.length cap) l.length (uw S)):=hid (by have:=HR.out;rwa [bH.out] at this);have jD:=(qwm HR.out).1;have dM:=HB.out.size;clear HR xM aW HV jE cQ rP mK;by_cases h0:0<more
     ·have h0':(0:Int)<(more:Int):=by omega
      have cH:Hid (qaf B64 (qaz 0 (s.data.toList.take (k+n)))=S++[more]):=hid (by have:=pQ.out;rwa [if_pos h0] at this);have yQ:Hid ((qaf B64 (qaz 0 (s.data.toList.take (k+n)))).length=l.length+1):=hid (by rw[cH.out,List.length_append,bH.out];rfl);clear pQ h0;go_wp2_with (at_builtin;refine wpList_append_own _ rfl _ _ 72 rfl w.heap.size 130 i0 (.int .u64 0) 1 8 Tryz.underlying72 HI.out Gz.out mF.out fY.out rfl (by decide) _ _ _ rfl (nB.out.alloc _) ⟨wr.heap.size,0,none⟩ 1 1 [.int .u64 (more:Nat)] rfl rfl ?c1 ?c2 ?c3 ?c4 ?c5 ?_)
      case c1=>exact qmw _ _ _
      case c2=>intro u hu;rw[List.mem_singleton.1 hu];rfl
      case c3=>unfold maxLen;omega
      case c4=>omega
      case c5=>rw[zao];omega
      intro v' w9 bG bW _;obtain⟨g',cap',rfl⟩:=q0j bG;have Sa:=hid bG;have oT:Hid (Below w.heap.size w w9):=hid ((HB.out.alloc dM _).grown bW (by rw[zao];omega) (by intro q hq;simp[Value.ownBlock] at hq;omega));clear bG bW nB HB jD dM h0';go_wp2_with fail;go_roundw
      case rel=>exact⟨k+n,g',cap',_,rfl,by rw[yQ.out],Gp.out,gJ,Hd,hid (by rw[yQ.out,cH.out,q65];exact Sa.out),hid (by rw[yQ.out];have:=oE.out;omega),oT⟩
      case measure=>exact oL.out
     ·have h0':¬(0:Int)<(more:Int):=by omega
      have cH:Hid (qaf B64 (qaz 0 (s.data.toList.take (k+n)))=S):=hid (by have:=pQ.out;rwa [if_neg h0] at this);have yQ:Hid ((qaf B64 (qaz 0 (s.data.toList.take (k+n)))).length=l.length):=hid (by rw[cH.out,bH.out]);clear pQ h0 jD dM;go_wp2_with fail;go_roundw
      case rel=>exact⟨k+n,g,cap,_,rfl,by rw[yQ.out],Gp.out,gJ,Hd,hid (by rw[yQ.out,cH.out];exact nB.out),hid (by rw[yQ.out];have:=oE.out;omega),HB⟩
      case measure=>exact oL.out
  ·have ht0':t.size=0:=by omega
   have hk:k=s.size:=by have:=pS.out;omega
   have HF:Hid (qap wr (.slice (some ⟨g,0,none⟩) (qaf B64 (qaz 0 (s.data.toList.take k))).length cap) (qaz 0 s.data.toList)):=hid (by
    have h:=q69 bN.out;have e:s.data.toList.take k=s.data.toList:=by rw[hk];exact List.take_of_length_le (by simp)
    rw[e] at h ⊢
    exact h)
   clear hk;generalize (qaf B64 (qaz 0 (s.data.toList.take k))).length=n at *;go_wp2_with fail;go_ret;exact⟨⟨_,rfl,HF.out⟩,dV.out⟩
def GW(w:World):Prop:=0<w.heap.size∧∃m:Int,w.cell? ⟨0,0,none⟩=some (.int .i64 m)
theorem GW.later{w w':World}(h:GW w)(hb:Below w.heap.size w w'):GW w':=by
 obtain⟨h0,m,hm⟩:=h;refine⟨Nat.lt_of_lt_of_le h0 hb.size,m, ?_⟩;rw[hb.cell (zaq w _ hm)];exact hm
def qcl(s:List UInt8):Bool × List UInt8 × List UInt8:=
 (Lib.hasPrefix s [45],(Lib.cut (Lib.trimPrefix s [45]) [47]).1,if(Lib.cut (Lib.trimPrefix s [45]) [47]).2.2 then(Lib.cut (Lib.trimPrefix s [45]) [47]).2.1 else[49])
def qfw(s:List UInt8):Option Rat:=
 if qj9 (qcl s).2.1&&qj9 (qcl s).2.2&&decide (qaz 0 (qcl s).2.2≠0) then
  some ((((if(qcl s).1 then -(qaz 0 (qcl s).2.1:Int) else(qaz 0 (qcl s).2.1:Int)):Int):Rat)/((qaz 0 (qcl s).2.2:Int):Rat))
 else none
def q0k(r:Option Rat)(w:World)(e:Ending)(w':World):Prop:=
 (match r with
  | some q=>∃v',e = .returned (.tuple #[v',.bool true])∧qaj w' v' q
  | none=>e = .returned (.tuple #[.agg #[.bool false,.slice none 0 0,.slice none 0 0],.bool false]))∧Below w.heap.size w w'
theorem qe0{w w':World}{e:Ending}{r:Option Rat}(hr:r=none)(he:e = .returned (.tuple #[.agg #[.bool false,.slice none 0 0,.slice none 0 0],.bool false]))(hb:Below w.heap.size w w'):q0k r w e w':=by
 subst hr;exact⟨he,hb⟩
theorem qoj{w w':World}{e:Ending}{r:Option Rat}{q:Rat}{v':Value}(hr:r=some q)(he:e = .returned (.tuple #[v',.bool true]))(hv:qaj w' v' q)(hb:Below w.heap.size w w'):q0k r w e w':=by
 subst hr;exact⟨⟨v',he,hv⟩,hb⟩
theorem ql8(l:List UInt8)(h:∀c ∈ l,isD c=true):wl (qaz 0 l)≤l.length:=by
 refine qb2 qae ?_;exact Nat.lt_of_lt_of_le (qfn l h) (Nat.pow_le_pow_left (by rw[qab];omega) _)
theorem ql9(s sep:List UInt8):(Lib.cut s sep).1.length≤s.length∧(Lib.cut s sep).2.1.length≤s.length:=by
 unfold Lib.cut;split<;>simp<;>omega
theorem qhe(s p:List UInt8):(Lib.trimPrefix s p).length≤s.length:=by
 unfold Lib.trimPrefix;split<;>simp
end Go.Proofs.YtclimablgihlhaaGreatDoor
