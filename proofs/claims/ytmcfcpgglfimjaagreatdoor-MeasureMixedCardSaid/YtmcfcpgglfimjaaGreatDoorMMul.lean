/- add: the sum of two natural numbers; word. -/
import Derived.Test.YtmcfcpgglfimjaaGreatDoorMBase
import Derived.Laws.OwnMore
import Derived.OwnWalk
import Derived.Lib.SliceRun
import Derived.Deep.AppendLies
set_option linter.all false
namespace Go.Proofs.YtmcfcpgglfimjaaGreatDoor
open Go.RowKit
set_option maxRecDepth 100000
set_option maxHeartbeats 1000000
theorem qw0(v:Value)(l:List Nat)(i:Int)(w:World)(h:Wds w v l)(hi:0≤i):
  Calls Tryz.prog 214 #[v,.int .i64 i] w fun e w'=>e = .returned (.int .u64 (l.getD i.toNat 0:Nat))∧w'=w:=by
 obtain⟨hl,p,c,rfl,bO,bJ,aA⟩:=h;unfold maxLen at bJ;obtain⟨i,rfl⟩:=Int.eq_ofNat_of_zero_le hi;rw[Int.toNat_natCast];by_cases Cu:i<l.length
 ·rcases aA with h0|⟨b,o,rfl,aB⟩
  ·omega
  have aC:=aB i Cu;unfold wd at aC;clear aB hl;generalize l.getD i 0=x at *;go_enter Tryz.func214,Tryz.ntmps214;go_wp2;go_ret;exact⟨rfl,rfl⟩
 ·have e:l.getD i 0=0:=by simp[qba,List.getElem?_eq_none (by omega:l.length≤i)]
  rw[e];clear e;go_enter Tryz.func214,Tryz.ntmps214;go_wp2;go_ret;exact⟨rfl,rfl⟩
theorem ql9{w:World}{g c:Nat}{l:List Nat}(h:Own w g l.length (wd l))(hl:∀d ∈ l,d<B64)(hn:l.length≤c)(hc:c≤maxLen):Wds w (.slice (some ⟨g,0,none⟩) l.length c) l:=⟨hl,h.sliceAt hn hc⟩
theorem q4w{B b s la ra lo hi c x y lx:Nat}(h:s+b*c=la+ra)(hx:lo+B*hi=x+y+c)(hl:lx=s+b*lo):lx+(b*B)*hi=(la+b*x)+(ra+b*y):=by
 subst hl;have:=congrArg (b * ·) hx;simp only[Nat.mul_add] at this;rw[Nat.mul_assoc];omega
theorem q60(va vb:Value)(pa pb:Option Addr)(ca cb:Nat)(l r:List Nat)(w:World)(ha:Wds w (.slice pa l.length ca) l)(hb:Wds w (.slice pb r.length cb) r)(qM:r.length≠0)(hlr:r.length≤l.length)(aQ:l.length≤Cap)
  (Cv:(va = .slice pa l.length ca∧vb = .slice pb r.length cb)∨(va = .slice pb r.length cb∧vb = .slice pa l.length ca∧r.length<l.length)):
  Calls Tryz.prog 141 #[va,vb] w fun e w'=>(∃v',e = .returned v'∧qa2 w' v' (val B64 l+val B64 r))∧Below w.heap.size w w':=by
 obtain⟨cX,pa',ca',he,jQ,fC,hcellsa⟩:=ha;cases he
 obtain⟨cS,pb',cb',he,jA,fK,hcellsb⟩:=hb;cases he
 unfold maxLen at fC fK;rcases hcellsa with h0|⟨ba,oa,rfl,eT⟩
 ·omega
 rcases hcellsb with h0|⟨bb,ob,rfl,dH⟩
 ·omega
 have kX:=fun w=>qf7 (l.length+1) ((l.length:Int)+1) (by omega) (by have:=qkg;omega) w;have hr0':((r.length:Int)==0)=false:=qan (by omega);have qN:l.length<4611686018427387904:=by have:=aQ;unfold Cap at this;omega
 have HL:=hid hlr;have bC:¬(l.length:Int)<r.length:=by omega
 have HC:=hid aQ;have HR:=hid qM;clear hlr aQ qM;rcases Cv with⟨rfl,rfl⟩|⟨rfl,rfl,Fr⟩
 all_goals
  go_enter Tryz.func141,Tryz.ntmps141;go_wp2_with fail;have aT:=qha w (l.length+1);have bI:Below w.heap.size w (w.alloc (qbg (l.length+1))):=qad _ _;have aW:Hid ((List.replicate (l.length+1) 0).length=l.length+1):=hid (by simp);have gU:=qcg (b:=B64) (by rw[qaj];omega) (l.length+1);have mW:Hid (low B64 (List.replicate (l.length+1) 0) 0+B64^0*0=low B64 l 0+low B64 r 0):=hid (by simp);have bE:Own (w.alloc (qbg (l.length+1))) w.heap.size (List.replicate (l.length+1) 0).length (wd (List.replicate (l.length+1) 0)):=by rw[aW.out];exact aT
  clear aT;generalize List.replicate (l.length+1) 0=s0 at *;generalize w.alloc (qbg (l.length+1))=w1 at *;have HG:Hid (∃g,g=w.heap.size):=hid ⟨_,rfl⟩
  go_loopw [6,26] (fun c i wr=>∃k cc:Nat,∃s:List Nat,k≤l.length∧i = .int .i64 k∧c = .int .u64 cc∧cc≤1∧Hid (s.length=l.length+1)∧(∀d ∈ s,d<B64)∧Own wr w.heap.size s.length (wd s)∧Hid (low B64 s k+B64^k*cc=low B64 l k+low B64 r k)∧Below w.heap.size w wr) (fun _ i _=>l.length-(intOf i).toNat)
  case atStart=>exact⟨0,0,s0,Nat.zero_le _,rfl,rfl,by omega,aW,gU,bE,mW,bI⟩
  case round=>
   obtain⟨k,cc,s,hk,rfl,rfl,fL,aU,hsb,ho,HS,hb⟩:=hrel;clear mW aW bE gU bI;by_cases cQ:k<l.length
   ·have hx:=(eT.later hb) k cQ
    obtain⟨hg,lO⟩:=ho.2 k (by rw[aU.out];omega);have eP:=qaz (b:=B64) (by rw[qaj];omega) cX k;have kI:=qaz (b:=B64) (by rw[qaj];omega) cS k;have jG:=qwv (l.getD k 0) (r.getD k 0) cc;have hh:=qq5 eP kI fL;have fH:=qnp (l.getD k 0) (r.getD k 0) cc;have nF:=fun w=>qi0 (l.getD k 0) (r.getD k 0) cc fL w;have eQ:=qa0 B64 l k;have Ls:=qa0 B64 r k;have fM:=qb2 B64 s k (qg4 (l.getD k 0) (r.getD k 0) cc) (by rw[aU.out];omega);have HO:Hid (Own (wr.setCell ⟨w.heap.size,k,none⟩ (.int .u64 (qg4 (l.getD k 0) (r.getD k 0) cc:Nat))) w.heap.size (s.set k (qg4 (l.getD k 0) (r.getD k 0) cc)).length (wd (s.set k (qg4 (l.getD k 0) (r.getD k 0) cc)))):=hid (ho.setWord k (by rw[aU.out];omega) _);have bY:Hid (∀d ∈ s.set k (qg4 (l.getD k 0) (r.getD k 0) cc),d<B64):=hid (qc7 hsb k _ fH);have HSL':Hid ((s.set k (qg4 (l.getD k 0) (r.getD k 0) cc)).length=l.length+1):=hid (by rw[List.length_set];exact aU.out)
    have cG:Hid (low B64 (s.set k (qg4 (l.getD k 0) (r.getD k 0) cc)) (k+1)+B64^(k+1)*(qiz (l.getD k 0) (r.getD k 0) cc)=low B64 l (k+1)+low B64 r (k+1)):=
     hid (by rw[eQ,Ls,Nat.pow_succ];exact q4w HS.out jG fM)
    have aG:Hid (Below w.heap.size w (wr.setCell ⟨w.heap.size,k,none⟩ (.int .u64 (qg4 (l.getD k 0) (r.getD k 0) cc:Nat)))):=hid (hb.setCell (qac _) _);have HY:Hid (k<r.length→wr.cell? ⟨bb,ob+k,none⟩=some (.int .u64 (r.getD k 0:Nat))):=hid fun h=>(dH.later hb) k h;have tK:Hid (¬k<r.length→r.getD k 0=0):=hid fun h=>by simp[List.getElem?_eq_none (by omega:r.length≤k)]
    unfold wd at hx hg;generalize qg4 (l.getD k 0) (r.getD k 0) cc=lo at *;generalize qiz (l.getD k 0) (r.getD k 0) cc=hi at *;generalize l.getD k 0=x at *;generalize s.getD k 0=old at *;clear eQ Ls fM jG fH eP kI eT dH cX cS ho HS hsb hb;by_cases Lt:k<r.length
    ·have hy:=HY.out Lt
     clear HY tK;generalize r.getD k 0=y at *;go_wp2_with fail;go_roundw
     case rel=>exact⟨k+1,hi,_,by omega,by go_num,rfl,hh,HSL',bY.out,HO.out,cG,aG.out⟩
     case measure=>simp[intOf];omega
    ·rw[tK.out Lt,show((0:Nat):Int)=0 from rfl] at nF
     clear HY tK;go_wp2_with fail;go_roundw
     case rel=>exact⟨k+1,hi,_,by omega,by go_num,rfl,hh,HSL',bY.out,HO.out,cG,aG.out⟩
     case measure=>simp[intOf];omega
   ·have e:k=l.length:=by omega
    subst e;obtain⟨hg,lO⟩:=ho.2 l.length (by rw[aU.out];omega);have At:cc<B64:=by rw[qaj];omega
    have lL:=qb2 B64 s l.length cc (by rw[aU.out];omega);have Cw:=qbf B64 (s.set l.length cc) (l.length+1) (by rw[List.length_set,aU.out];exact qac _)
    have jB:val B64 (s.set l.length cc)=val B64 l+val B64 r:=by
     rw[←Cw,lL,HS.out,qbf B64 l _ (qac _),qbf B64 r _ HL.out]
    have ho':=ho.setWord l.length (by rw[aU.out];omega) cc;have hlen':(s.set l.length cc).length=l.length+1:=by rw[List.length_set];exact aU.out
    have hw:Wds (wr.setCell ⟨w.heap.size,l.length,none⟩ (.int .u64 (cc:Nat))) (.slice (some ⟨w.heap.size,0,none⟩) (l.length+1) (l.length+1)) (s.set l.length cc):=by
     have:=ql9 ho' (qc7 hsb l.length cc At) (qac _) (by rw[hlen'];unfold maxLen;omega);rw[hlen'] at this;exact this
    have HT:=hid (qjo _ _ _ hw);have HB:Hid (Below w.heap.size w (wr.setCell ⟨w.heap.size,l.length,none⟩ (.int .u64 (cc:Nat)))):=hid (hb.setCell (qac _) _);rw[jB] at HT;clear hw hlen' ho' jB lL Cw At ho HS hsb hb eT dH cX cS;generalize hgo:wd s l.length=old at *;clear hgo;go_wp2_with fail;refine HT.out.mono ?_;rintro e w' ⟨⟨v',rfl,hn⟩,hw'⟩;subst hw';go_wp2_with fail;go_ret;exact⟨⟨_,rfl,hn⟩,HB.out⟩
theorem qkh{w:World}{v:Value}{n:Nat}(h:qa2 w v n):∃(l:List Nat) (p:Option Addr) (c:Nat),v = .slice p l.length c∧Wds w v l∧val B64 l=n∧l.length=wl n:=by
 obtain⟨h1,p,c,hv,h2⟩:=h;exact⟨qao B64 n,p,c,hv,⟨h1,p,c,hv,h2⟩,qar _ _ qam,rfl⟩
theorem qen{n:Nat}(h:wl n=0):n=0:=(qe1 qam).1 (List.eq_nil_of_length_eq_zero h)
theorem q0t(va vb:Value)(m n:Nat)(w:World)(ha:qa2 w va m)(hb:qa2 w vb n)(hm:wl m≤Cap)(hn:wl n≤Cap):
  Calls Tryz.prog 141 #[va,vb] w fun e w'=>(∃v',e = .returned v'∧qa2 w' v' (m+n))∧Below w.heap.size w w':=by
 have HA:=hid ha;have HB:=hid hb;obtain⟨l,pa,ca,rfl,kJ,rfl,cX⟩:=qkh ha;obtain⟨r,pb,cb,rfl,hU,rfl,cS⟩:=qkh hb;rw[←cX] at hm;rw[←cS] at hn;have Hla:=hid cX;have Hlb:=hid cS;clear cX cS ha hb;rcases Nat.lt_or_ge l.length r.length with bC|bC
 ·by_cases kK:l.length=0
  ·have e0:val B64 l=0:=qen (by rw[←Hla.out];exact kK)
   have aY:((l.length:Int)==0)=true:=by rw[kK];rfl
   have aR:(l.length:Int)<r.length:=by omega
   rw[e0,Nat.zero_add];clear kJ hU kK hm hn e0 bC;go_enter Tryz.func141,Tryz.ntmps141;go_wp2_with fail;go_ret;exact⟨⟨_,rfl,HB.out⟩,qaa _ _⟩
  ·rw[Nat.add_comm]
   exact q60 _ _ pb pa cb ca r l w hU kJ kK (by omega) hn (.inr ⟨rfl,rfl,bC⟩)
 ·by_cases qM:r.length=0
  ·have e0:val B64 r=0:=qen (by rw[←Hlb.out];exact qM)
   have aY:((r.length:Int)==0)=true:=by rw[qM];rfl
   have aR:¬(l.length:Int)<r.length:=by omega
   rw[e0,Nat.add_zero];clear kJ hU qM hm hn e0 bC;go_enter Tryz.func141,Tryz.ntmps141;go_wp2_with fail;go_ret;exact⟨⟨_,rfl,HA.out⟩,qaa _ _⟩
  ·exact q60 _ _ pa pb ca cb l r w kJ hU qM bC hm (.inl ⟨rfl,rfl⟩)
theorem q4x{B b s la ra lo hi c x y ls:Nat}(h:s+ra=la+b*c)(hx:lo+y+c=x+B*hi)(hl:ls=s+b*lo):ls+(ra+b*y)=(la+b*x)+(b*B)*hi:=by
 subst hl;have:=congrArg (b * ·) hx;simp only[Nat.mul_add] at this;rw[Nat.mul_assoc];omega
theorem q7h{s r l p c:Nat}(h1:s+r=l+p*c)(h2:s<p)(h3:r≤l)(hc:c≤1):s=l-r:=by
 have:c=0∨c=1:=by omega
 rcases this with rfl|rfl<;>omega
theorem qm5(va vb:Value)(m n:Nat)(w:World)(ha:qa2 w va m)(hb:qa2 w vb n)(Cx:n≤m)(hm:wl m≤Cap):
  Calls Tryz.prog 166 #[va,vb] w fun e w'=>(∃v',e = .returned v'∧qa2 w' v' (m-n))∧Below w.heap.size w w':=by
 have HA:=hid ha;have aW:=hid (qal qam Cx);obtain⟨l,pa,ca,rfl,kJ,sE,cX⟩:=qkh ha;obtain⟨r,pb,cb,rfl,hU,Aa,cS⟩:=qkh hb;by_cases qM:r.length=0
 ·have e0:n=0:=qen (by rw[←cS];exact qM)
  subst e0;have aY:((r.length:Int)==0)=true:=by rw[qM];rfl
  rw[Nat.sub_zero];clear kJ hU qM hm sE Aa cX cS Cx aW ha hb;go_enter Tryz.func166,Tryz.ntmps166;go_wp2_with fail;go_ret;exact⟨⟨_,rfl,HA.out⟩,qaa _ _⟩
 ·have Jy:Hid (r.length≤l.length):=hid (by rw[cX,cS];exact aW.out)
  have HV:Hid (val B64 r≤val B64 l∧val B64 l-val B64 r=m-n):=hid (by rw[sE,Aa];exact⟨Cx,rfl⟩);rw[←cX] at hm;obtain⟨hla',pa',ca',he,jQ,fC,hcellsa⟩:=kJ;cases he
  obtain⟨hlb',pb',cb',he,jA,fK,hcellsb⟩:=hU;cases he
  unfold maxLen at fC fK;rcases hcellsa with h0|⟨ba,oa,rfl,eT⟩
  ·have:=Jy.out;omega
  rcases hcellsb with h0|⟨bb,ob,rfl,dH⟩
  ·omega
  have kX:=fun w=>qf7 l.length (l.length:Int) rfl (by omega) w;have hr0':((r.length:Int)==0)=false:=qan (by omega);have qN:l.length<4611686018427387904:=by have:=hm;unfold Cap at this;omega
  clear qM hm sE Aa cX cS Cx aW ha hb HA;go_enter Tryz.func166,Tryz.ntmps166;go_wp2_with fail;have aT:=qha w l.length;have bI:Below w.heap.size w (w.alloc (qbg l.length)):=qad _ _;have aW:Hid ((List.replicate l.length 0).length=l.length):=hid (by simp);have gU:=qcg (b:=B64) (by rw[qaj];omega) l.length;have mW:Hid (low B64 (List.replicate l.length 0) 0+low B64 r 0=low B64 l 0+B64^0*0):=hid (by simp);have bE:Own (w.alloc (qbg l.length)) w.heap.size (List.replicate l.length 0).length (wd (List.replicate l.length 0)):=by rw[aW.out];exact aT
  clear aT;generalize List.replicate l.length 0=s0 at *;generalize w.alloc (qbg l.length)=w1 at *
  go_loopw [6,18] (fun c i wr=>∃k cc:Nat,∃s:List Nat,k≤l.length∧i = .int .i64 k∧c = .int .u64 cc∧cc≤1∧Hid (s.length=l.length)∧(∀d ∈ s,d<B64)∧Own wr w.heap.size s.length (wd s)∧Hid (low B64 s k+low B64 r k=low B64 l k+B64^k*cc)∧Below w.heap.size w wr) (fun _ i _=>l.length-(intOf i).toNat)
  case atStart=>exact⟨0,0,s0,Nat.zero_le _,rfl,rfl,by omega,aW,gU,bE,mW,bI⟩
  case round=>
   obtain⟨k,cc,s,hk,rfl,rfl,fL,aU,hsb,ho,HS,hb⟩:=hrel;clear mW aW bE gU bI;by_cases cQ:k<l.length
   ·have hx:=(eT.later hb) k cQ
    obtain⟨hg,lO⟩:=ho.2 k (by rw[aU.out];omega);have eP:=qaz (b:=B64) (by rw[qaj];omega) hla' k;have kI:=qaz (b:=B64) (by rw[qaj];omega) hlb' k;have jG:=qso eP kI fL;have hh:=qnq (l.getD k 0) (r.getD k 0) cc;have fH:=qk3 (l.getD k 0) (r.getD k 0) cc;have nF:=fun w=>qi1 (l.getD k 0) (r.getD k 0) cc fL w;have eQ:=qa0 B64 l k;have Ls:=qa0 B64 r k;have fM:=qb2 B64 s k (qht (l.getD k 0) (r.getD k 0) cc) (by rw[aU.out];omega);have HO:Hid (Own (wr.setCell ⟨w.heap.size,k,none⟩ (.int .u64 (qht (l.getD k 0) (r.getD k 0) cc:Nat))) w.heap.size (s.set k (qht (l.getD k 0) (r.getD k 0) cc)).length (wd (s.set k (qht (l.getD k 0) (r.getD k 0) cc)))):=hid (ho.setWord k (by rw[aU.out];omega) _);have bY:Hid (∀d ∈ s.set k (qht (l.getD k 0) (r.getD k 0) cc),d<B64):=hid (qc7 hsb k _ fH);have HSL':Hid ((s.set k (qht (l.getD k 0) (r.getD k 0) cc)).length=l.length):=hid (by rw[List.length_set];exact aU.out)
    have cG:Hid (low B64 (s.set k (qht (l.getD k 0) (r.getD k 0) cc)) (k+1)+low B64 r (k+1)=low B64 l (k+1)+B64^(k+1)*(ql6 (l.getD k 0) (r.getD k 0) cc)):=
     hid (by rw[eQ,Ls,Nat.pow_succ];exact q4x HS.out jG fM)
    have aG:Hid (Below w.heap.size w (wr.setCell ⟨w.heap.size,k,none⟩ (.int .u64 (qht (l.getD k 0) (r.getD k 0) cc:Nat)))):=hid (hb.setCell (qac _) _);have HY:Hid (k<r.length→wr.cell? ⟨bb,ob+k,none⟩=some (.int .u64 (r.getD k 0:Nat))):=hid fun h=>(dH.later hb) k h;have tK:Hid (¬k<r.length→r.getD k 0=0):=hid fun h=>by simp[List.getElem?_eq_none (by omega:r.length≤k)]
    unfold wd at hx hg;generalize qht (l.getD k 0) (r.getD k 0) cc=lo at *;generalize ql6 (l.getD k 0) (r.getD k 0) cc=hi at *;generalize l.getD k 0=x at *;generalize s.getD k 0=old at *;clear eQ Ls fM jG fH eP kI eT dH hla' hlb' ho HS hsb hb;by_cases Lt:k<r.length
    ·have hy:=HY.out Lt
     clear HY tK;generalize r.getD k 0=y at *;go_wp2_with fail;go_roundw
     case rel=>exact⟨k+1,hi,_,by omega,by go_num,rfl,hh,HSL',bY.out,HO.out,cG,aG.out⟩
     case measure=>simp[intOf];omega
    ·rw[tK.out Lt,show((0:Nat):Int)=0 from rfl] at nF
     clear HY tK;go_wp2_with fail;go_roundw
     case rel=>exact⟨k+1,hi,_,by omega,by go_num,rfl,hh,HSL',bY.out,HO.out,cG,aG.out⟩
     case measure=>simp[intOf];omega
   ·have e:k=l.length:=by omega
    subst e
    have jB:val B64 s=m-n:=by
     have h1:=HS.out;rw[qbf B64 s _ (by rw[aU.out];exact qac _),qbf B64 l _ (qac _),qbf B64 r _ Jy.out] at h1;have h2:=qiv B64 s hsb;rw[aU.out] at h2;rw[←HV.out.2];exact q7h h1 h2 HV.out.1 fL
    have hw:Wds wr (.slice (some ⟨w.heap.size,0,none⟩) l.length l.length) s:=by
     have:=ql9 ho hsb (qac _) (by rw[aU.out];unfold maxLen;omega);rw[aU.out] at this;exact this
    have HT:=hid (qjo _ _ _ hw);rw[jB] at HT;have aG:=hid hb;clear hw jB ho HS hsb hb eT dH hla' hlb';go_wp2_with fail;refine HT.out.mono ?_;rintro e w' ⟨⟨v',rfl,hn⟩,hw'⟩;subst hw';go_wp2_with fail;go_ret;exact⟨⟨_,rfl,hn⟩,aG.out⟩
theorem qnr:qao B64 1=[1]:=by
 rw[qfx B64 1 qam (by omega)];have h1:1 % B64=1:=by rw[qaj]
 have h2:1/B64=0:=by rw[qaj]
 rw[h1,h2,qau]
theorem quv{n:Nat}:qao B64 n=[1]↔n=1:=by
 constructor
 ·intro h;rw[←qnr] at h;exact qq4 qam h
 ·rintro rfl;exact qnr
theorem qcl(v:Value)(n:Nat)(b:Bool)(hb:b=decide (n=1))(w:World)(h:qa2 w v n):
  Calls Tryz.prog 135 #[v] w fun e w'=>e = .returned (.bool b)∧w=w':=by
 refine(q0o v _ w h).mono ?_;rintro e w' ⟨rfl,rfl⟩;refine⟨qa8 ?_,rfl⟩;rw[hb];exact decide_eq_decide.2 quv
theorem quw{B x y p z lo hi s c:Nat}(hx:x<B)(hy:y<B)(hp:p<B)(hz:z<B)(h1:lo+B*hi=y*x+z)(h2:s+B*c=p+lo):hi+c<B∧s+B*(hi+c)=p+y*x+z:=by
 have e:s+B*(hi+c)=p+y*x+z:=by rw[Nat.mul_add];omega
 refine⟨?_,e⟩;rcases Nat.lt_or_ge (hi+c) B with h|h
 ·exact h
 ·have h3:B*B≤B*(hi+c):=Nat.mul_le_mul_left B h
  have h4:y*x≤(B-1)*(B-1):=Nat.mul_le_mul (by omega) (by omega);obtain⟨b,rfl⟩:∃b,B=b+1:=⟨B-1,by omega⟩;simp only[Nat.add_sub_cancel] at h4;have e2:(b+1)*(b+1)=b*b+2*b+1:=by grind
  omega
theorem qw1{B P x s0 s r more more' p y sum q ls ls0 lr:Nat}(h:s+(P*q)*more=s0+P*x*r)(hs:sum+B*more'=p+y*x+more)
  (hls:ls=s+(P*q)*sum) (hls0:ls0=s0+(P*q)*p) (hlr:lr=r+q*y):ls+(P*q*B)*more'=ls0+P*x*lr:=by
 subst hls hls0 hlr;have:=congrArg ((P*q) * ·) hs;simp only[Nat.mul_add] at this;have e1:P*q*(B*more')=P*q*B*more':=(Nat.mul_assoc _ _ _).symm;have e2:P*q*(y*x)=P*x*(q*y):=by grind
 rw[Nat.mul_add,←e2];omega
theorem qq9(va vb:Value)(m n:Nat)(w:World)(ha:qa2 w va m)(hb:qa2 w vb n)(fD:m≠1)(dT:n≠1)(hm:wl m≤Cap)(hn:wl n≤Cap):
  Calls Tryz.prog 99 #[va,vb] w fun e w'=>(∃v',e = .returned v'∧qa2 w' v' (m*n))∧Below w.heap.size w w':=by
 have eM:=hid (qcl va m false (by simp[fD]) w ha);have aP:=hid (qcl vb n false (by simp[dT]) w hb);obtain⟨l,pa,ca,rfl,kJ,rfl,cX⟩:=qkh ha;obtain⟨r,pb,cb,rfl,hU,rfl,cS⟩:=qkh hb;rw[←cX] at hm;rw[←cS] at hn;have jR:=hid hm;have Jz:=hid hn;obtain⟨hla',pa',ca',he,jQ,fC,hcellsa⟩:=kJ;cases he
 obtain⟨hlb',pb',cb',he,jA,fK,hcellsb⟩:=hU;cases he
 have kX:=fun w=>qf7 (l.length+r.length) ((l.length:Int)+(r.length:Int)) (by omega) (by omega) w;have qN:l.length<1152921504606846976:=by have:=hm;unfold Cap at this;omega
 have hr62:r.length<1152921504606846976:=by have:=hn;unfold Cap at this;omega
 have qO:Hid (l.length=0∨∃b o,pa=some ⟨b,o,none⟩∧ql5 w b o l.length (wd l)):=hcellsa;have wK:Hid (r.length=0∨∃b o,pb=some ⟨b,o,none⟩∧ql5 w b o r.length (wd r)):=hcellsb;have kL:=hid hla';have iQ:=hid hlb';clear fD dT hm hn cX cS ha hb hcellsa hcellsb hla' hlb' jQ fC jA fK;go_enter Tryz.func99,Tryz.ntmps99;go_wp2_with fail;refine eM.out.mono ?_;rintro e w' ⟨rfl,hw⟩;subst hw;go_wp2_with fail;refine aP.out.mono ?_;rintro e w' ⟨rfl,hw⟩;subst hw;go_wp2_with fail;have aT:=qha w (l.length+r.length);have bI:Below w.heap.size w (w.alloc (qbg (l.length+r.length))):=qad _ _;have aW:Hid ((List.replicate (l.length+r.length) 0).length=l.length+r.length):=hid (by simp);have gU:=qcg (b:=B64) (by rw[qaj];omega) (l.length+r.length);have mW:Hid (low B64 (List.replicate (l.length+r.length) 0) (0+r.length)=low B64 l 0*val B64 r):=hid (by simp[low,qgr]);have bE:Own (w.alloc (qbg (l.length+r.length))) w.heap.size (List.replicate (l.length+r.length) 0).length (wd (List.replicate (l.length+r.length) 0)):=by rw[aW.out];exact aT
 clear aT;generalize List.replicate (l.length+r.length) 0=s0 at *;generalize w.alloc (qbg (l.length+r.length))=w1 at *
 go_loopw [29] (fun i wr=>∃k:Nat,∃s:List Nat,k≤l.length∧i = .int .i64 k∧Hid (s.length=l.length+r.length)∧(∀d ∈ s,d<B64)∧Own wr w.heap.size s.length (wd s)∧Hid (low B64 s (k+r.length)=low B64 l k*val B64 r)∧Below w.heap.size w wr) (fun i _=>l.length-(intOf i).toNat)
 case atStart=>exact⟨0,s0,Nat.zero_le _,rfl,aW,gU,bE,mW,bI⟩
 case round=>
  obtain⟨k,s,hk,rfl,aU,hsb,ho,HS,hb⟩:=hrel;clear mW aW bE gU bI;by_cases cQ:k<l.length
  ·rcases qO.out with h0|⟨ba,oa,rfl,eT⟩
   ·omega
   have hx:=(eT.later hb) k cQ;have HXL:=hid (qaz (b:=B64) (by rw[qaj];omega) kL.out k);have Fs:=hid (qa0 B64 l k);unfold wd at hx;generalize l.getD k 0=x at *;clear eT;have cL:=hid hsb;have HO:=hid ho;have HB:=hid hb;clear hsb ho hb;go_wp2_with fail
   go_loopw [8,36] (fun c i wr=>∃j cc:Nat,∃s':List Nat,j≤r.length∧i = .int .i64 j∧c = .int .u64 cc∧Hid (cc<B64)∧Hid (s'.length=l.length+r.length)∧Hid (∀d ∈ s',d<B64)∧Hid (Own wr w.heap.size s'.length (wd s'))∧Hid (low B64 s' (k+j)+(B64^k*B64^j)*cc=low B64 s (k+j)+B64^k*x*low B64 r j)∧Hid (∀i,k+j≤i→s'.getD i 0=s.getD i 0)∧Hid (Below w.heap.size w wr)) (fun _ i _=>r.length-(intOf i).toNat)
   case atStart=>exact⟨0,0,s,Nat.zero_le _,rfl,rfl,hid (by rw[qaj];omega),aU,cL,HO,hid (by simp),hid (fun _ _=>rfl),HB⟩
   case round=>
    obtain⟨j,cc,s',hj,rfl,rfl,Cy,HSL',HSB',HO',cG,aS,HB'⟩:=hrel;by_cases hjr:j<r.length
    ·rcases wK.out with h0|⟨bb,ob,rfl,dH⟩
     ·omega
     have pE:k+j<s'.length:=by rw[HSL'.out];omega
     have hy:=(dH.later HB'.out) j hjr;obtain⟨hg,lO⟩:=HO'.out.2 (k+j) pE;have kI:=qaz (b:=B64) (by rw[qaj];omega) iQ.out j;have nG:=qaz (b:=B64) (by rw[qaj];omega) HSB'.out (k+j);have Cz:=qq6 (r.getD j 0) x cc;have fH:=qkf (r.getD j 0) x cc
     have HM:Hid (∀w,Calls Tryz.prog 134 #[.int .u64 (r.getD j 0:Nat),.int .u64 x,.int .u64 cc] w fun e w'=>e = .returned (.tuple #[.int .u64 (qit (r.getD j 0) x cc:Nat),.int .u64 (qiu (r.getD j 0) x cc:Nat)])∧w'=w):=
      fun w=>qcb _ _ _ kI HXL.out Cy.out w
     have bN:=aS.out (k+j) (qac _);have xQ:=qa0 B64 s (k+j);have xR:=qa0 B64 r j;unfold wd at hy hg;have eN:=fun v=>qb2 B64 s' (k+j) v pE;have kM:Hid (∀v:Nat,Own (wr.setCell ⟨w.heap.size,k+j,none⟩ (.int .u64 (v:Nat))) w.heap.size (s'.set (k+j) v).length (wd (s'.set (k+j) v))):=hid fun v=>HO'.out.setWord (k+j) pE v
     have bW:Hid (∀v i,k+(j+1)≤i→(s'.set (k+j) v).getD i 0=s.getD i 0):=hid fun v i hi=>by
      rw[qa3 _ _ _ _ (by omega)];exact aS.out i (by omega)
     rw[bN] at hg nG;generalize r.getD j 0=y at *;generalize s.getD (k+j) 0=p at *;generalize qit y x cc=lo at *;generalize qiu y x cc=hi at *;have nF:∀w,(callFunc 144 #[.int .u64 p,.int .u64 lo,.int .u64 0]).run Tryz.prog w = .ok (.value (.tuple #[.int .u64 (qg4 p lo 0:Nat),.int .u64 (qiz p lo 0:Nat)])) w:=fun w=>qi0 p lo 0 (by omega) w;have hae:=qwv p lo 0;have iG:=qnp p lo 0;generalize qg4 p lo 0=sum at *;generalize qiz p lo 0=c2 at *;obtain⟨jC,bX⟩:=quw HXL.out kI nG Cy.out Cz (by rw[Nat.add_zero] at hae;exact hae)
     have dP:Hid (low B64 (s'.set (k+j) sum) (k+(j+1))+(B64^k*B64^(j+1))*(hi+c2)=low B64 s (k+(j+1))+B64^k*x*low B64 r (j+1)):=by
      refine hid ?_;rw[←Nat.add_assoc,eN sum,xQ,xR,Nat.pow_succ,←Nat.mul_assoc (B64^k)];exact qw1 cG.out bX (by rw[Nat.pow_add]) (by rw[Nat.pow_add]) rfl
     have HW:Hid (IntKind.u64.wrap ((hi:Int)+(c2:Int))=((hi+c2:Nat):Int)):=by
      refine hid ?_;rw[qaj] at jC;rw[IntKind.wrap_u64];omega
     have bY:Hid (∀d ∈ s'.set (k+j) sum,d<B64):=hid (qc7 HSB'.out _ _ iG);have cE:Hid ((s'.set (k+j) sum).length=l.length+r.length):=hid (by rw[List.length_set];exact HSL'.out);have xS:=hid jC;have aK:Hid (Below w.heap.size w (wr.setCell ⟨w.heap.size,k+j,none⟩ (.int .u64 (sum:Nat)))):=hid (HB'.out.setCell (qac _) _);have Fu:k+j<l.length+r.length:=by omega
     clear eN xQ xR bN hae iG jC bX Cz fH kI nG dH cG aS HSL' HSB' HO' HB' pE;go_wp2_with fail;refine(HM.out _).mono ?_;rintro e w' ⟨rfl,hw'⟩;rw[hw'];clear hw' HM;go_wp2_with fail;go_roundw
     case rel=>exact⟨j+1,hi+c2,_,by omega,by go_num,by rw[HW.out],xS,cE,bY,hid (kM.out sum),dP,hid (bW.out sum),aK⟩
     case measure=>simp[intOf];omega
    ·have e:j=r.length:=by omega
     subst e;have pE:k+r.length<s'.length:=by rw[HSL'.out];omega
     obtain⟨hg,lO⟩:=HO'.out.2 (k+r.length) pE;have jH:Hid (Own (wr.setCell ⟨w.heap.size,k+r.length,none⟩ (.int .u64 (cc:Nat))) w.heap.size (s'.set (k+r.length) cc).length (wd (s'.set (k+r.length) cc))):=hid (HO'.out.setWord (k+r.length) pE cc)
     have dP:Hid (low B64 (s'.set (k+r.length) cc) (k+1+r.length)=low B64 l (k+1)*val B64 r):=by
      refine hid ?_;rw[show k+1+r.length=k+r.length+1 from by omega,qb2 B64 s' (k+r.length) cc pE,Fs.out,Nat.add_mul,←HS.out,Nat.pow_add,cG.out,qbf B64 r _ (qac _)]
     have bY:Hid (∀d ∈ s'.set (k+r.length) cc,d<B64):=hid (qc7 HSB'.out _ _ Cy.out);have cE:Hid ((s'.set (k+r.length) cc).length=l.length+r.length):=hid (by rw[List.length_set];exact HSL'.out);have aK:Hid (Below w.heap.size w (wr.setCell ⟨w.heap.size,k+r.length,none⟩ (.int .u64 (cc:Nat)))):=hid (HB'.out.setCell (qac _) _);have Fu:k+r.length<l.length+r.length:=by omega
     generalize wd s' (k+r.length)=old at *;clear cG aS HSL' HSB' HO' HB' pE;go_wp2_with fail;go_roundw
     case rel=>exact⟨k+1,_,by omega,by go_num,cE,bY.out,jH.out,dP,aK.out⟩
     case measure=>simp[intOf];omega
  ·have e:k=l.length:=by omega
   subst e
   have jB:val B64 s=val B64 l*val B64 r:=by
    rw[←qbf B64 s (l.length+r.length) (by rw[aU.out];exact qac _),HS.out,qbf B64 l _ (qac _)]
   have hw:Wds wr (.slice (some ⟨w.heap.size,0,none⟩) (l.length+r.length) (l.length+r.length)) s:=by
    have:=ql9 ho hsb (qac _) (by rw[aU.out];unfold maxLen;omega);rw[aU.out] at this;exact this
   have HT:=hid (qjo _ _ _ hw);rw[jB] at HT;have aG:=hid hb;clear hw jB ho hsb hb;go_wp2_with fail;refine HT.out.mono ?_;rintro e w' ⟨⟨v',rfl,hn⟩,hw'⟩;subst hw';go_wp2_with fail;go_ret;exact⟨⟨_,rfl,hn⟩,aG.out⟩
theorem qgs(va vb:Value)(m n:Nat)(w:World)(ha:qa2 w va m)(hb:qa2 w vb n)(hm:wl m≤Cap)(hn:wl n≤Cap):
  Calls Tryz.prog 99 #[va,vb] w fun e w'=>(∃v',e = .returned v'∧qa2 w' v' (m*n))∧Below w.heap.size w w':=by
 by_cases fD:m=1
 ·subst fD
  have eM:=hid (qcl va 1 true rfl w ha);rw[Nat.one_mul];have HB:=hid hb;clear ha hb hm hn;go_enter Tryz.func99,Tryz.ntmps99;go_wp2_with fail;refine eM.out.mono ?_;rintro e w' ⟨rfl,hw⟩;subst hw;go_wp2_with fail;go_ret;exact⟨⟨_,rfl,HB.out⟩,qaa _ _⟩
 ·by_cases dT:n=1
  ·subst dT
   have eM:=hid (qcl va m false (by simp[fD]) w ha);have aP:=hid (qcl vb 1 true rfl w hb);rw[Nat.mul_one];have HA:=hid ha;clear ha hb hm hn fD;go_enter Tryz.func99,Tryz.ntmps99;go_wp2_with fail;refine eM.out.mono ?_;rintro e w' ⟨rfl,hw⟩;subst hw;go_wp2_with fail;refine aP.out.mono ?_;rintro e w' ⟨rfl,hw⟩;subst hw;go_wp2_with fail;go_ret;exact⟨⟨_,rfl,HA.out⟩,qaa _ _⟩
  ·exact qq9 va vb m n w ha hb fD dT hm hn
theorem qeo(a b:Nat)(w:World):Calls Tryz.prog 148 #[.int .u64 a,.int .u64 b] w fun e w'=>e = .returned (.int .u64 (Nat.gcd a b:Nat))∧∃q,w'=w.drewN q:=by
 generalize hg:Nat.gcd a b=g;have HG:=hid hg;clear hg;go_enter Tryz.func148,Tryz.ntmps148;go_wp2_with fail
 go_loopw [0,1] (fun s t wr=>∃x y:Nat,s = .int .u64 x∧t = .int .u64 y∧Hid (Nat.gcd x y=g)∧∃q,wr=w.drewN q) (fun _ t _=>(intOf t).toNat)
 case atStart=>exact⟨a,b,rfl,rfl,HG,0,rfl⟩
 case round=>
  obtain⟨x,y,rfl,rfl,HR,q,rfl⟩:=hrel;by_cases hy:0<y
  ·have hy':0<(y:Int):=by omega
   have cN:Hid (Nat.gcd y (x % y)=g):=hid (by rw[←HR.out,Nat.gcd_comm x y,Nat.gcd_rec y x,Nat.gcd_comm]);have HM:Hid (x % y<y):=hid (Nat.mod_lt _ hy);go_wp2_with fail
   go_quiet (fail)
   go_wp2_with fail;exact⟨⟨y,x % y,rfl,by rw[Int.natCast_emod],cN,_,World.drewN_drewN _ _ _⟩,by show((x:Int) % (y:Int)).toNat<(y:Int).toNat;have:=HM.out;omega⟩
  ·have hy':¬0<(y:Int):=by omega
   have:y=0:=by omega
   subst this;have HX:Hid (x=g):=hid (by rw[←HR.out,Nat.gcd_zero_right]);go_wp2_with fail;go_ret;exact⟨by rw[HX.out];rfl,_,rfl⟩
def qgb(w:World)(base:Nat)(v:Value)(l:List Nat):Prop:=
 (∀d ∈ l,d<B64)∧∃p c,v = .slice p l.length c∧l.length≤c∧c≤maxLen∧(l.length=0∨∃g,base≤g∧p=some ⟨g,0,none⟩∧Own w g l.length (wd l))
theorem qgb.wds{w:World}{base:Nat}{v:Value}{l:List Nat}(h:qgb w base v l):Wds w v l:=by
 obtain⟨h1,p,c,h2,h3,h4,h5⟩:=h;refine⟨h1,p,c,h2,h3,h4, ?_⟩;rcases h5 with h5|⟨g,_,h6,h7⟩
 ·exact .inl h5
 ·exact .inr ⟨g,0,h6,h7.row⟩
theorem qhb{w:World}{base:Nat}{v:Value}{l:List Nat}(hl:∀d ∈ l,d<B64)(h:w.ownsRow base 155 1 v l.length (l.map fun x=>Value.int .u64 (x:Nat))):qgb w base v l:=by
 refine⟨hl, ?_⟩;have h0:=h;obtain⟨_,⟨rfl,hn⟩|⟨g,cap,cur,rfl,hg,qP,hn,aQ,_,_⟩⟩:=h
 ·exact⟨none,0,by rw[hn],by omega,by unfold maxLen;omega,.inl hn⟩
 ·refine⟨some ⟨g,0,none⟩,cap,rfl,hn,aQ,.inr ⟨g,hg,rfl, ?_,fun i hi=>⟨?_,h0.frozenAt i⟩⟩⟩
  ·rcases Nat.lt_or_ge g w.heap.size with h1|h1
   ·exact h1
   ·rw[Array.getElem?_eq_none h1] at qP;cases qP
  ·rw[h0.cellAt i (by omega)]
   unfold wd;simp[hi]
theorem qod(v:Value)(l:List Nat)(w:World)(h:Wds w v l)(aQ:l.length≤Cap):
  Calls Tryz.prog 145 #[v] w fun e w'=>(∃v',e = .returned v'∧qgb w' w.heap.size v' l)∧Below w.heap.size w w':=by
 obtain⟨hl,p,c,rfl,bO,bJ,aA⟩:=h;have q22:∀(w:World) (a:Option Addr) (n c n' c':Nat),(binOp .eql 83 (.slice a n c) (.slice none n' c')).run Tryz.prog w = .ok (.bool a.isNone) w:=fun w a n c n' c'=>Lib.run_eql_slice_nil w _ _ a n c n' c' Tryz.underlying83;rcases p with _|⟨b,o,sp⟩
 ·have h0:l.length=0:=by
   rcases aA with h0|⟨b,o,h1,_⟩
   ·exact h0
   ·cases h1
  have HF:Hid (qgb w w.heap.size (.slice none 0 0) l):=hid ⟨hl,none,0,by rw[h0],by omega,by unfold maxLen;omega,.inl h0⟩;clear hl bO bJ aA aQ h0;go_enter Tryz.func145,Tryz.ntmps145;go_wp2_with fail;go_ret;exact⟨⟨_,rfl,HF.out⟩,qaa _ _⟩
 ·obtain⟨i0,hi,cP,dV,eF⟩:=info_parts (show(Tryz.prog.info? 155).map (fun i=>(i.zero,i.size,i.bytes))=some (some (.int .u64 0),1,8) by kernel_rfl)
  have HI:=hid hi;have HL:=hid hl
  have HC:Hid (∀i,i<l.length→w.cell? ((⟨b,o,sp⟩:Addr).add i)=some (wd l i)):=by
   refine hid fun i hi => ?_;rcases aA with h0|⟨b',o',h1,h2⟩
   ·omega
   ·cases h1
    rw[Addr.add_lit];exact h2 i hi
  have cM:Hid (l.length≤1099511627776):=aQ;clear hl bO bJ aA aQ;go_enter Tryz.func145,Tryz.ntmps145;go_wp2_with (at_builtin;refine wpList_append_own _ rfl _ _ 83 rfl w.heap.size 155 i0 (.int .u64 0) 1 8 Tryz.underlying83 HI.out cP dV eF rfl (by decide) _ _ _ rfl (World.ownsRow_made w #[] 0 (qac _) (Nat.zero_le _) rfl) ⟨b,o,sp⟩ l.length c (l.map fun x=>Value.int .u64 (x:Nat)) rfl ?lQ ?Au ?Av ?Aw ?Ax ?Ay ?_)
  case lQ=>simp
  case Au=>
   intro j u hj
   have kN:j<l.length:=by
    have:=(List.getElem?_eq_some_iff.1 hj).1
    simpa using this
   have h1:=HC.out j kN;have e:(l.map fun x=>Value.int .u64 (x:Nat))[j]? = some (wd l j):=by unfold wd;simp[kN]
   rw[e] at hj;cases hj
   rw[((qaa w.heap.size w).alloc (qac _) _).cell (qaf w _ h1)];exact h1
  case Av=>intro u hu;obtain⟨x,_,rfl⟩:=List.mem_map.1 hu;rfl
  case Aw=>have:=cM.out;unfold maxLen;omega
  case Ax=>have:=cM.out;omega
  case Ay=>simp
  intro v' w1 aT bK qQ;have HO:Hid (qgb w1 w.heap.size v' l):=hid (qhb HL.out (by simpa using aT));have HB:Hid (Below w.heap.size w w1):=hid (((qaa _ w).alloc (qac _) _).grown bK (by simp) (by intro k hk;simp[Value.ownBlock] at hk;omega));clear aT bK qQ;go_wp2_with fail;go_ret;exact⟨⟨_,rfl,HO.out⟩,HB.out⟩
def qdl(w:World)(base g cap:Nat)(l:List Nat):Prop:=
 (∀d ∈ l,d<B64)∧w.ownsRow base 155 1 (.slice (some ⟨g,0,none⟩) l.length cap) l.length (l.map fun x=>Value.int .u64 (x:Nat))
theorem qdl.parts{w:World}{base g cap:Nat}{l:List Nat}(h:qdl w base g cap l):
  base≤g∧l.length≤cap∧cap≤maxLen∧∃cur:Array Value,w.heap[g]? = some (.cells cur 155 (0,0))∧cur.size=cap∧cur.toList.take l.length=l.map fun x=>Value.int .u64 (x:Nat):=by
 obtain⟨_,_,⟨h',_⟩|⟨g',cap',cur,h',hb,hg,hnc,hcm,tL,Lu⟩⟩:=h
 ·simp at h'
 ·simp only[Value.slice.injEq,Option.some.injEq,Addr.mk.injEq,and_true,true_and] at h'
  obtain⟨rfl,rfl⟩:=h';exact⟨hb,hnc,hcm,cur,hg,by simpa using tL,by simpa using Lu⟩
theorem qoe{w:World}{base g cap:Nat}{l:List Nat}(hl:∀d ∈ l,d<B64)(hb:base≤g)(h1:l.length≤cap)(h2:cap≤maxLen){cur:Array Value}(hg:w.heap[g]? = some (.cells cur 155 (0,0)))(hs:cur.size=cap)
  (ht:cur.toList.take l.length=l.map fun x=>Value.int .u64 (x:Nat)):qdl w base g cap l:=
 ⟨hl,by simp,.inr ⟨g,cap,cur,rfl,hb,hg,h1,h2,by simpa using hs,by simpa using ht⟩⟩
theorem qdl.lt{w:World}{base g cap:Nat}{l:List Nat}(h:qdl w base g cap l):g<w.heap.size:=by
 obtain⟨_,_,_,cur,hg,_⟩:=h.parts;rcases Nat.lt_or_ge g w.heap.size with h1|h1
 ·exact h1
 ·rw[Array.getElem?_eq_none h1] at hg;cases hg
theorem qdl.own{w:World}{base g cap:Nat}{l:List Nat}(h:qdl w base g cap l):Own w g l.length (wd l):=by
 refine⟨h.lt,fun i hi=>⟨?_,h.2.frozenAt i⟩⟩;rw[h.2.cellAt i (by omega)];unfold wd;simp[hi]
theorem qdl.wds{w:World}{base g cap:Nat}{l:List Nat}(h:qdl w base g cap l):Wds w (.slice (some ⟨g,0,none⟩) l.length cap) l:=by
 obtain⟨_,h1,h2,_⟩:=h.parts;exact⟨h.1,_,cap,rfl,h1,h2,.inr ⟨g,0,rfl,h.own.row⟩⟩
theorem qdl.nat{w:World}{base g cap x:Nat}(h:qdl w base g cap (qao B64 x)):qa2 w (.slice (some ⟨g,0,none⟩) (wl x) cap) x:=h.wds
theorem qdl.same{w w':World}{base g cap:Nat}{l:List Nat}(h:qdl w base g cap l)(he:w'.heap[g]? = w.heap[g]?):qdl w' base g cap l:=by
 obtain⟨h1,h2,h3,cur,hg,h4,h5⟩:=h.parts;exact qoe h.1 h1 h2 h3 (he.trans hg) h4 h5
theorem qdl.mono{w:World}{base base' g cap:Nat}{l:List Nat}(h:qdl w base g cap l)(hb:base'≤base):qdl w base' g cap l:=by
 obtain⟨h1,h2,h3,cur,hg,h4,h5⟩:=h.parts;exact qoe h.1 (by omega) h2 h3 hg h4 h5
theorem qyk(w:World)(n:Nat)(hn:n≤maxLen):qdl (w.alloc (qbg n)) w.heap.size w.heap.size n (List.replicate n 0):=by
 have aE:(List.replicate n 0).length=n:=by simp
 refine qoe (qcg (by rw[qaj];omega) n) (qac _) (by rw[aE];exact qac _) hn (heap_alloc_new w _) ?_ ?_
 ·rw[←Array.length_toList,toList_madeCells_one];simp
 ·rw[toList_madeCells_one,aE];simp
theorem qdl.later{w w':World}{base g cap B:Nat}{l:List Nat}(h:qdl w base g cap l)(hb:Below B w w')(hB:g<B):qdl w' base g cap l:=
 h.same (hb.block g hB)
theorem qdl.first{w:World}{base g cap:Nat}{l:List Nat}(h:qdl w base g cap l)(k:Nat)(hk:k≤l.length):qdl w base g cap (l.take k):=by
 obtain⟨h1,h2,h3,cur,hg,h4,h5⟩:=h.parts;have aE:(l.take k).length=k:=by simp;omega
 refine qoe (fun d hd=>h.1 d (List.mem_of_mem_take hd)) h1 (by omega) h3 hg h4 ?_;rw[aE,List.map_take,←h5,List.take_take,Nat.min_eq_left hk]
def qnm(w w':World):Prop:=∀(g:Nat) (cur:Array Value),w.heap[g]? = some (.cells cur 155 (0,0))→∃cur':Array Value,w'.heap[g]? = some (.cells cur' 155 (0,0))∧cur'.size=cur.size
theorem qnm.refl(w:World):qnm w w:=fun _ cur h=>⟨cur,h,rfl⟩
theorem qnm.trans{a b c:World}(h:qnm a b)(k:qnm b c):qnm a c:=fun g cur hg=>by
 obtain⟨c1,h1,e1⟩:=h g cur hg;obtain⟨c2,h2,e2⟩:=k g c1 h1;exact⟨c2,h2,e2.trans e1⟩
theorem qnm.drew(w:World):qnm w w.drew:=fun _ cur h=>⟨cur,h,rfl⟩
theorem qnm.alloc(w:World)(o:Obj):qnm w (w.alloc o):=fun g cur hg=>by
 refine⟨cur, ?_,rfl⟩;rcases Nat.lt_or_ge g w.heap.size with h1|h1
 ·rw[Below.heap_alloc _ _ _ h1];exact hg
 ·rw[Array.getElem?_eq_none h1] at hg;cases hg
theorem qnm.setCell(w:World)(g o:Nat)(v:Value):qnm w (w.setCell ⟨g,o,none⟩ v):=fun k cur hk=>by
 by_cases e:k=g
 ·subst e
  exact⟨_,heap_setCell_same w k o cur _ v hk,by simp⟩
 ·exact⟨cur,(Below.heap_setCell w ⟨g,o,none⟩ v k e).trans hk,rfl⟩
theorem qdl.after{w w':World}{base g cap:Nat}{l:List Nat}(h:qdl w base g cap l)(hk:qnm w w'){S:List Nat}(hS:S.length=l.length)(hd:∀d ∈ S,d<B64)(ho:Own w' g S.length (wd S)):qdl w' base g cap S:=by
 obtain⟨h1,h2,h3,cur,hg,h4,h5⟩:=h.parts;obtain⟨cur',hg',hs'⟩:=hk g cur hg;refine qoe hd h1 (by omega) h3 hg' (hs'.trans h4) ?_;apply List.ext_getElem?;intro i;rw[List.getElem?_take];by_cases hi:i<S.length
 ·have hc:=(ho.2 i hi).1
  rw[cell_of_row w' g i cur' _ (0,0) hg'] at hc;rw[if_pos hi,Array.getElem?_toList,hc];unfold wd;simp[hi]
 ·rw[if_neg hi]
  exact(List.getElem?_eq_none (by rw[List.length_map];exact Nat.le_of_not_lt hi)).symm
theorem q0u(base g cap:Nat)(l:List Nat)(w:World)(h:qdl w base g cap l):
  Calls Tryz.prog 101 #[.slice (some ⟨g,0,none⟩) l.length cap] w fun e w'=>(e = .returned (.slice (some ⟨g,0,none⟩) (wl (val B64 l)) cap)∧qdl w base g cap (qao B64 (val B64 l)))∧w=w':=by
 refine(qg9 _ cap l w h.wds).mono ?_;rintro e w' ⟨⟨k,hk,rfl,hd⟩,rfl⟩;have aE:wl (val B64 l)=k:=by unfold wl;rw[hd];simp;omega
 exact⟨⟨by rw[aE],by rw[hd];exact h.first k hk⟩,rfl⟩
theorem qhc(base g cap n x:Nat)(l:List Nat)(w:World)(h:qdl w base g cap l)(hl:l.length=n)(hx:val B64 l=x):
  Calls Tryz.prog 101 #[.slice (some ⟨g,0,none⟩) n cap] w fun e w'=>(e = .returned (.slice (some ⟨g,0,none⟩) (wl x) cap)∧qdl w base g cap (qao B64 x))∧w=w':=by
 rw[←hl,←hx];exact q0u base g cap l w h
end Go.Proofs.YtmcfcpgglfimjaaGreatDoor
