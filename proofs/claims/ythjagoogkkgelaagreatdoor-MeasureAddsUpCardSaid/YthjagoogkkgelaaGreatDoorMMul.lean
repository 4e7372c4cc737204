/- add: the sum of two natural numbers; word. -/
import Derived.Test.YthjagoogkkgelaaGreatDoorMBase
import Derived.Laws.OwnMore
import Derived.OwnWalk
import Derived.Lib.SliceRun
import Derived.Deep.AppendLies
set_option linter.all false
namespace Go.Proofs.YthjagoogkkgelaaGreatDoor
open Go.RowKit
set_option maxRecDepth 100000
set_option maxHeartbeats 1000000
theorem qxr(v:Value)(l:List Nat)(i:Int)(w:World)(h:Wds w v l)(hi:0≤i):
  Calls Tryz.prog 206 #[v,.int .i64 i] w fun e w'=>e = .returned (.int .u64 (l.getD i.toNat 0:Nat))∧w'=w:=by
 obtain⟨hl,p,c,rfl,hc1,hc2,hcells⟩:=h;unfold maxLen at hc2;obtain⟨i,rfl⟩:=Int.eq_ofNat_of_zero_le hi;rw[Int.toNat_natCast];by_cases hil:i<l.length
 ·rcases hcells with h0|⟨b,o,rfl,hrow⟩
  ·omega
  have hcell:=hrow i hil;unfold wd at hcell;clear hrow hl;generalize l.getD i 0=x at *;go_enter Tryz.func206,Tryz.ntmps206;go_wp2;go_ret;exact⟨rfl,rfl⟩
 ·have e:l.getD i 0=0:=by simp[List.getD_eq_getElem?_getD,List.getElem?_eq_none (by omega:l.length≤i)]
  rw[e];clear e;go_enter Tryz.func206,Tryz.ntmps206;go_wp2;go_ret;exact⟨rfl,rfl⟩
theorem qmr{w:World}{g c:Nat}{l:List Nat}(h:Own w g l.length (wd l))(hl:∀d ∈ l,d<B64)(hn:l.length≤c)(hc:c≤maxLen):Wds w (.slice (some ⟨g,0,none⟩) l.length c) l:=⟨hl,h.sliceAt hn hc⟩
theorem q5j{B b s la ra lo hi c x y lx:Nat}(h:s+b*c=la+ra)(hx:lo+B*hi=x+y+c)(hl:lx=s+b*lo):lx+(b*B)*hi=(la+b*x)+(ra+b*y):=by
 subst hl;have:=congrArg (b * ·) hx;simp only[Nat.mul_add] at this;rw[Nat.mul_assoc];omega
theorem q7z(va vb:Value)(pa pb:Option Addr)(ca cb:Nat)(l r:List Nat)(w:World)(ha:Wds w (.slice pa l.length ca) l)(hb:Wds w (.slice pb r.length cb) r)(hr0:r.length≠0)(hlr:r.length≤l.length)(hcap:l.length≤Cap)
  (hargs:(va = .slice pa l.length ca∧vb = .slice pb r.length cb)∨(va = .slice pb r.length cb∧vb = .slice pa l.length ca∧r.length<l.length)):
  Calls Tryz.prog 159 #[va,vb] w fun e w'=>(∃v',e = .returned v'∧qaq w' v' (val B64 l+val B64 r))∧Below w.heap.size w w':=by
 obtain⟨hla,pa',ca',he,hca1,hca2,hcellsa⟩:=ha;cases he
 obtain⟨hlb,pb',cb',he,hcb1,hcb2,hcellsb⟩:=hb;cases he
 unfold maxLen at hca2 hcb2;rcases hcellsa with h0|⟨ba,oa,rfl,hrowa⟩
 ·omega
 rcases hcellsb with h0|⟨bb,ob,rfl,hrowb⟩
 ·omega
 have hmk:=fun w=>qgj (l.length+1) ((l.length:Int)+1) (by omega) (by have:=qkq;omega) w;have hr0':((r.length:Int)==0)=false:=beq_eq_false_iff_ne.2 (by omega);have hl62:l.length<4611686018427387904:=by have:=hcap;unfold Cap at this;omega
 have HL:=hid hlr;have hlt:¬(l.length:Int)<r.length:=by omega
 have HC:=hid hcap;have HR:=hid hr0;clear hlr hcap hr0;rcases hargs with⟨rfl,rfl⟩|⟨rfl,rfl,hrl⟩
 all_goals
  go_enter Tryz.func159,Tryz.ntmps159;go_wp2_with fail;have hown:=qhn w (l.length+1);have hbel:Below w.heap.size w (w.alloc (qa6 (l.length+1))):=(Below.refl _ _).alloc (Nat.le_refl _) _;have HLEN:Hid ((List.replicate (l.length+1) 0).length=l.length+1):=hid (by simp);have hlt0:=qb5 (b:=B64) (by rw[qab];omega) (l.length+1);have HST:Hid (low B64 (List.replicate (l.length+1) 0) 0+B64^0*0=low B64 l 0+low B64 r 0):=hid (by simp);have HOWN:Own (w.alloc (qa6 (l.length+1))) w.heap.size (List.replicate (l.length+1) 0).length (wd (List.replicate (l.length+1) 0)):=by rw[HLEN.out];exact hown
  clear hown;generalize List.replicate (l.length+1) 0=s0 at *;generalize w.alloc (qa6 (l.length+1))=w1 at *;have HG:Hid (∃g,g=w.heap.size):=hid ⟨_,rfl⟩
  go_loopw [6,26] (fun c i wr=>∃k cc:Nat,∃s:List Nat,k≤l.length∧i = .int .i64 k∧c = .int .u64 cc∧cc≤1∧Hid (s.length=l.length+1)∧(∀d ∈ s,d<B64)∧Own wr w.heap.size s.length (wd s)∧Hid (low B64 s k+B64^k*cc=low B64 l k+low B64 r k)∧Below w.heap.size w wr) (fun _ i _=>l.length-(intOf i).toNat)
  case atStart=>exact⟨0,0,s0,Nat.zero_le _,rfl,rfl,by omega,HLEN,hlt0,HOWN,HST,hbel⟩
  case round=>
   obtain⟨k,cc,s,hk,rfl,rfl,hcc,HSL,hsb,ho,HS,hb⟩:=hrel;clear HST HLEN HOWN hlt0 hbel;by_cases hkl:k<l.length
   ·have hx:=(hrowa.later hb) k hkl
    obtain⟨hg,hfz⟩:=ho.2 k (by rw[HSL.out];omega);have hxl:=qao (b:=B64) (by rw[qab];omega) hla k;have hyl:=qao (b:=B64) (by rw[qab];omega) hlb k;have hst:=qxp (l.getD k 0) (r.getD k 0) cc;have hh:=qru hxl hyl hcc;have hlo:=qoa (l.getD k 0) (r.getD k 0) cc;have hrun:=fun w=>qi6 (l.getD k 0) (r.getD k 0) cc hcc w;have hsl:=qap B64 l k;have hsr:=qap B64 r k;have hss:=qbq B64 s k (qhf (l.getD k 0) (r.getD k 0) cc) (by rw[HSL.out];omega);have HO:Hid (Own (wr.setCell ⟨w.heap.size,k,none⟩ (.int .u64 (qhf (l.getD k 0) (r.getD k 0) cc:Nat))) w.heap.size (s.set k (qhf (l.getD k 0) (r.getD k 0) cc)).length (wd (s.set k (qhf (l.getD k 0) (r.getD k 0) cc)))):=hid (ho.setWord k (by rw[HSL.out];omega) _);have HSET:Hid (∀d ∈ s.set k (qhf (l.getD k 0) (r.getD k 0) cc),d<B64):=hid (qcs hsb k _ hlo);have HSL':Hid ((s.set k (qhf (l.getD k 0) (r.getD k 0) cc)).length=l.length+1):=hid (by rw[List.length_set];exact HSL.out)
    have HREL:Hid (low B64 (s.set k (qhf (l.getD k 0) (r.getD k 0) cc)) (k+1)+B64^(k+1)*(qi5 (l.getD k 0) (r.getD k 0) cc)=low B64 l (k+1)+low B64 r (k+1)):=
     hid (by rw[hsl,hsr,Nat.pow_succ];exact q5j HS.out hst hss)
    have HBEL:Hid (Below w.heap.size w (wr.setCell ⟨w.heap.size,k,none⟩ (.int .u64 (qhf (l.getD k 0) (r.getD k 0) cc:Nat)))):=hid (hb.setCell (Nat.le_refl _) _);have HY:Hid (k<r.length→wr.cell? ⟨bb,ob+k,none⟩=some (.int .u64 (r.getD k 0:Nat))):=hid fun h=>(hrowb.later hb) k h;have HY0:Hid (¬k<r.length→r.getD k 0=0):=hid fun h=>by simp[List.getElem?_eq_none (by omega:r.length≤k)]
    unfold wd at hx hg;generalize qhf (l.getD k 0) (r.getD k 0) cc=lo at *;generalize qi5 (l.getD k 0) (r.getD k 0) cc=hi at *;generalize l.getD k 0=x at *;generalize s.getD k 0=old at *;clear hsl hsr hss hst hlo hxl hyl hrowa hrowb hla hlb ho HS hsb hb;by_cases hkr:k<r.length
    ·have hy:=HY.out hkr
     clear HY HY0;generalize r.getD k 0=y at *;go_wp2_with fail;go_roundw
     case rel=>exact⟨k+1,hi,_,by omega,by go_num,rfl,hh,HSL',HSET.out,HO.out,HREL,HBEL.out⟩
     case measure=>simp[intOf];omega
    ·rw[HY0.out hkr,show((0:Nat):Int)=0 from rfl] at hrun
     clear HY HY0;go_wp2_with fail;go_roundw
     case rel=>exact⟨k+1,hi,_,by omega,by go_num,rfl,hh,HSL',HSET.out,HO.out,HREL,HBEL.out⟩
     case measure=>simp[intOf];omega
   ·have e:k=l.length:=by omega
    subst e;obtain⟨hg,hfz⟩:=ho.2 l.length (by rw[HSL.out];omega);have hcb:cc<B64:=by rw[qab];omega
    have hlow:=qbq B64 s l.length cc (by rw[HSL.out];omega);have hlow2:=qa5 B64 (s.set l.length cc) (l.length+1) (by rw[List.length_set,HSL.out];exact Nat.le_refl _)
    have hval:val B64 (s.set l.length cc)=val B64 l+val B64 r:=by
     rw[←hlow2,hlow,HS.out,qa5 B64 l _ (Nat.le_refl _),qa5 B64 r _ HL.out]
    have ho':=ho.setWord l.length (by rw[HSL.out];omega) cc;have hlen':(s.set l.length cc).length=l.length+1:=by rw[List.length_set];exact HSL.out
    have hw:Wds (wr.setCell ⟨w.heap.size,l.length,none⟩ (.int .u64 (cc:Nat))) (.slice (some ⟨w.heap.size,0,none⟩) (l.length+1) (l.length+1)) (s.set l.length cc):=by
     have:=qmr ho' (qcs hsb l.length cc hcb) (Nat.le_refl _) (by rw[hlen'];unfold maxLen;omega);rw[hlen'] at this;exact this
    have HT:=hid (qjt _ _ _ hw);have HB:Hid (Below w.heap.size w (wr.setCell ⟨w.heap.size,l.length,none⟩ (.int .u64 (cc:Nat)))):=hid (hb.setCell (Nat.le_refl _) _);rw[hval] at HT;clear hw hlen' ho' hval hlow hlow2 hcb ho HS hsb hb hrowa hrowb hla hlb;generalize hgo:wd s l.length=old at *;clear hgo;go_wp2_with fail;refine HT.out.mono ?_;rintro e w' ⟨⟨v',rfl,hn⟩,hw'⟩;subst hw';go_wp2_with fail;go_ret;exact⟨⟨_,rfl,hn⟩,HB.out⟩
theorem qkr{w:World}{v:Value}{n:Nat}(h:qaq w v n):∃(l:List Nat) (p:Option Addr) (c:Nat),v = .slice p l.length c∧Wds w v l∧val B64 l=n∧l.length=wl n:=by
 obtain⟨h1,p,c,hv,h2⟩:=h;exact⟨qaf B64 n,p,c,hv,⟨h1,p,c,hv,h2⟩,qah _ _ qae,rfl⟩
theorem qeu{n:Nat}(h:wl n=0):n=0:=(qe9 qae).1 (List.eq_nil_of_length_eq_zero h)
theorem q1i(va vb:Value)(m n:Nat)(w:World)(ha:qaq w va m)(hb:qaq w vb n)(hm:wl m≤Cap)(hn:wl n≤Cap):
  Calls Tryz.prog 159 #[va,vb] w fun e w'=>(∃v',e = .returned v'∧qaq w' v' (m+n))∧Below w.heap.size w w':=by
 have HA:=hid ha;have HB:=hid hb;obtain⟨l,pa,ca,rfl,hwa,rfl,hla⟩:=qkr ha;obtain⟨r,pb,cb,rfl,hwb,rfl,hlb⟩:=qkr hb;rw[←hla] at hm;rw[←hlb] at hn;have Hla:=hid hla;have Hlb:=hid hlb;clear hla hlb ha hb;rcases Nat.lt_or_ge l.length r.length with hlt|hlt
 ·by_cases hl0:l.length=0
  ·have e0:val B64 l=0:=qeu (by rw[←Hla.out];exact hl0)
   have hb1:((l.length:Int)==0)=true:=by rw[hl0];rfl
   have hb2:(l.length:Int)<r.length:=by omega
   rw[e0,Nat.zero_add];clear hwa hwb hl0 hm hn e0 hlt;go_enter Tryz.func159,Tryz.ntmps159;go_wp2_with fail;go_ret;exact⟨⟨_,rfl,HB.out⟩,Below.refl _ _⟩
  ·rw[Nat.add_comm]
   exact q7z _ _ pb pa cb ca r l w hwb hwa hl0 (by omega) hn (.inr ⟨rfl,rfl,hlt⟩)
 ·by_cases hr0:r.length=0
  ·have e0:val B64 r=0:=qeu (by rw[←Hlb.out];exact hr0)
   have hb1:((r.length:Int)==0)=true:=by rw[hr0];rfl
   have hb2:¬(l.length:Int)<r.length:=by omega
   rw[e0,Nat.add_zero];clear hwa hwb hr0 hm hn e0 hlt;go_enter Tryz.func159,Tryz.ntmps159;go_wp2_with fail;go_ret;exact⟨⟨_,rfl,HA.out⟩,Below.refl _ _⟩
  ·exact q7z _ _ pa pb ca cb l r w hwa hwb hr0 hlt hm (.inl ⟨rfl,rfl⟩)
theorem q5k{B b s la ra lo hi c x y ls:Nat}(h:s+ra=la+b*c)(hx:lo+y+c=x+B*hi)(hl:ls=s+b*lo):ls+(ra+b*y)=(la+b*x)+(b*B)*hi:=by
 subst hl;have:=congrArg (b * ·) hx;simp only[Nat.mul_add] at this;rw[Nat.mul_assoc];omega
theorem q8p{s r l p c:Nat}(h1:s+r=l+p*c)(h2:s<p)(h3:r≤l)(hc:c≤1):s=l-r:=by
 have:c=0∨c=1:=by omega
 rcases this with rfl|rfl<;>omega
theorem qnn(va vb:Value)(m n:Nat)(w:World)(ha:qaq w va m)(hb:qaq w vb n)(hmn:n≤m)(hm:wl m≤Cap):
  Calls Tryz.prog 169 #[va,vb] w fun e w'=>(∃v',e = .returned v'∧qaq w' v' (m-n))∧Below w.heap.size w w':=by
 have HA:=hid ha;have HLEN:=hid (qad qae hmn);obtain⟨l,pa,ca,rfl,hwa,hvl,hla⟩:=qkr ha;obtain⟨r,pb,cb,rfl,hwb,hvr,hlb⟩:=qkr hb;by_cases hr0:r.length=0
 ·have e0:n=0:=qeu (by rw[←hlb];exact hr0)
  subst e0;have hb1:((r.length:Int)==0)=true:=by rw[hr0];rfl
  rw[Nat.sub_zero];clear hwa hwb hr0 hm hvl hvr hla hlb hmn HLEN ha hb;go_enter Tryz.func169,Tryz.ntmps169;go_wp2_with fail;go_ret;exact⟨⟨_,rfl,HA.out⟩,Below.refl _ _⟩
 ·have HLR:Hid (r.length≤l.length):=hid (by rw[hla,hlb];exact HLEN.out)
  have HV:Hid (val B64 r≤val B64 l∧val B64 l-val B64 r=m-n):=hid (by rw[hvl,hvr];exact⟨hmn,rfl⟩);rw[←hla] at hm;obtain⟨hla',pa',ca',he,hca1,hca2,hcellsa⟩:=hwa;cases he
  obtain⟨hlb',pb',cb',he,hcb1,hcb2,hcellsb⟩:=hwb;cases he
  unfold maxLen at hca2 hcb2;rcases hcellsa with h0|⟨ba,oa,rfl,hrowa⟩
  ·have:=HLR.out;omega
  rcases hcellsb with h0|⟨bb,ob,rfl,hrowb⟩
  ·omega
  have hmk:=fun w=>qgj l.length (l.length:Int) rfl (by omega) w;have hr0':((r.length:Int)==0)=false:=beq_eq_false_iff_ne.2 (by omega);have hl62:l.length<4611686018427387904:=by have:=hm;unfold Cap at this;omega
  clear hr0 hm hvl hvr hla hlb hmn HLEN ha hb HA;go_enter Tryz.func169,Tryz.ntmps169;go_wp2_with fail;have hown:=qhn w l.length;have hbel:Below w.heap.size w (w.alloc (qa6 l.length)):=(Below.refl _ _).alloc (Nat.le_refl _) _;have HLEN:Hid ((List.replicate l.length 0).length=l.length):=hid (by simp);have hlt0:=qb5 (b:=B64) (by rw[qab];omega) l.length;have HST:Hid (low B64 (List.replicate l.length 0) 0+low B64 r 0=low B64 l 0+B64^0*0):=hid (by simp);have HOWN:Own (w.alloc (qa6 l.length)) w.heap.size (List.replicate l.length 0).length (wd (List.replicate l.length 0)):=by rw[HLEN.out];exact hown
  clear hown;generalize List.replicate l.length 0=s0 at *;generalize w.alloc (qa6 l.length)=w1 at *
  go_loopw [6,18] (fun c i wr=>∃k cc:Nat,∃s:List Nat,k≤l.length∧i = .int .i64 k∧c = .int .u64 cc∧cc≤1∧Hid (s.length=l.length)∧(∀d ∈ s,d<B64)∧Own wr w.heap.size s.length (wd s)∧Hid (low B64 s k+low B64 r k=low B64 l k+B64^k*cc)∧Below w.heap.size w wr) (fun _ i _=>l.length-(intOf i).toNat)
  case atStart=>exact⟨0,0,s0,Nat.zero_le _,rfl,rfl,by omega,HLEN,hlt0,HOWN,HST,hbel⟩
  case round=>
   obtain⟨k,cc,s,hk,rfl,rfl,hcc,HSL,hsb,ho,HS,hb⟩:=hrel;clear HST HLEN HOWN hlt0 hbel;by_cases hkl:k<l.length
   ·have hx:=(hrowa.later hb) k hkl
    obtain⟨hg,hfz⟩:=ho.2 k (by rw[HSL.out];omega);have hxl:=qao (b:=B64) (by rw[qab];omega) hla' k;have hyl:=qao (b:=B64) (by rw[qab];omega) hlb' k;have hst:=qs7 hxl hyl hcc;have hh:=qob (l.getD k 0) (r.getD k 0) cc;have hlo:=qlg (l.getD k 0) (r.getD k 0) cc;have hrun:=fun w=>qi7 (l.getD k 0) (r.getD k 0) cc hcc w;have hsl:=qap B64 l k;have hsr:=qap B64 r k;have hss:=qbq B64 s k (qh7 (l.getD k 0) (r.getD k 0) cc) (by rw[HSL.out];omega);have HO:Hid (Own (wr.setCell ⟨w.heap.size,k,none⟩ (.int .u64 (qh7 (l.getD k 0) (r.getD k 0) cc:Nat))) w.heap.size (s.set k (qh7 (l.getD k 0) (r.getD k 0) cc)).length (wd (s.set k (qh7 (l.getD k 0) (r.getD k 0) cc)))):=hid (ho.setWord k (by rw[HSL.out];omega) _);have HSET:Hid (∀d ∈ s.set k (qh7 (l.getD k 0) (r.getD k 0) cc),d<B64):=hid (qcs hsb k _ hlo);have HSL':Hid ((s.set k (qh7 (l.getD k 0) (r.getD k 0) cc)).length=l.length):=hid (by rw[List.length_set];exact HSL.out)
    have HREL:Hid (low B64 (s.set k (qh7 (l.getD k 0) (r.getD k 0) cc)) (k+1)+low B64 r (k+1)=low B64 l (k+1)+B64^(k+1)*(qmp (l.getD k 0) (r.getD k 0) cc)):=
     hid (by rw[hsl,hsr,Nat.pow_succ];exact q5k HS.out hst hss)
    have HBEL:Hid (Below w.heap.size w (wr.setCell ⟨w.heap.size,k,none⟩ (.int .u64 (qh7 (l.getD k 0) (r.getD k 0) cc:Nat)))):=hid (hb.setCell (Nat.le_refl _) _);have HY:Hid (k<r.length→wr.cell? ⟨bb,ob+k,none⟩=some (.int .u64 (r.getD k 0:Nat))):=hid fun h=>(hrowb.later hb) k h;have HY0:Hid (¬k<r.length→r.getD k 0=0):=hid fun h=>by simp[List.getElem?_eq_none (by omega:r.length≤k)]
    unfold wd at hx hg;generalize qh7 (l.getD k 0) (r.getD k 0) cc=lo at *;generalize qmp (l.getD k 0) (r.getD k 0) cc=hi at *;generalize l.getD k 0=x at *;generalize s.getD k 0=old at *;clear hsl hsr hss hst hlo hxl hyl hrowa hrowb hla' hlb' ho HS hsb hb;by_cases hkr:k<r.length
    ·have hy:=HY.out hkr
     clear HY HY0;generalize r.getD k 0=y at *;go_wp2_with fail;go_roundw
     case rel=>exact⟨k+1,hi,_,by omega,by go_num,rfl,hh,HSL',HSET.out,HO.out,HREL,HBEL.out⟩
     case measure=>simp[intOf];omega
    ·rw[HY0.out hkr,show((0:Nat):Int)=0 from rfl] at hrun
     clear HY HY0;go_wp2_with fail;go_roundw
     case rel=>exact⟨k+1,hi,_,by omega,by go_num,rfl,hh,HSL',HSET.out,HO.out,HREL,HBEL.out⟩
     case measure=>simp[intOf];omega
   ·have e:k=l.length:=by omega
    subst e
    have hval:val B64 s=m-n:=by
     have h1:=HS.out;rw[qa5 B64 s _ (by rw[HSL.out];exact Nat.le_refl _),qa5 B64 l _ (Nat.le_refl _),qa5 B64 r _ HLR.out] at h1;have h2:=qi1 B64 s hsb;rw[HSL.out] at h2;rw[←HV.out.2];exact q8p h1 h2 HV.out.1 hcc
    have hw:Wds wr (.slice (some ⟨w.heap.size,0,none⟩) l.length l.length) s:=by
     have:=qmr ho hsb (Nat.le_refl _) (by rw[HSL.out];unfold maxLen;omega);rw[HSL.out] at this;exact this
    have HT:=hid (qjt _ _ _ hw);rw[hval] at HT;have HBEL:=hid hb;clear hw hval ho HS hsb hb hrowa hrowb hla' hlb';go_wp2_with fail;refine HT.out.mono ?_;rintro e w' ⟨⟨v',rfl,hn⟩,hw'⟩;subst hw';go_wp2_with fail;go_ret;exact⟨⟨_,rfl,hn⟩,HBEL.out⟩
theorem qoc:qaf B64 1=[1]:=by
 rw[qf5 B64 1 qae (by omega)];have h1:1 % B64=1:=by rw[qab]
 have h2:1/B64=0:=by rw[qab]
 rw[h1,h2,qam]
theorem qvp{n:Nat}:qaf B64 n=[1]↔n=1:=by
 constructor
 ·intro h;rw[←qoc] at h;exact qrt qae h
 ·rintro rfl;exact qoc
theorem qce(v:Value)(n:Nat)(b:Bool)(hb:b=decide (n=1))(w:World)(h:qaq w v n):
  Calls Tryz.prog 112 #[v] w fun e w'=>e = .returned (.bool b)∧w=w':=by
 refine(q1d v _ w h).mono ?_;rintro e w' ⟨rfl,rfl⟩;refine⟨qbc ?_,rfl⟩;rw[hb];exact decide_eq_decide.2 qvp
theorem qvq{B x y p z lo hi s c:Nat}(hx:x<B)(hy:y<B)(hp:p<B)(hz:z<B)(h1:lo+B*hi=y*x+z)(h2:s+B*c=p+lo):hi+c<B∧s+B*(hi+c)=p+y*x+z:=by
 have e:s+B*(hi+c)=p+y*x+z:=by rw[Nat.mul_add];omega
 refine⟨?_,e⟩;rcases Nat.lt_or_ge (hi+c) B with h|h
 ·exact h
 ·have h3:B*B≤B*(hi+c):=Nat.mul_le_mul_left B h
  have h4:y*x≤(B-1)*(B-1):=Nat.mul_le_mul (by omega) (by omega);obtain⟨b,rfl⟩:∃b,B=b+1:=⟨B-1,by omega⟩;simp only[Nat.add_sub_cancel] at h4;have e2:(b+1)*(b+1)=b*b+2*b+1:=by grind
  omega
theorem qxs{B P x s0 s r more more' p y sum q ls ls0 lr:Nat}(h:s+(P*q)*more=s0+P*x*r)(hs:sum+B*more'=p+y*x+more)
  (hls:ls=s+(P*q)*sum) (hls0:ls0=s0+(P*q)*p) (hlr:lr=r+q*y):ls+(P*q*B)*more'=ls0+P*x*lr:=by
 subst hls hls0 hlr;have:=congrArg ((P*q) * ·) hs;simp only[Nat.mul_add] at this;have e1:P*q*(B*more')=P*q*B*more':=(Nat.mul_assoc _ _ _).symm;have e2:P*q*(y*x)=P*x*(q*y):=by grind
 rw[Nat.mul_add,←e2];omega
theorem qry(va vb:Value)(m n:Nat)(w:World)(ha:qaq w va m)(hb:qaq w vb n)(hm1:m≠1)(hn1:n≠1)(hm:wl m≤Cap)(hn:wl n≤Cap):
  Calls Tryz.prog 75 #[va,vb] w fun e w'=>(∃v',e = .returned v'∧qaq w' v' (m*n))∧Below w.heap.size w w':=by
 have HA1:=hid (qce va m false (by simp[hm1]) w ha);have HB1:=hid (qce vb n false (by simp[hn1]) w hb);obtain⟨l,pa,ca,rfl,hwa,rfl,hla⟩:=qkr ha;obtain⟨r,pb,cb,rfl,hwb,rfl,hlb⟩:=qkr hb;rw[←hla] at hm;rw[←hlb] at hn;have HCL:=hid hm;have HCR:=hid hn;obtain⟨hla',pa',ca',he,hca1,hca2,hcellsa⟩:=hwa;cases he
 obtain⟨hlb',pb',cb',he,hcb1,hcb2,hcellsb⟩:=hwb;cases he
 have hmk:=fun w=>qgj (l.length+r.length) ((l.length:Int)+(r.length:Int)) (by omega) (by omega) w;have hl62:l.length<1152921504606846976:=by have:=hm;unfold Cap at this;omega
 have hr62:r.length<1152921504606846976:=by have:=hn;unfold Cap at this;omega
 have HCA:Hid (l.length=0∨∃b o,pa=some ⟨b,o,none⟩∧qmo w b o l.length (wd l)):=hcellsa;have HCB:Hid (r.length=0∨∃b o,pb=some ⟨b,o,none⟩∧qmo w b o r.length (wd r)):=hcellsb;have HLA:=hid hla';have HLB:=hid hlb';clear hm1 hn1 hm hn hla hlb ha hb hcellsa hcellsb hla' hlb' hca1 hca2 hcb1 hcb2;go_enter Tryz.func75,Tryz.ntmps75;go_wp2_with fail;refine HA1.out.mono ?_;rintro e w' ⟨rfl,hw⟩;subst hw;go_wp2_with fail;refine HB1.out.mono ?_;rintro e w' ⟨rfl,hw⟩;subst hw;go_wp2_with fail;have hown:=qhn w (l.length+r.length);have hbel:Below w.heap.size w (w.alloc (qa6 (l.length+r.length))):=(Below.refl _ _).alloc (Nat.le_refl _) _;have HLEN:Hid ((List.replicate (l.length+r.length) 0).length=l.length+r.length):=hid (by simp);have hlt0:=qb5 (b:=B64) (by rw[qab];omega) (l.length+r.length);have HST:Hid (low B64 (List.replicate (l.length+r.length) 0) (0+r.length)=low B64 l 0*val B64 r):=hid (by simp[low,qg2]);have HOWN:Own (w.alloc (qa6 (l.length+r.length))) w.heap.size (List.replicate (l.length+r.length) 0).length (wd (List.replicate (l.length+r.length) 0)):=by rw[HLEN.out];exact hown
 clear hown;generalize List.replicate (l.length+r.length) 0=s0 at *;generalize w.alloc (qa6 (l.length+r.length))=w1 at *
 go_loopw [29] (fun i wr=>∃k:Nat,∃s:List Nat,k≤l.length∧i = .int .i64 k∧Hid (s.length=l.length+r.length)∧(∀d ∈ s,d<B64)∧Own wr w.heap.size s.length (wd s)∧Hid (low B64 s (k+r.length)=low B64 l k*val B64 r)∧Below w.heap.size w wr) (fun i _=>l.length-(intOf i).toNat)
 case atStart=>exact⟨0,s0,Nat.zero_le _,rfl,HLEN,hlt0,HOWN,HST,hbel⟩
 case round=>
  obtain⟨k,s,hk,rfl,HSL,hsb,ho,HS,hb⟩:=hrel;clear HST HLEN HOWN hlt0 hbel;by_cases hkl:k<l.length
  ·rcases HCA.out with h0|⟨ba,oa,rfl,hrowa⟩
   ·omega
   have hx:=(hrowa.later hb) k hkl;have HXL:=hid (qao (b:=B64) (by rw[qab];omega) HLA.out k);have HSLK:=hid (qap B64 l k);unfold wd at hx;generalize l.getD k 0=x at *;clear hrowa;have HSB:=hid hsb;have HO:=hid ho;have HB:=hid hb;clear hsb ho hb;go_wp2_with fail
   go_loopw [8,36] (fun c i wr=>∃j cc:Nat,∃s':List Nat,j≤r.length∧i = .int .i64 j∧c = .int .u64 cc∧Hid (cc<B64)∧Hid (s'.length=l.length+r.length)∧Hid (∀d ∈ s',d<B64)∧Hid (Own wr w.heap.size s'.length (wd s'))∧Hid (low B64 s' (k+j)+(B64^k*B64^j)*cc=low B64 s (k+j)+B64^k*x*low B64 r j)∧Hid (∀i,k+j≤i→s'.getD i 0=s.getD i 0)∧Hid (Below w.heap.size w wr)) (fun _ i _=>r.length-(intOf i).toNat)
   case atStart=>exact⟨0,0,s,Nat.zero_le _,rfl,rfl,hid (by rw[qab];omega),HSL,HSB,HO,hid (by simp),hid (fun _ _=>rfl),HB⟩
   case round=>
    obtain⟨j,cc,s',hj,rfl,rfl,HCC,HSL',HSB',HO',HREL,HSAME,HB'⟩:=hrel;by_cases hjr:j<r.length
    ·rcases HCB.out with h0|⟨bb,ob,rfl,hrowb⟩
     ·omega
     have hkj:k+j<s'.length:=by rw[HSL'.out];omega
     have hy:=(hrowb.later HB'.out) j hjr;obtain⟨hg,hfz⟩:=HO'.out.2 (k+j) hkj;have hyl:=qao (b:=B64) (by rw[qab];omega) HLB.out j;have hpl:=qao (b:=B64) (by rw[qab];omega) HSB'.out (k+j);have hmw:=qrv (r.getD j 0) x cc;have hlo:=qkp (r.getD j 0) x cc
     have HM:Hid (∀w,Calls Tryz.prog 113 #[.int .u64 (r.getD j 0:Nat),.int .u64 x,.int .u64 cc] w fun e w'=>e = .returned (.tuple #[.int .u64 (qiz (r.getD j 0) x cc:Nat),.int .u64 (qi0 (r.getD j 0) x cc:Nat)])∧w'=w):=
      fun w=>qb2 _ _ _ hyl HXL.out HCC.out w
     have hsame:=HSAME.out (k+j) (Nat.le_refl _);have hsl0:=qap B64 s (k+j);have hslr:=qap B64 r j;unfold wd at hy hg;have hset:=fun v=>qbq B64 s' (k+j) v hkj;have HOset:Hid (∀v:Nat,Own (wr.setCell ⟨w.heap.size,k+j,none⟩ (.int .u64 (v:Nat))) w.heap.size (s'.set (k+j) v).length (wd (s'.set (k+j) v))):=hid fun v=>HO'.out.setWord (k+j) hkj v
     have HSAME2:Hid (∀v i,k+(j+1)≤i→(s'.set (k+j) v).getD i 0=s.getD i 0):=hid fun v i hi=>by
      rw[qar _ _ _ _ (by omega)];exact HSAME.out i (by omega)
     rw[hsame] at hg hpl;generalize r.getD j 0=y at *;generalize s.getD (k+j) 0=p at *;generalize qiz y x cc=lo at *;generalize qi0 y x cc=hi at *;have hrun:∀w,(callFunc 114 #[.int .u64 p,.int .u64 lo,.int .u64 0]).run Tryz.prog w = .ok (.value (.tuple #[.int .u64 (qhf p lo 0:Nat),.int .u64 (qi5 p lo 0:Nat)])) w:=fun w=>qi6 p lo 0 (by omega) w;have hae:=qxp p lo 0;have hslt:=qoa p lo 0;generalize qhf p lo 0=sum at *;generalize qi5 p lo 0=c2 at *;obtain⟨hmore,hsum⟩:=qvq HXL.out hyl hpl HCC.out hmw (by rw[Nat.add_zero] at hae;exact hae)
     have HREL2:Hid (low B64 (s'.set (k+j) sum) (k+(j+1))+(B64^k*B64^(j+1))*(hi+c2)=low B64 s (k+(j+1))+B64^k*x*low B64 r (j+1)):=by
      refine hid ?_;rw[←Nat.add_assoc,hset sum,hsl0,hslr,Nat.pow_succ,←Nat.mul_assoc (B64^k)];exact qxs HREL.out hsum (by rw[Nat.pow_add]) (by rw[Nat.pow_add]) rfl
     have HW:Hid (IntKind.u64.wrap ((hi:Int)+(c2:Int))=((hi+c2:Nat):Int)):=by
      refine hid ?_;rw[qab] at hmore;rw[IntKind.wrap_u64];omega
     have HSET:Hid (∀d ∈ s'.set (k+j) sum,d<B64):=hid (qcs HSB'.out _ _ hslt);have HLEN2:Hid ((s'.set (k+j) sum).length=l.length+r.length):=hid (by rw[List.length_set];exact HSL'.out);have HMORE:=hid hmore;have HB2:Hid (Below w.heap.size w (wr.setCell ⟨w.heap.size,k+j,none⟩ (.int .u64 (sum:Nat)))):=hid (HB'.out.setCell (Nat.le_refl _) _);have hkj2:k+j<l.length+r.length:=by omega
     clear hset hsl0 hslr hsame hae hslt hmore hsum hmw hlo hyl hpl hrowb HREL HSAME HSL' HSB' HO' HB' hkj;go_wp2_with fail;refine(HM.out _).mono ?_;rintro e w' ⟨rfl,hw'⟩;rw[hw'];clear hw' HM;go_wp2_with fail;go_roundw
     case rel=>exact⟨j+1,hi+c2,_,by omega,by go_num,by rw[HW.out],HMORE,HLEN2,HSET,hid (HOset.out sum),HREL2,hid (HSAME2.out sum),HB2⟩
     case measure=>simp[intOf];omega
    ·have e:j=r.length:=by omega
     subst e;have hkj:k+r.length<s'.length:=by rw[HSL'.out];omega
     obtain⟨hg,hfz⟩:=HO'.out.2 (k+r.length) hkj;have HO2:Hid (Own (wr.setCell ⟨w.heap.size,k+r.length,none⟩ (.int .u64 (cc:Nat))) w.heap.size (s'.set (k+r.length) cc).length (wd (s'.set (k+r.length) cc))):=hid (HO'.out.setWord (k+r.length) hkj cc)
     have HREL2:Hid (low B64 (s'.set (k+r.length) cc) (k+1+r.length)=low B64 l (k+1)*val B64 r):=by
      refine hid ?_;rw[show k+1+r.length=k+r.length+1 from by omega,qbq B64 s' (k+r.length) cc hkj,HSLK.out,Nat.add_mul,←HS.out,Nat.pow_add,HREL.out,qa5 B64 r _ (Nat.le_refl _)]
     have HSET:Hid (∀d ∈ s'.set (k+r.length) cc,d<B64):=hid (qcs HSB'.out _ _ HCC.out);have HLEN2:Hid ((s'.set (k+r.length) cc).length=l.length+r.length):=hid (by rw[List.length_set];exact HSL'.out);have HB2:Hid (Below w.heap.size w (wr.setCell ⟨w.heap.size,k+r.length,none⟩ (.int .u64 (cc:Nat)))):=hid (HB'.out.setCell (Nat.le_refl _) _);have hkj2:k+r.length<l.length+r.length:=by omega
     generalize wd s' (k+r.length)=old at *;clear HREL HSAME HSL' HSB' HO' HB' hkj;go_wp2_with fail;go_roundw
     case rel=>exact⟨k+1,_,by omega,by go_num,HLEN2,HSET.out,HO2.out,HREL2,HB2.out⟩
     case measure=>simp[intOf];omega
  ·have e:k=l.length:=by omega
   subst e
   have hval:val B64 s=val B64 l*val B64 r:=by
    rw[←qa5 B64 s (l.length+r.length) (by rw[HSL.out];exact Nat.le_refl _),HS.out,qa5 B64 l _ (Nat.le_refl _)]
   have hw:Wds wr (.slice (some ⟨w.heap.size,0,none⟩) (l.length+r.length) (l.length+r.length)) s:=by
    have:=qmr ho hsb (Nat.le_refl _) (by rw[HSL.out];unfold maxLen;omega);rw[HSL.out] at this;exact this
   have HT:=hid (qjt _ _ _ hw);rw[hval] at HT;have HBEL:=hid hb;clear hw hval ho hsb hb;go_wp2_with fail;refine HT.out.mono ?_;rintro e w' ⟨⟨v',rfl,hn⟩,hw'⟩;subst hw';go_wp2_with fail;go_ret;exact⟨⟨_,rfl,hn⟩,HBEL.out⟩
theorem qg4(va vb:Value)(m n:Nat)(w:World)(ha:qaq w va m)(hb:qaq w vb n)(hm:wl m≤Cap)(hn:wl n≤Cap):
  Calls Tryz.prog 75 #[va,vb] w fun e w'=>(∃v',e = .returned v'∧qaq w' v' (m*n))∧Below w.heap.size w w':=by
 by_cases hm1:m=1
 ·subst hm1
  have HA1:=hid (qce va 1 true rfl w ha);rw[Nat.one_mul];have HB:=hid hb;clear ha hb hm hn;go_enter Tryz.func75,Tryz.ntmps75;go_wp2_with fail;refine HA1.out.mono ?_;rintro e w' ⟨rfl,hw⟩;subst hw;go_wp2_with fail;go_ret;exact⟨⟨_,rfl,HB.out⟩,Below.refl _ _⟩
 ·by_cases hn1:n=1
  ·subst hn1
   have HA1:=hid (qce va m false (by simp[hm1]) w ha);have HB1:=hid (qce vb 1 true rfl w hb);rw[Nat.mul_one];have HA:=hid ha;clear ha hb hm hn hm1;go_enter Tryz.func75,Tryz.ntmps75;go_wp2_with fail;refine HA1.out.mono ?_;rintro e w' ⟨rfl,hw⟩;subst hw;go_wp2_with fail;refine HB1.out.mono ?_;rintro e w' ⟨rfl,hw⟩;subst hw;go_wp2_with fail;go_ret;exact⟨⟨_,rfl,HA.out⟩,Below.refl _ _⟩
  ·exact qry va vb m n w ha hb hm1 hn1 hm hn
theorem qev(a b:Nat)(w:World):Calls Tryz.prog 119 #[.int .u64 a,.int .u64 b] w fun e w'=>e = .returned (.int .u64 (Nat.gcd a b:Nat))∧∃q,w'=w.drewN q:=by
 generalize hg:Nat.gcd a b=g;have HG:=hid hg;clear hg;go_enter Tryz.func119,Tryz.ntmps119;go_wp2_with fail
 go_loopw [0,1] (fun s t wr=>∃x y:Nat,s = .int .u64 x∧t = .int .u64 y∧Hid (Nat.gcd x y=g)∧∃q,wr=w.drewN q) (fun _ t _=>(intOf t).toNat)
 case atStart=>exact⟨a,b,rfl,rfl,HG,0,rfl⟩
 case round=>
  obtain⟨x,y,rfl,rfl,HR,q,rfl⟩:=hrel;by_cases hy:0<y
  ·have hy':0<(y:Int):=by omega
   have HR2:Hid (Nat.gcd y (x % y)=g):=hid (by rw[←HR.out,Nat.gcd_comm x y,Nat.gcd_rec y x,Nat.gcd_comm]);have HM:Hid (x % y<y):=hid (Nat.mod_lt _ hy);go_wp2_with fail
   go_quiet (fail)
   go_wp2_with fail;exact⟨⟨y,x % y,rfl,by rw[Int.natCast_emod],HR2,_,World.drewN_drewN _ _ _⟩,by show((x:Int) % (y:Int)).toNat<(y:Int).toNat;have:=HM.out;omega⟩
  ·have hy':¬0<(y:Int):=by omega
   have:y=0:=by omega
   subst this;have HX:Hid (x=g):=hid (by rw[←HR.out,Nat.gcd_zero_right]);go_wp2_with fail;go_ret;exact⟨by rw[HX.out];rfl,_,rfl⟩
def qgo(w:World)(base:Nat)(v:Value)(l:List Nat):Prop:=
 (∀d ∈ l,d<B64)∧∃p c,v = .slice p l.length c∧l.length≤c∧c≤maxLen∧(l.length=0∨∃g,base≤g∧p=some ⟨g,0,none⟩∧Own w g l.length (wd l))
theorem qgo.wds{w:World}{base:Nat}{v:Value}{l:List Nat}(h:qgo w base v l):Wds w v l:=by
 obtain⟨h1,p,c,h2,h3,h4,h5⟩:=h;refine⟨h1,p,c,h2,h3,h4, ?_⟩;rcases h5 with h5|⟨g,_,h6,h7⟩
 ·exact .inl h5
 ·exact .inr ⟨g,0,h6,h7.row⟩
theorem qho{w:World}{base:Nat}{v:Value}{l:List Nat}(hl:∀d ∈ l,d<B64)(h:w.ownsRow base 136 1 v l.length (l.map fun x=>Value.int .u64 (x:Nat))):qgo w base v l:=by
 refine⟨hl, ?_⟩;have h0:=h;obtain⟨_,⟨rfl,hn⟩|⟨g,cap,cur,rfl,hg,hheap,hn,hcap,_,_⟩⟩:=h
 ·exact⟨none,0,by rw[hn],by omega,by unfold maxLen;omega,.inl hn⟩
 ·refine⟨some ⟨g,0,none⟩,cap,rfl,hn,hcap,.inr ⟨g,hg,rfl, ?_,fun i hi=>⟨?_,h0.frozenAt i⟩⟩⟩
  ·rcases Nat.lt_or_ge g w.heap.size with h1|h1
   ·exact h1
   ·rw[Array.getElem?_eq_none h1] at hheap;cases hheap
  ·rw[h0.cellAt i (by omega)]
   unfold wd;simp[hi]
theorem qoz(v:Value)(l:List Nat)(w:World)(h:Wds w v l)(hcap:l.length≤Cap):
  Calls Tryz.prog 116 #[v] w fun e w'=>(∃v',e = .returned v'∧qgo w' w.heap.size v' l)∧Below w.heap.size w w':=by
 obtain⟨hl,p,c,rfl,hc1,hc2,hcells⟩:=h;have q22:∀(w:World) (a:Option Addr) (n c n' c':Nat),(binOp .eql 78 (.slice a n c) (.slice none n' c')).run Tryz.prog w = .ok (.bool a.isNone) w:=fun w a n c n' c'=>Lib.run_eql_slice_nil w _ _ a n c n' c' Tryz.underlying78;rcases p with _|⟨b,o,sp⟩
 ·have h0:l.length=0:=by
   rcases hcells with h0|⟨b,o,h1,_⟩
   ·exact h0
   ·cases h1
  have HF:Hid (qgo w w.heap.size (.slice none 0 0) l):=hid ⟨hl,none,0,by rw[h0],by omega,by unfold maxLen;omega,.inl h0⟩;clear hl hc1 hc2 hcells hcap h0;go_enter Tryz.func116,Tryz.ntmps116;go_wp2_with fail;go_ret;exact⟨⟨_,rfl,HF.out⟩,Below.refl _ _⟩
 ·obtain⟨i0,hi,hz0,hz1,hz2⟩:=info_parts (show(Tryz.prog.info? 136).map (fun i=>(i.zero,i.size,i.bytes))=some (some (.int .u64 0),1,8) by kernel_rfl)
  have HI:=hid hi;have HL:=hid hl
  have HC:Hid (∀i,i<l.length→w.cell? ((⟨b,o,sp⟩:Addr).add i)=some (wd l i)):=by
   refine hid fun i hi => ?_;rcases hcells with h0|⟨b',o',h1,h2⟩
   ·omega
   ·cases h1
    rw[Addr.add_lit];exact h2 i hi
  have HCAP:Hid (l.length≤1099511627776):=hcap;clear hl hc1 hc2 hcells hcap;go_enter Tryz.func116,Tryz.ntmps116;go_wp2_with (at_builtin;refine wpList_append_own _ rfl _ _ 78 rfl w.heap.size 136 i0 (.int .u64 0) 1 8 Tryz.underlying78 HI.out hz0 hz1 hz2 rfl (by decide) _ _ _ rfl (World.ownsRow_made w #[] 0 (Nat.le_refl _) (Nat.zero_le _) rfl) ⟨b,o,sp⟩ l.length c (l.map fun x=>Value.int .u64 (x:Nat)) rfl ?qc1 ?qc2 ?qc3 ?qc4 ?qc5 ?qc6 ?_)
  case qc1=>simp
  case qc2=>
   intro j u hj
   have hjn:j<l.length:=by
    have:=(List.getElem?_eq_some_iff.1 hj).1
    simpa using this
   have h1:=HC.out j hjn;have e:(l.map fun x=>Value.int .u64 (x:Nat))[j]? = some (wd l j):=by unfold wd;simp[hjn]
   rw[e] at hj;cases hj
   rw[((Below.refl w.heap.size w).alloc (Nat.le_refl _) _).cell (World.block_lt_of_cell? w _ h1)];exact h1
  case qc3=>intro u hu;obtain⟨x,_,rfl⟩:=List.mem_map.1 hu;rfl
  case qc4=>have:=HCAP.out;unfold maxLen;omega
  case qc5=>have:=HCAP.out;omega
  case qc6=>simp
  intro v' w1 hown hgrow hnil;have HO:Hid (qgo w1 w.heap.size v' l):=hid (qho HL.out (by simpa using hown));have HB:Hid (Below w.heap.size w w1):=hid (((Below.refl _ w).alloc (Nat.le_refl _) _).grown hgrow (by simp) (by intro k hk;simp[Value.ownBlock] at hk;omega));clear hown hgrow hnil;go_wp2_with fail;go_ret;exact⟨⟨_,rfl,HO.out⟩,HB.out⟩
def qdg(w:World)(base g cap:Nat)(l:List Nat):Prop:=
 (∀d ∈ l,d<B64)∧w.ownsRow base 136 1 (.slice (some ⟨g,0,none⟩) l.length cap) l.length (l.map fun x=>Value.int .u64 (x:Nat))
theorem qdg.parts{w:World}{base g cap:Nat}{l:List Nat}(h:qdg w base g cap l):
  base≤g∧l.length≤cap∧cap≤maxLen∧∃cur:Array Value,w.heap[g]? = some (.cells cur 136 (0,0))∧cur.size=cap∧cur.toList.take l.length=l.map fun x=>Value.int .u64 (x:Nat):=by
 obtain⟨_,_,⟨h',_⟩|⟨g',cap',cur,h',hb,hg,hnc,hcm,hcs,htake⟩⟩:=h
 ·simp at h'
 ·simp only[Value.slice.injEq,Option.some.injEq,Addr.mk.injEq,and_true,true_and] at h'
  obtain⟨rfl,rfl⟩:=h';exact⟨hb,hnc,hcm,cur,hg,by simpa using hcs,by simpa using htake⟩
theorem qo0{w:World}{base g cap:Nat}{l:List Nat}(hl:∀d ∈ l,d<B64)(hb:base≤g)(h1:l.length≤cap)(h2:cap≤maxLen){cur:Array Value}(hg:w.heap[g]? = some (.cells cur 136 (0,0)))(hs:cur.size=cap)
  (ht:cur.toList.take l.length=l.map fun x=>Value.int .u64 (x:Nat)):qdg w base g cap l:=
 ⟨hl,by simp,.inr ⟨g,cap,cur,rfl,hb,hg,h1,h2,by simpa using hs,by simpa using ht⟩⟩
theorem qdg.lt{w:World}{base g cap:Nat}{l:List Nat}(h:qdg w base g cap l):g<w.heap.size:=by
 obtain⟨_,_,_,cur,hg,_⟩:=h.parts;rcases Nat.lt_or_ge g w.heap.size with h1|h1
 ·exact h1
 ·rw[Array.getElem?_eq_none h1] at hg;cases hg
theorem qdg.own{w:World}{base g cap:Nat}{l:List Nat}(h:qdg w base g cap l):Own w g l.length (wd l):=by
 refine⟨h.lt,fun i hi=>⟨?_,h.2.frozenAt i⟩⟩;rw[h.2.cellAt i (by omega)];unfold wd;simp[hi]
theorem qdg.wds{w:World}{base g cap:Nat}{l:List Nat}(h:qdg w base g cap l):Wds w (.slice (some ⟨g,0,none⟩) l.length cap) l:=by
 obtain⟨_,h1,h2,_⟩:=h.parts;exact⟨h.1,_,cap,rfl,h1,h2,.inr ⟨g,0,rfl,h.own.row⟩⟩
theorem qdg.nat{w:World}{base g cap x:Nat}(h:qdg w base g cap (qaf B64 x)):qaq w (.slice (some ⟨g,0,none⟩) (wl x) cap) x:=h.wds
theorem qdg.same{w w':World}{base g cap:Nat}{l:List Nat}(h:qdg w base g cap l)(he:w'.heap[g]? = w.heap[g]?):qdg w' base g cap l:=by
 obtain⟨h1,h2,h3,cur,hg,h4,h5⟩:=h.parts;exact qo0 h.1 h1 h2 h3 (he.trans hg) h4 h5
theorem qdg.mono{w:World}{base base' g cap:Nat}{l:List Nat}(h:qdg w base g cap l)(hb:base'≤base):qdg w base' g cap l:=by
 obtain⟨h1,h2,h3,cur,hg,h4,h5⟩:=h.parts;exact qo0 h.1 (by omega) h2 h3 hg h4 h5
theorem qy4(w:World)(n:Nat)(hn:n≤maxLen):qdg (w.alloc (qa6 n)) w.heap.size w.heap.size n (List.replicate n 0):=by
 have hlen:(List.replicate n 0).length=n:=by simp
 refine qo0 (qb5 (by rw[qab];omega) n) (Nat.le_refl _) (by rw[hlen];exact Nat.le_refl _) hn (heap_alloc_new w _) ?_ ?_
 ·rw[←Array.length_toList,toList_madeCells_one];simp
 ·rw[toList_madeCells_one,hlen];simp
theorem qdg.later{w w':World}{base g cap B:Nat}{l:List Nat}(h:qdg w base g cap l)(hb:Below B w w')(hB:g<B):qdg w' base g cap l:=
 h.same (hb.block g hB)
theorem qdg.first{w:World}{base g cap:Nat}{l:List Nat}(h:qdg w base g cap l)(k:Nat)(hk:k≤l.length):qdg w base g cap (l.take k):=by
 obtain⟨h1,h2,h3,cur,hg,h4,h5⟩:=h.parts;have hlen:(l.take k).length=k:=by simp;omega
 refine qo0 (fun d hd=>h.1 d (List.mem_of_mem_take hd)) h1 (by omega) h3 hg h4 ?_;rw[hlen,List.map_take,←h5,List.take_take,Nat.min_eq_left hk]
def qn5(w w':World):Prop:=∀(g:Nat) (cur:Array Value),w.heap[g]? = some (.cells cur 136 (0,0))→∃cur':Array Value,w'.heap[g]? = some (.cells cur' 136 (0,0))∧cur'.size=cur.size
theorem qn5.refl(w:World):qn5 w w:=fun _ cur h=>⟨cur,h,rfl⟩
theorem qn5.trans{a b c:World}(h:qn5 a b)(k:qn5 b c):qn5 a c:=fun g cur hg=>by
 obtain⟨c1,h1,e1⟩:=h g cur hg;obtain⟨c2,h2,e2⟩:=k g c1 h1;exact⟨c2,h2,e2.trans e1⟩
theorem qn5.drew(w:World):qn5 w w.drew:=fun _ cur h=>⟨cur,h,rfl⟩
theorem qn5.alloc(w:World)(o:Obj):qn5 w (w.alloc o):=fun g cur hg=>by
 refine⟨cur, ?_,rfl⟩;rcases Nat.lt_or_ge g w.heap.size with h1|h1
 ·rw[Below.heap_alloc _ _ _ h1];exact hg
 ·rw[Array.getElem?_eq_none h1] at hg;cases hg
theorem qn5.setCell(w:World)(g o:Nat)(v:Value):qn5 w (w.setCell ⟨g,o,none⟩ v):=fun k cur hk=>by
 by_cases e:k=g
 ·subst e
  exact⟨_,heap_setCell_same w k o cur _ v hk,by simp⟩
 ·exact⟨cur,(Below.heap_setCell w ⟨g,o,none⟩ v k e).trans hk,rfl⟩
theorem qdg.after{w w':World}{base g cap:Nat}{l:List Nat}(h:qdg w base g cap l)(hk:qn5 w w'){S:List Nat}(hS:S.length=l.length)(hd:∀d ∈ S,d<B64)(ho:Own w' g S.length (wd S)):qdg w' base g cap S:=by
 obtain⟨h1,h2,h3,cur,hg,h4,h5⟩:=h.parts;obtain⟨cur',hg',hs'⟩:=hk g cur hg;refine qo0 hd h1 (by omega) h3 hg' (hs'.trans h4) ?_;apply List.ext_getElem?;intro i;rw[List.getElem?_take];by_cases hi:i<S.length
 ·have hc:=(ho.2 i hi).1
  rw[cell_of_row w' g i cur' _ (0,0) hg'] at hc;rw[if_pos hi,Array.getElem?_toList,hc];unfold wd;simp[hi]
 ·rw[if_neg hi]
  exact(List.getElem?_eq_none (by rw[List.length_map];exact Nat.le_of_not_lt hi)).symm
theorem q1j(base g cap:Nat)(l:List Nat)(w:World)(h:qdg w base g cap l):
  Calls Tryz.prog 78 #[.slice (some ⟨g,0,none⟩) l.length cap] w fun e w'=>(e = .returned (.slice (some ⟨g,0,none⟩) (wl (val B64 l)) cap)∧qdg w base g cap (qaf B64 (val B64 l)))∧w=w':=by
 refine(qhm _ cap l w h.wds).mono ?_;rintro e w' ⟨⟨k,hk,rfl,hd⟩,rfl⟩;have hlen:wl (val B64 l)=k:=by unfold wl;rw[hd];simp;omega
 exact⟨⟨by rw[hlen],by rw[hd];exact h.first k hk⟩,rfl⟩
theorem qhp(base g cap n x:Nat)(l:List Nat)(w:World)(h:qdg w base g cap l)(hl:l.length=n)(hx:val B64 l=x):
  Calls Tryz.prog 78 #[.slice (some ⟨g,0,none⟩) n cap] w fun e w'=>(e = .returned (.slice (some ⟨g,0,none⟩) (wl x) cap)∧qdg w base g cap (qaf B64 x))∧w=w':=by
 rw[←hl,←hx];exact q1j base g cap l w h
end Go.Proofs.YthjagoogkkgelaaGreatDoor
