/- add: the sum of two natural numbers; word. -/
import Derived.Test.YtclimablgihlhaaGreatDoorMBase
import Derived.Laws.OwnMore
import Derived.OwnWalk
import Derived.Lib.SliceRun
import Derived.Deep.AppendLies
set_option linter.all false
namespace Go.Proofs.YtclimablgihlhaaGreatDoor
open Go.RowKit
set_option maxRecDepth 100000
set_option maxHeartbeats 1000000
theorem qwe(v:Value)(l:List Nat)(i:Int)(w:World)(h:Wds w v l)(hi:0≤i):
  Calls Tryz.prog 203 #[v,.int .i64 i] w fun e w'=>e = .returned (.int .u64 (l.getD i.toNat 0:Nat))∧w'=w:=by
 obtain⟨hl,p,c,rfl,bP,bK,aA⟩:=h;unfold maxLen at bK;obtain⟨i,rfl⟩:=Int.eq_ofNat_of_zero_le hi;rw[Int.toNat_natCast];by_cases Pb:i<l.length
 ·rcases aA with h0|⟨b,o,rfl,aB⟩
  ·omega
  have aC:=aB i Pb;unfold wd at aC;clear aB hl;generalize l.getD i 0=x at *;go_enter Tryz.func203,Tryz.ntmps203;go_wp2;go_ret;exact⟨rfl,rfl⟩
 ·have e:l.getD i 0=0:=by simp[zaw,List.getElem?_eq_none (by omega:l.length≤i)]
  rw[e];clear e;go_enter Tryz.func203,Tryz.ntmps203;go_wp2;go_ret;exact⟨rfl,rfl⟩
theorem ql0{w:World}{g c:Nat}{l:List Nat}(h:Own w g l.length (wd l))(hl:∀d ∈ l,d<B64)(hn:l.length≤c)(hc:c≤maxLen):Wds w (.slice (some ⟨g,0,none⟩) l.length c) l:=⟨hl,h.sliceAt hn hc⟩
theorem q3w{B b s la ra lo hi c x y lx:Nat}(h:s+b*c=la+ra)(hx:lo+B*hi=x+y+c)(hl:lx=s+b*lo):lx+(b*B)*hi=(la+b*x)+(ra+b*y):=by
 subst hl;have:=congrArg (b * ·) hx;simp only[Nat.mul_add] at this;rw[Nat.mul_assoc];omega
theorem q6a(va vb:Value)(pa pb:Option Addr)(ca cb:Nat)(l r:List Nat)(w:World)(ha:Wds w (.slice pa l.length ca) l)(hb:Wds w (.slice pb r.length cb) r)(rX:r.length≠0)(hlr:r.length≤l.length)(aP:l.length≤Cap)
  (Fs:(va = .slice pa l.length ca∧vb = .slice pb r.length cb)∨(va = .slice pb r.length cb∧vb = .slice pa l.length ca∧r.length<l.length)):
  Calls Tryz.prog 154 #[va,vb] w fun e w'=>(∃v',e = .returned v'∧qap w' v' (val B64 l+val B64 r))∧Below w.heap.size w w':=by
 obtain⟨dJ,pa',ca',he,kW,fP,hcellsa⟩:=ha;cases he
 obtain⟨dG,pb',cb',he,kE,fZ,hcellsb⟩:=hb;cases he
 unfold maxLen at fP fZ;rcases hcellsa with h0|⟨ba,oa,rfl,fH⟩
 ·omega
 rcases hcellsb with h0|⟨bb,ob,rfl,dS⟩
 ·omega
 have lS:=fun w=>qf5 (l.length+1) ((l.length:Int)+1) (by omega) (by have:=qj4;omega) w;have hr0':((r.length:Int)==0)=false:=zat (by omega);have rY:l.length<4611686018427387904:=by have:=aP;unfold Cap at this;omega
 have HL:=hid hlr;have bI:¬(l.length:Int)<r.length:=by omega
 have HC:=hid aP;have HR:=hid rX;clear hlr aP rX;rcases Fs with⟨rfl,rfl⟩|⟨rfl,rfl,Iv⟩
 all_goals
  go_enter Tryz.func154,Tryz.ntmps154;go_wp2_with fail;have bG:=qg6 w (l.length+1);have bM:Below w.heap.size w (w.alloc (qa5 (l.length+1))):=zam _ _;have aU:Hid ((List.replicate (l.length+1) 0).length=l.length+1):=hid (by simp);have iT:=qb3 (b:=B64) (by rw[qab];omega) (l.length+1);have nY:Hid (low B64 (List.replicate (l.length+1) 0) 0+B64^0*0=low B64 l 0+low B64 r 0):=hid (by simp);have bL:Own (w.alloc (qa5 (l.length+1))) w.heap.size (List.replicate (l.length+1) 0).length (wd (List.replicate (l.length+1) 0)):=by rw[aU.out];exact bG
  clear bG;generalize List.replicate (l.length+1) 0=s0 at *;generalize w.alloc (qa5 (l.length+1))=w1 at *;have HG:Hid (∃g,g=w.heap.size):=hid ⟨_,rfl⟩
  go_loopw [6,26] (fun c i wr=>∃k cc:Nat,∃s:List Nat,k≤l.length∧i = .int .i64 k∧c = .int .u64 cc∧cc≤1∧Hid (s.length=l.length+1)∧(∀d ∈ s,d<B64)∧Own wr w.heap.size s.length (wd s)∧Hid (low B64 s k+B64^k*cc=low B64 l k+low B64 r k)∧Below w.heap.size w wr) (fun _ i _=>l.length-(intOf i).toNat)
  case atStart=>exact⟨0,0,s0,Nat.zero_le _,rfl,rfl,by omega,aU,iT,bL,nY,bM⟩
  case round=>
   obtain⟨k,cc,s,hk,rfl,rfl,gA,bH,hsb,ho,HS,hb⟩:=hrel;clear nY aU bL iT bM;by_cases cV:k<l.length
   ·have hx:=(fH.later hb) k cV
    obtain⟨hg,oI⟩:=ho.2 k (by rw[bH.out];omega);have fI:=qan (b:=B64) (by rw[qab];omega) dJ k;have lE:=qan (b:=B64) (by rw[qab];omega) dG k;have kO:=qwc (l.getD k 0) (r.getD k 0) cc;have hh:=qqv fI lE gA;have fW:=qng (l.getD k 0) (r.getD k 0) cc;have rZ:=fun w=>qio (l.getD k 0) (r.getD k 0) cc gA w;have iD:=qao B64 l k;have Pc:=qao B64 r k;have iU:=qbp B64 s k (qgy (l.getD k 0) (r.getD k 0) cc) (by rw[bH.out];omega);have HO:Hid (Own (wr.setCell ⟨w.heap.size,k,none⟩ (.int .u64 (qgy (l.getD k 0) (r.getD k 0) cc:Nat))) w.heap.size (s.set k (qgy (l.getD k 0) (r.getD k 0) cc)).length (wd (s.set k (qgy (l.getD k 0) (r.getD k 0) cc)))):=hid (ho.setWord k (by rw[bH.out];omega) _);have cJ:Hid (∀d ∈ s.set k (qgy (l.getD k 0) (r.getD k 0) cc),d<B64):=hid (qco hsb k _ fW);have HSL':Hid ((s.set k (qgy (l.getD k 0) (r.getD k 0) cc)).length=l.length+1):=hid (by rw[List.length_set];exact bH.out)
    have cL:Hid (low B64 (s.set k (qgy (l.getD k 0) (r.getD k 0) cc)) (k+1)+B64^(k+1)*(qin (l.getD k 0) (r.getD k 0) cc)=low B64 l (k+1)+low B64 r (k+1)):=
     hid (by rw[iD,Pc,Nat.pow_succ];exact q3w HS.out kO iU)
    have aH:Hid (Below w.heap.size w (wr.setCell ⟨w.heap.size,k,none⟩ (.int .u64 (qgy (l.getD k 0) (r.getD k 0) cc:Nat)))):=hid (hb.setCell (zap _) _);have HY:Hid (k<r.length→wr.cell? ⟨bb,ob+k,none⟩=some (.int .u64 (r.getD k 0:Nat))):=hid fun h=>(dS.later hb) k h;have wR:Hid (¬k<r.length→r.getD k 0=0):=hid fun h=>by simp[List.getElem?_eq_none (by omega:r.length≤k)]
    unfold wd at hx hg;generalize qgy (l.getD k 0) (r.getD k 0) cc=lo at *;generalize qin (l.getD k 0) (r.getD k 0) cc=hi at *;generalize l.getD k 0=x at *;generalize s.getD k 0=old at *;clear iD Pc iU kO fW fI lE fH dS dJ dG ho HS hsb hb;by_cases Dw:k<r.length
    ·have hy:=HY.out Dw
     clear HY wR;generalize r.getD k 0=y at *;go_wp2_with fail;go_roundw
     case rel=>exact⟨k+1,hi,_,by omega,by go_num,rfl,hh,HSL',cJ.out,HO.out,cL,aH.out⟩
     case measure=>simp[intOf];omega
    ·rw[wR.out Dw,show((0:Nat):Int)=0 from rfl] at rZ
     clear HY wR;go_wp2_with fail;go_roundw
     case rel=>exact⟨k+1,hi,_,by omega,by go_num,rfl,hh,HSL',cJ.out,HO.out,cL,aH.out⟩
     case measure=>simp[intOf];omega
   ·have e:k=l.length:=by omega
    subst e;obtain⟨hg,oI⟩:=ho.2 l.length (by rw[bH.out];omega);have Du:cc<B64:=by rw[qab];omega
    have mS:=qbp B64 s l.length cc (by rw[bH.out];omega);have Fu:=qa4 B64 (s.set l.length cc) (l.length+1) (by rw[List.length_set,bH.out];exact zap _)
    have kF:val B64 (s.set l.length cc)=val B64 l+val B64 r:=by
     rw[←Fu,mS,HS.out,qa4 B64 l _ (zap _),qa4 B64 r _ HL.out]
    have ho':=ho.setWord l.length (by rw[bH.out];omega) cc;have hlen':(s.set l.length cc).length=l.length+1:=by rw[List.length_set];exact bH.out
    have hw:Wds (wr.setCell ⟨w.heap.size,l.length,none⟩ (.int .u64 (cc:Nat))) (.slice (some ⟨w.heap.size,0,none⟩) (l.length+1) (l.length+1)) (s.set l.length cc):=by
     have:=ql0 ho' (qco hsb l.length cc Du) (zap _) (by rw[hlen'];unfold maxLen;omega);rw[hlen'] at this;exact this
    have HT:=hid (qi9 _ _ _ hw);have HB:Hid (Below w.heap.size w (wr.setCell ⟨w.heap.size,l.length,none⟩ (.int .u64 (cc:Nat)))):=hid (hb.setCell (zap _) _);rw[kF] at HT;clear hw hlen' ho' kF mS Fu Du ho HS hsb hb fH dS dJ dG;generalize hgo:wd s l.length=old at *;clear hgo;go_wp2_with fail;refine HT.out.mono ?_;rintro e w' ⟨⟨v',rfl,hn⟩,hw'⟩;subst hw';go_wp2_with fail;go_ret;exact⟨⟨_,rfl,hn⟩,HB.out⟩
theorem qj5{w:World}{v:Value}{n:Nat}(h:qap w v n):∃(l:List Nat) (p:Option Addr) (c:Nat),v = .slice p l.length c∧Wds w v l∧val B64 l=n∧l.length=wl n:=by
 obtain⟨h1,p,c,hv,h2⟩:=h;exact⟨qaf B64 n,p,c,hv,⟨h1,p,c,hv,h2⟩,qah _ _ qae,rfl⟩
theorem qek{n:Nat}(h:wl n=0):n=0:=(qey qae).1 (List.eq_nil_of_length_eq_zero h)
theorem qzx(va vb:Value)(m n:Nat)(w:World)(ha:qap w va m)(hb:qap w vb n)(hm:wl m≤Cap)(hn:wl n≤Cap):
  Calls Tryz.prog 154 #[va,vb] w fun e w'=>(∃v',e = .returned v'∧qap w' v' (m+n))∧Below w.heap.size w w':=by
 have HA:=hid ha;have HB:=hid hb;obtain⟨l,pa,ca,rfl,lF,rfl,dJ⟩:=qj5 ha;obtain⟨r,pb,cb,rfl,jD,rfl,dG⟩:=qj5 hb;rw[←dJ] at hm;rw[←dG] at hn;have Hla:=hid dJ;have Hlb:=hid dG;clear dJ dG ha hb;rcases Nat.lt_or_ge l.length r.length with bI|bI
 ·by_cases lT:l.length=0
  ·have e0:val B64 l=0:=qek (by rw[←Hla.out];exact lT)
   have bB:((l.length:Int)==0)=true:=by rw[lT];rfl
   have aT:(l.length:Int)<r.length:=by omega
   rw[e0,Nat.zero_add];clear lF jD lT hm hn e0 bI;go_enter Tryz.func154,Tryz.ntmps154;go_wp2_with fail;go_ret;exact⟨⟨_,rfl,HB.out⟩,zan _ _⟩
  ·rw[Nat.add_comm]
   exact q6a _ _ pb pa cb ca r l w jD lF lT (by omega) hn (.inr ⟨rfl,rfl,bI⟩)
 ·by_cases rX:r.length=0
  ·have e0:val B64 r=0:=qek (by rw[←Hlb.out];exact rX)
   have bB:((r.length:Int)==0)=true:=by rw[rX];rfl
   have aT:¬(l.length:Int)<r.length:=by omega
   rw[e0,Nat.add_zero];clear lF jD rX hm hn e0 bI;go_enter Tryz.func154,Tryz.ntmps154;go_wp2_with fail;go_ret;exact⟨⟨_,rfl,HA.out⟩,zan _ _⟩
  ·exact q6a _ _ pa pb ca cb l r w lF jD rX bI hm (.inl ⟨rfl,rfl⟩)
theorem q3x{B b s la ra lo hi c x y ls:Nat}(h:s+ra=la+b*c)(hx:lo+y+c=x+B*hi)(hl:ls=s+b*lo):ls+(ra+b*y)=(la+b*x)+(b*B)*hi:=by
 subst hl;have:=congrArg (b * ·) hx;simp only[Nat.mul_add] at this;rw[Nat.mul_assoc];omega
theorem q6z{s r l p c:Nat}(h1:s+r=l+p*c)(h2:s<p)(h3:r≤l)(hc:c≤1):s=l-r:=by
 have:c=0∨c=1:=by omega
 rcases this with rfl|rfl<;>omega
theorem qmt(va vb:Value)(m n:Nat)(w:World)(ha:qap w va m)(hb:qap w vb n)(Fv:n≤m)(hm:wl m≤Cap):
  Calls Tryz.prog 166 #[va,vb] w fun e w'=>(∃v',e = .returned v'∧qap w' v' (m-n))∧Below w.heap.size w w':=by
 have HA:=hid ha;have aU:=hid (qad qae Fv);obtain⟨l,pa,ca,rfl,lF,tV,dJ⟩:=qj5 ha;obtain⟨r,pb,cb,rfl,jD,Cw,dG⟩:=qj5 hb;by_cases rX:r.length=0
 ·have e0:n=0:=qek (by rw[←dG];exact rX)
  subst e0;have bB:((r.length:Int)==0)=true:=by rw[rX];rfl
  rw[Nat.sub_zero];clear lF jD rX hm tV Cw dJ dG Fv aU ha hb;go_enter Tryz.func166,Tryz.ntmps166;go_wp2_with fail;go_ret;exact⟨⟨_,rfl,HA.out⟩,zan _ _⟩
 ·have Nf:Hid (r.length≤l.length):=hid (by rw[dJ,dG];exact aU.out)
  have HV:Hid (val B64 r≤val B64 l∧val B64 l-val B64 r=m-n):=hid (by rw[tV,Cw];exact⟨Fv,rfl⟩);rw[←dJ] at hm;obtain⟨hla',pa',ca',he,kW,fP,hcellsa⟩:=lF;cases he
  obtain⟨hlb',pb',cb',he,kE,fZ,hcellsb⟩:=jD;cases he
  unfold maxLen at fP fZ;rcases hcellsa with h0|⟨ba,oa,rfl,fH⟩
  ·have:=Nf.out;omega
  rcases hcellsb with h0|⟨bb,ob,rfl,dS⟩
  ·omega
  have lS:=fun w=>qf5 l.length (l.length:Int) rfl (by omega) w;have hr0':((r.length:Int)==0)=false:=zat (by omega);have rY:l.length<4611686018427387904:=by have:=hm;unfold Cap at this;omega
  clear rX hm tV Cw dJ dG Fv aU ha hb HA;go_enter Tryz.func166,Tryz.ntmps166;go_wp2_with fail;have bG:=qg6 w l.length;have bM:Below w.heap.size w (w.alloc (qa5 l.length)):=zam _ _;have aU:Hid ((List.replicate l.length 0).length=l.length):=hid (by simp);have iT:=qb3 (b:=B64) (by rw[qab];omega) l.length;have nY:Hid (low B64 (List.replicate l.length 0) 0+low B64 r 0=low B64 l 0+B64^0*0):=hid (by simp);have bL:Own (w.alloc (qa5 l.length)) w.heap.size (List.replicate l.length 0).length (wd (List.replicate l.length 0)):=by rw[aU.out];exact bG
  clear bG;generalize List.replicate l.length 0=s0 at *;generalize w.alloc (qa5 l.length)=w1 at *
  go_loopw [6,18] (fun c i wr=>∃k cc:Nat,∃s:List Nat,k≤l.length∧i = .int .i64 k∧c = .int .u64 cc∧cc≤1∧Hid (s.length=l.length)∧(∀d ∈ s,d<B64)∧Own wr w.heap.size s.length (wd s)∧Hid (low B64 s k+low B64 r k=low B64 l k+B64^k*cc)∧Below w.heap.size w wr) (fun _ i _=>l.length-(intOf i).toNat)
  case atStart=>exact⟨0,0,s0,Nat.zero_le _,rfl,rfl,by omega,aU,iT,bL,nY,bM⟩
  case round=>
   obtain⟨k,cc,s,hk,rfl,rfl,gA,bH,hsb,ho,HS,hb⟩:=hrel;clear nY aU bL iT bM;by_cases cV:k<l.length
   ·have hx:=(fH.later hb) k cV
    obtain⟨hg,oI⟩:=ho.2 k (by rw[bH.out];omega);have fI:=qan (b:=B64) (by rw[qab];omega) hla' k;have lE:=qan (b:=B64) (by rw[qab];omega) hlb' k;have kO:=qsa fI lE gA;have hh:=qnh (l.getD k 0) (r.getD k 0) cc;have fW:=qkv (l.getD k 0) (r.getD k 0) cc;have rZ:=fun w=>qip (l.getD k 0) (r.getD k 0) cc gA w;have iD:=qao B64 l k;have Pc:=qao B64 r k;have iU:=qbp B64 s k (qhq (l.getD k 0) (r.getD k 0) cc) (by rw[bH.out];omega);have HO:Hid (Own (wr.setCell ⟨w.heap.size,k,none⟩ (.int .u64 (qhq (l.getD k 0) (r.getD k 0) cc:Nat))) w.heap.size (s.set k (qhq (l.getD k 0) (r.getD k 0) cc)).length (wd (s.set k (qhq (l.getD k 0) (r.getD k 0) cc)))):=hid (ho.setWord k (by rw[bH.out];omega) _);have cJ:Hid (∀d ∈ s.set k (qhq (l.getD k 0) (r.getD k 0) cc),d<B64):=hid (qco hsb k _ fW);have HSL':Hid ((s.set k (qhq (l.getD k 0) (r.getD k 0) cc)).length=l.length):=hid (by rw[List.length_set];exact bH.out)
    have cL:Hid (low B64 (s.set k (qhq (l.getD k 0) (r.getD k 0) cc)) (k+1)+low B64 r (k+1)=low B64 l (k+1)+B64^(k+1)*(qly (l.getD k 0) (r.getD k 0) cc)):=
     hid (by rw[iD,Pc,Nat.pow_succ];exact q3x HS.out kO iU)
    have aH:Hid (Below w.heap.size w (wr.setCell ⟨w.heap.size,k,none⟩ (.int .u64 (qhq (l.getD k 0) (r.getD k 0) cc:Nat)))):=hid (hb.setCell (zap _) _);have HY:Hid (k<r.length→wr.cell? ⟨bb,ob+k,none⟩=some (.int .u64 (r.getD k 0:Nat))):=hid fun h=>(dS.later hb) k h;have wR:Hid (¬k<r.length→r.getD k 0=0):=hid fun h=>by simp[List.getElem?_eq_none (by omega:r.length≤k)]
    unfold wd at hx hg;generalize qhq (l.getD k 0) (r.getD k 0) cc=lo at *;generalize qly (l.getD k 0) (r.getD k 0) cc=hi at *;generalize l.getD k 0=x at *;generalize s.getD k 0=old at *;clear iD Pc iU kO fW fI lE fH dS hla' hlb' ho HS hsb hb;by_cases Dw:k<r.length
    ·have hy:=HY.out Dw
     clear HY wR;generalize r.getD k 0=y at *;go_wp2_with fail;go_roundw
     case rel=>exact⟨k+1,hi,_,by omega,by go_num,rfl,hh,HSL',cJ.out,HO.out,cL,aH.out⟩
     case measure=>simp[intOf];omega
    ·rw[wR.out Dw,show((0:Nat):Int)=0 from rfl] at rZ
     clear HY wR;go_wp2_with fail;go_roundw
     case rel=>exact⟨k+1,hi,_,by omega,by go_num,rfl,hh,HSL',cJ.out,HO.out,cL,aH.out⟩
     case measure=>simp[intOf];omega
   ·have e:k=l.length:=by omega
    subst e
    have kF:val B64 s=m-n:=by
     have h1:=HS.out;rw[qa4 B64 s _ (by rw[bH.out];exact zap _),qa4 B64 l _ (zap _),qa4 B64 r _ Nf.out] at h1;have h2:=qij B64 s hsb;rw[bH.out] at h2;rw[←HV.out.2];exact q6z h1 h2 HV.out.1 gA
    have hw:Wds wr (.slice (some ⟨w.heap.size,0,none⟩) l.length l.length) s:=by
     have:=ql0 ho hsb (zap _) (by rw[bH.out];unfold maxLen;omega);rw[bH.out] at this;exact this
    have HT:=hid (qi9 _ _ _ hw);rw[kF] at HT;have aH:=hid hb;clear hw kF ho HS hsb hb fH dS hla' hlb';go_wp2_with fail;refine HT.out.mono ?_;rintro e w' ⟨⟨v',rfl,hn⟩,hw'⟩;subst hw';go_wp2_with fail;go_ret;exact⟨⟨_,rfl,hn⟩,aH.out⟩
theorem qni:qaf B64 1=[1]:=by
 rw[qfs B64 1 qae (by omega)];have h1:1 % B64=1:=by rw[qab]
 have h2:1/B64=0:=by rw[qab]
 rw[h1,h2,qal]
theorem quk{n:Nat}:qaf B64 n=[1]↔n=1:=by
 constructor
 ·intro h;rw[←qni] at h;exact qqu qae h
 ·rintro rfl;exact qni
theorem qca(v:Value)(n:Nat)(b:Bool)(hb:b=decide (n=1))(w:World)(h:qap w v n):
  Calls Tryz.prog 109 #[v] w fun e w'=>e = .returned (.bool b)∧w=w':=by
 refine(qzs v _ w h).mono ?_;rintro e w' ⟨rfl,rfl⟩;refine⟨qbb ?_,rfl⟩;rw[hb];exact decide_eq_decide.2 quk
theorem qul{B x y p z lo hi s c:Nat}(hx:x<B)(hy:y<B)(hp:p<B)(hz:z<B)(h1:lo+B*hi=y*x+z)(h2:s+B*c=p+lo):hi+c<B∧s+B*(hi+c)=p+y*x+z:=by
 have e:s+B*(hi+c)=p+y*x+z:=by rw[Nat.mul_add];omega
 refine⟨?_,e⟩;rcases Nat.lt_or_ge (hi+c) B with h|h
 ·exact h
 ·have h3:B*B≤B*(hi+c):=Nat.mul_le_mul_left B h
  have h4:y*x≤(B-1)*(B-1):=Nat.mul_le_mul (by omega) (by omega);obtain⟨b,rfl⟩:∃b,B=b+1:=⟨B-1,by omega⟩;simp only[Nat.add_sub_cancel] at h4;have e2:(b+1)*(b+1)=b*b+2*b+1:=by grind
  omega
theorem qwf{B P x s0 s r more more' p y sum q ls ls0 lr:Nat}(h:s+(P*q)*more=s0+P*x*r)(hs:sum+B*more'=p+y*x+more)
  (hls:ls=s+(P*q)*sum) (hls0:ls0=s0+(P*q)*p) (hlr:lr=r+q*y):ls+(P*q*B)*more'=ls0+P*x*lr:=by
 subst hls hls0 hlr;have:=congrArg ((P*q) * ·) hs;simp only[Nat.mul_add] at this;have e1:P*q*(B*more')=P*q*B*more':=(Nat.mul_assoc _ _ _).symm;have e2:P*q*(y*x)=P*x*(q*y):=by grind
 rw[Nat.mul_add,←e2];omega
theorem qq0(va vb:Value)(m n:Nat)(w:World)(ha:qap w va m)(hb:qap w vb n)(gI:m≠1)(dR:n≠1)(hm:wl m≤Cap)(hn:wl n≤Cap):
  Calls Tryz.prog 72 #[va,vb] w fun e w'=>(∃v',e = .returned v'∧qap w' v' (m*n))∧Below w.heap.size w w':=by
 have eF:=hid (qca va m false (by simp[gI]) w ha);have aQ:=hid (qca vb n false (by simp[dR]) w hb);obtain⟨l,pa,ca,rfl,lF,rfl,dJ⟩:=qj5 ha;obtain⟨r,pb,cb,rfl,jD,rfl,dG⟩:=qj5 hb;rw[←dJ] at hm;rw[←dG] at hn;have fX:=hid hm;have Ng:=hid hn;obtain⟨hla',pa',ca',he,kW,fP,hcellsa⟩:=lF;cases he
 obtain⟨hlb',pb',cb',he,kE,fZ,hcellsb⟩:=jD;cases he
 have lS:=fun w=>qf5 (l.length+r.length) ((l.length:Int)+(r.length:Int)) (by omega) (by omega) w;have rY:l.length<1152921504606846976:=by have:=hm;unfold Cap at this;omega
 have hr62:r.length<1152921504606846976:=by have:=hn;unfold Cap at this;omega
 have sA:Hid (l.length=0∨∃b o,pa=some ⟨b,o,none⟩∧qlx w b o l.length (wd l)):=hcellsa;have tW:Hid (r.length=0∨∃b o,pb=some ⟨b,o,none⟩∧qlx w b o r.length (wd r)):=hcellsb;have kP:=hid hla';have jE:=hid hlb';clear gI dR hm hn dJ dG ha hb hcellsa hcellsb hla' hlb' kW fP kE fZ;go_enter Tryz.func72,Tryz.ntmps72;go_wp2_with fail;refine eF.out.mono ?_;rintro e w' ⟨rfl,hw⟩;subst hw;go_wp2_with fail;refine aQ.out.mono ?_;rintro e w' ⟨rfl,hw⟩;subst hw;go_wp2_with fail;have bG:=qg6 w (l.length+r.length);have bM:Below w.heap.size w (w.alloc (qa5 (l.length+r.length))):=zam _ _;have aU:Hid ((List.replicate (l.length+r.length) 0).length=l.length+r.length):=hid (by simp);have iT:=qb3 (b:=B64) (by rw[qab];omega) (l.length+r.length);have nY:Hid (low B64 (List.replicate (l.length+r.length) 0) (0+r.length)=low B64 l 0*val B64 r):=hid (by simp[low,qgn]);have bL:Own (w.alloc (qa5 (l.length+r.length))) w.heap.size (List.replicate (l.length+r.length) 0).length (wd (List.replicate (l.length+r.length) 0)):=by rw[aU.out];exact bG
 clear bG;generalize List.replicate (l.length+r.length) 0=s0 at *;generalize w.alloc (qa5 (l.length+r.length))=w1 at *
 go_loopw [29] (fun i wr=>∃k:Nat,∃s:List Nat,k≤l.length∧i = .int .i64 k∧Hid (s.length=l.length+r.length)∧(∀d ∈ s,d<B64)∧Own wr w.heap.size s.length (wd s)∧Hid (low B64 s (k+r.length)=low B64 l k*val B64 r)∧Below w.heap.size w wr) (fun i _=>l.length-(intOf i).toNat)
 case atStart=>exact⟨0,s0,Nat.zero_le _,rfl,aU,iT,bL,nY,bM⟩
 case round=>
  obtain⟨k,s,hk,rfl,bH,hsb,ho,HS,hb⟩:=hrel;clear nY aU bL iT bM;by_cases cV:k<l.length
  ·rcases sA.out with h0|⟨ba,oa,rfl,fH⟩
   ·omega
   have hx:=(fH.later hb) k cV;have HXL:=hid (qan (b:=B64) (by rw[qab];omega) kP.out k);have Iw:=hid (qao B64 l k);unfold wd at hx;generalize l.getD k 0=x at *;clear fH;have cQ:=hid hsb;have HO:=hid ho;have HB:=hid hb;clear hsb ho hb;go_wp2_with fail
   go_loopw [8,36] (fun c i wr=>∃j cc:Nat,∃s':List Nat,j≤r.length∧i = .int .i64 j∧c = .int .u64 cc∧Hid (cc<B64)∧Hid (s'.length=l.length+r.length)∧Hid (∀d ∈ s',d<B64)∧Hid (Own wr w.heap.size s'.length (wd s'))∧Hid (low B64 s' (k+j)+(B64^k*B64^j)*cc=low B64 s (k+j)+B64^k*x*low B64 r j)∧Hid (∀i,k+j≤i→s'.getD i 0=s.getD i 0)∧Hid (Below w.heap.size w wr)) (fun _ i _=>r.length-(intOf i).toNat)
   case atStart=>exact⟨0,0,s,Nat.zero_le _,rfl,rfl,hid (by rw[qab];omega),bH,cQ,HO,hid (by simp),hid (fun _ _=>rfl),HB⟩
   case round=>
    obtain⟨j,cc,s',hj,rfl,rfl,Ab,HSL',HSB',HO',cL,aW,HB'⟩:=hrel;by_cases hjr:j<r.length
    ·rcases tW.out with h0|⟨bb,ob,rfl,dS⟩
     ·omega
     have qH:k+j<s'.length:=by rw[HSL'.out];omega
     have hy:=(dS.later HB'.out) j hjr;obtain⟨hg,oI⟩:=HO'.out.2 (k+j) qH;have lE:=qan (b:=B64) (by rw[qab];omega) jE.out j;have oJ:=qan (b:=B64) (by rw[qab];omega) HSB'.out (k+j);have Fw:=qqw (r.getD j 0) x cc;have fW:=qj3 (r.getD j 0) x cc
     have HM:Hid (∀w,Calls Tryz.prog 110 #[.int .u64 (r.getD j 0:Nat),.int .u64 x,.int .u64 cc] w fun e w'=>e = .returned (.tuple #[.int .u64 (qig (r.getD j 0) x cc:Nat),.int .u64 (qih (r.getD j 0) x cc:Nat)])∧w'=w):=
      fun w=>qb0 _ _ _ lE HXL.out Ab.out w
     have bU:=aW.out (k+j) (zap _);have Ac:=qao B64 s (k+j);have Ad:=qao B64 r j;unfold wd at hy hg;have eT:=fun v=>qbp B64 s' (k+j) v qH;have lG:Hid (∀v:Nat,Own (wr.setCell ⟨w.heap.size,k+j,none⟩ (.int .u64 (v:Nat))) w.heap.size (s'.set (k+j) v).length (wd (s'.set (k+j) v))):=hid fun v=>HO'.out.setWord (k+j) qH v
     have cI:Hid (∀v i,k+(j+1)≤i→(s'.set (k+j) v).getD i 0=s.getD i 0):=hid fun v i hi=>by
      rw[qaq _ _ _ _ (by omega)];exact aW.out i (by omega)
     rw[bU] at hg oJ;generalize r.getD j 0=y at *;generalize s.getD (k+j) 0=p at *;generalize qig y x cc=lo at *;generalize qih y x cc=hi at *;have rZ:∀w,(callFunc 111 #[.int .u64 p,.int .u64 lo,.int .u64 0]).run Tryz.prog w = .ok (.value (.tuple #[.int .u64 (qgy p lo 0:Nat),.int .u64 (qin p lo 0:Nat)])) w:=fun w=>qio p lo 0 (by omega) w;have hae:=qwc p lo 0;have jN:=qng p lo 0;generalize qgy p lo 0=sum at *;generalize qin p lo 0=c2 at *;obtain⟨kG,cN⟩:=qul HXL.out lE oJ Ab.out Fw (by rw[Nat.add_zero] at hae;exact hae)
     have eG:Hid (low B64 (s'.set (k+j) sum) (k+(j+1))+(B64^k*B64^(j+1))*(hi+c2)=low B64 s (k+(j+1))+B64^k*x*low B64 r (j+1)):=by
      refine hid ?_;rw[←Nat.add_assoc,eT sum,Ac,Ad,Nat.pow_succ,←Nat.mul_assoc (B64^k)];exact qwf cL.out cN (by rw[Nat.pow_add]) (by rw[Nat.pow_add]) rfl
     have HW:Hid (IntKind.u64.wrap ((hi:Int)+(c2:Int))=((hi+c2:Nat):Int)):=by
      refine hid ?_;rw[qab] at kG;rw[IntKind.wrap_u64];omega
     have cJ:Hid (∀d ∈ s'.set (k+j) sum,d<B64):=hid (qco HSB'.out _ _ jN);have cF:Hid ((s'.set (k+j) sum).length=l.length+r.length):=hid (by rw[List.length_set];exact HSL'.out);have Ae:=hid kG;have aR:Hid (Below w.heap.size w (wr.setCell ⟨w.heap.size,k+j,none⟩ (.int .u64 (sum:Nat)))):=hid (HB'.out.setCell (zap _) _);have Ix:k+j<l.length+r.length:=by omega
     clear eT Ac Ad bU hae jN kG cN Fw fW lE oJ dS cL aW HSL' HSB' HO' HB' qH;go_wp2_with fail;refine(HM.out _).mono ?_;rintro e w' ⟨rfl,hw'⟩;rw[hw'];clear hw' HM;go_wp2_with fail;go_roundw
     case rel=>exact⟨j+1,hi+c2,_,by omega,by go_num,by rw[HW.out],Ae,cF,cJ,hid (lG.out sum),eG,hid (cI.out sum),aR⟩
     case measure=>simp[intOf];omega
    ·have e:j=r.length:=by omega
     subst e;have qH:k+r.length<s'.length:=by rw[HSL'.out];omega
     obtain⟨hg,oI⟩:=HO'.out.2 (k+r.length) qH;have kQ:Hid (Own (wr.setCell ⟨w.heap.size,k+r.length,none⟩ (.int .u64 (cc:Nat))) w.heap.size (s'.set (k+r.length) cc).length (wd (s'.set (k+r.length) cc))):=hid (HO'.out.setWord (k+r.length) qH cc)
     have eG:Hid (low B64 (s'.set (k+r.length) cc) (k+1+r.length)=low B64 l (k+1)*val B64 r):=by
      refine hid ?_;rw[show k+1+r.length=k+r.length+1 from by omega,qbp B64 s' (k+r.length) cc qH,Iw.out,Nat.add_mul,←HS.out,Nat.pow_add,cL.out,qa4 B64 r _ (zap _)]
     have cJ:Hid (∀d ∈ s'.set (k+r.length) cc,d<B64):=hid (qco HSB'.out _ _ Ab.out);have cF:Hid ((s'.set (k+r.length) cc).length=l.length+r.length):=hid (by rw[List.length_set];exact HSL'.out);have aR:Hid (Below w.heap.size w (wr.setCell ⟨w.heap.size,k+r.length,none⟩ (.int .u64 (cc:Nat)))):=hid (HB'.out.setCell (zap _) _);have Ix:k+r.length<l.length+r.length:=by omega
     generalize wd s' (k+r.length)=old at *;clear cL aW HSL' HSB' HO' HB' qH;go_wp2_with fail;go_roundw
     case rel=>exact⟨k+1,_,by omega,by go_num,cF,cJ.out,kQ.out,eG,aR.out⟩
     case measure=>simp[intOf];omega
  ·have e:k=l.length:=by omega
   subst e
   have kF:val B64 s=val B64 l*val B64 r:=by
    rw[←qa4 B64 s (l.length+r.length) (by rw[bH.out];exact zap _),HS.out,qa4 B64 l _ (zap _)]
   have hw:Wds wr (.slice (some ⟨w.heap.size,0,none⟩) (l.length+r.length) (l.length+r.length)) s:=by
    have:=ql0 ho hsb (zap _) (by rw[bH.out];unfold maxLen;omega);rw[bH.out] at this;exact this
   have HT:=hid (qi9 _ _ _ hw);rw[kF] at HT;have aH:=hid hb;clear hw kF ho hsb hb;go_wp2_with fail;refine HT.out.mono ?_;rintro e w' ⟨⟨v',rfl,hn⟩,hw'⟩;subst hw';go_wp2_with fail;go_ret;exact⟨⟨_,rfl,hn⟩,aH.out⟩
theorem qgo(va vb:Value)(m n:Nat)(w:World)(ha:qap w va m)(hb:qap w vb n)(hm:wl m≤Cap)(hn:wl n≤Cap):
  Calls Tryz.prog 72 #[va,vb] w fun e w'=>(∃v',e = .returned v'∧qap w' v' (m*n))∧Below w.heap.size w w':=by
 by_cases gI:m=1
 ·subst gI
  have eF:=hid (qca va 1 true rfl w ha);rw[Nat.one_mul];have HB:=hid hb;clear ha hb hm hn;go_enter Tryz.func72,Tryz.ntmps72;go_wp2_with fail;refine eF.out.mono ?_;rintro e w' ⟨rfl,hw⟩;subst hw;go_wp2_with fail;go_ret;exact⟨⟨_,rfl,HB.out⟩,zan _ _⟩
 ·by_cases dR:n=1
  ·subst dR
   have eF:=hid (qca va m false (by simp[gI]) w ha);have aQ:=hid (qca vb 1 true rfl w hb);rw[Nat.mul_one];have HA:=hid ha;clear ha hb hm hn gI;go_enter Tryz.func72,Tryz.ntmps72;go_wp2_with fail;refine eF.out.mono ?_;rintro e w' ⟨rfl,hw⟩;subst hw;go_wp2_with fail;refine aQ.out.mono ?_;rintro e w' ⟨rfl,hw⟩;subst hw;go_wp2_with fail;go_ret;exact⟨⟨_,rfl,HA.out⟩,zan _ _⟩
  ·exact qq0 va vb m n w ha hb gI dR hm hn
theorem qel(a b:Nat)(w:World):Calls Tryz.prog 116 #[.int .u64 a,.int .u64 b] w fun e w'=>e = .returned (.int .u64 (Nat.gcd a b:Nat))∧∃q,w'=w.drewN q:=by
 generalize hg:Nat.gcd a b=g;have HG:=hid hg;clear hg;go_enter Tryz.func116,Tryz.ntmps116;go_wp2_with fail
 go_loopw [0,1] (fun s t wr=>∃x y:Nat,s = .int .u64 x∧t = .int .u64 y∧Hid (Nat.gcd x y=g)∧∃q,wr=w.drewN q) (fun _ t _=>(intOf t).toNat)
 case atStart=>exact⟨a,b,rfl,rfl,HG,0,rfl⟩
 case round=>
  obtain⟨x,y,rfl,rfl,HR,q,rfl⟩:=hrel;by_cases hy:0<y
  ·have hy':0<(y:Int):=by omega
   have cY:Hid (Nat.gcd y (x % y)=g):=hid (by rw[←HR.out,Nat.gcd_comm x y,Nat.gcd_rec y x,Nat.gcd_comm]);have HM:Hid (x % y<y):=hid (Nat.mod_lt _ hy);go_wp2_with fail
   go_quiet (fail)
   go_wp2_with fail;exact⟨⟨y,x % y,rfl,by rw[Int.natCast_emod],cY,_,World.drewN_drewN _ _ _⟩,by show((x:Int) % (y:Int)).toNat<(y:Int).toNat;have:=HM.out;omega⟩
  ·have hy':¬0<(y:Int):=by omega
   have:y=0:=by omega
   subst this;have HX:Hid (x=g):=hid (by rw[←HR.out,Nat.gcd_zero_right]);go_wp2_with fail;go_ret;exact⟨by rw[HX.out];rfl,_,rfl⟩
def qga(w:World)(base:Nat)(v:Value)(l:List Nat):Prop:=
 (∀d ∈ l,d<B64)∧∃p c,v = .slice p l.length c∧l.length≤c∧c≤maxLen∧(l.length=0∨∃g,base≤g∧p=some ⟨g,0,none⟩∧Own w g l.length (wd l))
theorem qga.wds{w:World}{base:Nat}{v:Value}{l:List Nat}(h:qga w base v l):Wds w v l:=by
 obtain⟨h1,p,c,h2,h3,h4,h5⟩:=h;refine⟨h1,p,c,h2,h3,h4, ?_⟩;rcases h5 with h5|⟨g,_,h6,h7⟩
 ·exact .inl h5
 ·exact .inr ⟨g,0,h6,h7.row⟩
theorem qg7{w:World}{base:Nat}{v:Value}{l:List Nat}(hl:∀d ∈ l,d<B64)(h:w.ownsRow base 130 1 v l.length (l.map fun x=>Value.int .u64 (x:Nat))):qga w base v l:=by
 refine⟨hl, ?_⟩;have h0:=h;obtain⟨_,⟨rfl,hn⟩|⟨g,cap,cur,rfl,hg,sB,hn,aP,_,_⟩⟩:=h
 ·exact⟨none,0,by rw[hn],by omega,by unfold maxLen;omega,.inl hn⟩
 ·refine⟨some ⟨g,0,none⟩,cap,rfl,hn,aP,.inr ⟨g,hg,rfl, ?_,fun i hi=>⟨?_,h0.frozenAt i⟩⟩⟩
  ·rcases Nat.lt_or_ge g w.heap.size with h1|h1
   ·exact h1
   ·rw[Array.getElem?_eq_none h1] at sB;cases sB
  ·rw[h0.cellAt i (by omega)]
   unfold wd;simp[hi]
theorem qn7(v:Value)(l:List Nat)(w:World)(h:Wds w v l)(aP:l.length≤Cap):
  Calls Tryz.prog 113 #[v] w fun e w'=>(∃v',e = .returned v'∧qga w' w.heap.size v' l)∧Below w.heap.size w w':=by
 obtain⟨hl,p,c,rfl,bP,bK,aA⟩:=h;have q22:∀(w:World) (a:Option Addr) (n c n' c':Nat),(binOp .eql 72 (.slice a n c) (.slice none n' c')).run Tryz.prog w = .ok (.bool a.isNone) w:=fun w a n c n' c'=>Lib.run_eql_slice_nil w _ _ a n c n' c' Tryz.underlying72;rcases p with _|⟨b,o,sp⟩
 ·have h0:l.length=0:=by
   rcases aA with h0|⟨b,o,h1,_⟩
   ·exact h0
   ·cases h1
  have HF:Hid (qga w w.heap.size (.slice none 0 0) l):=hid ⟨hl,none,0,by rw[h0],by omega,by unfold maxLen;omega,.inl h0⟩;clear hl bP bK aA aP h0;go_enter Tryz.func113,Tryz.ntmps113;go_wp2_with fail;go_ret;exact⟨⟨_,rfl,HF.out⟩,zan _ _⟩
 ·obtain⟨i0,hi,cT,dT,dU⟩:=info_parts (show(Tryz.prog.info? 130).map (fun i=>(i.zero,i.size,i.bytes))=some (some (.int .u64 0),1,8) by kernel_rfl)
  have HI:=hid hi;have HL:=hid hl
  have HC:Hid (∀i,i<l.length→w.cell? ((⟨b,o,sp⟩:Addr).add i)=some (wd l i)):=by
   refine hid fun i hi => ?_;rcases aA with h0|⟨b',o',h1,h2⟩
   ·omega
   ·cases h1
    rw[Addr.add_lit];exact h2 i hi
  have cS:Hid (l.length≤1099511627776):=aP;clear hl bP bK aA aP;go_enter Tryz.func113,Tryz.ntmps113;go_wp2_with (at_builtin;refine wpList_append_own _ rfl _ _ 72 rfl w.heap.size 130 i0 (.int .u64 0) 1 8 Tryz.underlying72 HI.out cT dT dU rfl (by decide) _ _ _ rfl (World.ownsRow_made w #[] 0 (zap _) (Nat.zero_le _) rfl) ⟨b,o,sp⟩ l.length c (l.map fun x=>Value.int .u64 (x:Nat)) rfl ?mT ?Dx ?Dy ?Dz ?Ea ?Eb ?_)
  case mT=>simp
  case Dx=>
   intro j u hj
   have pM:j<l.length:=by
    have:=(List.getElem?_eq_some_iff.1 hj).1
    simpa using this
   have h1:=HC.out j pM;have e:(l.map fun x=>Value.int .u64 (x:Nat))[j]? = some (wd l j):=by unfold wd;simp[pM]
   rw[e] at hj;cases hj
   rw[((zan w.heap.size w).alloc (zap _) _).cell (zaq w _ h1)];exact h1
  case Dy=>intro u hu;obtain⟨x,_,rfl⟩:=List.mem_map.1 hu;rfl
  case Dz=>have:=cS.out;unfold maxLen;omega
  case Ea=>have:=cS.out;omega
  case Eb=>simp
  intro v' w1 bG bW sC;have HO:Hid (qga w1 w.heap.size v' l):=hid (qg7 HL.out (by simpa using bG));have HB:Hid (Below w.heap.size w w1):=hid (((zan _ w).alloc (zap _) _).grown bW (by simp) (by intro k hk;simp[Value.ownBlock] at hk;omega));clear bG bW sC;go_wp2_with fail;go_ret;exact⟨⟨_,rfl,HO.out⟩,HB.out⟩
def qdb(w:World)(base g cap:Nat)(l:List Nat):Prop:=
 (∀d ∈ l,d<B64)∧w.ownsRow base 130 1 (.slice (some ⟨g,0,none⟩) l.length cap) l.length (l.map fun x=>Value.int .u64 (x:Nat))
theorem qdb.parts{w:World}{base g cap:Nat}{l:List Nat}(h:qdb w base g cap l):
  base≤g∧l.length≤cap∧cap≤maxLen∧∃cur:Array Value,w.heap[g]? = some (.cells cur 130 (0,0))∧cur.size=cap∧cur.toList.take l.length=l.map fun x=>Value.int .u64 (x:Nat):=by
 obtain⟨_,_,⟨h',_⟩|⟨g',cap',cur,h',hb,hg,hnc,hcm,tD,Pf⟩⟩:=h
 ·simp at h'
 ·simp only[Value.slice.injEq,Option.some.injEq,Addr.mk.injEq,and_true,true_and] at h'
  obtain⟨rfl,rfl⟩:=h';exact⟨hb,hnc,hcm,cur,hg,by simpa using tD,by simpa using Pf⟩
theorem qn8{w:World}{base g cap:Nat}{l:List Nat}(hl:∀d ∈ l,d<B64)(hb:base≤g)(h1:l.length≤cap)(h2:cap≤maxLen){cur:Array Value}(hg:w.heap[g]? = some (.cells cur 130 (0,0)))(hs:cur.size=cap)
  (ht:cur.toList.take l.length=l.map fun x=>Value.int .u64 (x:Nat)):qdb w base g cap l:=
 ⟨hl,by simp,.inr ⟨g,cap,cur,rfl,hb,hg,h1,h2,by simpa using hs,by simpa using ht⟩⟩
theorem qdb.lt{w:World}{base g cap:Nat}{l:List Nat}(h:qdb w base g cap l):g<w.heap.size:=by
 obtain⟨_,_,_,cur,hg,_⟩:=h.parts;rcases Nat.lt_or_ge g w.heap.size with h1|h1
 ·exact h1
 ·rw[Array.getElem?_eq_none h1] at hg;cases hg
theorem qdb.own{w:World}{base g cap:Nat}{l:List Nat}(h:qdb w base g cap l):Own w g l.length (wd l):=by
 refine⟨h.lt,fun i hi=>⟨?_,h.2.frozenAt i⟩⟩;rw[h.2.cellAt i (by omega)];unfold wd;simp[hi]
theorem qdb.wds{w:World}{base g cap:Nat}{l:List Nat}(h:qdb w base g cap l):Wds w (.slice (some ⟨g,0,none⟩) l.length cap) l:=by
 obtain⟨_,h1,h2,_⟩:=h.parts;exact⟨h.1,_,cap,rfl,h1,h2,.inr ⟨g,0,rfl,h.own.row⟩⟩
theorem qdb.nat{w:World}{base g cap x:Nat}(h:qdb w base g cap (qaf B64 x)):qap w (.slice (some ⟨g,0,none⟩) (wl x) cap) x:=h.wds
theorem qdb.same{w w':World}{base g cap:Nat}{l:List Nat}(h:qdb w base g cap l)(he:w'.heap[g]? = w.heap[g]?):qdb w' base g cap l:=by
 obtain⟨h1,h2,h3,cur,hg,h4,h5⟩:=h.parts;exact qn8 h.1 h1 h2 h3 (he.trans hg) h4 h5
theorem qdb.mono{w:World}{base base' g cap:Nat}{l:List Nat}(h:qdb w base g cap l)(hb:base'≤base):qdb w base' g cap l:=by
 obtain⟨h1,h2,h3,cur,hg,h4,h5⟩:=h.parts;exact qn8 h.1 (by omega) h2 h3 hg h4 h5
theorem qxp(w:World)(n:Nat)(hn:n≤maxLen):qdb (w.alloc (qa5 n)) w.heap.size w.heap.size n (List.replicate n 0):=by
 have aF:(List.replicate n 0).length=n:=by simp
 refine qn8 (qb3 (by rw[qab];omega) n) (zap _) (by rw[aF];exact zap _) hn (heap_alloc_new w _) ?_ ?_
 ·rw[←Array.length_toList,toList_madeCells_one];simp
 ·rw[toList_madeCells_one,aF];simp
theorem qdb.later{w w':World}{base g cap B:Nat}{l:List Nat}(h:qdb w base g cap l)(hb:Below B w w')(hB:g<B):qdb w' base g cap l:=
 h.same (hb.block g hB)
theorem qdb.first{w:World}{base g cap:Nat}{l:List Nat}(h:qdb w base g cap l)(k:Nat)(hk:k≤l.length):qdb w base g cap (l.take k):=by
 obtain⟨h1,h2,h3,cur,hg,h4,h5⟩:=h.parts;have aF:(l.take k).length=k:=by simp;omega
 refine qn8 (fun d hd=>h.1 d (List.mem_of_mem_take hd)) h1 (by omega) h3 hg h4 ?_;rw[aF,List.map_take,←h5,List.take_take,Nat.min_eq_left hk]
def qnb(w w':World):Prop:=∀(g:Nat) (cur:Array Value),w.heap[g]? = some (.cells cur 130 (0,0))→∃cur':Array Value,w'.heap[g]? = some (.cells cur' 130 (0,0))∧cur'.size=cur.size
theorem qnb.refl(w:World):qnb w w:=fun _ cur h=>⟨cur,h,rfl⟩
theorem qnb.trans{a b c:World}(h:qnb a b)(k:qnb b c):qnb a c:=fun g cur hg=>by
 obtain⟨c1,h1,e1⟩:=h g cur hg;obtain⟨c2,h2,e2⟩:=k g c1 h1;exact⟨c2,h2,e2.trans e1⟩
theorem qnb.drew(w:World):qnb w w.drew:=fun _ cur h=>⟨cur,h,rfl⟩
theorem qnb.alloc(w:World)(o:Obj):qnb w (w.alloc o):=fun g cur hg=>by
 refine⟨cur, ?_,rfl⟩;rcases Nat.lt_or_ge g w.heap.size with h1|h1
 ·rw[Below.heap_alloc _ _ _ h1];exact hg
 ·rw[Array.getElem?_eq_none h1] at hg;cases hg
theorem qnb.setCell(w:World)(g o:Nat)(v:Value):qnb w (w.setCell ⟨g,o,none⟩ v):=fun k cur hk=>by
 by_cases e:k=g
 ·subst e
  exact⟨_,heap_setCell_same w k o cur _ v hk,by simp⟩
 ·exact⟨cur,(Below.heap_setCell w ⟨g,o,none⟩ v k e).trans hk,rfl⟩
theorem qdb.after{w w':World}{base g cap:Nat}{l:List Nat}(h:qdb w base g cap l)(hk:qnb w w'){S:List Nat}(hS:S.length=l.length)(hd:∀d ∈ S,d<B64)(ho:Own w' g S.length (wd S)):qdb w' base g cap S:=by
 obtain⟨h1,h2,h3,cur,hg,h4,h5⟩:=h.parts;obtain⟨cur',hg',hs'⟩:=hk g cur hg;refine qn8 hd h1 (by omega) h3 hg' (hs'.trans h4) ?_;apply List.ext_getElem?;intro i;rw[List.getElem?_take];by_cases hi:i<S.length
 ·have hc:=(ho.2 i hi).1
  rw[cell_of_row w' g i cur' _ (0,0) hg'] at hc;rw[if_pos hi,Array.getElem?_toList,hc];unfold wd;simp[hi]
 ·rw[if_neg hi]
  exact(List.getElem?_eq_none (by rw[List.length_map];exact Nat.le_of_not_lt hi)).symm
theorem qzy(base g cap:Nat)(l:List Nat)(w:World)(h:qdb w base g cap l):
  Calls Tryz.prog 75 #[.slice (some ⟨g,0,none⟩) l.length cap] w fun e w'=>(e = .returned (.slice (some ⟨g,0,none⟩) (wl (val B64 l)) cap)∧qdb w base g cap (qaf B64 (val B64 l)))∧w=w':=by
 refine(qg5 _ cap l w h.wds).mono ?_;rintro e w' ⟨⟨k,hk,rfl,hd⟩,rfl⟩;have aF:wl (val B64 l)=k:=by unfold wl;rw[hd];simp;omega
 exact⟨⟨by rw[aF],by rw[hd];exact h.first k hk⟩,rfl⟩
theorem qg8(base g cap n x:Nat)(l:List Nat)(w:World)(h:qdb w base g cap l)(hl:l.length=n)(hx:val B64 l=x):
  Calls Tryz.prog 75 #[.slice (some ⟨g,0,none⟩) n cap] w fun e w'=>(e = .returned (.slice (some ⟨g,0,none⟩) (wl x) cap)∧qdb w base g cap (qaf B64 x))∧w=w':=by
 rw[←hl,←hx];exact qzy base g cap l w h
end Go.Proofs.YtclimablgihlhaaGreatDoor
