/- divideInPlace: division by a word, in memory of the caller's own. -/
import Derived.Test.YthjagoogkkgelaaGreatDoorMDiv64
set_option linter.all false
namespace Go.Proofs.YthjagoogkkgelaaGreatDoor
open Go.RowKit
set_option maxRecDepth 100000
set_option maxHeartbeats 1000000
theorem Own.drewN{w:World}{g n:Nat}{f:Nat→Value}(h:Own w g n f)(k:Nat):Own (w.drewN k) g n f:=h.later (below_drewN (Below.refl _ _) k)
theorem qta{B H Hq rest b x q r hs:Nat}(hb:0<b)(h1:H/b=Hq)(h2:H % b=rest)(hq:q=(rest*B+x)/b)(hr:r=(rest*B+x) % b)(hhs:hs=q+B*Hq):
  (x+B*H)/b=hs∧(x+B*H) % b=r:=by
 have e:x+B*H=(rest*B+x)+b*(B*Hq):=by
  have:=Nat.div_add_mod H b;rw[h1,h2] at this;rw[←this,Nat.mul_add,←Nat.mul_assoc b B,Nat.mul_comm b B,Nat.mul_assoc B b,Nat.mul_comm rest];omega
 rw[e,Nat.add_mul_div_left _ _ hb,Nat.add_mul_mod_self_left,hhs,hq,hr];exact⟨rfl,rfl⟩
theorem qgo.leadPart{w:World}{base g c:Nat}{s:List Nat}{k:Nat}(hs:∀d ∈ s,d<B64)(ho:Own w g s.length (wd s))(hg:base≤g)(hk:k≤s.length)(hc1:s.length≤c)(hc2:c≤maxLen):qgo w base (.slice (some ⟨g,0,none⟩) k c) (s.take k):=by
 have hlen:(s.take k).length=k:=by simp;omega
 refine⟨fun d hd=>hs d (List.mem_of_mem_take hd),some ⟨g,0,none⟩,c,by rw[hlen],by omega,hc2,.inr ⟨g,hg,rfl,ho.1,fun i hi => ?_⟩⟩;rw[hlen] at hi;have h:=ho.2 i (by omega);unfold wd at *;simp only[List.getD_eq_getElem?_getD,List.getElem?_take_of_lt hi]
 simpa only[List.getD_eq_getElem?_getD] using h
theorem qms(v:Value)(l:List Nat)(b base:Nat)(w:World)(h:qgo w base v l)(hb:0<b)(hbB:b<B64):
  Calls Tryz.prog 121 #[v,.int .u64 b] w fun e w'=>(∃v',e = .returned (.tuple #[v',.int .u64 (val B64 l % b:Nat)])∧qgo w' base v' (qaf B64 (val B64 l/b)))∧Below base w w':=by
 obtain⟨hl,p,c,rfl,hc1,hc2,hown⟩:=h;by_cases hl0:l.length=0
 ·have e:l=[]:=List.eq_nil_of_length_eq_zero hl0
  subst e;have HT:=hid (qhm p c [] w ⟨hl,p,c,rfl,hc1,hc2,.inl rfl⟩);have HF:Hid (qgo w base (.slice p 0 c) (qaf B64 (val B64 []/b))):=hid (by rw[val_nil,Nat.zero_div,qam];exact⟨by simp,p,c,rfl,by simp,hc2,.inl rfl⟩);have HZ:Hid (val B64 [] % b=0):=hid (by simp);clear hl hc1 hc2 hown hb hbB hl0;go_enter Tryz.func121,Tryz.ntmps121;go_wp2_with fail
  go_loop [6,7] (fun r i=>r = .int .u64 0∧i = .int .i64 (-1)) (fun _ _=>0)
  case atStart=>exact⟨rfl,rfl⟩
  case round=>
   obtain⟨rfl,rfl⟩:=hrel;go_wp2_with fail;refine HT.out.mono ?_;rintro e w' ⟨⟨k,hk,rfl,hd⟩,rfl⟩;obtain rfl:k=0:=by simpa using hk
   go_wp2_with fail;go_ret2;exact⟨⟨_,by rw[HZ.out];rfl,HF.out⟩,Below.refl _ _⟩
 ·rcases hown with h0|⟨g,hg,rfl,ho⟩
  ·omega
  have HG:=hid hg;have HL:=hid hl;have HC1:=hid hc1;have HC2:=hid hc2;have HBB:=hid hbB;have hl63:l.length≤9223372036854775807:=by unfold maxLen at hc2;omega
  have HO:=hid ho;clear hg hl hc1 hc2 hbB hl0 ho;go_enter Tryz.func121,Tryz.ntmps121;go_wp2_with fail
  go_loopw [6,7] (fun r i wr=>∃k rest:Nat,∃s:List Nat,k≤l.length∧i = .int .i64 ((k:Int)-1)∧r = .int .u64 rest∧Hid (s.length=l.length)∧Hid (∀d ∈ s,d<B64)∧Hid (Own wr g s.length (wd s))∧Hid (∀j,j<k→s.getD j 0=l.getD j 0)∧Hid (qa7 B64 l k/b=qa7 B64 s k)∧Hid (qa7 B64 l k % b=rest)∧Hid (Below base w wr)) (fun _ i _=>(intOf i+1).toNat)
  case atStart=>exact⟨l.length,0,l,Nat.le_refl _,rfl,rfl,hid rfl,HL,HO,hid (fun _ _=>rfl),hid (by rw[qdc _ _ _ (Nat.le_refl _),Nat.zero_div]),hid (by rw[qdc _ _ _ (Nat.le_refl _),Nat.zero_mod]),hid (Below.refl _ _)⟩
  case round=>
   obtain⟨k,rest,s,hk,rfl,rfl,HSL,HSB,HO',HSAME,HQ,HR,HB⟩:=hrel;rcases k with _|j
   ·have HT:=hid (qhm (some ⟨g,0,none⟩) c s wr ⟨HSB.out,_,_,rfl,by rw[HSL.out];exact HC1.out,HC2.out,.inr ⟨g,0,rfl,HO'.out.row⟩⟩)
    rw[HSL.out] at HT;have HV:Hid (val B64 s=val B64 l/b):=hid (by have:=HQ.out;rw[high_zero,high_zero] at this;exact this.symm);have HR':Hid (rest=val B64 l % b):=hid (by have:=HR.out;rw[high_zero] at this;exact this.symm);go_wp2_with fail;refine HT.out.mono ?_;rintro e w' ⟨⟨k,hk',rfl,hd⟩,hw'⟩;have HD:=hid hd;have HK:Hid (k≤s.length):=hid (by rw[HSL.out];exact hk');clear hd hk';subst hw';go_wp2_with fail;go_ret2;refine⟨⟨_,by rw[HR'.out];rfl, ?_⟩,HB.out⟩;rw[←HV.out,HD.out];exact qgo.leadPart HSB.out HO'.out HG.out HK.out (by rw[HSL.out];exact HC1.out) HC2.out
   ·have e1:((j+1:Nat):Int)-1=(j:Int):=by omega
    simp only[e1];have hjs:j<s.length:=by rw[HSL.out];omega
    have hsame:=HSAME.out j (Nat.lt_succ_self j);have hrestb:rest<b:=by rw[←HR.out];exact Nat.mod_lt _ hb
    have hxl:=qao (b:=B64) (by rw[qab];omega) HL.out j;have hhl:=qbj B64 l j
    have hhs:∀q,qa7 B64 (s.set j q) j=q+B64*qa7 B64 s (j+1):=fun q=>by
     rw[qbj,qcc _ _ _ hjs];unfold qa7;rw[List.drop_set_of_lt (by omega)]
    have HD:=hid (fun w=>qlk rest (l.getD j 0) b hrestb HBB.out hxl w);have hstep:=fun q r hq hr=>qta (B:=B64) (x:=l.getD j 0) (q:=q) (r:=r) hb HQ.out HR.out hq hr (hhs q);have hfin:=hstep _ _ rfl rfl;rw[←hhl] at hfin
    have hqlt:(rest*B64+l.getD j 0)/b<B64:=by
     rw[Nat.div_lt_iff_lt_mul hb];have:(rest+1)*B64≤b*B64:=Nat.mul_le_mul_right _ hrestb;rw[Nat.add_mul,Nat.mul_comm b] at this;omega
    have HOC:Hid (∀n,(wr.drewN n).cell? ⟨g,j,none⟩=some (.int .u64 (l.getD j 0:Nat))∧(wr.drewN n).frozen? ⟨g,j,none⟩=false):=hid fun n=>by
     have h:=(HO'.out.drewN n).2 j hjs;unfold wd at h;rw[hsame] at h;exact h
    have hg0:=(HOC.out 0).1;rw[World.drewN_zero] at hg0;have HO2:Hid (∀n (q:Nat),Own ((wr.drewN n).setCell ⟨g,j,none⟩ (.int .u64 q)) g (s.set j q).length (wd (s.set j q))):=hid fun n q=>(HO'.out.drewN n).setWord j hjs q;have HB2:Hid (∀n (q:Nat),Below base w ((wr.drewN n).setCell ⟨g,j,none⟩ (.int .u64 q))):=hid fun n q=>(below_drewN HB.out n).setCell HG.out _;have HSET:Hid (∀d ∈ s.set j ((rest*B64+l.getD j 0)/b),d<B64):=hid (qcs HSB.out j _ hqlt);have HSL2:Hid (∀q,(s.set j q).length=l.length):=hid fun q=>by rw[List.length_set];exact HSL.out
    have HSAME2:Hid (∀q i,i<j→(s.set j q).getD i 0=l.getD i 0):=hid fun q i hi=>by
     rw[qar _ _ _ _ (by omega)];exact HSAME.out i (by omega)
    have HF1:=hid hfin.1;have HF2:=hid hfin.2;clear hfin hstep hhs hhl hsame hqlt hxl hrestb hjs HO' HSAME HQ HR HB HSB HSL;generalize (rest*B64+l.getD j 0)/b=q at *;generalize (rest*B64+l.getD j 0) % b=r at *;generalize l.getD j 0=x at *;go_wp2_with fail;refine(HD.out _).mono ?_;rintro e w2 ⟨rfl,n,hw2⟩;obtain⟨hg2,hfz2⟩:=HOC.out n;have HO3:=hid (HO2.out n q);have HB3:=hid (HB2.out n q);rw[←hw2] at hg2 hfz2 HO3 HB3;clear hw2 HD HOC HO2 HB2 hg0;go_wp2_with fail;go_roundw
    case rel=>exact⟨j,r,_,by omega,by go_num,rfl,hid (HSL2.out q),HSET,HO3,hid (HSAME2.out q),HF1,HF2,HB3⟩
    case measure=>simp[intOf]
theorem qll(g c:Nat)(l:List Nat)(b:Nat)(w:World)(hl:∀d ∈ l,d<B64)(hc1:l.length≤c)(hc2:c≤maxLen)(ho:Own w g l.length (wd l))(hb:0<b)(hbB:b<B64):
  Calls Tryz.prog 121 #[.slice (some ⟨g,0,none⟩) l.length c,.int .u64 b] w fun e w'=>∃k,k=(qaf B64 (val B64 l/b)).length∧e = .returned (.tuple #[.slice (some ⟨g,0,none⟩) k c,.int .u64 (val B64 l % b:Nat)])∧Own w' g k (wd (qaf B64 (val B64 l/b)))∧qfh g w w':=by
 have HL:=hid hl;have HC1:=hid hc1;have HC2:=hid hc2;have HBB:=hid hbB;have hl0:True:=trivial;have hl63:l.length≤9223372036854775807:=by unfold maxLen at hc2;omega
 have HO:=hid ho;clear hl hc1 hc2 hbB hl0 ho;go_enter Tryz.func121,Tryz.ntmps121;go_wp2_with fail
 go_loopw [6,7] (fun r i wr=>∃k rest:Nat,∃s:List Nat,k≤l.length∧i = .int .i64 ((k:Int)-1)∧r = .int .u64 rest∧Hid (s.length=l.length)∧Hid (∀d ∈ s,d<B64)∧Hid (Own wr g s.length (wd s))∧Hid (∀j,j<k→s.getD j 0=l.getD j 0)∧Hid (qa7 B64 l k/b=qa7 B64 s k)∧Hid (qa7 B64 l k % b=rest)∧Hid (qfh g w wr)) (fun _ i _=>(intOf i+1).toNat)
 case atStart=>exact⟨l.length,0,l,Nat.le_refl _,rfl,rfl,hid rfl,HL,HO,hid (fun _ _=>rfl),hid (by rw[qdc _ _ _ (Nat.le_refl _),Nat.zero_div]),hid (by rw[qdc _ _ _ (Nat.le_refl _),Nat.zero_mod]),hid (qfh.refl _ _)⟩
 case round=>
  obtain⟨k,rest,s,hk,rfl,rfl,HSL,HSB,HO',HSAME,HQ,HR,HB⟩:=hrel;rcases k with _|j
  ·have HT:=hid (qhm (some ⟨g,0,none⟩) c s wr ⟨HSB.out,_,_,rfl,by rw[HSL.out];exact HC1.out,HC2.out,.inr ⟨g,0,rfl,HO'.out.row⟩⟩)
   rw[HSL.out] at HT;have HV:Hid (val B64 s=val B64 l/b):=hid (by have:=HQ.out;rw[high_zero,high_zero] at this;exact this.symm);have HR':Hid (rest=val B64 l % b):=hid (by have:=HR.out;rw[high_zero] at this;exact this.symm);go_wp2_with fail;refine HT.out.mono ?_;rintro e w' ⟨⟨k,hk',rfl,hd⟩,hw'⟩;have HD:=hid hd;have HK:Hid (k≤s.length):=hid (by rw[HSL.out];exact hk');clear hd hk';subst hw';go_wp2_with fail;go_ret2;refine⟨k,by rw[←HV.out,HD.out,List.length_take];exact(Nat.min_eq_left HK.out).symm,by rw[HR'.out];rfl, ?_,HB.out⟩;have hlen:(s.take k).length=k:=by rw[List.length_take];exact Nat.min_eq_left HK.out
   rw[←HV.out,HD.out];refine⟨HO'.out.1,fun q hq => ?_⟩;have hqs:q<s.length:=by have:=HK.out;omega
   have h:=HO'.out.2 q hqs;unfold wd at *;simp only[List.getD_eq_getElem?_getD,List.getElem?_take_of_lt hq]
   simpa only[List.getD_eq_getElem?_getD] using h
  ·have e1:((j+1:Nat):Int)-1=(j:Int):=by omega
   simp only[e1];have hjs:j<s.length:=by rw[HSL.out];omega
   have hsame:=HSAME.out j (Nat.lt_succ_self j);have hrestb:rest<b:=by rw[←HR.out];exact Nat.mod_lt _ hb
   have hxl:=qao (b:=B64) (by rw[qab];omega) HL.out j;have hhl:=qbj B64 l j
   have hhs:∀q,qa7 B64 (s.set j q) j=q+B64*qa7 B64 s (j+1):=fun q=>by
    rw[qbj,qcc _ _ _ hjs];unfold qa7;rw[List.drop_set_of_lt (by omega)]
   have HD:=hid (fun w=>qlk rest (l.getD j 0) b hrestb HBB.out hxl w);have hstep:=fun q r hq hr=>qta (B:=B64) (x:=l.getD j 0) (q:=q) (r:=r) hb HQ.out HR.out hq hr (hhs q);have hfin:=hstep _ _ rfl rfl;rw[←hhl] at hfin
   have hqlt:(rest*B64+l.getD j 0)/b<B64:=by
    rw[Nat.div_lt_iff_lt_mul hb];have:(rest+1)*B64≤b*B64:=Nat.mul_le_mul_right _ hrestb;rw[Nat.add_mul,Nat.mul_comm b] at this;omega
   have HOC:Hid (∀n,(wr.drewN n).cell? ⟨g,j,none⟩=some (.int .u64 (l.getD j 0:Nat))∧(wr.drewN n).frozen? ⟨g,j,none⟩=false):=hid fun n=>by
    have h:=(HO'.out.drewN n).2 j hjs;unfold wd at h;rw[hsame] at h;exact h
   have hg0:=(HOC.out 0).1;rw[World.drewN_zero] at hg0;have HO2:Hid (∀n (q:Nat),Own ((wr.drewN n).setCell ⟨g,j,none⟩ (.int .u64 q)) g (s.set j q).length (wd (s.set j q))):=hid fun n q=>(HO'.out.drewN n).setWord j hjs q;have HB2:Hid (∀n (q:Nat),qfh g w ((wr.drewN n).setCell ⟨g,j,none⟩ (.int .u64 q))):=hid fun n q=>(HB.out.drewN n).set _ _;have HSET:Hid (∀d ∈ s.set j ((rest*B64+l.getD j 0)/b),d<B64):=hid (qcs HSB.out j _ hqlt);have HSL2:Hid (∀q,(s.set j q).length=l.length):=hid fun q=>by rw[List.length_set];exact HSL.out
   have HSAME2:Hid (∀q i,i<j→(s.set j q).getD i 0=l.getD i 0):=hid fun q i hi=>by
    rw[qar _ _ _ _ (by omega)];exact HSAME.out i (by omega)
   have HF1:=hid hfin.1;have HF2:=hid hfin.2;clear hfin hstep hhs hhl hsame hqlt hxl hrestb hjs HO' HSAME HQ HR HB HSB HSL;generalize (rest*B64+l.getD j 0)/b=q at *;generalize (rest*B64+l.getD j 0) % b=r at *;generalize l.getD j 0=x at *;go_wp2_with fail;refine(HD.out _).mono ?_;rintro e w2 ⟨rfl,n,hw2⟩;obtain⟨hg2,hfz2⟩:=HOC.out n;have HO3:=hid (HO2.out n q);have HB3:=hid (HB2.out n q);rw[←hw2] at hg2 hfz2 HO3 HB3;clear hw2 HD HOC HO2 HB2 hg0;go_wp2_with fail;go_roundw
   case rel=>exact⟨j,r,_,by omega,by go_num,rfl,hid (HSL2.out q),HSET,HO3,hid (HSAME2.out q),HF1,HF2,HB3⟩
   case measure=>simp[intOf]
end Go.Proofs.YthjagoogkkgelaaGreatDoor
