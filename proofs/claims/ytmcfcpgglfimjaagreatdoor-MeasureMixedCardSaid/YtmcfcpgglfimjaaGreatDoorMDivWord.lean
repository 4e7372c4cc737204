/- divideInPlace: division by a word, in memory of the caller's own. -/
import Derived.Test.YtmcfcpgglfimjaaGreatDoorMDiv64
set_option linter.all false
namespace Go.Proofs.YtmcfcpgglfimjaaGreatDoor
open Go.RowKit
set_option maxRecDepth 100000
set_option maxHeartbeats 1000000
theorem Own.drewN{w:World}{g n:Nat}{f:Nat→Value}(h:Own w g n f)(k:Nat):Own (w.drewN k) g n f:=h.later (below_drewN (qaa _ _) k)
theorem qss{B H Hq rest b x q r hs:Nat}(hb:0<b)(h1:H/b=Hq)(h2:H % b=rest)(hq:q=(rest*B+x)/b)(hr:r=(rest*B+x) % b)(wO:hs=q+B*Hq):
  (x+B*H)/b=hs∧(x+B*H) % b=r:=by
 have e:x+B*H=(rest*B+x)+b*(B*Hq):=by
  have:=Nat.div_add_mod H b;rw[h1,h2] at this;rw[←this,Nat.mul_add,←Nat.mul_assoc b B,Nat.mul_comm b B,Nat.mul_assoc B b,Nat.mul_comm rest];omega
 rw[e,Nat.add_mul_div_left _ _ hb,Nat.add_mul_mod_self_left,wO,hq,hr];exact⟨rfl,rfl⟩
theorem qgb.leadPart{w:World}{base g c:Nat}{s:List Nat}{k:Nat}(hs:∀d ∈ s,d<B64)(ho:Own w g s.length (wd s))(hg:base≤g)(hk:k≤s.length)(bO:s.length≤c)(bJ:c≤maxLen):qgb w base (.slice (some ⟨g,0,none⟩) k c) (s.take k):=by
 have aE:(s.take k).length=k:=by simp;omega
 refine⟨fun d hd=>hs d (List.mem_of_mem_take hd),some ⟨g,0,none⟩,c,by rw[aE],by omega,bJ,.inr ⟨g,hg,rfl,ho.1,fun i hi => ?_⟩⟩;rw[aE] at hi;have h:=ho.2 i (by omega);unfold wd at *;simp only[qba,List.getElem?_take_of_lt hi]
 simpa only[qba] using h
theorem qma(v:Value)(l:List Nat)(b base:Nat)(w:World)(h:qgb w base v l)(hb:0<b)(xV:b<B64):
  Calls Tryz.prog 150 #[v,.int .u64 b] w fun e w'=>(∃v',e = .returned (.tuple #[v',.int .u64 (val B64 l % b:Nat)])∧qgb w' base v' (qao B64 (val B64 l/b)))∧Below base w w':=by
 obtain⟨hl,p,c,rfl,bO,bJ,aT⟩:=h;by_cases kK:l.length=0
 ·have e:l=[]:=List.eq_nil_of_length_eq_zero kK
  subst e;have HT:=hid (qg9 p c [] w ⟨hl,p,c,rfl,bO,bJ,.inl rfl⟩);have HF:Hid (qgb w base (.slice p 0 c) (qao B64 (val B64 []/b))):=hid (by rw[val_nil,Nat.zero_div,qau];exact⟨by simp,p,c,rfl,by simp,bJ,.inl rfl⟩);have HZ:Hid (val B64 [] % b=0):=hid (by simp);clear hl bO bJ aT hb xV kK;go_enter Tryz.func150,Tryz.ntmps150;go_wp2_with fail
  go_loop [6,7] (fun r i=>r = .int .u64 0∧i = .int .i64 (-1)) (fun _ _=>0)
  case atStart=>exact⟨rfl,rfl⟩
  case round=>
   obtain⟨rfl,rfl⟩:=hrel;go_wp2_with fail;refine HT.out.mono ?_;rintro e w' ⟨⟨k,hk,rfl,hd⟩,rfl⟩;obtain rfl:k=0:=by simpa using hk
   go_wp2_with fail;go_ret2;exact⟨⟨_,by rw[HZ.out];rfl,HF.out⟩,qaa _ _⟩
 ·rcases aT with h0|⟨g,hg,rfl,ho⟩
  ·omega
  have HG:=hid hg;have HL:=hid hl;have jJ:=hid bO;have gS:=hid bJ;have aV:=hid xV;have Fy:l.length≤9223372036854775807:=by unfold maxLen at bJ;omega
  have HO:=hid ho;clear hg hl bO bJ xV kK ho;go_enter Tryz.func150,Tryz.ntmps150;go_wp2_with fail
  go_loopw [6,7] (fun r i wr=>∃k rest:Nat,∃s:List Nat,k≤l.length∧i = .int .i64 ((k:Int)-1)∧r = .int .u64 rest∧Hid (s.length=l.length)∧Hid (∀d ∈ s,d<B64)∧Hid (Own wr g s.length (wd s))∧Hid (∀j,j<k→s.getD j 0=l.getD j 0)∧Hid (qbi B64 l k/b=qbi B64 s k)∧Hid (qbi B64 l k % b=rest)∧Hid (Below base w wr)) (fun _ i _=>(intOf i+1).toNat)
  case atStart=>exact⟨l.length,0,l,qac _,rfl,rfl,hid rfl,HL,HO,hid (fun _ _=>rfl),hid (by rw[qdg _ _ _ (qac _),Nat.zero_div]),hid (by rw[qdg _ _ _ (qac _),Nat.zero_mod]),hid (qaa _ _)⟩
  case round=>
   obtain⟨k,rest,s,hk,rfl,rfl,aU,cL,HO',aS,HQ,HR,HB⟩:=hrel;rcases k with _|j
   ·have HT:=hid (qg9 (some ⟨g,0,none⟩) c s wr ⟨cL.out,_,_,rfl,by rw[aU.out];exact jJ.out,gS.out,.inr ⟨g,0,rfl,HO'.out.row⟩⟩)
    rw[aU.out] at HT;have HV:Hid (val B64 s=val B64 l/b):=hid (by have:=HQ.out;rw[high_zero,high_zero] at this;exact this.symm);have HR':Hid (rest=val B64 l % b):=hid (by have:=HR.out;rw[high_zero] at this;exact this.symm);go_wp2_with fail;refine HT.out.mono ?_;rintro e w' ⟨⟨k,hk',rfl,hd⟩,hw'⟩;have HD:=hid hd;have HK:Hid (k≤s.length):=hid (by rw[aU.out];exact hk');clear hd hk';subst hw';go_wp2_with fail;go_ret2;refine⟨⟨_,by rw[HR'.out];rfl, ?_⟩,HB.out⟩;rw[←HV.out,HD.out];exact qgb.leadPart cL.out HO'.out HG.out HK.out (by rw[aU.out];exact jJ.out) gS.out
   ·have e1:((j+1:Nat):Int)-1=(j:Int):=by omega
    simp only[e1];have Bc:j<s.length:=by rw[aU.out];omega
    have bN:=aS.out j (Nat.lt_succ_self j);have fE:rest<b:=by rw[←HR.out];exact Nat.mod_lt _ hb
    have eP:=qaz (b:=B64) (by rw[qaj];omega) HL.out j;have pX:=qbv B64 l j
    have wO:∀q,qbi B64 (s.set j q) j=q+B64*qbi B64 s (j+1):=fun q=>by
     rw[qbv,qck _ _ _ Bc];unfold qbi;rw[List.drop_set_of_lt (by omega)]
    have HD:=hid (fun w=>qk4 rest (l.getD j 0) b fE aV.out eP w);have qS:=fun q r hq hr=>qss (B:=B64) (x:=l.getD j 0) (q:=q) (r:=r) hb HQ.out HR.out hq hr (wO q);have jS:=qS _ _ rfl rfl;rw[←pX] at jS
    have xW:(rest*B64+l.getD j 0)/b<B64:=by
     rw[Nat.div_lt_iff_lt_mul hb];have:(rest+1)*B64≤b*B64:=Nat.mul_le_mul_right _ fE;rw[Nat.add_mul,Nat.mul_comm b] at this;omega
    have rP:Hid (∀n,(wr.drewN n).cell? ⟨g,j,none⟩=some (.int .u64 (l.getD j 0:Nat))∧(wr.drewN n).frozen? ⟨g,j,none⟩=false):=hid fun n=>by
     have h:=(HO'.out.drewN n).2 j Bc;unfold wd at h;rw[bN] at h;exact h
    have rL:=(rP.out 0).1;rw[World.drewN_zero] at rL;have jH:Hid (∀n (q:Nat),Own ((wr.drewN n).setCell ⟨g,j,none⟩ (.int .u64 q)) g (s.set j q).length (wd (s.set j q))):=hid fun n q=>(HO'.out.drewN n).setWord j Bc q;have aK:Hid (∀n (q:Nat),Below base w ((wr.drewN n).setCell ⟨g,j,none⟩ (.int .u64 q))):=hid fun n q=>(below_drewN HB.out n).setCell HG.out _;have bY:Hid (∀d ∈ s.set j ((rest*B64+l.getD j 0)/b),d<B64):=hid (qc7 cL.out j _ xW);have xX:Hid (∀q,(s.set j q).length=l.length):=hid fun q=>by rw[List.length_set];exact aU.out
    have bW:Hid (∀q i,i<j→(s.set j q).getD i 0=l.getD i 0):=hid fun q i hi=>by
     rw[qa3 _ _ _ _ (by omega)];exact aS.out i (by omega)
    have gI:=hid jS.1;have jT:=hid jS.2;clear jS qS wO pX bN xW eP fE Bc HO' aS HQ HR HB cL aU;generalize (rest*B64+l.getD j 0)/b=q at *;generalize (rest*B64+l.getD j 0) % b=r at *;generalize l.getD j 0=x at *;go_wp2_with fail;refine(HD.out _).mono ?_;rintro e w2 ⟨rfl,n,kZ⟩;obtain⟨sD,Fz⟩:=rP.out n;have lF:=hid (jH.out n q);have bR:=hid (aK.out n q);rw[←kZ] at sD Fz lF bR;clear kZ HD rP jH aK rL;go_wp2_with fail;go_roundw
    case rel=>exact⟨j,r,_,by omega,by go_num,rfl,hid (xX.out q),bY,lF,hid (bW.out q),gI,jT,bR⟩
    case measure=>simp[intOf]
theorem qk5(g c:Nat)(l:List Nat)(b:Nat)(w:World)(hl:∀d ∈ l,d<B64)(bO:l.length≤c)(bJ:c≤maxLen)(ho:Own w g l.length (wd l))(hb:0<b)(xV:b<B64):
  Calls Tryz.prog 150 #[.slice (some ⟨g,0,none⟩) l.length c,.int .u64 b] w fun e w'=>∃k,k=(qao B64 (val B64 l/b)).length∧e = .returned (.tuple #[.slice (some ⟨g,0,none⟩) k c,.int .u64 (val B64 l % b:Nat)])∧Own w' g k (wd (qao B64 (val B64 l/b)))∧qfb g w w':=by
 have HL:=hid hl;have jJ:=hid bO;have gS:=hid bJ;have aV:=hid xV;have kK:True:=trivial;have Fy:l.length≤9223372036854775807:=by unfold maxLen at bJ;omega
 have HO:=hid ho;clear hl bO bJ xV kK ho;go_enter Tryz.func150,Tryz.ntmps150;go_wp2_with fail
 go_loopw [6,7] (fun r i wr=>∃k rest:Nat,∃s:List Nat,k≤l.length∧i = .int .i64 ((k:Int)-1)∧r = .int .u64 rest∧Hid (s.length=l.length)∧Hid (∀d ∈ s,d<B64)∧Hid (Own wr g s.length (wd s))∧Hid (∀j,j<k→s.getD j 0=l.getD j 0)∧Hid (qbi B64 l k/b=qbi B64 s k)∧Hid (qbi B64 l k % b=rest)∧Hid (qfb g w wr)) (fun _ i _=>(intOf i+1).toNat)
 case atStart=>exact⟨l.length,0,l,qac _,rfl,rfl,hid rfl,HL,HO,hid (fun _ _=>rfl),hid (by rw[qdg _ _ _ (qac _),Nat.zero_div]),hid (by rw[qdg _ _ _ (qac _),Nat.zero_mod]),hid (qfb.refl _ _)⟩
 case round=>
  obtain⟨k,rest,s,hk,rfl,rfl,aU,cL,HO',aS,HQ,HR,HB⟩:=hrel;rcases k with _|j
  ·have HT:=hid (qg9 (some ⟨g,0,none⟩) c s wr ⟨cL.out,_,_,rfl,by rw[aU.out];exact jJ.out,gS.out,.inr ⟨g,0,rfl,HO'.out.row⟩⟩)
   rw[aU.out] at HT;have HV:Hid (val B64 s=val B64 l/b):=hid (by have:=HQ.out;rw[high_zero,high_zero] at this;exact this.symm);have HR':Hid (rest=val B64 l % b):=hid (by have:=HR.out;rw[high_zero] at this;exact this.symm);go_wp2_with fail;refine HT.out.mono ?_;rintro e w' ⟨⟨k,hk',rfl,hd⟩,hw'⟩;have HD:=hid hd;have HK:Hid (k≤s.length):=hid (by rw[aU.out];exact hk');clear hd hk';subst hw';go_wp2_with fail;go_ret2;refine⟨k,by rw[←HV.out,HD.out,List.length_take];exact(Nat.min_eq_left HK.out).symm,by rw[HR'.out];rfl, ?_,HB.out⟩;have aE:(s.take k).length=k:=by rw[List.length_take];exact Nat.min_eq_left HK.out
   rw[←HV.out,HD.out];refine⟨HO'.out.1,fun q hq => ?_⟩;have jU:q<s.length:=by have:=HK.out;omega
   have h:=HO'.out.2 q jU;unfold wd at *;simp only[qba,List.getElem?_take_of_lt hq]
   simpa only[qba] using h
  ·have e1:((j+1:Nat):Int)-1=(j:Int):=by omega
   simp only[e1];have Bc:j<s.length:=by rw[aU.out];omega
   have bN:=aS.out j (Nat.lt_succ_self j);have fE:rest<b:=by rw[←HR.out];exact Nat.mod_lt _ hb
   have eP:=qaz (b:=B64) (by rw[qaj];omega) HL.out j;have pX:=qbv B64 l j
   have wO:∀q,qbi B64 (s.set j q) j=q+B64*qbi B64 s (j+1):=fun q=>by
    rw[qbv,qck _ _ _ Bc];unfold qbi;rw[List.drop_set_of_lt (by omega)]
   have HD:=hid (fun w=>qk4 rest (l.getD j 0) b fE aV.out eP w);have qS:=fun q r hq hr=>qss (B:=B64) (x:=l.getD j 0) (q:=q) (r:=r) hb HQ.out HR.out hq hr (wO q);have jS:=qS _ _ rfl rfl;rw[←pX] at jS
   have xW:(rest*B64+l.getD j 0)/b<B64:=by
    rw[Nat.div_lt_iff_lt_mul hb];have:(rest+1)*B64≤b*B64:=Nat.mul_le_mul_right _ fE;rw[Nat.add_mul,Nat.mul_comm b] at this;omega
   have rP:Hid (∀n,(wr.drewN n).cell? ⟨g,j,none⟩=some (.int .u64 (l.getD j 0:Nat))∧(wr.drewN n).frozen? ⟨g,j,none⟩=false):=hid fun n=>by
    have h:=(HO'.out.drewN n).2 j Bc;unfold wd at h;rw[bN] at h;exact h
   have rL:=(rP.out 0).1;rw[World.drewN_zero] at rL;have jH:Hid (∀n (q:Nat),Own ((wr.drewN n).setCell ⟨g,j,none⟩ (.int .u64 q)) g (s.set j q).length (wd (s.set j q))):=hid fun n q=>(HO'.out.drewN n).setWord j Bc q;have aK:Hid (∀n (q:Nat),qfb g w ((wr.drewN n).setCell ⟨g,j,none⟩ (.int .u64 q))):=hid fun n q=>(HB.out.drewN n).set _ _;have bY:Hid (∀d ∈ s.set j ((rest*B64+l.getD j 0)/b),d<B64):=hid (qc7 cL.out j _ xW);have xX:Hid (∀q,(s.set j q).length=l.length):=hid fun q=>by rw[List.length_set];exact aU.out
   have bW:Hid (∀q i,i<j→(s.set j q).getD i 0=l.getD i 0):=hid fun q i hi=>by
    rw[qa3 _ _ _ _ (by omega)];exact aS.out i (by omega)
   have gI:=hid jS.1;have jT:=hid jS.2;clear jS qS wO pX bN xW eP fE Bc HO' aS HQ HR HB cL aU;generalize (rest*B64+l.getD j 0)/b=q at *;generalize (rest*B64+l.getD j 0) % b=r at *;generalize l.getD j 0=x at *;go_wp2_with fail;refine(HD.out _).mono ?_;rintro e w2 ⟨rfl,n,kZ⟩;obtain⟨sD,Fz⟩:=rP.out n;have lF:=hid (jH.out n q);have bR:=hid (aK.out n q);rw[←kZ] at sD Fz lF bR;clear kZ HD rP jH aK rL;go_wp2_with fail;go_roundw
   case rel=>exact⟨j,r,_,by omega,by go_num,rfl,hid (xX.out q),bY,lF,hid (bW.out q),gI,jT,bR⟩
   case measure=>simp[intOf]
end Go.Proofs.YtmcfcpgglfimjaaGreatDoor
