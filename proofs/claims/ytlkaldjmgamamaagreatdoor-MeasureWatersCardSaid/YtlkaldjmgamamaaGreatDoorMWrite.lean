/- slices.Reverse of bytes. -/
import Derived.Test.YtlkaldjmgamamaaGreatDoorMDivWord
import Derived.RegionTactic
import Derived.ChangeAlike
import Derived.Outline
import Derived.Test.YtlkaldjmgamamaaGreatDoorMDigits
import Derived.Laws.IdiomStrings
import Derived.Laws.BytesArg
set_option linter.all false
namespace Go.Proofs.YtlkaldjmgamamaaGreatDoor
open Go.RowKit
set_option maxRecDepth 100000
set_option maxHeartbeats 4000000
def qmo(n:Nat)(f:Nat→Value)(i q:Nat):Value:=if q<i∨n≤q+i then f (n-1-q) else f q
theorem qy6(n:Nat)(f:Nat→Value)(q:Nat)(h:q<n):qmo n f 0 q=f q:=by
 unfold qmo;rw[if_neg (by omega)]
theorem q1k{n i:Nat}(f:Nat→Value)(h:n≤2*i+1)(q:Nat)(hq:q<n):qmo n f i q=f (n-1-q):=by
 unfold qmo;by_cases e:q<i∨n≤q+i
 ·rw[if_pos e]
 ·rw[if_neg e];congr 1;omega
theorem qy7{n i:Nat}(f:Nat→Value)(h:2*i+1<n)(q:Nat):qmo n f (i+1) q=if q=n-1-i then qmo n f i i else if q=i then qmo n f i (n-1-i) else qmo n f i q:=by
 unfold qmo;by_cases e1:q=n-1-i
 ·rw[if_pos e1,if_pos (by omega),if_neg (by omega)];congr 1;omega
 ·rw[if_neg e1]
  by_cases e2:q=i
  ·rw[if_pos e2,if_pos (by omega),if_neg (by omega)];congr 1;omega
  ·rw[if_neg e2]
   by_cases e3:q<i∨n≤q+i
   ·rw[if_pos e3,if_pos (by omega)]
   ·rw[if_neg e3,if_neg (by omega)]
theorem qvn(g n c:Nat)(f:Nat→Value)(w:World)(hn:n≤9223372036854775807)(ho:Own w g n f)(h1:∀q,q<n→∃x:Int,f q = .int .u8 x):
  Calls Tryz.prog 174 #[.slice (some ⟨g,0,none⟩) n c] w fun e w'=>e = .returned (.tuple #[])∧Own w' g n (fun q=>f (n-1-q))∧qfg g w w':=by
 have HO:=hid ho;have H1:=hid h1;clear ho h1;go_enter Tryz.func174,Tryz.ntmps174;go_wp2_with fail
 go_loopw [2,3] (fun a b wr=>∃i:Nat,2*i≤n+1∧a = .int .i64 i∧b = .int .i64 ((n:Int)-1-i)∧Hid (Own wr g n (qmo n f i))∧Hid (qfg g w wr)) (fun a _ _=>n-(intOf a).toNat)
 case atStart=>exact⟨0,by omega,rfl,by go_num,hid (HO.out.congr fun q hq=>(qy6 n f q hq).symm),hid (qfg.refl _ _)⟩
 case round=>
  obtain⟨i,hi,rfl,rfl,HR,HB⟩:=hrel;by_cases hlt:2*i+1<n
  ·obtain⟨j,hj⟩:∃j,j=n-1-i:=⟨_,rfl⟩
   have hE:(n:Int)-1-i=(j:Int):=by omega
   have hij:i<j:=by omega
   have hjn:j<n:=by omega
   have hin:i<n:=by omega
   have hne:¬i=j:=by omega
   obtain⟨hci,hfi⟩:=HR.out.2 i hin;obtain⟨hcj,hfj⟩:=HR.out.2 j hjn
   have hv:∀q,q<n→∃x:Int,qmo n f i q = .int .u8 x:=fun q hq=>by
    unfold qmo;split
    ·exact H1.out _ (by omega)
    ·exact H1.out _ hq
   obtain⟨x,hx⟩:=hv i hin;obtain⟨y,hy⟩:=hv j hjn;rw[hx] at hci;rw[hy] at hcj;have HX:=hid hx;have HY:=hid hy;clear hx hy hv;rw[hE];have HJ:=hid hj;clear hj hE;go_wp2_with fail
   go_region
   go_wp2_with fail;go_roundw
   case rel=>
    refine⟨i+1,by omega,by go_num,by have:=HJ.out;go_num,hid ?_,hid ?_⟩
    ·have h:=(HR.out.set i hin (.int .u8 y)).set j hjn (.int .u8 x)
     have h2:=h.congr (f':=qmo n f (i+1)) (fun q hq=>by
      rw[qy7 f hlt,←HJ.out,HX.out,HY.out])
     exact h2.later ((Below.refl _ _).drew)
    ·exact((HB.out.set _ _).set _ _).drewN 1
   case measure=>simp[intOf];omega
  ·have hE:¬(i:Int)<(n:Int)-1-i:=by omega
   have HF:Hid (Own wr g n (fun q=>f (n-1-q))):=hid (HR.out.congr fun q hq=>q1k f (by omega) q hq);go_wp2_with fail
   go_end0
   exact⟨rfl,HF.out,HB.out⟩
theorem reverse_nil(w:World):Calls Tryz.prog 174 #[.slice none 0 0] w fun e w'=>e = .returned (.tuple #[])∧w=w':=by
 go_enter Tryz.func174,Tryz.ntmps174;go_wp2_with fail
 go_loop [2,3] (fun a b=>a = .int .i64 0∧b = .int .i64 (-1)) (fun _ _=>0)
 case atStart=>exact⟨rfl,rfl⟩
 case round=>
  obtain⟨rfl,rfl⟩:=hrel;go_wp2_with fail
  go_end0
  exact⟨rfl,rfl⟩
def bv(l:List UInt8):List Value:=l.map fun c=>Value.int .u8 (c.toNat:Int)
theorem q7t(l:List UInt8)(c:UInt8):bv (l++[c])=bv l++[.int .u8 (c.toNat:Int)]:=by unfold bv;simp
def qmp(n most:Nat)(w:World)(e:Ending)(w':World):Prop:=
 e = .returned (.tuple #[.string (if(qam n).length≤most then⟨(qam n).toArray⟩ else⟨#[]⟩),.bool (decide ((qam n).length≤most))])∧Below w.heap.size w w'
theorem qtf{n most:Nat}{w w':World}{e:Ending}(h:(qam n).length≤most)(he:e = .returned (.tuple #[.string ⟨(qam n).toArray⟩,.bool true]))(hb:Below w.heap.size w w'):qmp n most w e w':=by
 unfold qmp;rw[if_pos h,decide_eq_true h];exact⟨he,hb⟩
theorem qxh{n most:Nat}{w w':World}{e:Ending}(h:most<(qam n).length)(he:e = .returned (.tuple #[.string ⟨#[]⟩,.bool false]))(hb:Below w.heap.size w w'):qmp n most w e w':=by
 unfold qmp;rw[if_neg (by omega),decide_eq_false (by omega)];exact⟨he,hb⟩
theorem qy8(v:Value)(most:Nat)(w:World)(h:qar w v 0)(hm:1≤most)(hm2:most≤1099511627776):
  Calls Tryz.prog 123 #[v,.int .i64 most] w (qmp 0 most w):=by
 have HBL:=hid (qlo v 0 w h (by rw[show wl 0=0 from by unfold wl;rw[qal];rfl];exact Nat.zero_le _));have HCL:=hid (qom v [] w (by unfold qar at h;rwa [qal] at h) (Nat.zero_le _));have HF:Hid (∀w',Below w.heap.size w w'→qmp 0 most w (.returned (.tuple #[.string ⟨#[48]⟩,.bool true])) w'):=hid fun w' hb=>qtf (by show 1≤most;exact hm) rfl hb;clear h;have hcvn:∀(w:World),(convert 198 9 (.slice none 0 0)).run Tryz.prog w = .ok (.string ⟨#[]⟩) w:=fun w=>run_convert_bytes_nil (P:=Tryz.prog) w _ _ Tryz.underlying198 Tryz.underlying5 0 0 _ Tryz.underlying9;go_enter Tryz.func123,Tryz.ntmps123;go_wp2_with fail;refine HBL.out.mono ?_;rintro e w1 ⟨L,rfl,hL,rfl⟩
 have hL0:L=0:=by
  rcases hL with h|h
  ·exact h
  ·have:=Nat.two_pow_pos (L-1);omega
 subst hL0;clear hL;have hI:¬(most:Int)/3*10+10<0:=by omega
 go_wp2_with fail;refine HCL.out.mono ?_;rintro e w1 ⟨⟨vc,rfl,ho⟩,hb⟩;obtain⟨_,pc,cc,rfl,_,_,_⟩:=ho;have HB1:=hid hb;clear hb;have hm1:¬(most:Int)<1:=by omega
 go_wp2_with fail
 go_loopw [6,7] (fun r q wr=>r = .slice none 0 0∧q = .slice pc 0 cc∧Hid (Below w.heap.size w wr)) (fun _ _ _=>0)
 case atStart=>exact⟨rfl,rfl,HB1⟩
 case round=>
  obtain⟨rfl,rfl,HB⟩:=hrel;clear HB1;go_wp2_with fail;refine(reverse_nil _).mono ?_;rintro e w2 ⟨rfl,rfl⟩;go_wp2_with fail;refine(Tryz.strings_TrimLeft_one _ 48 (by decide) _).mono ?_;rintro e w2 ⟨rfl,hw2⟩;rw[hw2];clear hw2;have htl:Lib.trimLeftB (ByteArray.mk #[]).data.toList 48=[]:=rfl;go_wp2_with fail;go_ret2;exact HF.out _ HB.out
theorem q9m:(10:Nat)^19=10000000000000000000:=by decide
theorem qy9{n:Nat}(_hcap:wl n≤Cap):(qfh n).length≤20*wl n:=by
 refine qbl _ _ ?_;have h1:=qb0 B64 n qae;have h2:B64≤10^20:=by rw[qab];decide
 have h3:B64^wl n≤(10^20)^wl n:=Nat.pow_le_pow_left h2 _;rw[←Nat.pow_mul] at h3;exact Nat.lt_of_lt_of_le h1 h3
theorem qza{w:World}{base g cap:Nat}{l:List UInt8}(h:w.ownsRow base 5 1 (.slice (some ⟨g,0,none⟩) l.length cap) l.length (bv l)):Own w g l.length (fun q => .int .u8 ((l.getD q 0).toNat:Int)):=by
 refine⟨(h.lt g rfl).2,fun q hq=>⟨?_,h.frozenAt q⟩⟩;rw[h.cellAt q (by omega)];unfold bv;simp[hq]
theorem qqs{w:World}{base n:Nat}{v:Value}{xs:List Value}(h:w.ownsRow base 5 1 v n xs)(hn:0<n):∃g cap,v = .slice (some ⟨g,0,none⟩) n cap:=by
 rcases h.2 with⟨_,h'⟩|⟨g',cap',cur,h',_⟩
 ·omega
 ·exact⟨g',cap',h'⟩
theorem q49(l:List UInt8)(q:Nat)(hq:q<l.length):l.reverse.getD q 0=l.getD (l.length-1-q) 0:=by
 rw[List.getD_eq_getElem?_getD,List.getD_eq_getElem?_getD,List.getElem?_reverse hq]
theorem qfg.row{g:Nat}{w w':World}{base:Nat}{e:TypeId}{size:Nat}{v:Value}{n:Nat}{xs:List Value}(h:qfg g w w')(hr:w.ownsRow base e size v n xs)(hg:g<base):w'.ownsRow base e size v n xs:=by
 obtain⟨h1,h2⟩:=hr;refine⟨h1, ?_⟩;rcases h2 with h2|⟨k,cap,cur,a,b,c,d⟩
 ·exact .inl h2
 ·exact .inr ⟨k,cap,cur,a,b,by rw[h.2 k (by omega)];exact c,d⟩
theorem q1l{w w':World}{row:Option Nat}{g n:Nat}{f:Nat→Value}(h:Own w g n f)(hg:w.grownBy w' row)(hne:some g≠row):Own w' g n f:=by
 have hb:=hg.block g h.1 hne;refine⟨Nat.lt_of_lt_of_le h.1 hg.size,fun i hi => ?_⟩;rw[World.cell?_of_block (a:=⟨g,i,none⟩) hb,World.frozen?_of_block (a:=⟨g,i,none⟩) hb];exact h.2 i hi
theorem qtg{w:World}{base:Nat}{e:TypeId}{size:Nat}{v:Value}{n:Nat}{xs:List Value}(h:w.ownsRow base e size v n xs){g:Nat}(hg:g<base):some g≠v.ownBlock:=by
 intro e1;have:=(h.lt g e1.symm).1;omega
theorem q1m(v:Value)(n most:Nat)(w:World)(h:qar w v n)(hn:0<n)(hcap:wl n≤Cap)(hm2:most≤1099511627776):
  Calls Tryz.prog 123 #[v,.int .i64 most] w (qmp n most w):=by
 have HBL:=hid (qlo v n w h hcap);have HCL:=hid (qom v _ w h hcap);have hDT:qam n=qfh n:=by unfold qam;rw[if_neg (by omega)]
 have HLONG:Hid (∀L w',(L=0∨2^(L-1)≤n)→most/3*10+10<L→Below w.heap.size w w'→qmp n most w (.returned (.tuple #[.string ⟨#[]⟩,.bool false])) w'):=hid fun L w' hL hlt hb=>by
  refine qxh (qqr ?_) rfl hb;rcases hL with e|e
  ·omega
  ·exact qvm hlt e
 have HYES:Hid (∀w',(qfh n).length≤most→Below w.heap.size w w'→qmp n most w (.returned (.tuple #[.string ⟨(qfh n).toArray⟩,.bool true])) w'):=hid fun w' h1 hb=>by
  refine qtf (by rw[hDT];exact h1) (by rw[hDT]) hb
 have HNO:Hid (∀w',¬(qfh n).length≤most→Below w.heap.size w w'→qmp n most w (.returned (.tuple #[.string ⟨#[]⟩,.bool false])) w'):=hid fun w' h1 hb=>by
  refine qxh (by rw[hDT];omega) rfl hb
 have HD20:=hid (qy9 hcap);have HCAP:Hid (wl n≤1099511627776):=hid hcap
 have HDP:Hid (∀j,n/10^(19*j)≠0→19*j<(qfh n).length):=hid fun j hj=>by
  have h1:10^(19*j)≤n:=by
   rcases Nat.lt_or_ge n (10^(19*j)) with e|e
   ·exact absurd (Nat.div_eq_of_lt e) hj
   ·exact e
  have h2:=qe9 n;exact(Nat.pow_lt_pow_iff_right (by omega:1<10)).1 (Nat.lt_of_le_of_lt h1 h2)
 have hnd:(qag B64 n).length≠0:=by
  intro e;have:=qeq e;omega
 have hnd63:(qag B64 n).length≤1099511627776:=hcap;clear h hDT;obtain⟨i0,hi,hz0,hz1,hz2⟩:=info_parts (show(Tryz.prog.info? 5).map (fun i=>(i.zero,i.size,i.bytes))=some (some (.int .u8 0),1,1) by kernel_rfl);have HI:=hid hi;have HZ0:=hid hz0;have HZ1:=hid hz1;have HZ2:=hid hz2;clear hi hz0 hz1 hz2 hcap;have HN:=hid hn;clear hn;go_enter Tryz.func123,Tryz.ntmps123;go_wp2_with fail;refine HBL.out.mono ?_;rintro e w1 ⟨L,rfl,hL,rfl⟩;have HL:=hid hL;clear hL HBL;by_cases hlong:most/3*10+10<L
 ·have hI:(most:Int)/3*10+10<(L:Int):=by omega
  have HLT:=hid hlong;clear hlong;go_wp2_with fail;go_ret2;exact HLONG.out L _ HL.out HLT.out (Below.refl _ _)
 have hI:¬(most:Int)/3*10+10<(L:Int):=by omega
 clear hlong HL HLONG;go_wp2_with fail;refine HCL.out.mono ?_;rintro e w1 ⟨⟨vc,rfl,ho⟩,hb⟩;obtain⟨hlb,pc,cc,rfl,hc1,hc2,ho⟩:=ho;rcases ho with h0|⟨g,hg,rfl,ho⟩
 ·exact absurd h0 hnd
 have HB1:=hid hb;have HG:=hid hg;have HO1:=hid ho;have HC2:=hid hc2;have HC1:Hid ((qag B64 n).length≤cc):=hid hc1;obtain⟨B1,hB1⟩:∃B1,B1=w1.heap.size:=⟨_,rfl⟩;have hgB:g<B1:=by rw[hB1];exact ho.1
 have HGB:=hid hgB;have HBB:=hid hB1;have HWB:Hid (w.heap.size≤B1):=hid (by rw[hB1];exact hb.size);clear hlb hc1 hc2 ho hb hg hgB hB1 hI HCL;generalize hn0:(qag B64 n).length=n0 at *;have HN0:=hid hn0;clear hn0 hnd;go_wp2_with fail
 go_loopw [6,7] (fun r q wr=>∃(j m k:Nat),q = .slice (some ⟨g,0,none⟩) k cc∧Hid (k=(qag B64 m).length)∧Hid (m=n/10^(19*j))∧Hid (qlc r=19*j)∧Hid (k≤n0)∧Hid (Own wr g k (wd (qag B64 m)))∧Hid (wr.ownsRow B1 5 1 r (19*j) (bv (pd (19*j) n)))∧Hid (Below w.heap.size w wr)∧Hid (B1≤wr.heap.size)) (fun r _ _=>(qfh n).length+20-qlc r)
 case atStart=>exact⟨0,n,n0,rfl,hid HN0.out.symm,hid (by simp),hid rfl,hid (Nat.le_refl _),HO1,hid (World.ownsRow_nil w1 B1 5 1),HB1,hid (by rw[HBB.out];exact Nat.le_refl _)⟩
 case round=>
  obtain⟨j,m,k,rfl,HK,HM,HSL,HKN,HO,HROW,HB,HSZ⟩:=hrel;clear HO1 HB1;by_cases hk0:0<k
  ·have hm0:m≠0:=by
    rintro rfl;have:=HK.out;rw[qal] at this;simp at this;omega
   have HJ:Hid (19*j<(qfh n).length):=hid (HDP.out j (by rw[←HM.out];exact hm0));have hjb:19*j≤21990232555520:=by have:=HJ.out;have:=HD20.out;have:=HCAP.out;omega
   have HDIV:Hid (∀W,Own W g k (wd (qag B64 m))→Calls Tryz.prog 130 #[.slice (some ⟨g,0,none⟩) k cc,.int .u64 10000000000000000000] W fun e w'=>∃k2,k2=(qag B64 (m/10000000000000000000)).length∧e = .returned (.tuple #[.slice (some ⟨g,0,none⟩) k2 cc,.int .u64 (m % 10000000000000000000:Nat)])∧Own w' g k2 (wd (qag B64 (m/10000000000000000000)))∧qfg g W w'):=hid fun W ho=>by
    have hh:=HK.out;subst hh;have h:=qlf g cc (qag B64 m) 10000000000000000000 W (qd8 B64 m qae) (Nat.le_trans (by have:=HKN.out;exact this) (by have:=HC1.out;omega)) HC2.out ho (by omega) (by rw[qab];omega);rw[qah _ _ qae] at h;exact h
   have HPM:Hid (∀i,pd i (m % 10000000000000000000)=pd i (m % 10000000000000000000)):=hid fun _=>rfl
   have HPD:Hid (pd (19*j) n++pd 19 (m % 10000000000000000000)=pd (19*(j+1)) n):=hid (by
    rw[show 19*(j+1)=19*j+19 from by omega,qtd,←HM.out]
    congr 1
    refine q6x 19 _ _ ?_
    rw[q9m,Nat.mod_mod])
   have HM2:Hid (m/10000000000000000000=n/10^(19*(j+1))):=hid (by
    rw[show 19*(j+1)=19*j+19 from by omega,Nat.pow_add,←Nat.div_div_eq_div_mul,←HM.out,q9m])
   have HK2:Hid (∀k2,k2=(qag B64 (m/10000000000000000000)).length→k2≤n0):=hid fun k2 h2=>by
    rw[h2];exact Nat.le_trans (qad qae (Nat.div_le_self _ _)) (by rw[←HK.out];exact HKN.out)
   have HPL:Hid (m % 10000000000000000000<10000000000000000000):=hid (Nat.mod_lt _ (by omega));clear HK HM HKN HPM hm0;generalize m/10000000000000000000=m2 at *;generalize m % 10000000000000000000=p at *;go_wp2_with fail;refine(HDIV.out _ HO.out).mono ?_;rintro e w2 ⟨k2,hk2,rfl,ho2,hon⟩;have HKK:=hid hk2;have HKN2:=hid (HK2.out k2 hk2);have HO2:=hid ho2;have HROW2:=hid (hon.row HROW.out HGB.out);have HB2:Hid (Below w.heap.size w w2):=hid (HB.out.trans (hon.below HG.out));have HSZ2:Hid (B1≤w2.heap.size):=hid (Nat.le_trans HSZ.out (hon.below (Nat.zero_le _)).size);clear hk2 ho2 hon HROW HB HSZ HO HDIV HK2;go_wp2_with fail
   go_loopw [6,8,27] (fun r pp ii wr=>∃(i x:Nat),i≤19∧ii = .int .i64 i∧pp = .int .u64 x∧Hid (x=p/10^i)∧Hid (qlc r=19*j+i)∧Hid (wr.ownsRow B1 5 1 r (19*j+i) (bv (pd (19*j) n++pd i p)))∧Hid (Own wr g k2 (wd (qag B64 m2)))∧Hid (Below w.heap.size w wr)∧Hid (B1≤wr.heap.size)) (fun _ _ ii _=>19-(intOf ii).toNat)
   case atStart=>exact⟨0,p,Nat.zero_le _,rfl,rfl,hid (by simp),HSL,hid (by rw[pd,List.append_nil];exact HROW2.out),HO2,HB2,HSZ2⟩
   case round=>
    obtain⟨i,x,hi,rfl,rfl,HX,HSLI,HR,HOI,HBI,HSI⟩:=hrel;clear HROW2 HO2 HB2 HSZ2;by_cases hi19:i<19
    ·have hx64:(x:Int)≤18446744073709551615:=by
      have h1:=HX.out;have h2:=HPL.out;have h3:p/10^i≤p:=Nat.div_le_self _ _;omega
     have hr0:0≤(x:Int) % 10:=by omega
     have hr9:(x:Int) % 10≤9:=by omega
     have hcv:IntKind.u8.wrap (48+(x:Int) % 10)=((dig x).toNat:Int):=by
      rw[qi8,IntKind.wrap_u8];omega
     have HX2:Hid (x/10=p/10^(i+1)):=hid (by rw[HX.out,Nat.div_div_eq_div_mul,Nat.pow_succ]);have HPS:Hid (pd (19*j) n++pd (i+1) p=(pd (19*j) n++pd i p)++[dig x]):=hid (by rw[qvl,HX.out,List.append_assoc]);have hrow63:=HR.out;go_wp2_with (at_builtin;refine wpList_append_own _ rfl _ _ 198 rfl B1 5 i0 (.int .u8 0) 1 1 Tryz.underlying198 HI.out HZ0.out HZ1.out HZ2.out rfl (by decide) _ _ _ rfl (HR.out.alloc _) ⟨wr.heap.size,0,none⟩ 1 1 [.int .u8 ((dig x).toNat:Int)] rfl rfl ?c1 ?c2 ?c3 ?c4 ?c5 ?_)
     case c1=>exact qne _ _ _
     case c2=>intro u hu;rw[List.mem_singleton.1 hu];rfl
     case c3=>unfold maxLen;omega
     case c4=>omega
     case c5=>rw[World.size_alloc];have:=HSI.out;omega
     intro v' w9 hown hgrow _;have HO9:Hid (Own w9 g k2 (wd (qag B64 m2))):=hid (q1l (HOI.out.later ((Below.refl _ _).alloc HOI.out.1 _)) hgrow (qtg HR.out HGB.out));have HB9:Hid (Below w.heap.size w w9):=hid ((HBI.out.alloc HBI.out.size _).grown hgrow (by rw[World.size_alloc];have:=HBI.out.size;omega) (by intro q hq;have:=(HR.out.lt q hq).1;have:=HWB.out;omega));have HS9:Hid (B1≤w9.heap.size):=hid (by have:=hgrow.size;rw[World.size_alloc] at this;have:=HSI.out;omega);obtain⟨g',cap',rfl⟩:=qqs hown (by omega);have HR9:Hid (w9.ownsRow B1 5 1 (.slice (some ⟨g',0,none⟩) (19*j+(i+1)) cap') (19*j+(i+1)) (bv (pd (19*j) n++pd (i+1) p))):=hid (by rw[HPS.out,q7t];exact hown);clear hown hgrow hrow63 HR HOI HBI HSI;go_wp2_with fail;go_roundw
     case rel=>exact⟨i+1,x/10,by omega,by go_num,by rw[Int.natCast_ediv];rfl,HX2,hid rfl,HR9,HO9,HB9,HS9⟩
     case measure=>simp[intOf];omega
    ·have hie:i=19:=by omega
     subst hie;have HR19:Hid (wr.ownsRow B1 5 1 u6 (19*(j+1)) (bv (pd (19*(j+1)) n))):=hid (by have:=HR.out;rw[HPD.out] at this;exact this);have HL19:Hid (qlc u6=19*(j+1)):=hid HSLI.out;clear HR;go_wp2_with fail;go_roundw
     case rel=>exact⟨j+1,m2,k2,rfl,HKK,HM2,HL19,HKN2,HOI,HR19,HBI,HSI⟩
     case measure=>have h1:=HJ.out;have h2:=HL19.out;have h3:=HSL.out;omega
  ·have hk00:k=0:=by omega
   subst hk00;have hm0:m=0:=qeq (by have:=HK.out;unfold wl;omega)
   have hnlt:n<10^(19*j):=by
    have h1:=HM.out;rw[hm0] at h1;rcases Nat.lt_or_ge n (10^(19*j)) with e|e
    ·exact e
    ·have:=Nat.div_pos e (Nat.pow_pos (by omega))
     omega
   have hj0:0<19*j:=by
    rcases Nat.eq_zero_or_pos (19*j) with e|e
    ·rw[e] at hnlt
     have:=HN.out;simp at hnlt;omega
    ·exact e
   obtain⟨g',cap',rfl⟩:=qqs HROW.out hj0;obtain⟨l,hl⟩:∃l,l=pd (19*j) n:=⟨_,rfl⟩;have hll:l.length=19*j:=by rw[hl,qln]
   have htr:Lib.trimLeftB l.reverse 48=qfh n:=by rw[hl];exact q1h _ n hnlt
   have hrow:=HROW.out;rw[←hl] at hrow;have hown:=qza (l:=l) (by rw[hll];exact hrow);rw[hll] at hown;have hg':=(hrow.lt g' rfl).1
   have hKc:19*j≤9223372036854775807:=by
    rcases hrow.2 with⟨h',_⟩|⟨g2,cap2,cur,h',_,_,h1,h2,_⟩
    ·cases h'
    ·cases h';unfold maxLen at h2;omega
   have HREV:=hid (qvn g' (19*j) cap' _ wr hKc hown (fun q _=>⟨_,rfl⟩))
   have HTRIM:Hid (∀W,Calls Tryz.prog 175 #[.string ⟨l.reverse.toArray⟩,.string ⟨#[48]⟩] W fun e w'=>e = .returned (.string ⟨(qfh n).toArray⟩)∧w'=W):=hid fun W=>by
    have h:=Tryz.strings_TrimLeft_one ⟨l.reverse.toArray⟩ 48 (by decide) W;have e1:(ByteArray.mk l.reverse.toArray).data.toList=l.reverse:=by simp
    rw[e1,htr] at h;exact h
   have HCV:Hid (∀W,Own W g' (19*j) (fun q => .int .u8 ((l.getD (19*j-1-q) 0).toNat:Int))→(convert 198 9 (.slice (some ⟨g',0,none⟩) (19*j) cap')).run Tryz.prog W = .ok (.string ⟨l.reverse.toArray⟩) W):=hid fun W ho=>by
    have h:=run_convert_bytes_back (P:=Tryz.prog) W 198 9 5 ⟨g',0,none⟩ cap' l.reverse Tryz.underlying198 Tryz.underlying5 Tryz.underlying9 (fun q hq=>by
     have hq2:q<19*j:=by rw[List.length_reverse,hll] at hq;exact hq
     have h2:=(ho.2 q hq2).1;rw[Addr.add_lit,Nat.zero_add,h2];have h3:=q49 l q (by omega);rw[hll] at h3;show some (Value.int IntKind.u8 ((l.getD (19*j-1-q) 0).toNat:Int))=_;rw[←h3,List.getD_eq_getElem?_getD,List.getElem?_eq_getElem hq]
     rfl)
    rw[List.length_reverse,hll] at h;exact h
   have HWG:Hid (w.heap.size≤g'):=hid (Nat.le_trans HWB.out hg')
   have hne:(qfh n).length≠0:=by
    rw[qdd HN.out];simp
   obtain⟨tx,htx⟩:∃tx:ByteArray,tx=⟨(qfh n).toArray⟩:=⟨_,rfl⟩;have hts:tx.size=(qfh n).length:=by rw[htx];simp[ByteArray.size]
   have hte:tx.toList.isEmpty=false:=by
    rw[ByteArray.toList_eq,htx];rw[List.isEmpty_eq_false_iff];intro e;apply hne;have e1:(ByteArray.mk (qfh n).toArray).data.toList=qfh n:=by simp
    rw[e1] at e;rw[e];rfl
   rw[←htx] at HTRIM HYES;have HTS:=hid hts;have HDB:Hid ((qfh n).length≤21990232555520):=hid (by have:=HD20.out;have:=HCAP.out;omega);clear HK HM HSL HKN HO HROW hm0 hnlt hll htr hrow hown hg' hKc hl hne htx hts;generalize 19*j=K at *;go_wp2_with fail;refine HREV.out.mono ?_;rintro e w2 ⟨rfl,ho2,hon⟩;have hcv:=HCV.out w2 ho2;have HB2:Hid (Below w.heap.size w w2):=hid (HB.out.trans (hon.below HWG.out));clear ho2 hon HREV HCV HB;go_wp2_with fail;refine(HTRIM.out _).mono ?_;rintro e w3 ⟨rfl,hw3⟩;rw[hw3];clear hw3 HTRIM hcv;by_cases hmost:(qfh n).length≤most
   ·have hI1:¬(most:Int)<(tx.size:Int):=by have:=HTS.out;omega
    have HMO:=hid hmost;clear hmost;go_wp2_with fail;go_ret2;exact HYES.out _ HMO.out HB2.out
   ·have hI1:(most:Int)<(tx.size:Int):=by have:=HTS.out;omega
    have HMO:=hid hmost;clear hmost;go_wp2_with fail;go_ret2;exact HNO.out _ HMO.out HB2.out
theorem qi9(v:Value)(n most:Nat)(w:World)(h:qar w v n)(hcap:wl n≤Cap)(hm:1≤most)(hm2:most≤1099511627776):
  Calls Tryz.prog 123 #[v,.int .i64 most] w (qmp n most w):=by
 rcases Nat.eq_zero_or_pos n with e|e
 ·subst e;exact qy8 v most w h hm hm2
 ·exact q1m v n most w h e hcap hm2
end Go.Proofs.YtlkaldjmgamamaaGreatDoor
