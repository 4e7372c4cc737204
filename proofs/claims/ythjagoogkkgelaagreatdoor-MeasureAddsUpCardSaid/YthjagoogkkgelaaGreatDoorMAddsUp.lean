/- MeasureAddsUp. -/
import Derived.Test.YthjagoogkkgelaaGreatDoorMAwake
import Derived.Test.YthjagoogkkgelaaGreatDoorMApport
import Derived.WalkKit
import Derived.Deep.AppendLies
import Derived.Laws.OwnMore
set_option linter.all false
namespace Go.Proofs.YthjagoogkkgelaaGreatDoor
open Go.RowKit
set_option maxRecDepth 100000
set_option maxHeartbeats 80000000
theorem qjr{W:World}{base g cap n:Nat}{l:List Int}(h:W.ownsRow base 3 1 (.slice (some ⟨g,0,none⟩) n cap) n (l.map (Value.int .i64)))(hn:l.length=n):qhb W g 0 l:=fun j x hj=>by
 have hjn:j<n:=by rw[←hn];exact(List.getElem?_eq_some_iff.1 hj).1
 rw[Nat.zero_add,h.cellAt j (by omega),List.getElem?_map,hj];rfl
theorem qvc{W:World}{base g cap n:Nat}{l:List Int}(h:W.ownsRow base 3 1 (.slice (some ⟨g,0,none⟩) n cap) n (l.map (Value.int .i64)))(hn:l.length=n):qjv W (.slice (some ⟨g,0,none⟩) n cap) l:=by
 have hi:=qjr h hn;obtain⟨_,h2⟩:=h;rcases h2 with⟨h2,_⟩|⟨g',cap',cur,h3,_,_,h6,h7,_⟩
 ·cases h2
 ·cases h3
  refine⟨_,_,by rw[hn],by rw[hn];exact h6,h7,.inr ⟨_,_,rfl,fun i hi2 => ?_⟩⟩;have:=hi i (l[i]) (List.getElem?_eq_getElem hi2);rw[this];unfold iv;rw[List.getD_eq_getElem?_getD,List.getElem?_eq_getElem hi2,Option.getD_some]
def zbx(w:World)(p:Option Addr)(ws:List Int):Prop:=(ws.length=0∨∃b o,p=some ⟨b,o,none⟩∧∀(j:Nat) (x:Int),ws[j]? = some x→w.cell? ⟨b,o+j,none⟩=some (.int .u16 x))∧∀x ∈ ws,0≤x∧x<65536
def zad(ws:List Int):List Int:=ws.map fun x=>x % 1001
theorem zae{ws:List Int}(h:∀x ∈ ws,0≤x∧x<65536):∀x ∈ zad ws,0≤x∧x≤1000:=by
 intro x hx;unfold zad at hx;rw[List.mem_map] at hx;obtain⟨y,hy,rfl⟩:=hx;have:=h y hy;omega
theorem qyp(l:List Int)(h:∀x ∈ l,0≤x∧x≤1000):0≤l.sum∧l.sum≤1000*l.length:=by
 induction l with
 | nil=>simp
 | cons x l ih=>
  have h1:=h x (by simp);have h2:=ih fun y hy=>h y (by simp[hy]);simp only[List.sum_cons,List.length_cons];omega
theorem qis{t:Int}{l:List Int}{c:Nat→Int}(HP:q9j t l c)(ht:0≤t)(hS:0<l.sum){k:Nat}{a x:Int}(ha:(qal t l)[k]? = some a)(hx:l[k]? = some x)(hx0:0≤x):
  0≤a∧t*x-l.sum<a*l.sum∧a*l.sum<t*x+l.sum∧(x=0→a=0)∧∃q r,a=q+c k∧t*x=l.sum*q+r∧0≤r∧r<l.sum∧0≤q∧r=t*x % l.sum:=by
 have hk:k<l.length:=(List.getElem?_eq_some_iff.1 hx).1;have e1:=HP.get k hk;have e2:=HP.one k hk;have ea:(qal t l).getD k 0=a:=by rw[List.getD_eq_getElem?_getD,ha];rfl
 have ex:l.getD k 0=x:=by rw[List.getD_eq_getElem?_getD,hx];rfl
 rw[ea,ex] at e1;rw[ex] at e2;have hm:0≤t*x:=Int.mul_nonneg ht hx0;have hd:=Int.mul_ediv_add_emod (t*x) l.sum;have hr0:=Int.emod_nonneg (t*x) (show l.sum≠0 by omega);have hr1:=Int.emod_lt_of_pos (t*x) hS;have hq:=Int.ediv_nonneg hm (show 0≤l.sum by omega);have hz:x=0→t*x/l.sum=0∧t*x % l.sum=0:=fun h=>by rw[h,Int.mul_zero];exact⟨Int.zero_ediv _,Int.zero_emod _⟩
 generalize l.sum=S at *;have em:a*S=S*(t*x/S)+c k*S:=by rw[e1,Int.add_mul,Int.mul_comm]
 generalize t*x/S=q at *;generalize hre:t*x % S=r at *;refine⟨?_, ?_, ?_, ?_,q,r,e1,hd.symm,hr0,hr1,hq,rfl⟩
 all_goals generalize hme:S*q=m at *
 ·rcases e2 with h|⟨h,_⟩<;>omega
 ·rcases e2 with h|⟨h,h'⟩<;>rw[em,h]<;>omega
 ·rcases e2 with h|⟨h,h'⟩<;>rw[em,h]<;>omega
 ·intro h
  obtain⟨h1,h2⟩:=hz h;rcases e2 with h3|⟨h3,h4⟩<;>omega
theorem q4x{t:Int}{l:List Int}{c:Nat→Int}(HP:q9j t l c)(ht:0≤t)(hS:0<l.sum){i k:Nat}{a b x y:Int}(ha:(qal t l)[i]? = some a)(hx:l[i]? = some x)(hb:(qal t l)[k]? = some b)(hy:l[k]? = some y)(hx0:0≤x)(hy0:0≤y)(h:y<x):b≤a:=by
 obtain⟨_,_,_,_,q,r,e1,e2,e3,e4,e5,e6⟩:=qis HP ht hS ha hx hx0;obtain⟨_,_,_,_,q',r',f1,f2,f3,f4,f5,f6⟩:=qis HP ht hS hb hy hy0;have hi:i<l.length:=(List.getElem?_eq_some_iff.1 hx).1;have hk:k<l.length:=(List.getElem?_eq_some_iff.1 hy).1;have ex:l.getD i 0=x:=by rw[List.getD_eq_getElem?_getD,hx];rfl
 have ey:l.getD k 0=y:=by rw[List.getD_eq_getElem?_getD,hy];rfl
 have h1:=HP.one i hi;have h2:=HP.one k hk;have h3:=HP.mono i k hi hk;rw[ex] at h1 h3;rw[ey] at h2 h3;rw[←e6] at h1 h3;rw[←f6] at h2 h3;have hm:t*y≤t*x:=Int.mul_le_mul_of_nonneg_left (by omega) ht
 have hqq:q'≤q:=by
  rcases Int.lt_or_le q q' with hlt|hle
  ·exfalso
   have:l.sum*(q+1)≤l.sum*q':=Int.mul_le_mul_of_nonneg_left (by omega) (by omega);rw[Int.mul_add] at this;omega
  ·exact hle
 rcases Int.lt_or_le q' q with hlt|hle
 ·rcases h1 with h1|⟨h1,_⟩<;>rcases h2 with h2|⟨h2,_⟩<;>omega
 ·have hqe:q'=q:=by omega
  rcases Int.lt_or_le r' r with hr|hr
  ·have:=h3 hr
   omega
  ·have htt:t*x=t*y:=by rw[hqe] at f2;omega
   have ht0:t=0:=by
    rcases Int.lt_or_le 0 t with hp|hp
    ·exfalso
     have:=Int.mul_lt_mul_of_pos_left h hp;omega
    ·omega
   rw[ht0,Int.zero_mul] at f6;rw[Int.zero_emod] at f6;rcases h1 with h1|⟨h1,_⟩<;>rcases h2 with h2|⟨h2,_⟩<;>omega
theorem qqd(l:List Int)(h:∀x ∈ l,0≤x)(k:Nat):0≤(l.take k).sum∧(l.take k).sum≤l.sum:=by
 have key:∀m:List Int,(∀x ∈ m,0≤x)→0≤m.sum:=by
  intro m
  induction m with
  | nil=>simp
  | cons x m ih=>
   intro hm;have h1:=hm x (by simp);have h2:=ih fun y hy=>hm y (by simp[hy]);simp only[List.sum_cons];omega
 refine⟨key _ fun x hx=>h x (List.mem_of_mem_take hx), ?_⟩;have h2:l.sum=(l.take k).sum+(l.drop k).sum:=by rw[←List.sum_append,List.take_append_drop]
 have h3:=key (l.drop k) fun x hx=>h x (List.mem_of_mem_drop hx);omega
theorem qqe(T:Int)(p:Option Addr)(n c:Nat)(w:World)(hg:GW w)(hn:n=0∨8<n)(hc:n≤maxLen):Calls Tryz.prog 5 #[.int .u32 T,.slice p n c] w fun e w'=>e = .returned (.bool true)∧Below w.heap.size w w':=by
 have HG:=hid hg;have H1:=hid (qd6 w hg);unfold maxLen at hc;clear hg;rcases hn with hn|hn
 ·subst hn
  go_enter Tryz.func5,Tryz.ntmps5;go_wp2_with fail;refine H1.out.mono ?_;rintro e w1 ⟨rfl,hb⟩;have HB:=hid hb;clear hb H1;have H2:=hid (qd6 w1 (HG.out.later HB.out));go_wp2_with fail;refine H2.out.mono ?_;rintro e w2 ⟨rfl,hb⟩;have HB2:=hid (HB.out.trans (hb.mono HB.out.size));clear hb H2;go_wp2_with fail;go_ret;exact⟨rfl,HB2.out⟩
 ·have hb0:((n:Int)==0)=false:=beq_eq_false_iff_ne.2 (by omega)
  go_enter Tryz.func5,Tryz.ntmps5;go_wp2_with fail;refine H1.out.mono ?_;rintro e w1 ⟨rfl,hb⟩;have HB:=hid hb;clear hb H1;have H2:=hid (qd6 w1 (HG.out.later HB.out));go_wp2_with fail;refine H2.out.mono ?_;rintro e w2 ⟨rfl,hb⟩;have HB2:=hid (HB.out.trans (hb.mono HB.out.size));clear hb H2;go_wp2_with fail;go_ret;exact⟨rfl,HB2.out⟩
theorem qxc(T:Int)(p:Option Addr)(ws:List Int)(c:Nat)(w:World)(hg:GW w)(hT0:0≤T)(hT1:T<4294967296)(hn0:0<ws.length)(hn8:ws.length≤8)(hv:zbx w p ws):Calls Tryz.prog 5 #[.int .u32 T,.slice p ws.length c] w fun e w'=>e = .returned (.bool true)∧Below w.heap.size w w':=by
 have H1:=hid (qd6 w hg);obtain⟨hv1,hv2⟩:=hv;obtain⟨b,o,rfl,hrow⟩:=hv1.resolve_left (by omega);have HROW:=hid hrow;have hci:=zae hv2;have HCI:=hid hci;have HCW:Hid (∀(j:Nat) (x:Int),ws[j]? = some x→(zad ws)[j]? = some (x % 1001)∧0≤x∧x<65536):=hid fun j x hj=>⟨by unfold zad;rw[List.getElem?_map,hj];rfl,hv2 x (List.mem_of_getElem? hj)⟩;have hcl:(zad ws).length=ws.length:=by unfold zad;rw[List.length_map]
 have htm:T.tmod 1000001=T % 1000001:=Int.tmod_eq_emod_of_nonneg hT0;obtain⟨t,ht⟩:∃t,t=T % 1000001:=⟨_,rfl⟩;have ht0:0≤t∧t≤1000000:=by omega
 have htm2:T.tmod 1000001=t:=by rw[htm,ht]
 clear htm ht hrow hv1 hv2 hg hci;have hb0:((ws.length:Int)==0)=false:=beq_eq_false_iff_ne.2 (by omega);generalize hl:zad ws=l at *;have hln:=hcl;obtain⟨i0,hi,hz0,hz1,hz2⟩:=info_parts (show(Tryz.prog.info? 3).map (fun i=>(i.zero,i.size,i.bytes))=some (some (.int .i64 0),1,8) by kernel_rfl);have HI:=hid hi;have HCL:=hid hcl;clear hl hcl hi;go_enter Tryz.func5,Tryz.ntmps5;go_wp2_with fail;refine H1.out.mono ?_;rintro e w1 ⟨rfl,hb⟩;have HB:=hid hb;clear hb H1;go_wp2_with fail
 go_loopw [6,7,8] (fun sm v i wr=>∃k:Nat,k≤ws.length∧i = .int .i64 k∧sm = .int .i64 (l.take k).sum∧Hid (wr.ownsRow w1.heap.size 3 1 v k ((l.take k).map (Value.int .i64)))∧Hid (Below w1.heap.size w1 wr)) (fun _ _ i _=>ws.length-(intOf i).toNat)
 case atStart=>exact⟨0,Nat.zero_le _,rfl,rfl,hid (World.ownsRow_nil _ _ _ _),hid (Below.refl _ _)⟩
 case round=>
  obtain⟨k,hk,rfl,rfl,HOWN,HBW⟩:=hrel;by_cases hkl:k<ws.length
  ·obtain⟨x,hx⟩:∃x,ws[k]? = some x:=⟨ws[k],List.getElem?_eq_getElem hkl⟩
   have e0:=HROW.out k x hx;obtain⟨hlx,hx0,hx1⟩:=HCW.out k x hx;have hbw:=HB.out.trans (HBW.out.mono HB.out.size);have c0:wr.cell? ⟨b,o+k,none⟩=some (.int .u16 x):=by rw[hbw.cell (World.block_lt_of_cell? w _ e0)];exact e0
   have hxm0:x.tmod 1001=x % 1001:=Int.tmod_eq_emod_of_nonneg hx0;obtain⟨y,hy⟩:∃y,y=x % 1001:=⟨_,rfl⟩;have hxm:x.tmod 1001=y:=by rw[hxm0,hy]
   have hyb:0≤y∧y≤1000:=by omega
   rw[←hy] at hlx;have HTK:Hid (l.take (k+1)=l.take k++[y]):=hid (qb9 hlx);have hsm:=qyp (l.take k) fun z hz=>HCI.out z (List.mem_of_mem_take hz);have hlt:(l.take k).length≤8:=by rw[List.length_take];omega
   have HSM:Hid ((l.take (k+1)).sum=(l.take k).sum+y):=hid (by rw[HTK.out,List.sum_append];simp);generalize (l.take k).sum=sm at *;clear e0 hx hlx hbw hxm0 hy;go_wp2_with (at_builtin;refine wpList_append_own _ rfl _ _ 23 rfl w1.heap.size 3 i0 (.int .i64 0) 1 8 Tryz.underlying23 HI.out hz0 hz1 hz2 rfl (by decide) _ _ _ rfl (HOWN.out.alloc _) ⟨wr.heap.size,0,none⟩ 1 1 [.int .i64 y] rfl rfl ?c1 ?c2 ?c3 ?c4 ?c5 ?_)
   case c1=>
    intro j u hj
    match j,hj with
    | 0,hj=>simp at hj;subst hj;simp[Addr.add]
   case c2=>intro u hu;simp at hu;subst hu;rfl
   case c3=>unfold maxLen;omega
   case c4=>omega
   case c5=>have:=HBW.out.size;simp;omega
   intro v' w2 hown' hgrow _;have hbg:=((HBW.out.alloc HBW.out.size (.cells #[.int .i64 y] 3)).grown hgrow (by have:=HBW.out.size;simp;omega) (fun q hq=>(HOWN.out.lt q hq).1));obtain⟨g,cap,rfl,_,_⟩:=hown'.form (by omega);have hown2:w2.ownsRow w1.heap.size 3 1 (.slice (some ⟨g,0,none⟩) (k+1) cap) (k+1) ((l.take (k+1)).map (Value.int .i64)):=by rw[HTK.out,List.map_append,List.map_take];exact hown'
   have hkl2:(l.take (k+1)).length=k+1:=by rw[List.length_take];have:=HCL.out;omega
   have d0:w2.cell? ⟨g,k,none⟩=some (.int .i64 y):=by
    have h1:=qjr hown2 hkl2 k y (by rw[HTK.out,List.getElem?_append_right (by rw[List.length_take];omega),List.length_take];have:=HCL.out;rw[show k-min k l.length=0 by omega];rfl)
    rwa [Nat.zero_add] at h1
   have HBG:=hid hbg;have HOWN2:=hid hown2;clear hown' hgrow hown2 hbg hkl2 HOWN HBW c0 HCW HCI;go_wp2_with fail;go_roundw
   case rel=>exact⟨k+1,by omega,by go_num,by rw[HSM.out],HOWN2,HBG⟩
   case measure=>simp[intOf];omega
  ·have hke:k=ws.length:=by omega
   subst hke;have hown:=HOWN.out;rw[List.take_of_length_le (by rw[HCL.out];exact Nat.le_refl _)] at hown ⊢;obtain⟨g,cap,rfl,_,_⟩:=hown.form (by omega);have HWI:=hid (qjr hown HCL.out);have HIN:=qvc hown HCL.out;have HSI:=qyp l HCI.out;have hwin:∀x ∈ l,wIn x=true:=fun x hx=>by have:=HCI.out x hx;exact qgn.2 ⟨this.1,by omega⟩
   have HWIN:=hid hwin;have HB2:=hid (HB.out.trans (HBW.out.mono HB.out.size));have HBND:Hid (∀(j:Nat) (x:Int),l[j]? = some x→0≤x∧x≤1000):=hid fun j x hx=>HCI.out x (List.mem_of_getElem? hx);by_cases hz:l.sum=0
   ·have HAP:=hid ((qe6 t _ l wr HIN (.inl (by omega))).mono (R':=fun e w'=>e = .returned (.tuple #[.slice none 0 0,.int .i64 6])∧Below wr.heap.size wr w') (fun e w' h=>by
     obtain⟨h1,h2⟩:=h
     have he:qfr t l=6:=by
      unfold qfr;rw[if_neg (by omega),if_neg (by omega),if_neg (by omega),qlh HWIN.out,if_pos hz]
     rw[he] at h1
     exact⟨h1,h2⟩))
    clear hown HIN hwin HOWN HBW HCW HCI HSI;go_wp2_with fail;refine HAP.out.mono ?_;rintro e w3 ⟨rfl,hb⟩;have HB3:=hid (HB2.out.trans (hb.mono HB2.out.size));clear hb HAP;rw[hz];go_wp2_with fail;go_ret;exact⟨rfl,HB3.out⟩
   ·have hpos:0<l.sum:=by omega
    obtain⟨cc,HP⟩:=qpu t l ht0.1 hwin hpos (by omega);have HPP:=hid HP
    have HAP:=hid ((qe6 t _ l wr HIN (.inl (by omega))).mono (R':=fun e w'=>(∃ga,e = .returned (.tuple #[.slice (some ⟨ga,0,none⟩) l.length l.length,.int .i64 0])∧qhb w' ga 0 (qal t l))∧Below wr.heap.size wr w') (fun e w' h=>by
     obtain⟨h1,h2⟩:=h
     have he:qfr t l=0:=by
      unfold qfr;rw[if_neg (by omega),if_neg (by omega),if_neg (by omega),qlh HWIN.out,if_neg hz]
     rw[he] at h1;obtain⟨ga,_,h3,h4⟩:=h1;refine⟨⟨ga,h3,fun j x hj => ?_⟩,h2⟩;have hjl:j<l.length:=by rw[←HPP.out.len];exact(List.getElem?_eq_some_iff.1 hj).1
     rw[Nat.zero_add,(h4.2 j hjl).1];unfold iv;rw[List.getD_eq_getElem?_getD,hj]
     rfl))
    have hsl:l.sum≤8000:=by omega
    have hzb:(l.sum==0)=false:=beq_eq_false_iff_ne.2 hz;rw[HCL.out] at HAP;clear hown HIN hwin HOWN HBW HCW HCI HSI HP hz;go_wp2_with fail;refine HAP.out.mono ?_;rintro e w3 ⟨⟨ga,rfl,hia⟩,hb⟩;have HB3:=hid (HB2.out.trans (hb.mono HB2.out.size));have HIA:=hid hia;have HWI3:=hid (HWI.out.later hb);clear hb hia HAP HWI HB2;go_wp2_with fail
    go_loopw [11,12] (fun sm i wr=>∃k:Nat,k≤ws.length∧i = .int .i64 k∧sm = .int .i64 ((qal t l).take k).sum∧Hid (Below w3.heap.size w3 wr)) (fun _ i _=>ws.length-(intOf i).toNat)
    case atStart=>exact⟨0,Nat.zero_le _,rfl,rfl,hid (Below.refl _ _)⟩
    case round=>
     obtain⟨k,hk,rfl,rfl,HBW⟩:=hrel
     have HNN:Hid (∀x ∈ qal t l,0≤x):=hid fun x hx=>by
      obtain⟨j,hj⟩:=List.getElem?_of_mem hx;have hjl:j<l.length:=by rw[←HPP.out.len];exact(List.getElem?_eq_some_iff.1 hj).1
      exact(qis HPP.out ht0.1 hpos hj (List.getElem?_eq_getElem hjl) (HBND.out j _ (List.getElem?_eq_getElem hjl)).1).1
     have hs1:=qqd (qal t l) HNN.out k;have hs2:=qqd (qal t l) HNN.out (k+1);rw[HPP.out.sum] at hs1 hs2;by_cases hkl:k<ws.length
     ·have hkl2:k<l.length:=by rw[HCL.out];exact hkl
      obtain⟨x,hx⟩:∃x,l[k]? = some x:=⟨l[k],List.getElem?_eq_getElem hkl2⟩;obtain⟨a,ha⟩:∃a,(qal t l)[k]? = some a:=⟨(qal t l)[k]'(by rw[HPP.out.len];exact hkl2),List.getElem?_eq_getElem _⟩;have hxb:=HBND.out k x hx;obtain⟨p1,p2,p3,p4,_⟩:=qis HPP.out ht0.1 hpos ha hx hxb.1;have HTK:Hid (((qal t l).take (k+1)).sum=((qal t l).take k).sum+a):=hid (by rw[qb9 ha,List.sum_append];simp);rw[HTK.out] at hs2
      have c0:wr.cell? ⟨ga,k,none⟩=some (.int .i64 a):=by
       have e0:=HIA.out k a ha;rw[Nat.zero_add] at e0;rw[HBW.out.cell (World.block_lt_of_cell? w3 _ e0)];exact e0
      have c1:wr.cell? ⟨g,k,none⟩=some (.int .i64 x):=by
       have e0:=HWI3.out k x hx;rw[Nat.zero_add] at e0;rw[HBW.out.cell (World.block_lt_of_cell? w3 _ e0)];exact e0
      have HMO:Hid (∀(j:Nat) (b y:Int),(qal t l)[j]? = some b→l[j]? = some y→(y<x→b≤a)):=hid fun j b y hb hy h=>q4x HPP.out ht0.1 hpos ha hx hb hy hxb.1 (HBND.out j y hy).1 h;have htx0:0≤t*x:=Int.mul_nonneg ht0.1 hxb.1;have htx1:t*x≤1000000*1000:=Int.le_trans (Int.mul_le_mul_of_nonneg_right ht0.2 hxb.1) (Int.mul_le_mul_of_nonneg_left hxb.2 (by omega));have has0:0≤a*l.sum:=Int.mul_nonneg p1 (by omega);have W1:IntKind.i64.wrap (a*l.sum)=a*l.sum:=wrap_small _ has0 (by omega);have W2:IntKind.i64.wrap (t*x)=t*x:=wrap_small _ htx0 (by omega);have W3:IntKind.i64.wrap (t*x-l.sum)=t*x-l.sum:=by rw[IntKind.wrap_i64];omega
      have W4:IntKind.i64.wrap (t*x+l.sum)=t*x+l.sum:=by rw[IntKind.wrap_i64];omega
      have D1:decide (a<0)=false:=decide_eq_false (by omega);have D2:decide (a*l.sum≤t*x-l.sum)=false:=decide_eq_false (by omega);have D3:decide (t*x+l.sum≤a*l.sum)=false:=decide_eq_false (by omega);have HA:=hid ha;have HX:=hid hx;clear ha hx hkl2;generalize ((qal t l).take k).sum=sm at *;by_cases hx0:x=0
      ·have ha0:=p4 hx0
       have D4:(x==0)=true:=by rw[hx0];rfl
       have D5:(a==0)=true:=by rw[ha0];rfl
       have D6:(a != 0)=false:=by rw[ha0];rfl
       have D7:decide (a=0)=true:=decide_eq_true ha0;clear p4 hx0 ha0;go_wp2_with fail
       go_quiet (fail)
       go_wp2_with fail;clear D1 D2 D3 W1 W2 W3 W4 c0 c1 D4
       try clear D5
       try clear D6
       try clear D7
       go_loopw [13] (fun i wr=>∃j:Nat,j≤ws.length∧i = .int .i64 j∧Hid (Below w3.heap.size w3 wr)) (fun i _=>ws.length-(intOf i).toNat)
       case atStart=>exact⟨0,Nat.zero_le _,rfl,hid (below_drewN HBW.out _)⟩
       case round=>
        obtain⟨j,hj,rfl,HBI⟩:=hrel;clear HBW;by_cases hjl:j<ws.length
        ·have hjl2:j<l.length:=by rw[HCL.out];exact hjl
         obtain⟨y,hy⟩:∃y,l[j]? = some y:=⟨l[j],List.getElem?_eq_getElem hjl2⟩;obtain⟨b',hb'⟩:∃b',(qal t l)[j]? = some b':=⟨(qal t l)[j]'(by rw[HPP.out.len];exact hjl2),List.getElem?_eq_getElem _⟩;have hmo:=HMO.out j b' y hb' hy
         have key:∀(g i:Nat) (v:Int),w3.cell? ⟨g,0+i,none⟩=some (.int .i64 v)→wr.cell? ⟨g,i,none⟩=some (.int .i64 v):=fun g i v e0=>by
          rw[Nat.zero_add] at e0;rw[HBI.out.cell (World.block_lt_of_cell? w3 _ e0)];exact e0
         have c0:=key _ _ _ (HIA.out k a HA.out);have c1:=key _ _ _ (HWI3.out k x HX.out);have d0:=key _ _ _ (HIA.out j b' hb');have d1:=key _ _ _ (HWI3.out j y hy);clear key hy hb' hjl2;by_cases hyx:y<x
         ·have D1:decide (y<x)=true:=decide_eq_true hyx
          have D2:decide (a<b')=false:=decide_eq_false (by have:=hmo hyx;omega);clear hmo;go_wp2_with fail
          go_quiet (fail)
          go_wp2_with fail;go_roundw
          case rel=>exact⟨j+1,by omega,by go_num,hid (below_drewN HBI.out _)⟩
          case measure=>simp[intOf];omega
         ·have D1:decide (y<x)=false:=decide_eq_false hyx
          clear hmo;go_wp2_with fail
          go_quiet (fail)
          go_wp2_with fail;go_roundw
          case rel=>exact⟨j+1,by omega,by go_num,hid (below_drewN HBI.out _)⟩
          case measure=>simp[intOf];omega
        ·obtain rfl:j=ws.length:=by omega
         go_wp2_with fail;go_roundw
         case rel=>exact⟨k+1,by omega,by go_num,by rw[HTK.out],HBI⟩
         case measure=>simp[intOf];omega
      ·have D4:(x==0)=false:=beq_eq_false_iff_ne.2 hx0
       clear p4 hx0;go_wp2_with fail
       go_quiet (fail)
       go_wp2_with fail;clear D1 D2 D3 W1 W2 W3 W4 c0 c1 D4
       try clear D5
       try clear D6
       try clear D7
       go_loopw [13] (fun i wr=>∃j:Nat,j≤ws.length∧i = .int .i64 j∧Hid (Below w3.heap.size w3 wr)) (fun i _=>ws.length-(intOf i).toNat)
       case atStart=>exact⟨0,Nat.zero_le _,rfl,hid (below_drewN HBW.out _)⟩
       case round=>
        obtain⟨j,hj,rfl,HBI⟩:=hrel;clear HBW;by_cases hjl:j<ws.length
        ·have hjl2:j<l.length:=by rw[HCL.out];exact hjl
         obtain⟨y,hy⟩:∃y,l[j]? = some y:=⟨l[j],List.getElem?_eq_getElem hjl2⟩;obtain⟨b',hb'⟩:∃b',(qal t l)[j]? = some b':=⟨(qal t l)[j]'(by rw[HPP.out.len];exact hjl2),List.getElem?_eq_getElem _⟩;have hmo:=HMO.out j b' y hb' hy
         have key:∀(g i:Nat) (v:Int),w3.cell? ⟨g,0+i,none⟩=some (.int .i64 v)→wr.cell? ⟨g,i,none⟩=some (.int .i64 v):=fun g i v e0=>by
          rw[Nat.zero_add] at e0;rw[HBI.out.cell (World.block_lt_of_cell? w3 _ e0)];exact e0
         have c0:=key _ _ _ (HIA.out k a HA.out);have c1:=key _ _ _ (HWI3.out k x HX.out);have d0:=key _ _ _ (HIA.out j b' hb');have d1:=key _ _ _ (HWI3.out j y hy);clear key hy hb' hjl2;by_cases hyx:y<x
         ·have D1:decide (y<x)=true:=decide_eq_true hyx
          have D2:decide (a<b')=false:=decide_eq_false (by have:=hmo hyx;omega);clear hmo;go_wp2_with fail
          go_quiet (fail)
          go_wp2_with fail;go_roundw
          case rel=>exact⟨j+1,by omega,by go_num,hid (below_drewN HBI.out _)⟩
          case measure=>simp[intOf];omega
         ·have D1:decide (y<x)=false:=decide_eq_false hyx
          clear hmo;go_wp2_with fail
          go_quiet (fail)
          go_wp2_with fail;go_roundw
          case rel=>exact⟨j+1,by omega,by go_num,hid (below_drewN HBI.out _)⟩
          case measure=>simp[intOf];omega
        ·obtain rfl:j=ws.length:=by omega
         go_wp2_with fail;go_roundw
         case rel=>exact⟨k+1,by omega,by go_num,by rw[HTK.out],HBI⟩
         case measure=>simp[intOf];omega
     ·have hke:k=ws.length:=by omega
      subst hke;have hAll:(qal t l).take ws.length=qal t l:=List.take_of_length_le (by rw[HPP.out.len,HCL.out];exact Nat.le_refl _);rw[hAll,HPP.out.sum];clear hAll hs1 hs2;go_wp2_with fail;go_ret;exact⟨rfl,HB3.out.trans (HBW.out.mono HB3.out.size)⟩
end Go.Proofs.YthjagoogkkgelaaGreatDoor
