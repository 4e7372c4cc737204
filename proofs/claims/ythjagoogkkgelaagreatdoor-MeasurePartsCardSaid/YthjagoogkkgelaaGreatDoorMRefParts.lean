/- The greedy way of the reference to divide a number, kilogram by kilogram, goes through the places in the order of their remainders. -/
import Derived.Test.YthjagoogkkgelaaGreatDoorMApport
import Derived.Test.YthjagoogkkgelaaGreatDoorMSpansAid
import Derived.WalkKit
set_option linter.all false
namespace Go.Proofs.YthjagoogkkgelaaGreatDoor
open Go.RowKit
set_option maxRecDepth 100000
set_option maxHeartbeats 8000000
def q00(R:List Int)(x y:Int):Prop:=R.getD y.toNat 0<R.getD x.toNat 0∨R.getD x.toNat 0=R.getD y.toNat 0∧x<y
def qco(t S:Int)(l:List Int):List Int:=qeq (qk5 (ql5 (qs4 t S l))) (places l.length)
theorem qu6{n k:Nat}{x:Int}(h:(places n)[k]? = some x):x=(k:Int):=by
 unfold places at h;rw[List.getElem?_map] at h
 have hk:k<n:=by
  rcases Nat.lt_or_ge k n with h1|h1
  ·exact h1
  ·rw[List.getElem?_eq_none (by simpa using h1)] at h
   cases h
 rw[List.getElem?_range hk] at h
 simpa using h.symm
theorem qu7(R:List Int)(n:Nat):(qeq (qk5 (ql5 R)) (places n)).Pairwise (q00 R):=by
 refine qnm (qk5 (ql5 R)) (q00 R) (fun a b c h1 h2 => ?_) (places n) fun i k x y hik hx hy => ?_
 ·unfold q00 at *
  omega
 ·have hx2:=qu6 hx
  have hy2:=qu6 hy;have hxy:x<y:=by omega
  have hc:ql5 R y x=qql (R.getD x.toNat 0) (R.getD y.toNat 0):=rfl;unfold qk5;rw[hc];unfold qql q00;constructor
  ·intro h
   simp only[decide_eq_true_eq] at h;split at h
   ·omega
   ·split at h<;>omega
  ·intro h
   simp only[decide_eq_false_iff_not] at h;split at h
   ·omega
   ·omega
theorem qkg(t S:Int)(l:List Int):(qco t S l).Perm (places l.length):=qgi _ _
theorem qu8(t S:Int)(l:List Int):(qco t S l).length=l.length:=by rw[(qkg t S l).length_eq];simp[places]
def qf2(t S:Int)(l:List Int)(m i:Nat):Int:=t*l.getD i 0-(qb0 (qfq t S l) ((qco t S l).take m)).getD i 0*S
theorem q4s{s:List Int}(h:s.Nodup)(x:Int):(x ∈ s→s.count x=1)∧(x ∉ s→s.count x=0):=
 ⟨fun hx=>by
  have h1:=List.nodup_iff_count.1 h x;have h2:=List.count_pos_iff.2 hx
  omega,fun hx=>List.count_eq_zero.2 hx⟩
theorem qsu(t S:Int)(l:List Int)(hS:0<S)(m i:Nat)(hi:i<l.length):
  ∃r c o:Int,qf2 t S l m i=r-c*S∧r=(qs4 t S l).getD i 0∧0≤r∧r<S∧o=(qb0 (qfq t S l) ((qco t S l).take m)).getD i 0∧t*l.getD i 0=o*S+(r-c*S)∧
   o=t*l.getD i 0/S+c∧(((i:Int) ∈ (qco t S l).take m∧c=1)∨((i:Int) ∉ (qco t S l).take m∧c=0)):=by
 have hnd:(qco t S l).Nodup:=(qkg t S l).nodup_iff.2 (qjj _);have hnt:((qco t S l).take m).Nodup:=hnd.sublist (List.take_sublist _ _);have hql:(qfq t S l).length=l.length:=by simp[qfq]
 have hmem:∀x ∈ (qco t S l).take m,0≤x∧x.toNat<(qfq t S l).length:=fun x hx=>by
  rw[hql];exact qnd ((qkg t S l).mem_iff.1 (List.mem_of_mem_take hx))
 have hb:=qud (qfq t S l) _ hmem i (by omega);rw[ql4 t S l i hi] at hb;have hr:=qsk t S l i hi;have hd:=Int.mul_ediv_add_emod (t*l.getD i 0) S;have hr0:=Int.emod_nonneg (t*l.getD i 0) (show S≠0 by omega);have hr1:=Int.emod_lt_of_pos (t*l.getD i 0) hS;obtain⟨c1,c2⟩:=q4s hnt (i:Int);refine⟨(qs4 t S l).getD i 0,(((qco t S l).take m).count (i:Int):Nat),(qb0 (qfq t S l) ((qco t S l).take m)).getD i 0, ?_,rfl,by rw[hr];exact hr0,by rw[hr];exact hr1,rfl, ?_,hb, ?_⟩
 ·unfold qf2
  rw[hb,hr,Int.add_mul];have:=Int.mul_comm (t*l.getD i 0/S) S;omega
 ·rw[hb,hr,Int.add_mul]
  have:=Int.mul_comm (t*l.getD i 0/S) S;omega
 ·by_cases h:(i:Int) ∈ (qco t S l).take m
  ·exact .inl ⟨h,by rw[c1 h];rfl⟩
  ·exact .inr ⟨h,by rw[c2 h];rfl⟩
theorem qw6(t S:Int)(l:List Int)(hS:0<S)(m:Nat)(hm:m<l.length):
  ∃k:Nat,k<l.length∧(qco t S l)[m]? = some (k:Int)∧∀i,i<l.length→qf2 t S l m i≤qf2 t S l m k∧(i<k→qf2 t S l m i<qf2 t S l m k):=by
 have hol:=qu8 t S l;have hperm:=qkg t S l;have hnd:(qco t S l).Nodup:=hperm.nodup_iff.2 (qjj _);have hmo:m<(qco t S l).length:=by omega
 have hget:(qco t S l)[m]? = some (qco t S l)[m]:=List.getElem?_eq_getElem hmo;obtain⟨hy0,hyl⟩:=qnd (hperm.mem_iff.1 (List.getElem_mem hmo));obtain⟨k,hk⟩:∃k:Nat,(qco t S l)[m]=(k:Int):=⟨(qco t S l)[m].toNat,by omega⟩;rw[hk] at hget hyl;have hkl:k<l.length:=by simpa using hyl
 refine⟨k,hkl,hget,fun i hi => ?_⟩
 have hdec:qco t S l=(qco t S l).take m++(k:Int)::(qco t S l).drop (m+1):=by
  conv=>lhs;rw[←List.take_append_drop m (qco t S l),List.drop_eq_getElem_cons hmo,hk]
 have hsplit:=hnd;rw[hdec,List.nodup_append] at hsplit;obtain⟨_,_,hdis⟩:=hsplit;have hkn:(k:Int) ∉ (qco t S l).take m:=fun h=>hdis _ h _ (by simp) rfl;have hpw:(qco t S l).Pairwise (q00 (qs4 t S l)):=qu7 _ _;rw[hdec,List.pairwise_append] at hpw;obtain⟨_,hpw2,_⟩:=hpw;rw[List.pairwise_cons] at hpw2;have hafter:=hpw2.1;obtain⟨r,c,o,e1,e2,e3,e4,_,_,_,e8⟩:=qsu t S l hS m i hi;obtain⟨r',c',o',f1,f2,f3,f4,_,_,_,f8⟩:=qsu t S l hS m k hkl
 have hc':c'=0:=by
  rcases f8 with⟨h,_⟩|⟨_,h⟩
  ·exact absurd h hkn
  ·exact h
 rw[e1,f1,hc',Int.zero_mul];rcases e8 with⟨_,h⟩|⟨hni,h⟩
 ·rw[h,Int.one_mul]
  omega
 ·rw[h,Int.zero_mul]
  have hiO:(i:Int) ∈ qco t S l:=hperm.mem_iff.2 (by unfold places;simp only[List.mem_map,List.mem_range];exact⟨i,hi,rfl⟩);rw[hdec,List.mem_append,List.mem_cons] at hiO;rcases hiO with hh|hh|hh
  ·exact absurd hh hni
  ·have hik:i=k:=by omega
   subst hik;omega
  ·have ha:=hafter _ hh
   unfold q00 at ha;simp only[Int.toNat_natCast] at ha;omega
theorem qqa(t:Int)(l:List Int):qal t l=qb0 (qfq t l.sum l) ((qco t l.sum l).take (t-(qfq t l.sum l).sum).toNat):=rfl
theorem qf3(v:Value)(l:List Int)(w:World)(h:qjv w v l)(hlen:l.length≤1048576):
  Calls Tryz.prog 19 #[v] w fun e w'=>e = .returned (.int .i64 (qg3 l:Nat))∧w=w':=by
 obtain⟨p,c,rfl,hc1,hc2,hcells⟩:=h;unfold maxLen at hc2;have HC:=hid hcells;clear hcells;go_enter Tryz.func19,Tryz.ntmps19;go_wp2_with fail
 go_loop [3,4] (fun s i=>∃k:Nat,k≤l.length∧i = .int .i64 k∧s = .int .i64 (l.take k).sum∧Hid (∀x ∈ l.take k,wIn x=true)) (fun _ i=>l.length-(intOf i).toNat)
 case atStart=>exact⟨0,Nat.zero_le _,rfl,rfl,hid (by simp)⟩
 case round=>
  obtain⟨k,hk,rfl,rfl,HA⟩:=hrel;have hb:=qcy _ HA.out;have hlk:(l.take k).length≤k:=List.length_take_le _ _;by_cases hlt:k<l.length
  ·rcases HC.out with h0|⟨b,o,rfl,hrow⟩
   ·omega
   have hcell:=hrow k hlt;unfold iv at hcell;have HX:=hid (@qrx l k hlt);have HT:=hid (@qlj l k HA.out hlt);have HS:=hid (qcd l k hlt);clear hrow;generalize hx:l.getD k 0=x at *;clear hx;generalize (l.take k).sum=s at *;by_cases h1:x<0
   ·have hw:Hid (wIn x=false):=hid (by unfold wIn;simp;omega)
    go_wp2_with fail;go_ret;exact⟨by rw[HX.out hw.out];rfl,rfl⟩
   ·by_cases h2:999999999<x
    ·have hw:Hid (wIn x=false):=hid (by unfold wIn;simp;omega)
     go_wp2_with fail;go_ret;exact⟨by rw[HX.out hw.out];rfl,rfl⟩
    ·have hw:Hid (wIn x=true):=hid (by unfold wIn;simp;omega)
     go_wp2_with fail;go_round
     case rel=>exact⟨k+1,by omega,by go_num,by rw[HS.out],hid (HT.out hw.out)⟩
     case measure=>simp[intOf];omega
  ·have hkl:k=l.length:=by omega
   have HA2:Hid (∀x ∈ l,wIn x=true):=hid (by have:=HA.out;rw[hkl,List.take_length] at this;exact this);have HSU:Hid ((l.take k).sum=l.sum):=hid (by rw[hkl,List.take_length]);have HZ:=hid (qlh HA2.out);generalize (l.take k).sum=s at *;obtain rfl:=HSU.out;clear hkl;by_cases h0:l.sum=0
   ·have hb0:(l.sum==0)=true:=beq_iff_eq.2 h0
    have HZ2:Hid (qg3 l=6):=hid (by rw[HZ.out,if_pos h0]);clear h0;go_wp2_with fail;go_ret;exact⟨by rw[HZ2.out];rfl,rfl⟩
   ·have hb0:(l.sum==0)=false:=beq_eq_false_iff_ne.2 h0
    have HZ2:Hid (qg3 l=0):=hid (by rw[HZ.out,if_neg h0]);clear h0;go_wp2_with fail;go_ret;exact⟨by rw[HZ2.out];rfl,rfl⟩
theorem zab{l:List Int}(hw:∀x ∈ l,wIn x=true)(h0:l.sum≠0):1≤l.sum:=by
 have:=qcy l hw;omega
structure q01(t S x o v:Int):Prop where
 x0:0≤x
 tx0:0≤t*x
 tx1:t*x≤999999998000000001
 o0:0≤o
 o1:o≤1000000000
 os0:0≤o*S
 os1:o*S≤999999998000000001+S
 is:v=t*x-o*S
 v0 : -S≤v
 v1:v<S
theorem q02(t S:Int)(l:List Int)(ht0:0≤t)(ht1:t≤999999999)(hw:∀x ∈ l,wIn x=true)(hS:l.sum=S)(hS0:1≤S)(m i:Nat)(hi:i<l.length):
  q01 t S (l.getD i 0) ((qb0 (qfq t S l) ((qco t S l).take m)).getD i 0) (qf2 t S l m i):=by
 have hx:=qgn.1 (hw (l.getD i 0) (by rw[List.getD_eq_getElem?_getD,List.getElem?_eq_getElem hi,Option.getD_some];exact List.getElem_mem _))
 have hxs:l.getD i 0≤S:=by
  have h1:=qcd l i hi;have h2:=qk6 l hw (i+1);have h3:=(qcy (l.take i) fun x hx=>hw x (List.mem_of_mem_take hx)).1;omega
 obtain⟨r,c,o,e1,e2,e3,e4,e5,e6,e7,e8⟩:=qsu t S l (by omega) m i hi;rw[←e5,e1];have hc:c=0∨c=1:=by rcases e8 with⟨_,h⟩|⟨_,h⟩<;>omega
 have h0:0≤t*l.getD i 0:=Int.mul_nonneg ht0 hx.1;have h1:t*l.getD i 0≤t*S:=Int.mul_le_mul_of_nonneg_left hxs ht0;have h2:t*l.getD i 0≤999999998000000001:=Int.le_trans (Int.mul_le_mul ht1 hx.2 hx.1 (by omega)) (by omega);have h3:0≤t*l.getD i 0/S:=Int.ediv_nonneg h0 (by omega);have h4:t*l.getD i 0/S≤t*S/S:=Int.ediv_le_ediv (by omega) h1;rw[Int.mul_ediv_cancel _ (by omega)] at h4;generalize l.getD i 0=x at *;have ho:0≤o*S:=Int.mul_nonneg (by omega) (by omega);have hcs:c*S=0∨c*S=S:=by rcases hc with h|h<;>rw[h]<;>simp
 refine⟨hx.1,h0,h2,by omega,by omega,ho,by omega,by omega,by omega,by omega⟩
theorem qqb(t:Int)(v:Value)(l:List Int)(w:World)(h:qjv w v l)(hl:l.length≤1000)(hl1:1≤l.length)(ht0:0≤t)(ht1:t≤999999999)(he:qg3 l=0):
  Calls Tryz.prog 23 #[.int .i64 t,v] w fun e w'=>(∃g,w.heap.size≤g∧e = .returned (.slice (some ⟨g,0,none⟩) l.length l.length)∧Own w' g l.length (iv (qal t l)))∧Below w.heap.size w w':=by
 obtain⟨hw,hs0⟩:=qli he;have HW:=hid hw;have hS0:=zab hw hs0;have HPF:=hid (fun m i (hi:i<l.length)=>q02 t l.sum l ht0 ht1 hw rfl hS0 m i hi);have HGN:=hid (fun m (hm:m<l.length)=>qw6 t l.sum l (by omega) m hm);have HAP:=hid (qqa t l);have HLT:=hid (qwl t l.sum l ht0 (by omega) hw rfl hl1);have HQS:=hid (fun k=>qij t l.sum l ht0 (by omega) hw rfl k);obtain⟨p,c,rfl,hc1,hc2,hcells⟩:=h;obtain⟨b,o,rfl,hrow⟩:=hcells.resolve_left (by omega);unfold maxLen at hc2;have HROW:=hid hrow;have hsb:=qcy l hw;have hmk:=qji l.length (by omega);clear hs0 hw hcells hrow he;go_enter Tryz.func23,Tryz.ntmps23;go_wp2_with fail
 go_loop [5,6] (fun s i=>∃k:Nat,k≤l.length∧i = .int .i64 k∧s = .int .i64 (l.take k).sum) (fun _ i=>l.length-(intOf i).toNat)
 case atStart=>exact⟨0,Nat.zero_le _,rfl,rfl⟩
 case round=>
  obtain⟨k,hk,rfl,rfl⟩:=hrel;by_cases hlt:k<l.length
  ·have hcell:=HROW.out k hlt
   unfold iv at hcell;have HS:=hid (qcd l k hlt);have hsk:=qcy (l.take k) fun x hx=>HW.out x (List.mem_of_mem_take hx);have hlk:(l.take k).length≤k:=List.length_take_le _ _;have hx:=qgn.1 (HW.out (l.getD k 0) (by rw[List.getD_eq_getElem?_getD,List.getElem?_eq_getElem hlt,Option.getD_some];exact List.getElem_mem _));generalize l.getD k 0=x at *;generalize (l.take k).sum=s at *;clear hmk;go_wp2_with fail;go_round
   case rel=>exact⟨k+1,by omega,by go_num,by rw[HS.out]⟩
   case measure=>simp[intOf];omega
  ·obtain rfl:k=l.length:=by omega
   rw[List.take_length];generalize hS:l.sum=S at *;have HSS:=hid hS;clear hS;generalize hQ:qfq t S l=Q at *;have HQQ:=hid hQ.symm;have HQL:Hid (Q.length=l.length):=hid (by rw[←hQ];simp[qfq]);clear hQ;go_wp2_with fail;have HO0:Hid (Own (w.alloc (qed l.length)) w.heap.size l.length (iv (upTo Q 0))):=hid (by rw[ql3,HQL.out];exact qyd w l.length);have HB0:Hid (Below w.heap.size w (w.alloc (qed l.length))):=hid ((Below.refl _ _).alloc (Nat.le_refl _) _);clear hmk
   go_loopw [8,9] (fun lf i wr=>∃k:Nat,k≤l.length∧i = .int .i64 k∧(∃z:Int,lf = .int .i64 z∧0≤z∧z≤t∧Hid (z=t-(Q.take k).sum))∧Hid (Own wr w.heap.size l.length (iv (upTo Q k)))∧Hid (Below w.heap.size w wr)) (fun _ i _=>l.length-(intOf i).toNat)
   case atStart=>exact⟨0,Nat.zero_le _,rfl,⟨t,rfl,ht0,Int.le_refl _,hid (by simp)⟩,HO0,HB0⟩
   case round=>
    obtain⟨k,hk,rfl,⟨z,rfl,hz0,hz1,HZ⟩,HOW,HB⟩:=hrel;by_cases hlt:k<l.length
    ·have hcell:wr.cell? ⟨b,o+k,none⟩=some (iv l k):=by
      have h1:=HROW.out k hlt;rw[HB.out.cell (p:=⟨b,o+k,none⟩) (World.block_lt_of_cell? w _ h1)];exact h1
     unfold iv at hcell;have HPX:=HPF.out 0 k hlt;have HQG:Hid (Q.getD k 0=t*l.getD k 0/S):=hid (by rw[HQQ.out];exact ql4 t S l k hlt);obtain⟨hcp,hfp⟩:=HOW.out.2 k hlt;have HSU:=hid (qcd Q k (by rw[HQL.out];exact hlt));have hts:=HQS.out (k+1);obtain⟨hx0,hm0,hm1,_,_,_,_,_,_,_⟩:=HPX;generalize l.getD k 0=x at *;have hq0:0≤t*x/S:=Int.ediv_nonneg hm0 (by omega);rw[HSU.out,HQG.out] at hts;have hz2:0≤z-t*x/S:=by have h3:=HZ.out;omega
     have HZ2:Hid (z-t*x/S=t-(Q.take (k+1)).sum):=hid (by rw[HSU.out,HQG.out,HZ.out];omega);have HOW2:=hid (HOW.out.upTo HQL.out hlt HQG.out);have HB2:=hid (HB.out.setCell (p:=⟨w.heap.size,k,none⟩) (Nat.le_refl w.heap.size) (.int .i64 (t*x/S)));have hcp2:(wr.setCell ⟨w.heap.size,k,none⟩ (.int .i64 (t*x/S))).cell? ⟨w.heap.size,k,none⟩=some (.int .i64 (t*x/S)):=World.cell?_setCell_same _ _ _ hcp;clear hts HPF HGN HAP HLT HQS;go_wp2_with fail;go_roundw
     case rel=>exact⟨k+1,by omega,by go_num,⟨_,rfl,hz2,by omega,HZ2⟩,HOW2,HB2⟩
     case measure=>simp[intOf];omega
    ·obtain rfl:k=l.length:=by omega
     have HZL:Hid (z=t-Q.sum):=hid (by rw[HZ.out,←HQL.out,List.take_length]);have hzn:z<l.length:=by have h1:=HLT.out;have h2:=HZL.out;omega
     obtain⟨L,hL⟩:∃L:Nat,z=L:=⟨z.toNat,by omega⟩
     have HFIN:Hid (qal t l=qb0 Q ((qco t S l).take L)):=hid (by
      have h1:=HAP.out;have h2:=HSS.out;have h3:=HZL.out
      rw[h1,←h3,hL,Int.toNat_natCast])
     have HOQ:Hid (Own wr w.heap.size l.length (iv (qb0 Q ((qco t S l).take 0)))):=hid (by
      have h1:=HOW.out;have h2:upTo Q l.length=Q:=by rw[←HQL.out,qoi]
      rw[h2] at h1
      exact h1)
     have hLn:L<l.length:=by omega
     subst hL;clear HZ HOW HLT HQS HAP HZL hzn;go_wp2_with fail
     go_loopw [8] (fun lf wr=>∃m:Nat,m≤L∧lf = .int .i64 ((L:Int)-m)∧Hid (Own wr w.heap.size l.length (iv (qb0 Q ((qco t S l).take m))))∧Hid (Below w.heap.size w wr)) (fun lf _=>(intOf lf).toNat)
     case atStart=>exact⟨0,Nat.zero_le _,by simp,HOQ,HB⟩
     case round=>
      obtain⟨m,hm,rfl,HOW,HBW⟩:=hrel;clear HB HOQ;by_cases hmL:m<L
      ·obtain⟨y,hy⟩:∃y:Int,y=(L:Int)-m:=⟨_,rfl⟩
       rw[←hy];have hy0:0<y:=by omega
       have hy1:y≤1000:=by omega
       have HYY:=hid hy;clear hy;go_wp2_with fail
       go_loopw [10,11] (fun bs i wx=>∃g k:Nat,g<k∧k≤l.length∧bs = .int .i64 g∧i = .int .i64 k∧Hid (∀j,j<k→qf2 t S l m j≤qf2 t S l m g∧(j<g→qf2 t S l m j<qf2 t S l m g))∧Hid (Own wx w.heap.size l.length (iv (qb0 Q ((qco t S l).take m))))∧Hid (Below w.heap.size w wx)) (fun _ i _=>l.length-(intOf i).toNat)
       case atStart=>
        refine⟨0,1,by omega,by omega,rfl,rfl,hid fun j hj => ?_,HOW,HBW⟩;obtain rfl:j=0:=by omega
        exact⟨Int.le_refl _,fun h=>by omega⟩
       case round=>
        clear HOW HBW;obtain⟨g,k,hgk,hk,rfl,rfl,HMX,HOW,HBW⟩:=hrel;by_cases hlt:k<l.length
        ·have hcw:∀i:Nat,i<l.length→wr.cell? ⟨b,o+i,none⟩=some (.int .i64 (l.getD i 0)):=fun i hi=>by
          have h1:=HROW.out i hi;rw[HBW.out.cell (p:=⟨b,o+i,none⟩) (World.block_lt_of_cell? w _ h1)];exact h1
         have ck:=hcw k hlt;have cg:=hcw g (by omega);have dk:=(HOW.out.2 k hlt).1;have dg:=(HOW.out.2 g (by omega)).1;unfold iv at dk dg;have HK:=HPF.out m k hlt;have HG:=HPF.out m g (by omega)
         have HML:Hid (qf2 t S l m g<qf2 t S l m k→∀j,j<k+1→qf2 t S l m j≤qf2 t S l m k∧(j<k→qf2 t S l m j<qf2 t S l m k)):=hid fun h j hj=>by
          by_cases e:j=k
          ·subst e;exact⟨Int.le_refl _,fun h=>by omega⟩
          ·have:=HMX.out j (by omega)
           exact⟨by omega,fun _=>by omega⟩
         have HMG:Hid (¬qf2 t S l m g<qf2 t S l m k→∀j,j<k+1→qf2 t S l m j≤qf2 t S l m g∧(j<g→qf2 t S l m j<qf2 t S l m g)):=hid fun h j hj=>by
          by_cases e:j=k
          ·subst e;exact⟨by omega,fun h=>by omega⟩
          ·exact HMX.out j (by omega)
         clear hcw;obtain⟨vk,hvk⟩:∃vk,vk=qf2 t S l m k:=⟨_,rfl⟩;obtain⟨vg,hvg⟩:∃vg,vg=qf2 t S l m g:=⟨_,rfl⟩;rw[←hvk] at HK;rw[←hvg] at HG;have HVK:=hid hvk;have HVG:=hid hvg;clear hvk hvg;obtain⟨_,k2,k3,_,_,k6,k7,k8,k9,k10⟩:=HK;obtain⟨_,g2,g3,_,_,g6,g7,g8,g9,g10⟩:=HG;generalize l.getD k 0=xk at *;generalize l.getD g 0=xg at *;generalize (qb0 Q ((qco t S l).take m)).getD k 0=ok at *;generalize (qb0 Q ((qco t S l).take m)).getD g 0=og at *;have W1:IntKind.i64.wrap (t*xk)=t*xk:=wrap_small _ k2 (by omega);have W2:IntKind.i64.wrap (ok*S)=ok*S:=wrap_small _ k6 (by omega);have W3:IntKind.i64.wrap (t*xk-ok*S)=vk:=by rw[←k8,IntKind.wrap_i64];omega
         have W4:IntKind.i64.wrap (t*xg)=t*xg:=wrap_small _ g2 (by omega);have W5:IntKind.i64.wrap (og*S)=og*S:=wrap_small _ g6 (by omega);have W6:IntKind.i64.wrap (t*xg-og*S)=vg:=by rw[←g8,IntKind.wrap_i64];omega
         by_cases hv:vg<vk
         ·have D1:decide (vg<vk)=true:=decide_eq_true hv
          have HREL:=hid (HML.out (by rw[←HVK.out,←HVG.out];exact hv));clear hv k2 k3 k6 k7 k8 k9 k10 g2 g3 g6 g7 g8 g9 g10;go_wp2_with fail
          go_quiet (fail)
          go_wp2_with fail;go_roundw
          case rel=>exact⟨k,k+1,by omega,by omega,rfl,by go_num,HREL,hid (HOW.out.later (below_drewN (Below.refl _ _) _)),hid (below_drewN HBW.out _)⟩
          case measure=>simp[intOf];omega
         ·have D1:decide (vg<vk)=false:=decide_eq_false hv
          have HREL:=hid (HMG.out (by rw[←HVK.out,←HVG.out];exact hv));clear hv k2 k3 k6 k7 k8 k9 k10 g2 g3 g6 g7 g8 g9 g10;go_wp2_with fail
          go_quiet (fail)
          go_wp2_with fail;go_roundw
          case rel=>exact⟨g,k+1,by omega,by omega,rfl,by go_num,HREL,hid (HOW.out.later (below_drewN (Below.refl _ _) _)),hid (below_drewN HBW.out _)⟩
          case measure=>simp[intOf];omega
        ·obtain rfl:k=l.length:=by omega
         obtain⟨kk,hkl,hget,hfirst⟩:=HGN.out m (by omega)
         have hgk2:g=kk:=by
          have h1:=hfirst g hgk;have h2:=HMX.out kk hkl;rcases Nat.lt_trichotomy g kk with h|h|h
          ·have:=h1.2 h;omega
          ·exact h
          ·have:=h2.2 h;omega
         subst hgk2
         have HST:Hid ((qco t S l).take (m+1)=(qco t S l).take m++[(g:Int)]):=hid (by
          obtain⟨hol,he⟩:=List.getElem?_eq_some_iff.1 hget
          rw[List.take_succ_eq_append_getElem hol,he])
         have HSTEP:Hid (qb0 Q ((qco t S l).take (m+1))=(qb0 Q ((qco t S l).take m)).set g ((qb0 Q ((qco t S l).take m)).getD g 0+1)):=hid (by rw[HST.out,qh2];rfl);have HSET:=hid (HOW.out.setInt g hgk (by rw[qdn];exact HQL.out.symm) ((qb0 Q ((qco t S l).take m)).getD g 0+1));have hob:=(HPF.out m g hgk).o0;have hob1:=(HPF.out m g hgk).o1;have HB2:=hid (HBW.out.setCell (p:=⟨w.heap.size,g,none⟩) (Nat.le_refl w.heap.size) (.int .i64 ((qb0 Q ((qco t S l).take m)).getD g 0+1)));obtain⟨hcp,hfp⟩:=HOW.out.2 g hgk;unfold iv at hcp;clear hfirst hget HMX;generalize (qb0 Q ((qco t S l).take m)).getD g 0=og at *;go_wp2_with fail;go_roundw
         case rel=>exact⟨m+1,by omega,by have h:=HYY.out;go_num,hid (by rw[HSTEP.out];exact HSET.out),HB2⟩
         case measure=>have h:=HYY.out;simp[intOf];go_num
      ·have hmL2:m=L:=by omega
       subst hmL2;have HFO:Hid (Own wr w.heap.size l.length (iv (qal t l))):=hid (by rw[HFIN.out];exact HOW.out);rw[Int.sub_self];go_wp2_with fail;go_ret;exact⟨⟨w.heap.size,Nat.le_refl _,rfl,HFO.out⟩,HBW.out⟩
end Go.Proofs.YthjagoogkkgelaaGreatDoor
