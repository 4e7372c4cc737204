/- slices.MinFunc and slices.MaxFunc of numbers. -/
import Derived.Test.YthjagoogkkgelaaGreatDoorMNv
set_option linter.all false
namespace Go.Proofs.YthjagoogkkgelaaGreatDoor
open Go.RowKit
set_option maxRecDepth 100000
set_option maxHeartbeats 4000000
def qlz:List Rat→Rat
 | []=>0
 | q::l=>l.foldl (fun m a=>if a<m then a else m) q
def qlb:List Rat→Rat
 | []=>0
 | q::l=>l.foldl (fun m a=>if m<a then a else m) q
theorem q2o(l:List Rat)(a:Rat)(h:l≠[]):qlz (l++[a])=if a<qlz l then a else qlz l:=by
 cases l with
 | nil=>exact absurd rfl h
 | cons q l=>show(l++[a]).foldl _ q=_;rw[List.foldl_append];rfl
theorem q2p(l:List Rat)(a:Rat)(h:l≠[]):qlb (l++[a])=if qlb l<a then a else qlb l:=by
 cases l with
 | nil=>exact absurd rfl h
 | cons q l=>show(l++[a]).foldl _ q=_;rw[List.foldl_append];rfl
def One(W:World)(g:Nat)(x:NV):Prop:=Own W g 3 (qcm x.b (.slice x.p x.k x.c) (.slice x.q x.j x.d))
abbrev qnu(g o:Nat)(x:NV)(W:World):Prop:=
 W.cell? ⟨g,o,none⟩=some (.bool x.b)∧W.cell? ⟨g,o+1,none⟩=some (.slice x.p x.k x.c)∧W.cell? ⟨g,o+2,none⟩=some (.slice x.q x.j x.d)
theorem One.cells{W:World}{g:Nat}{x:NV}(h:One W g x):(W.cell? ⟨g,0,none⟩=some (.bool x.b)∧W.cell? ⟨g,1,none⟩=some (.slice x.p x.k x.c)∧W.cell? ⟨g,2,none⟩=some (.slice x.q x.j x.d))∧W.frozen? ⟨g,0,none⟩=false∧W.frozen? ⟨g,1,none⟩=false∧W.frozen? ⟨g,2,none⟩=false:=
 ⟨⟨(h.2 0 (by omega)).1,(h.2 1 (by omega)).1,(h.2 2 (by omega)).1⟩,(h.2 0 (by omega)).2,(h.2 1 (by omega)).2,(h.2 2 (by omega)).2⟩
theorem qgu(w:World)(x:NV):One (w.alloc (.cells #[.bool x.b,.slice x.p x.k x.c,.slice x.q x.j x.d] 80)) w.heap.size x:=qq5 _ _ _ _
theorem One.put{W:World}{g:Nat}{m x:NV}(h:One W g m):
  One (((W.setCell ⟨g,0,none⟩ (.bool x.b)).setCell ⟨g,1,none⟩ (.slice x.p x.k x.c)).setCell ⟨g,2,none⟩ (.slice x.q x.j x.d)) g x∧
  (∀v q,qaj W v q→qaj (((W.setCell ⟨g,0,none⟩ (.bool x.b)).setCell ⟨g,1,none⟩ (.slice x.p x.k x.c)).setCell ⟨g,2,none⟩ (.slice x.q x.j x.d)) v q)∧
  (∀B w0,B≤g→Below B w0 W→Below B w0 (((W.setCell ⟨g,0,none⟩ (.bool x.b)).setCell ⟨g,1,none⟩ (.slice x.p x.k x.c)).setCell ⟨g,2,none⟩ (.slice x.q x.j x.d)))∧
  (∀g' n f,g'≠g→Own W g' n f→Own (((W.setCell ⟨g,0,none⟩ (.bool x.b)).setCell ⟨g,1,none⟩ (.slice x.p x.k x.c)).setCell ⟨g,2,none⟩ (.slice x.q x.j x.d)) g' n f):=by
 have o1:=Own.set h 0 (by omega) (.bool x.b);have o2:=o1.set 1 (by omega) (.slice x.p x.k x.c);have o3:=o2.set 2 (by omega) (.slice x.q x.j x.d);refine⟨o3.congr fun i hi => ?_,fun v q hv => ?_,fun B w0 hB hb => ?_,fun g' n f hne ho => ?_⟩
 ·match i,hi with
  | 0,_=>rfl
  | 1,_=>rfl
  | 2,_=>rfl
 ·have h1:=qa8 hv h 0 (by omega) (by intro k z e;cases e) (.bool x.b)
  have h2:=qa8 h1 o1 1 (by omega) (by intro k z e;cases e) (.slice x.p x.k x.c);exact qa8 h2 o2 2 (by omega) (by intro k z e;cases e) (.slice x.q x.j x.d)
 ·exact((hb.setCell (p:=⟨g,0,none⟩) hB _).setCell (p:=⟨g,1,none⟩) hB _).setCell (p:=⟨g,2,none⟩) hB _
 ·exact((((qfh.refl g W).set _ _).set _ _).set _ _).own ho hne
theorem qh0.nv{W:World}{b o:Nat}{qs:List Rat}(h:qh0 W b o qs)(j:Nat)(q:Rat)(hq:qs[j]? = some q):∃x:NV,qnu b (o+j*3) x W∧qaj W (.agg #[.bool x.b,.slice x.p x.k x.c,.slice x.q x.j x.d]) q:=by
 obtain⟨sg,p1,k1,c1,p2,k2,c2,e0,e1,e2,hv⟩:=h j q hq;exact⟨⟨sg,p1,k1,c1,p2,k2,c2⟩,⟨e0,e1,e2⟩,hv⟩
theorem qnu.later{w W:World}{b o:Nat}{x:NV}(h:qnu b o x w)(hb:Below w.heap.size w W):qnu b o x W:=by
 obtain⟨e0,e1,e2⟩:=h;refine⟨?_, ?_, ?_⟩
 ·rw[hb.cell (World.block_lt_of_cell? w _ e0)];exact e0
 ·rw[hb.cell (World.block_lt_of_cell? w _ e1)];exact e1
 ·rw[hb.cell (World.block_lt_of_cell? w _ e2)];exact e2
def q6f(w:World)(m:NV)(W:World):Prop:=
 Below w.heap.size w W∧One W w.heap.size ⟨false,none,0,0,none,0,0⟩∧One W (w.heap.size+1) m
theorem q6f.later{w W W':World}{m:NV}(h:q6f w m W)(hb:Below W.heap.size W W'):q6f w m W':=
 ⟨h.1.trans (hb.mono h.1.size),h.2.1.later (hb.mono h.2.1.1),h.2.2.later (hb.mono h.2.2.1)⟩
theorem qya(w:World)(x:NV):q6f w x ((w.alloc (.cells #[.bool false,.slice none 0 0,.slice none 0 0] 80)).alloc (.cells #[.bool x.b,.slice x.p x.k x.c,.slice x.q x.j x.d] 80)):=by
 have h1:Below w.heap.size w (w.alloc (.cells #[.bool false,.slice none 0 0,.slice none 0 0] 80)):=(Below.refl _ _).alloc (Nat.le_refl _) _;have o1:=qq5 w false (.slice none 0 0) (.slice none 0 0);have o2:=qq5 (w.alloc (.cells #[.bool false,.slice none 0 0,.slice none 0 0] 80)) x.b (.slice x.p x.k x.c) (.slice x.q x.j x.d);rw[World.size_alloc] at o2;exact⟨h1.alloc (by rw[World.size_alloc];omega) _,o1.later ((Below.refl _ _).alloc (by rw[World.size_alloc];omega) _),o2⟩
theorem q6f.put{w W:World}{m x:NV}(h:q6f w m W):
  q6f w x (((W.setCell ⟨w.heap.size+1,0,none⟩ (.bool x.b)).setCell ⟨w.heap.size+1,1,none⟩ (.slice x.p x.k x.c)).setCell ⟨w.heap.size+1,2,none⟩ (.slice x.q x.j x.d)):=
 ⟨h.2.2.put.2.2.1 _ _ (by omega) h.1,h.2.2.put.2.2.2 _ _ _ (by omega) h.2.1,h.2.2.put.1⟩
theorem qwc(qs:List Rat)(b o c:Nat)(w:World)(hrow:qh0 w b o qs)(hl0:1≤qs.length)(hl:qs.length≤1048576)(hs:∀p ∈ qs,∀q ∈ qs,rs p+rs q≤Cap):
  Calls Tryz.prog 104 #[.slice (some ⟨b,o,none⟩) qs.length c,.func (.func 36) #[] #[]] w fun e w'=>(∃v',e = .returned v'∧qaj w' v' (qlz qs))∧Below w.heap.size w w':=by
 have HROW:=hid hrow;have HS:=hid hs;obtain⟨q0,hq0⟩:∃q,qs[0]? = some q:=⟨qs[0],List.getElem?_eq_getElem hl0⟩;obtain⟨x0,hx0,hv0⟩:=hrow.nv 0 q0 hq0;have hw0:=qya w x0;have hal:Below w.heap.size w (w.alloc (.cells #[.bool false,.slice none 0 0,.slice none 0 0] 80)):=(Below.refl _ _).alloc (Nat.le_refl _) _;obtain⟨c0,c1,c2⟩:=qnu.later hx0 hal;rw[Nat.zero_mul,Nat.add_zero] at c0 c1 c2;have HV0:=hid (hv0.later hw0.1);have HQM:Hid (q0 ∈ qs):=hid (List.mem_of_getElem? hq0);have HW0:=hid hw0
 have HT1:Hid (qlz (qs.take 1)=q0∧qs.take 1≠[]):=hid (by
  cases qs with
  | nil=>simp at hl0
  | cons a t=>simp at hq0;subst hq0;simp[qlz])
 have hb0:decide (qs.length<1)=false:=decide_eq_false (by omega);have hnl:¬((qs.length:Int)<1):=by omega
 have hpos:0<qs.length:=hl0;clear hrow hs hv0 hw0 hq0;go_enter Tryz.func104,Tryz.ntmps104;go_wp2_with fail;clear c0 c1 c2
 go_loopw [6] (fun i wr=>∃k:Nat,1≤k∧k≤qs.length∧i = .int .i64 k∧∃m:NV,Hid (q6f w m wr)∧Hid (qaj wr (.agg #[.bool m.b,.slice m.p m.k m.c,.slice m.q m.j m.d]) (qlz (qs.take k))∧qs.take k≠[]∧qlz (qs.take k) ∈ qs)) (fun i _=>qs.length-(intOf i).toNat)
 case atStart=>exact⟨1,Nat.le_refl _,hl0,rfl,x0,HW0,hid ⟨by rw[HT1.out.1];exact HV0.out,HT1.out.2,by rw[HT1.out.1];exact HQM.out⟩⟩
 case round=>
  obtain⟨k,hk1,hk,rfl,m,HM,HQ⟩:=hrel;by_cases hkl:k<qs.length
  ·obtain⟨q,hqk⟩:∃q,qs[k]? = some q:=⟨qs[k],List.getElem?_eq_getElem hkl⟩
   obtain⟨x,hx,hv⟩:=HROW.out.nv k q hqk;have hd:Below wr.heap.size wr wr.drew:=(Below.refl _ _).drew;have HX:Hid (∀W,Below wr.heap.size wr W→qnu b (o+k*3) x W):=hid fun W hW=>(hx.later HM.out.1).later hW;have HVX:=hid (hv.later HM.out.1);have HTK:Hid (qs.take (k+1)=qs.take k++[q]):=hid (qb9 hqk);have HQQ:Hid (q ∈ qs):=hid (List.mem_of_getElem? hqk);have HSN:=hid (q2o (qs.take k) q HQ.out.2.1);have HCALL:=hid (qb7 (.agg #[.bool x.b,.slice x.p x.k x.c,.slice x.q x.j x.d]) (.agg #[.bool m.b,.slice m.p m.k m.c,.slice m.q m.j m.d]) q (qlz (qs.take k)) wr.drew (HVX.out.later hd) (HQ.out.1.later hd) (HS.out _ HQQ.out _ HQ.out.2.2));have hcmp:=@qo9 q (qlz (qs.take k));have HCMP:=hid hcmp;obtain⟨c0,c1,c2⟩:=HX.out wr (Below.refl _ _);obtain⟨⟨m0,m1,m2⟩,f0,f1,f2⟩:=HM.out.2.2.cells;clear hqk hx hv hd hcmp;generalize qcu q (qlz (qs.take k))=r at *;generalize qlz (qs.take k)=mq at *;by_cases hr:r<0
   ·have HNEW:Hid (qlz (qs.take (k+1))=q∧qs.take (k+1)≠[]):=hid ⟨by rw[HTK.out,HSN.out,if_pos (HCMP.out.1 hr)],by rw[HTK.out];simp⟩
    go_wp2_with fail
    go_region_held3 (fun W=>W.cell? ⟨b,o+k*3,none⟩=some (.bool x.b)∧W.cell? ⟨b,o+k*3+1,none⟩=some (.slice x.p x.k x.c)∧W.cell? ⟨b,o+k*3+2,none⟩=some (.slice x.q x.j x.d)∧W.cell? ⟨w.heap.size+1,0,none⟩=some (.bool m.b)∧W.cell? ⟨w.heap.size+1,1,none⟩=some (.slice m.p m.k m.c)∧W.cell? ⟨w.heap.size+1,2,none⟩=some (.slice m.q m.j m.d)) (first|with_reducible exact⟨e0,e1,e2,n0,n1,n2⟩|exact⟨c0,c1,c2,m0,m1,m2⟩)
     (first|(go_at_call 36;refine HCALL.out.mono ?_;rintro e w1 ⟨rfl,hb⟩;have HBB:=hid ((Below.refl wr.heap.size wr).drew.trans hb);have HM1:=hid (HM.out.later HBB.out);obtain⟨e0,e1,e2⟩:=HX.out w1 HBB.out;obtain⟨⟨n0,n1,n2⟩,g0,g1,g2⟩:=HM1.out.2.2.cells;clear hb))
    clear c0 c1 c2 m0 m1 m2 f0 f1 f2;have HM2:=hid (HM1.out.put (x:=x));have HV2:=hid (HM1.out.2.2.put (x:=x) |>.2.1 _ _ (HVX.out.later HBB.out));go_wp2_with fail;go_roundw
    case rel=>exact⟨k+1,by omega,hkl,by go_num,x,HM2,hid ⟨by rw[HNEW.out.1];exact HV2.out,HNEW.out.2,by rw[HNEW.out.1];exact HQQ.out⟩⟩
    case measure=>simp[intOf];omega
   ·have HNEW:Hid (qlz (qs.take (k+1))=mq∧qs.take (k+1)≠[]):=hid ⟨by rw[HTK.out,HSN.out,if_neg (fun h=>hr (HCMP.out.2 h))],by rw[HTK.out];simp⟩
    go_wp2_with fail
    go_region_held3 (fun W=>W.cell? ⟨b,o+k*3,none⟩=some (.bool x.b)∧W.cell? ⟨b,o+k*3+1,none⟩=some (.slice x.p x.k x.c)∧W.cell? ⟨b,o+k*3+2,none⟩=some (.slice x.q x.j x.d)∧W.cell? ⟨w.heap.size+1,0,none⟩=some (.bool m.b)∧W.cell? ⟨w.heap.size+1,1,none⟩=some (.slice m.p m.k m.c)∧W.cell? ⟨w.heap.size+1,2,none⟩=some (.slice m.q m.j m.d)) (first|with_reducible exact⟨e0,e1,e2,n0,n1,n2⟩|exact⟨c0,c1,c2,m0,m1,m2⟩)
     (first|(go_at_call 36;refine HCALL.out.mono ?_;rintro e w1 ⟨rfl,hb⟩;have HBB:=hid ((Below.refl wr.heap.size wr).drew.trans hb);have HM1:=hid (HM.out.later HBB.out);obtain⟨e0,e1,e2⟩:=HX.out w1 HBB.out;obtain⟨⟨n0,n1,n2⟩,g0,g1,g2⟩:=HM1.out.2.2.cells;clear hb))
    clear c0 c1 c2 m0 m1 m2 f0 f1 f2;have HV2:=hid (HQ.out.1.later HBB.out);go_wp2_with fail;go_roundw
    case rel=>exact⟨k+1,by omega,hkl,by go_num,m,HM1,hid ⟨by rw[HNEW.out.1];exact HV2.out,HNEW.out.2,by rw[HNEW.out.1];exact HQ.out.2.2⟩⟩
    case measure=>simp[intOf];omega
  ·have hkq:k=qs.length:=by omega
   obtain⟨⟨m0,m1,m2⟩,f0,f1,f2⟩:=HM.out.2.2.cells;obtain⟨⟨r0,r1,r2⟩,g0,g1,g2⟩:=HM.out.2.1.cells;have HR:=hid (HM.out.2.1.put (x:=m));have HV:Hid (qaj wr (.agg #[.bool m.b,.slice m.p m.k m.c,.slice m.q m.j m.d]) (qlz qs)):=hid (by have:=HQ.out.1;rwa [hkq,List.take_length] at this);have HB:=hid HM.out.1;clear HQ hkq;go_wp2_with fail;refine bodyPost_ret (v := .agg #[.bool m.b,.slice m.p m.k m.c,.slice m.q m.j m.d]) ?_ rfl ?_
   ·simp[results,Tryz.results104,go_sem,r0,r1,r2]
   ·exact⟨⟨_,rfl,HR.out.2.1 _ _ HV.out⟩,HR.out.2.2.1 _ _ (Nat.le_refl _) HB.out⟩
theorem qwd(qs:List Rat)(b o c:Nat)(w:World)(hrow:qh0 w b o qs)(hl0:1≤qs.length)(hl:qs.length≤1048576)(hs:∀p ∈ qs,∀q ∈ qs,rs p+rs q≤Cap):
  Calls Tryz.prog 105 #[.slice (some ⟨b,o,none⟩) qs.length c,.func (.func 36) #[] #[]] w fun e w'=>(∃v',e = .returned v'∧qaj w' v' (qlb qs))∧Below w.heap.size w w':=by
 have HROW:=hid hrow;have HS:=hid hs;obtain⟨q0,hq0⟩:∃q,qs[0]? = some q:=⟨qs[0],List.getElem?_eq_getElem hl0⟩;obtain⟨x0,hx0,hv0⟩:=hrow.nv 0 q0 hq0;have hw0:=qya w x0;have hal:Below w.heap.size w (w.alloc (.cells #[.bool false,.slice none 0 0,.slice none 0 0] 80)):=(Below.refl _ _).alloc (Nat.le_refl _) _;obtain⟨c0,c1,c2⟩:=qnu.later hx0 hal;rw[Nat.zero_mul,Nat.add_zero] at c0 c1 c2;have HV0:=hid (hv0.later hw0.1);have HQM:Hid (q0 ∈ qs):=hid (List.mem_of_getElem? hq0);have HW0:=hid hw0
 have HT1:Hid (qlb (qs.take 1)=q0∧qs.take 1≠[]):=hid (by
  cases qs with
  | nil=>simp at hl0
  | cons a t=>simp at hq0;subst hq0;simp[qlb])
 have hb0:decide (qs.length<1)=false:=decide_eq_false (by omega);have hnl:¬((qs.length:Int)<1):=by omega
 have hpos:0<qs.length:=hl0;clear hrow hs hv0 hw0 hq0;go_enter Tryz.func105,Tryz.ntmps105;go_wp2_with fail;clear c0 c1 c2
 go_loopw [6] (fun i wr=>∃k:Nat,1≤k∧k≤qs.length∧i = .int .i64 k∧∃m:NV,Hid (q6f w m wr)∧Hid (qaj wr (.agg #[.bool m.b,.slice m.p m.k m.c,.slice m.q m.j m.d]) (qlb (qs.take k))∧qs.take k≠[]∧qlb (qs.take k) ∈ qs)) (fun i _=>qs.length-(intOf i).toNat)
 case atStart=>exact⟨1,Nat.le_refl _,hl0,rfl,x0,HW0,hid ⟨by rw[HT1.out.1];exact HV0.out,HT1.out.2,by rw[HT1.out.1];exact HQM.out⟩⟩
 case round=>
  obtain⟨k,hk1,hk,rfl,m,HM,HQ⟩:=hrel;by_cases hkl:k<qs.length
  ·obtain⟨q,hqk⟩:∃q,qs[k]? = some q:=⟨qs[k],List.getElem?_eq_getElem hkl⟩
   obtain⟨x,hx,hv⟩:=HROW.out.nv k q hqk;have hd:Below wr.heap.size wr wr.drew:=(Below.refl _ _).drew;have HX:Hid (∀W,Below wr.heap.size wr W→qnu b (o+k*3) x W):=hid fun W hW=>(hx.later HM.out.1).later hW;have HVX:=hid (hv.later HM.out.1);have HTK:Hid (qs.take (k+1)=qs.take k++[q]):=hid (qb9 hqk);have HQQ:Hid (q ∈ qs):=hid (List.mem_of_getElem? hqk);have HSN:=hid (q2p (qs.take k) q HQ.out.2.1);have HCALL:=hid (qb7 (.agg #[.bool x.b,.slice x.p x.k x.c,.slice x.q x.j x.d]) (.agg #[.bool m.b,.slice m.p m.k m.c,.slice m.q m.j m.d]) q (qlb (qs.take k)) wr.drew (HVX.out.later hd) (HQ.out.1.later hd) (HS.out _ HQQ.out _ HQ.out.2.2));have hcmp:=@qvx q (qlb (qs.take k));have HCMP:=hid hcmp;obtain⟨c0,c1,c2⟩:=HX.out wr (Below.refl _ _);obtain⟨⟨m0,m1,m2⟩,f0,f1,f2⟩:=HM.out.2.2.cells;clear hqk hx hv hd hcmp;generalize qcu q (qlb (qs.take k))=r at *;generalize qlb (qs.take k)=mq at *;by_cases hr:0<r
   ·have HNEW:Hid (qlb (qs.take (k+1))=q∧qs.take (k+1)≠[]):=hid ⟨by rw[HTK.out,HSN.out,if_pos (HCMP.out.1 hr)],by rw[HTK.out];simp⟩
    go_wp2_with fail
    go_region_held3 (fun W=>W.cell? ⟨b,o+k*3,none⟩=some (.bool x.b)∧W.cell? ⟨b,o+k*3+1,none⟩=some (.slice x.p x.k x.c)∧W.cell? ⟨b,o+k*3+2,none⟩=some (.slice x.q x.j x.d)∧W.cell? ⟨w.heap.size+1,0,none⟩=some (.bool m.b)∧W.cell? ⟨w.heap.size+1,1,none⟩=some (.slice m.p m.k m.c)∧W.cell? ⟨w.heap.size+1,2,none⟩=some (.slice m.q m.j m.d)) (first|with_reducible exact⟨e0,e1,e2,n0,n1,n2⟩|exact⟨c0,c1,c2,m0,m1,m2⟩)
     (first|(go_at_call 36;refine HCALL.out.mono ?_;rintro e w1 ⟨rfl,hb⟩;have HBB:=hid ((Below.refl wr.heap.size wr).drew.trans hb);have HM1:=hid (HM.out.later HBB.out);obtain⟨e0,e1,e2⟩:=HX.out w1 HBB.out;obtain⟨⟨n0,n1,n2⟩,g0,g1,g2⟩:=HM1.out.2.2.cells;clear hb))
    clear c0 c1 c2 m0 m1 m2 f0 f1 f2;have HM2:=hid (HM1.out.put (x:=x));have HV2:=hid (HM1.out.2.2.put (x:=x) |>.2.1 _ _ (HVX.out.later HBB.out));go_wp2_with fail;go_roundw
    case rel=>exact⟨k+1,by omega,hkl,by go_num,x,HM2,hid ⟨by rw[HNEW.out.1];exact HV2.out,HNEW.out.2,by rw[HNEW.out.1];exact HQQ.out⟩⟩
    case measure=>simp[intOf];omega
   ·have HNEW:Hid (qlb (qs.take (k+1))=mq∧qs.take (k+1)≠[]):=hid ⟨by rw[HTK.out,HSN.out,if_neg (fun h=>hr (HCMP.out.2 h))],by rw[HTK.out];simp⟩
    go_wp2_with fail
    go_region_held3 (fun W=>W.cell? ⟨b,o+k*3,none⟩=some (.bool x.b)∧W.cell? ⟨b,o+k*3+1,none⟩=some (.slice x.p x.k x.c)∧W.cell? ⟨b,o+k*3+2,none⟩=some (.slice x.q x.j x.d)∧W.cell? ⟨w.heap.size+1,0,none⟩=some (.bool m.b)∧W.cell? ⟨w.heap.size+1,1,none⟩=some (.slice m.p m.k m.c)∧W.cell? ⟨w.heap.size+1,2,none⟩=some (.slice m.q m.j m.d)) (first|with_reducible exact⟨e0,e1,e2,n0,n1,n2⟩|exact⟨c0,c1,c2,m0,m1,m2⟩)
     (first|(go_at_call 36;refine HCALL.out.mono ?_;rintro e w1 ⟨rfl,hb⟩;have HBB:=hid ((Below.refl wr.heap.size wr).drew.trans hb);have HM1:=hid (HM.out.later HBB.out);obtain⟨e0,e1,e2⟩:=HX.out w1 HBB.out;obtain⟨⟨n0,n1,n2⟩,g0,g1,g2⟩:=HM1.out.2.2.cells;clear hb))
    clear c0 c1 c2 m0 m1 m2 f0 f1 f2;have HV2:=hid (HQ.out.1.later HBB.out);go_wp2_with fail;go_roundw
    case rel=>exact⟨k+1,by omega,hkl,by go_num,m,HM1,hid ⟨by rw[HNEW.out.1];exact HV2.out,HNEW.out.2,by rw[HNEW.out.1];exact HQ.out.2.2⟩⟩
    case measure=>simp[intOf];omega
  ·have hkq:k=qs.length:=by omega
   obtain⟨⟨m0,m1,m2⟩,f0,f1,f2⟩:=HM.out.2.2.cells;obtain⟨⟨r0,r1,r2⟩,g0,g1,g2⟩:=HM.out.2.1.cells;have HR:=hid (HM.out.2.1.put (x:=m));have HV:Hid (qaj wr (.agg #[.bool m.b,.slice m.p m.k m.c,.slice m.q m.j m.d]) (qlb qs)):=hid (by have:=HQ.out.1;rwa [hkq,List.take_length] at this);have HB:=hid HM.out.1;clear HQ hkq;go_wp2_with fail;refine bodyPost_ret (v := .agg #[.bool m.b,.slice m.p m.k m.c,.slice m.q m.j m.d]) ?_ rfl ?_
   ·simp[results,Tryz.results105,go_sem,r0,r1,r2]
   ·exact⟨⟨_,rfl,HR.out.2.1 _ _ HV.out⟩,HR.out.2.2.1 _ _ (Nat.le_refl _) HB.out⟩
theorem qwe{W:World}{z1 z2 z3 z4:NV}{q1 q2 q3 q4:Rat}(ty:TypeId)(h1:qaj W (.agg #[.bool z1.b,.slice z1.p z1.k z1.c,.slice z1.q z1.j z1.d]) q1)(h2:qaj W (.agg #[.bool z2.b,.slice z2.p z2.k z2.c,.slice z2.q z2.j z2.d]) q2)(h3:qaj W (.agg #[.bool z3.b,.slice z3.p z3.k z3.c,.slice z3.q z3.j z3.d]) q3)(h4:qaj W (.agg #[.bool z4.b,.slice z4.p z4.k z4.c,.slice z4.q z4.j z4.d]) q4):
  qh0 (W.alloc (.cells #[.bool z1.b,.slice z1.p z1.k z1.c,.slice z1.q z1.j z1.d,.bool z2.b,.slice z2.p z2.k z2.c,.slice z2.q z2.j z2.d,.bool z3.b,.slice z3.p z3.k z3.c,.slice z3.q z3.j z3.d,.bool z4.b,.slice z4.p z4.k z4.c,.slice z4.q z4.j z4.d] ty)) W.heap.size 0 [q1,q2,q3,q4]:=by
 have hal:Below W.heap.size W (W.alloc (.cells #[.bool z1.b,.slice z1.p z1.k z1.c,.slice z1.q z1.j z1.d,.bool z2.b,.slice z2.p z2.k z2.c,.slice z2.q z2.j z2.d,.bool z3.b,.slice z3.p z3.k z3.c,.slice z3.q z3.j z3.d,.bool z4.b,.slice z4.p z4.k z4.c,.slice z4.q z4.j z4.d] ty)):=(Below.refl _ _).alloc (Nat.le_refl _) _;intro j q hq
 match j,hq with
 | 0,hq=>cases hq;refine⟨z1.b,z1.p,z1.k,z1.c,z1.q,z1.j,z1.d, ?_, ?_, ?_,h1.later hal⟩<;>(rw[World.cell?_alloc_at _ _ _ _ rfl];rfl)
 | 1,hq=>cases hq;refine⟨z2.b,z2.p,z2.k,z2.c,z2.q,z2.j,z2.d, ?_, ?_, ?_,h2.later hal⟩<;>(rw[World.cell?_alloc_at _ _ _ _ rfl];rfl)
 | 2,hq=>cases hq;refine⟨z3.b,z3.p,z3.k,z3.c,z3.q,z3.j,z3.d, ?_, ?_, ?_,h3.later hal⟩<;>(rw[World.cell?_alloc_at _ _ _ _ rfl];rfl)
 | 3,hq=>cases hq;refine⟨z4.b,z4.p,z4.k,z4.c,z4.q,z4.j,z4.d, ?_, ?_, ?_,h4.later hal⟩<;>(rw[World.cell?_alloc_at _ _ _ _ rfl];rfl)
theorem qh0.later{w w':World}{b o:Nat}{qs:List Rat}(h:qh0 w b o qs)(hb:Below w.heap.size w w'):qh0 w' b o qs:=fun j q hj=>by
 obtain⟨sg,p1,k1,c1,p2,k2,c2,e0,e1,e2,hv⟩:=h j q hj;refine⟨sg,p1,k1,c1,p2,k2,c2, ?_, ?_, ?_,hv.later hb⟩
 ·rw[hb.cell (World.block_lt_of_cell? w _ e0)];exact e0
 ·rw[hb.cell (World.block_lt_of_cell? w _ e1)];exact e1
 ·rw[hb.cell (World.block_lt_of_cell? w _ e2)];exact e2
theorem qwf(va vb:Value)(a b c d:Rat)(w:World)(m:Nat)(ha:qg1 w va a b)(hb:qg1 w vb c d)(ba:bd a m)(bb:bd b m)(bc:bd c m)(bdd:bd d m)(hm:m≤1048576):
  Calls Tryz.prog 61 #[va,vb] w fun e w'=>(∃v',e = .returned v'∧qg1 w' v' (qlz [a*c,a*d,b*c,b*d]) (qlb [a*c,a*d,b*c,b*d]))∧Below w.heap.size w w':=by
 obtain⟨x,y,rfl,hx,hy⟩:=ha.nv;obtain⟨x',y',rfl,hx',hy'⟩:=hb.nv;have ra:=ba.rs;have rb:=bb.rs;have rc:=bc.rs;have rd:=bdd.rs;have HW0:=hid (qx8 w x y x' y' 82 82 82)
 have HP1:Hid (∀W,qs2 w x y x' y' W→Calls Tryz.prog 40 #[.agg #[.bool x.b,.slice x.p x.k x.c,.slice x.q x.j x.d],.agg #[.bool x'.b,.slice x'.p x'.k x'.c,.slice x'.q x'.j x'.d]] W fun e w'=>(∃z:NV,e = .returned (.agg #[.bool z.b,.slice z.p z.k z.c,.slice z.q z.j z.d])∧qaj w' (.agg #[.bool z.b,.slice z.p z.k z.c,.slice z.q z.j z.d]) (a*c))∧qs2 w x y x' y' w'∧Below W.heap.size W w'):=
  hid fun W hW=>qm7 (_R:=fun _=>True) hW (qd3 _ _ _ _ W (hx.later hW.1) (hx'.later hW.1) (by unfold Cap at *;omega))
 have HP2:Hid (∀W,qs2 w x y x' y' W→Calls Tryz.prog 40 #[.agg #[.bool x.b,.slice x.p x.k x.c,.slice x.q x.j x.d],.agg #[.bool y'.b,.slice y'.p y'.k y'.c,.slice y'.q y'.j y'.d]] W fun e w'=>(∃z:NV,e = .returned (.agg #[.bool z.b,.slice z.p z.k z.c,.slice z.q z.j z.d])∧qaj w' (.agg #[.bool z.b,.slice z.p z.k z.c,.slice z.q z.j z.d]) (a*d))∧qs2 w x y x' y' w'∧Below W.heap.size W w'):=
  hid fun W hW=>qm7 (_R:=fun _=>True) hW (qd3 _ _ _ _ W (hx.later hW.1) (hy'.later hW.1) (by unfold Cap at *;omega))
 have HP3:Hid (∀W,qs2 w x y x' y' W→Calls Tryz.prog 40 #[.agg #[.bool y.b,.slice y.p y.k y.c,.slice y.q y.j y.d],.agg #[.bool x'.b,.slice x'.p x'.k x'.c,.slice x'.q x'.j x'.d]] W fun e w'=>(∃z:NV,e = .returned (.agg #[.bool z.b,.slice z.p z.k z.c,.slice z.q z.j z.d])∧qaj w' (.agg #[.bool z.b,.slice z.p z.k z.c,.slice z.q z.j z.d]) (b*c))∧qs2 w x y x' y' w'∧Below W.heap.size W w'):=
  hid fun W hW=>qm7 (_R:=fun _=>True) hW (qd3 _ _ _ _ W (hy.later hW.1) (hx'.later hW.1) (by unfold Cap at *;omega))
 have HP4:Hid (∀W,qs2 w x y x' y' W→Calls Tryz.prog 40 #[.agg #[.bool y.b,.slice y.p y.k y.c,.slice y.q y.j y.d],.agg #[.bool y'.b,.slice y'.p y'.k y'.c,.slice y'.q y'.j y'.d]] W fun e w'=>(∃z:NV,e = .returned (.agg #[.bool z.b,.slice z.p z.k z.c,.slice z.q z.j z.d])∧qaj w' (.agg #[.bool z.b,.slice z.p z.k z.c,.slice z.q z.j z.d]) (b*d))∧qs2 w x y x' y' w'∧Below W.heap.size W w'):=
  hid fun W hW=>qm7 (_R:=fun _=>True) hW (qd3 _ _ _ _ W (hy.later hW.1) (hy'.later hW.1) (by unfold Cap at *;omega))
 have HRS:Hid (∀p ∈ [a*c,a*d,b*c,b*d],∀q ∈ [a*c,a*d,b*c,b*d],rs p+rs q≤Cap):=hid (by
  have h1:=(qe8 ba bc).rs;have h2:=(qe8 ba bdd).rs;have h3:=(qe8 bb bc).rs;have h4:=(qe8 bb bdd).rs
  have key:∀p ∈ [a*c,a*d,b*c,b*d],rs p≤m+m+(m+m):=by
   intro p hp;simp only[List.mem_cons,List.not_mem_nil,or_false] at hp;rcases hp with rfl|rfl|rfl|rfl<;>assumption
  intro p hp q hq;have:=key p hp;have:=key q hq;unfold Cap
  omega)
 clear hx hy hx' hy' ha hb ba bb bc bdd ra rb rc rd hm;generalize a*c=q1 at *;generalize a*d=q2 at *;generalize b*c=q3 at *;generalize b*d=q4 at *;go_enter Tryz.func61,Tryz.ntmps61;go_wp2_with fail;generalize ((w.alloc (.cells #[.bool x.b,.slice x.p x.k x.c,.slice x.q x.j x.d,.bool y.b,.slice y.p y.k y.c,.slice y.q y.j y.d] 82)).alloc (.cells #[.bool x'.b,.slice x'.p x'.k x'.c,.slice x'.q x'.j x'.d,.bool y'.b,.slice y'.p y'.k y'.c,.slice y'.q y'.j y'.d] 82)).alloc (.cells #[.bool false,.slice none 0 0,.slice none 0 0,.bool false,.slice none 0 0,.slice none 0 0] 82)=w0 at *;have HT0:=hid (HW0.out.later ((Below.refl _ _).drew));have c0:=HT0.out.2.1.cells;have d0:=HT0.out.2.2.1.cells
 go_region_held3 (fun W=>W.cell? ⟨w.heap.size,0,none⟩=some (.bool x.b)∧W.cell? ⟨w.heap.size,1,none⟩=some (.slice x.p x.k x.c)∧W.cell? ⟨w.heap.size,2,none⟩=some (.slice x.q x.j x.d)∧W.cell? ⟨w.heap.size,3,none⟩=some (.bool y.b)∧W.cell? ⟨w.heap.size,4,none⟩=some (.slice y.p y.k y.c)∧W.cell? ⟨w.heap.size,5,none⟩=some (.slice y.q y.j y.d)∧W.cell? ⟨w.heap.size+1,0,none⟩=some (.bool x'.b)∧W.cell? ⟨w.heap.size+1,1,none⟩=some (.slice x'.p x'.k x'.c)∧W.cell? ⟨w.heap.size+1,2,none⟩=some (.slice x'.q x'.j x'.d)∧W.cell? ⟨w.heap.size+1,3,none⟩=some (.bool y'.b)∧W.cell? ⟨w.heap.size+1,4,none⟩=some (.slice y'.p y'.k y'.c)∧W.cell? ⟨w.heap.size+1,5,none⟩=some (.slice y'.q y'.j y'.d)) (first|with_reducible exact⟨c0.1,c0.2.1,c0.2.2.1,c0.2.2.2.1,c0.2.2.2.2.1,c0.2.2.2.2.2,d0⟩|with_reducible exact⟨c1.1,c1.2.1,c1.2.2.1,c1.2.2.2.1,c1.2.2.2.2.1,c1.2.2.2.2.2,d1⟩|with_reducible exact⟨c2.1,c2.2.1,c2.2.2.1,c2.2.2.2.1,c2.2.2.2.2.1,c2.2.2.2.2.2,d2⟩|with_reducible exact⟨c3.1,c3.2.1,c3.2.2.1,c3.2.2.2.1,c3.2.2.2.2.1,c3.2.2.2.2.2,d3⟩|with_reducible exact⟨c4.1,c4.2.1,c4.2.2.1,c4.2.2.2.1,c4.2.2.2.2.1,c4.2.2.2.2.2,d4⟩|with_reducible exact⟨c5.1,c5.2.1,c5.2.2.1,c5.2.2.2.1,c5.2.2.2.2.1,c5.2.2.2.2.2,d5⟩)
  (first
   | (go_at_call 40;first
     | ((with_reducible refine(HP1.out _ HT0.out).mono ?_);rintro e wL1 ⟨⟨z1,rfl,hn⟩,ht,hb⟩;have HV1_1:=hid hn;have HT1:=hid ht;have c1:=ht.2.1.cells;have d1:=ht.2.2.1.cells;clear hn ht hb)
     | ((with_reducible refine(HP2.out _ HT1.out).mono ?_);rintro e wL2 ⟨⟨z2,rfl,hn⟩,ht,hb⟩;have HV2_2:=hid hn;have HV1_2:=hid (HV1_1.out.later hb);have HT2:=hid ht;have c2:=ht.2.1.cells;have d2:=ht.2.2.1.cells;clear hn ht hb)
     | ((with_reducible refine(HP3.out _ HT2.out).mono ?_);rintro e wL3 ⟨⟨z3,rfl,hn⟩,ht,hb⟩;have HV3_3:=hid hn;have HV1_3:=hid (HV1_2.out.later hb);have HV2_3:=hid (HV2_2.out.later hb);have HT3:=hid ht;have c3:=ht.2.1.cells;have d3:=ht.2.2.1.cells;clear hn ht hb)
     | ((with_reducible refine(HP4.out _ HT3.out).mono ?_);rintro e wL4 ⟨⟨z4,rfl,hn⟩,ht,hb⟩;have HV4_4:=hid hn;have HV1_4:=hid (HV1_3.out.later hb);have HV2_4:=hid (HV2_3.out.later hb);have HV3_4:=hid (HV3_3.out.later hb);have HT4:=hid ht;have c4:=ht.2.1.cells;have d4:=ht.2.2.1.cells;have HAL5:Hid (Below wL4.heap.size wL4 (wL4.alloc (.cells #[.bool z1.b,.slice z1.p z1.k z1.c,.slice z1.q z1.j z1.d,.bool z2.b,.slice z2.p z2.k z2.c,.slice z2.q z2.j z2.d,.bool z3.b,.slice z3.p z3.k z3.c,.slice z3.q z3.j z3.d,.bool z4.b,.slice z4.p z4.k z4.c,.slice z4.q z4.j z4.d] 80))):=hid ((Below.refl _ _).alloc (Nat.le_refl _) _);have HT5:=hid (ht.later HAL5.out);have c5:=HT5.out.2.1.cells;have d5:=HT5.out.2.2.1.cells;clear hn ht hb)))
 clear c0 d0 c1 d1 c2 d2 c3 d3 c4 d4 c5 d5;have HNA:=hid (qwe 80 HV1_4.out HV2_4.out HV3_4.out HV4_4.out);have HMI:=hid (qwc [q1,q2,q3,q4] wL4.heap.size 0 4 _ HNA.out (by simp) (by simp) HRS.out);have HMA:Hid (∀W,Below (wL4.alloc (.cells #[.bool z1.b,.slice z1.p z1.k z1.c,.slice z1.q z1.j z1.d,.bool z2.b,.slice z2.p z2.k z2.c,.slice z2.q z2.j z2.d,.bool z3.b,.slice z3.p z3.k z3.c,.slice z3.q z3.j z3.d,.bool z4.b,.slice z4.p z4.k z4.c,.slice z4.q z4.j z4.d] 80)).heap.size (wL4.alloc (.cells #[.bool z1.b,.slice z1.p z1.k z1.c,.slice z1.q z1.j z1.d,.bool z2.b,.slice z2.p z2.k z2.c,.slice z2.q z2.j z2.d,.bool z3.b,.slice z3.p z3.k z3.c,.slice z3.q z3.j z3.d,.bool z4.b,.slice z4.p z4.k z4.c,.slice z4.q z4.j z4.d] 80)) W→Calls Tryz.prog 105 #[.slice (some ⟨wL4.heap.size,0,none⟩) 4 4,.func (.func 36) #[] #[]] W fun e w'=>(∃v',e = .returned v'∧qaj w' v' (qlb [q1,q2,q3,q4]))∧Below W.heap.size W w'):=hid fun W hW=>qwd [q1,q2,q3,q4] wL4.heap.size 0 4 W (HNA.out.later hW) (by simp) (by simp) HRS.out;clear HV1_1 HV1_2 HV1_3 HV1_4 HV2_2 HV2_3 HV2_4 HV3_3 HV3_4 HV4_4 HT0 HT1 HT2 HT3 HRS HP1 HP2 HP3 HP4;go_wp2_with fail;refine HMI.out.mono ?_;rintro e w5 ⟨⟨v5,rfl,hn⟩,hb⟩;obtain⟨y5,rfl⟩:=hn.nv;have HM5:=hid hn;have HB5:=hid hb;have HT6:=hid (HT5.out.later hb);clear hn hb HMI;go_wp2_with fail;refine(HMA.out _ HB5.out).mono ?_;rintro e w6 ⟨⟨v6,rfl,hn⟩,hb⟩;obtain⟨y6,rfl⟩:=hn.nv;have HM6:=hid hn;have HL6:=hid (HM5.out.later hb);have HT7:=hid (HT6.out.later hb);obtain⟨⟨r0,g0⟩,⟨r1,g1⟩,⟨r2,g2⟩,⟨r3,g3⟩,⟨r4,g4⟩,⟨r5,g5⟩⟩:=qbm HT7.out.2.2.2;have hst:=qhz HT7.out.2.2.2 (.bool y5.b) (.slice y5.p y5.k y5.c) (.slice y5.q y5.j y5.d) (.bool y6.b) (.slice y6.p y6.k y6.c) (.slice y6.q y6.j y6.d);have HN:=hid (qgd (hst.1 _ _ HL6.out) (hst.1 _ _ HM6.out))
 have HB:=hid (hst.2 w.heap.size w (by omega) HT7.out.1);clear hn hb hst HMA;go_wp2_with fail;refine bodyPost_ret (v := .agg #[.bool y5.b,.slice y5.p y5.k y5.c,.slice y5.q y5.j y5.d,.bool y6.b,.slice y6.p y6.k y6.c,.slice y6.q y6.j y6.d]) ?_ rfl ?_
 ·simp[results,Tryz.results61,go_sem,r0,r1,r2,r3,r4,r5]
 ·exact⟨⟨_,rfl,HN.out⟩,HB.out⟩
end Go.Proofs.YthjagoogkkgelaaGreatDoor
