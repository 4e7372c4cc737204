/- slices.MinFunc and slices.MaxFunc of numbers. -/
import Derived.Test.YtmcfcpgglfimjaaGreatDoorMNv
set_option linter.all false
namespace Go.Proofs.YtmcfcpgglfimjaaGreatDoor
open Go.RowKit
set_option maxRecDepth 100000
set_option maxHeartbeats 4000000
def qlp:List Rat→Rat
 | []=>0
 | q::l=>l.foldl (fun m a=>if a<m then a else m) q
def qkx:List Rat→Rat
 | []=>0
 | q::l=>l.foldl (fun m a=>if m<a then a else m) q
theorem q2t(l:List Rat)(a:Rat)(h:l≠[]):qlp (l++[a])=if a<qlp l then a else qlp l:=by
 cases l with
 | nil=>exact absurd rfl h
 | cons q l=>show(l++[a]).foldl _ q=_;rw[List.foldl_append];rfl
theorem q2u(l:List Rat)(a:Rat)(h:l≠[]):qkx (l++[a])=if qkx l<a then a else qkx l:=by
 cases l with
 | nil=>exact absurd rfl h
 | cons q l=>show(l++[a]).foldl _ q=_;rw[List.foldl_append];rfl
def One(W:World)(g:Nat)(x:NV):Prop:=Own W g 3 (qcr x.b (.slice x.p x.k x.c) (.slice x.q x.j x.d))
abbrev qnh(g o:Nat)(x:NV)(W:World):Prop:=
 W.cell? ⟨g,o,none⟩=some (.bool x.b)∧W.cell? ⟨g,o+1,none⟩=some (.slice x.p x.k x.c)∧W.cell? ⟨g,o+2,none⟩=some (.slice x.q x.j x.d)
theorem One.cells{W:World}{g:Nat}{x:NV}(h:One W g x):(W.cell? ⟨g,0,none⟩=some (.bool x.b)∧W.cell? ⟨g,1,none⟩=some (.slice x.p x.k x.c)∧W.cell? ⟨g,2,none⟩=some (.slice x.q x.j x.d))∧W.frozen? ⟨g,0,none⟩=false∧W.frozen? ⟨g,1,none⟩=false∧W.frozen? ⟨g,2,none⟩=false:=
 ⟨⟨(h.2 0 (by omega)).1,(h.2 1 (by omega)).1,(h.2 2 (by omega)).1⟩,(h.2 0 (by omega)).2,(h.2 1 (by omega)).2,(h.2 2 (by omega)).2⟩
theorem qgj(w:World)(x:NV):One (w.alloc (.cells #[.bool x.b,.slice x.p x.k x.c,.slice x.q x.j x.d] 85)) w.heap.size x:=qqm _ _ _ _
theorem One.put{W:World}{g:Nat}{m x:NV}(h:One W g m):
  One (((W.setCell ⟨g,0,none⟩ (.bool x.b)).setCell ⟨g,1,none⟩ (.slice x.p x.k x.c)).setCell ⟨g,2,none⟩ (.slice x.q x.j x.d)) g x∧
  (∀v q,qaw W v q→qaw (((W.setCell ⟨g,0,none⟩ (.bool x.b)).setCell ⟨g,1,none⟩ (.slice x.p x.k x.c)).setCell ⟨g,2,none⟩ (.slice x.q x.j x.d)) v q)∧
  (∀B w0,B≤g→Below B w0 W→Below B w0 (((W.setCell ⟨g,0,none⟩ (.bool x.b)).setCell ⟨g,1,none⟩ (.slice x.p x.k x.c)).setCell ⟨g,2,none⟩ (.slice x.q x.j x.d)))∧
  (∀g' n f,g'≠g→Own W g' n f→Own (((W.setCell ⟨g,0,none⟩ (.bool x.b)).setCell ⟨g,1,none⟩ (.slice x.p x.k x.c)).setCell ⟨g,2,none⟩ (.slice x.q x.j x.d)) g' n f):=by
 have o1:=Own.set h 0 (by omega) (.bool x.b);have o2:=o1.set 1 (by omega) (.slice x.p x.k x.c);have o3:=o2.set 2 (by omega) (.slice x.q x.j x.d);refine⟨o3.congr fun i hi => ?_,fun v q hv => ?_,fun B w0 hB hb => ?_,fun g' n f hne ho => ?_⟩
 ·match i,hi with
  | 0,_=>rfl
  | 1,_=>rfl
  | 2,_=>rfl
 ·have h1:=qbl hv h 0 (by omega) (by intro k z e;cases e) (.bool x.b)
  have h2:=qbl h1 o1 1 (by omega) (by intro k z e;cases e) (.slice x.p x.k x.c);exact qbl h2 o2 2 (by omega) (by intro k z e;cases e) (.slice x.q x.j x.d)
 ·exact((hb.setCell (p:=⟨g,0,none⟩) hB _).setCell (p:=⟨g,1,none⟩) hB _).setCell (p:=⟨g,2,none⟩) hB _
 ·exact((((qfb.refl g W).set _ _).set _ _).set _ _).own ho hne
theorem qhn.nv{W:World}{b o:Nat}{qs:List Rat}(h:qhn W b o qs)(j:Nat)(q:Rat)(hq:qs[j]? = some q):∃x:NV,qnh b (o+j*3) x W∧qaw W (.agg #[.bool x.b,.slice x.p x.k x.c,.slice x.q x.j x.d]) q:=by
 obtain⟨sg,p1,k1,c1,p2,k2,c2,e0,e1,e2,hv⟩:=h j q hq;exact⟨⟨sg,p1,k1,c1,p2,k2,c2⟩,⟨e0,e1,e2⟩,hv⟩
theorem qnh.later{w W:World}{b o:Nat}{x:NV}(h:qnh b o x w)(hb:Below w.heap.size w W):qnh b o x W:=by
 obtain⟨e0,e1,e2⟩:=h;refine⟨?_, ?_, ?_⟩
 ·rw[hb.cell (qaf w _ e0)];exact e0
 ·rw[hb.cell (qaf w _ e1)];exact e1
 ·rw[hb.cell (qaf w _ e2)];exact e2
def q52(w:World)(m:NV)(W:World):Prop:=
 Below w.heap.size w W∧One W w.heap.size ⟨false,none,0,0,none,0,0⟩∧One W (w.heap.size+1) m
theorem q52.later{w W W':World}{m:NV}(h:q52 w m W)(hb:Below W.heap.size W W'):q52 w m W':=
 ⟨h.1.trans (hb.mono h.1.size),h.2.1.later (hb.mono h.2.1.1),h.2.2.later (hb.mono h.2.2.1)⟩
theorem qxo(w:World)(x:NV):q52 w x ((w.alloc (.cells #[.bool false,.slice none 0 0,.slice none 0 0] 85)).alloc (.cells #[.bool x.b,.slice x.p x.k x.c,.slice x.q x.j x.d] 85)):=by
 have h1:Below w.heap.size w (w.alloc (.cells #[.bool false,.slice none 0 0,.slice none 0 0] 85)):=qad _ _;have o1:=qqm w false (.slice none 0 0) (.slice none 0 0);have o2:=qqm (w.alloc (.cells #[.bool false,.slice none 0 0,.slice none 0 0] 85)) x.b (.slice x.p x.k x.c) (.slice x.q x.j x.d);rw[qab] at o2;exact⟨h1.alloc (by rw[qab];omega) _,o1.later ((qaa _ _).alloc (by rw[qab];omega) _),o2⟩
theorem q52.put{w W:World}{m x:NV}(h:q52 w m W):
  q52 w x (((W.setCell ⟨w.heap.size+1,0,none⟩ (.bool x.b)).setCell ⟨w.heap.size+1,1,none⟩ (.slice x.p x.k x.c)).setCell ⟨w.heap.size+1,2,none⟩ (.slice x.q x.j x.d)):=
 ⟨h.2.2.put.2.2.1 _ _ (by omega) h.1,h.2.2.put.2.2.2 _ _ _ (by omega) h.2.1,h.2.2.put.1⟩
theorem qv3(qs:List Rat)(b o c:Nat)(w:World)(aB:qhn w b o qs)(kK:1≤qs.length)(hl:qs.length≤1048576)(hs:∀p ∈ qs,∀q ∈ qs,rs p+rs q≤Cap):
  Calls Tryz.prog 96 #[.slice (some ⟨b,o,none⟩) qs.length c,.func (.func 49) #[] #[]] w fun e w'=>(∃v',e = .returned v'∧qaw w' v' (qlp qs))∧Below w.heap.size w w':=by
 have bP:=hid aB;have HS:=hid hs;obtain⟨q0,oU⟩:∃q,qs[0]? = some q:=⟨qs[0],qat kK⟩;obtain⟨x0,oZ,lW⟩:=aB.nv 0 q0 oU;have qI:=qxo w x0;have aD:Below w.heap.size w (w.alloc (.cells #[.bool false,.slice none 0 0,.slice none 0 0] 85)):=qad _ _;obtain⟨c0,c1,c2⟩:=qnh.later oZ aD;rw[Nat.zero_mul,Nat.add_zero] at c0 c1 c2;have sM:=hid (lW.later qI.1);have HQM:Hid (q0 ∈ qs):=hid (qbj oU);have aO:=hid qI
 have cW:Hid (qlp (qs.take 1)=q0∧qs.take 1≠[]):=hid (by
  cases qs with
  | nil=>simp at kK
  | cons a t=>simp at oU;subst oU;simp[qlp])
 have eE:decide (qs.length<1)=false:=qae (by omega);have hnl:¬((qs.length:Int)<1):=by omega
 have jN:0<qs.length:=kK;clear aB hs lW qI oU;go_enter Tryz.func96,Tryz.ntmps96;go_wp2_with fail;clear c0 c1 c2
 go_loopw [6] (fun i wr=>∃k:Nat,1≤k∧k≤qs.length∧i = .int .i64 k∧∃m:NV,Hid (q52 w m wr)∧Hid (qaw wr (.agg #[.bool m.b,.slice m.p m.k m.c,.slice m.q m.j m.d]) (qlp (qs.take k))∧qs.take k≠[]∧qlp (qs.take k) ∈ qs)) (fun i _=>qs.length-(intOf i).toNat)
 case atStart=>exact⟨1,qac _,kK,rfl,x0,aO,hid ⟨by rw[cW.out.1];exact sM.out,cW.out.2,by rw[cW.out.1];exact HQM.out⟩⟩
 case round=>
  obtain⟨k,lA,hk,rfl,m,HM,HQ⟩:=hrel;by_cases cQ:k<qs.length
  ·obtain⟨q,sC⟩:∃q,qs[k]? = some q:=⟨qs[k],qat cQ⟩
   obtain⟨x,hx,hv⟩:=bP.out.nv k q sC;have hd:Below wr.heap.size wr wr.drew:=(qaa _ _).drew;have HX:Hid (∀W,Below wr.heap.size wr W→qnh b (o+k*3) x W):=hid fun W hW=>(hx.later HM.out.1).later hW;have fW:=hid (hv.later HM.out.1);have gV:Hid (qs.take (k+1)=qs.take k++[q]):=hid (qbp sC);have kW:Hid (q ∈ qs):=hid (qbj sC);have jD:=hid (q2t (qs.take k) q HQ.out.2.1);have eU:=hid (qdp (.agg #[.bool x.b,.slice x.p x.k x.c,.slice x.q x.j x.d]) (.agg #[.bool m.b,.slice m.p m.k m.c,.slice m.q m.j m.d]) q (qlp (qs.take k)) wr.drew (fW.out.later hd) (HQ.out.1.later hd) (HS.out _ kW.out _ HQ.out.2.2));have kA:=@qo0 q (qlp (qs.take k));have eH:=hid kA;obtain⟨c0,c1,c2⟩:=HX.out wr (qaa _ _);obtain⟨⟨m0,m1,m2⟩,f0,f1,f2⟩:=HM.out.2.2.cells;clear sC hx hv hd kA;generalize qfd q (qlp (qs.take k))=r at *;generalize qlp (qs.take k)=mq at *;by_cases hr:r<0
   ·have bV:Hid (qlp (qs.take (k+1))=q∧qs.take (k+1)≠[]):=hid ⟨by rw[gV.out,jD.out,if_pos (eH.out.1 hr)],by rw[gV.out];simp⟩
    go_wp2_with fail
    go_region_held3 (fun W=>W.cell? ⟨b,o+k*3,none⟩=some (.bool x.b)∧W.cell? ⟨b,o+k*3+1,none⟩=some (.slice x.p x.k x.c)∧W.cell? ⟨b,o+k*3+2,none⟩=some (.slice x.q x.j x.d)∧W.cell? ⟨w.heap.size+1,0,none⟩=some (.bool m.b)∧W.cell? ⟨w.heap.size+1,1,none⟩=some (.slice m.p m.k m.c)∧W.cell? ⟨w.heap.size+1,2,none⟩=some (.slice m.q m.j m.d)) (first|with_reducible exact⟨e0,e1,e2,n0,n1,n2⟩|exact⟨c0,c1,c2,m0,m1,m2⟩)
     (first|(go_at_call 49;refine eU.out.mono ?_;rintro e w1 ⟨rfl,hb⟩;have aV:=hid ((qaa wr.heap.size wr).drew.trans hb);have gK:=hid (HM.out.later aV.out);obtain⟨e0,e1,e2⟩:=HX.out w1 aV.out;obtain⟨⟨n0,n1,n2⟩,g0,g1,g2⟩:=gK.out.2.2.cells;clear hb))
    clear c0 c1 c2 m0 m1 m2 f0 f1 f2;have fF:=hid (gK.out.put (x:=x));have cK:=hid (gK.out.2.2.put (x:=x) |>.2.1 _ _ (fW.out.later aV.out));go_wp2_with fail;go_roundw
    case rel=>exact⟨k+1,by omega,cQ,by go_num,x,fF,hid ⟨by rw[bV.out.1];exact cK.out,bV.out.2,by rw[bV.out.1];exact kW.out⟩⟩
    case measure=>simp[intOf];omega
   ·have bV:Hid (qlp (qs.take (k+1))=mq∧qs.take (k+1)≠[]):=hid ⟨by rw[gV.out,jD.out,if_neg (fun h=>hr (eH.out.2 h))],by rw[gV.out];simp⟩
    go_wp2_with fail
    go_region_held3 (fun W=>W.cell? ⟨b,o+k*3,none⟩=some (.bool x.b)∧W.cell? ⟨b,o+k*3+1,none⟩=some (.slice x.p x.k x.c)∧W.cell? ⟨b,o+k*3+2,none⟩=some (.slice x.q x.j x.d)∧W.cell? ⟨w.heap.size+1,0,none⟩=some (.bool m.b)∧W.cell? ⟨w.heap.size+1,1,none⟩=some (.slice m.p m.k m.c)∧W.cell? ⟨w.heap.size+1,2,none⟩=some (.slice m.q m.j m.d)) (first|with_reducible exact⟨e0,e1,e2,n0,n1,n2⟩|exact⟨c0,c1,c2,m0,m1,m2⟩)
     (first|(go_at_call 49;refine eU.out.mono ?_;rintro e w1 ⟨rfl,hb⟩;have aV:=hid ((qaa wr.heap.size wr).drew.trans hb);have gK:=hid (HM.out.later aV.out);obtain⟨e0,e1,e2⟩:=HX.out w1 aV.out;obtain⟨⟨n0,n1,n2⟩,g0,g1,g2⟩:=gK.out.2.2.cells;clear hb))
    clear c0 c1 c2 m0 m1 m2 f0 f1 f2;have cK:=hid (HQ.out.1.later aV.out);go_wp2_with fail;go_roundw
    case rel=>exact⟨k+1,by omega,cQ,by go_num,m,gK,hid ⟨by rw[bV.out.1];exact cK.out,bV.out.2,by rw[bV.out.1];exact HQ.out.2.2⟩⟩
    case measure=>simp[intOf];omega
  ·have Qt:k=qs.length:=by omega
   obtain⟨⟨m0,m1,m2⟩,f0,f1,f2⟩:=HM.out.2.2.cells;obtain⟨⟨r0,r1,r2⟩,g0,g1,g2⟩:=HM.out.2.1.cells;have HR:=hid (HM.out.2.1.put (x:=m));have HV:Hid (qaw wr (.agg #[.bool m.b,.slice m.p m.k m.c,.slice m.q m.j m.d]) (qlp qs)):=hid (by have:=HQ.out.1;rwa [Qt,List.take_length] at this);have HB:=hid HM.out.1;clear HQ Qt;go_wp2_with fail;refine bodyPost_ret (v := .agg #[.bool m.b,.slice m.p m.k m.c,.slice m.q m.j m.d]) ?_ rfl ?_
   ·simp[results,Tryz.results96,go_sem,r0,r1,r2]
   ·exact⟨⟨_,rfl,HR.out.2.1 _ _ HV.out⟩,HR.out.2.2.1 _ _ (qac _) HB.out⟩
theorem qv4(qs:List Rat)(b o c:Nat)(w:World)(aB:qhn w b o qs)(kK:1≤qs.length)(hl:qs.length≤1048576)(hs:∀p ∈ qs,∀q ∈ qs,rs p+rs q≤Cap):
  Calls Tryz.prog 97 #[.slice (some ⟨b,o,none⟩) qs.length c,.func (.func 49) #[] #[]] w fun e w'=>(∃v',e = .returned v'∧qaw w' v' (qkx qs))∧Below w.heap.size w w':=by
 have bP:=hid aB;have HS:=hid hs;obtain⟨q0,oU⟩:∃q,qs[0]? = some q:=⟨qs[0],qat kK⟩;obtain⟨x0,oZ,lW⟩:=aB.nv 0 q0 oU;have qI:=qxo w x0;have aD:Below w.heap.size w (w.alloc (.cells #[.bool false,.slice none 0 0,.slice none 0 0] 85)):=qad _ _;obtain⟨c0,c1,c2⟩:=qnh.later oZ aD;rw[Nat.zero_mul,Nat.add_zero] at c0 c1 c2;have sM:=hid (lW.later qI.1);have HQM:Hid (q0 ∈ qs):=hid (qbj oU);have aO:=hid qI
 have cW:Hid (qkx (qs.take 1)=q0∧qs.take 1≠[]):=hid (by
  cases qs with
  | nil=>simp at kK
  | cons a t=>simp at oU;subst oU;simp[qkx])
 have eE:decide (qs.length<1)=false:=qae (by omega);have hnl:¬((qs.length:Int)<1):=by omega
 have jN:0<qs.length:=kK;clear aB hs lW qI oU;go_enter Tryz.func97,Tryz.ntmps97;go_wp2_with fail;clear c0 c1 c2
 go_loopw [6] (fun i wr=>∃k:Nat,1≤k∧k≤qs.length∧i = .int .i64 k∧∃m:NV,Hid (q52 w m wr)∧Hid (qaw wr (.agg #[.bool m.b,.slice m.p m.k m.c,.slice m.q m.j m.d]) (qkx (qs.take k))∧qs.take k≠[]∧qkx (qs.take k) ∈ qs)) (fun i _=>qs.length-(intOf i).toNat)
 case atStart=>exact⟨1,qac _,kK,rfl,x0,aO,hid ⟨by rw[cW.out.1];exact sM.out,cW.out.2,by rw[cW.out.1];exact HQM.out⟩⟩
 case round=>
  obtain⟨k,lA,hk,rfl,m,HM,HQ⟩:=hrel;by_cases cQ:k<qs.length
  ·obtain⟨q,sC⟩:∃q,qs[k]? = some q:=⟨qs[k],qat cQ⟩
   obtain⟨x,hx,hv⟩:=bP.out.nv k q sC;have hd:Below wr.heap.size wr wr.drew:=(qaa _ _).drew;have HX:Hid (∀W,Below wr.heap.size wr W→qnh b (o+k*3) x W):=hid fun W hW=>(hx.later HM.out.1).later hW;have fW:=hid (hv.later HM.out.1);have gV:Hid (qs.take (k+1)=qs.take k++[q]):=hid (qbp sC);have kW:Hid (q ∈ qs):=hid (qbj sC);have jD:=hid (q2u (qs.take k) q HQ.out.2.1);have eU:=hid (qdp (.agg #[.bool x.b,.slice x.p x.k x.c,.slice x.q x.j x.d]) (.agg #[.bool m.b,.slice m.p m.k m.c,.slice m.q m.j m.d]) q (qkx (qs.take k)) wr.drew (fW.out.later hd) (HQ.out.1.later hd) (HS.out _ kW.out _ HQ.out.2.2));have kA:=@qvr q (qkx (qs.take k));have eH:=hid kA;obtain⟨c0,c1,c2⟩:=HX.out wr (qaa _ _);obtain⟨⟨m0,m1,m2⟩,f0,f1,f2⟩:=HM.out.2.2.cells;clear sC hx hv hd kA;generalize qfd q (qkx (qs.take k))=r at *;generalize qkx (qs.take k)=mq at *;by_cases hr:0<r
   ·have bV:Hid (qkx (qs.take (k+1))=q∧qs.take (k+1)≠[]):=hid ⟨by rw[gV.out,jD.out,if_pos (eH.out.1 hr)],by rw[gV.out];simp⟩
    go_wp2_with fail
    go_region_held3 (fun W=>W.cell? ⟨b,o+k*3,none⟩=some (.bool x.b)∧W.cell? ⟨b,o+k*3+1,none⟩=some (.slice x.p x.k x.c)∧W.cell? ⟨b,o+k*3+2,none⟩=some (.slice x.q x.j x.d)∧W.cell? ⟨w.heap.size+1,0,none⟩=some (.bool m.b)∧W.cell? ⟨w.heap.size+1,1,none⟩=some (.slice m.p m.k m.c)∧W.cell? ⟨w.heap.size+1,2,none⟩=some (.slice m.q m.j m.d)) (first|with_reducible exact⟨e0,e1,e2,n0,n1,n2⟩|exact⟨c0,c1,c2,m0,m1,m2⟩)
     (first|(go_at_call 49;refine eU.out.mono ?_;rintro e w1 ⟨rfl,hb⟩;have aV:=hid ((qaa wr.heap.size wr).drew.trans hb);have gK:=hid (HM.out.later aV.out);obtain⟨e0,e1,e2⟩:=HX.out w1 aV.out;obtain⟨⟨n0,n1,n2⟩,g0,g1,g2⟩:=gK.out.2.2.cells;clear hb))
    clear c0 c1 c2 m0 m1 m2 f0 f1 f2;have fF:=hid (gK.out.put (x:=x));have cK:=hid (gK.out.2.2.put (x:=x) |>.2.1 _ _ (fW.out.later aV.out));go_wp2_with fail;go_roundw
    case rel=>exact⟨k+1,by omega,cQ,by go_num,x,fF,hid ⟨by rw[bV.out.1];exact cK.out,bV.out.2,by rw[bV.out.1];exact kW.out⟩⟩
    case measure=>simp[intOf];omega
   ·have bV:Hid (qkx (qs.take (k+1))=mq∧qs.take (k+1)≠[]):=hid ⟨by rw[gV.out,jD.out,if_neg (fun h=>hr (eH.out.2 h))],by rw[gV.out];simp⟩
    go_wp2_with fail
    go_region_held3 (fun W=>W.cell? ⟨b,o+k*3,none⟩=some (.bool x.b)∧W.cell? ⟨b,o+k*3+1,none⟩=some (.slice x.p x.k x.c)∧W.cell? ⟨b,o+k*3+2,none⟩=some (.slice x.q x.j x.d)∧W.cell? ⟨w.heap.size+1,0,none⟩=some (.bool m.b)∧W.cell? ⟨w.heap.size+1,1,none⟩=some (.slice m.p m.k m.c)∧W.cell? ⟨w.heap.size+1,2,none⟩=some (.slice m.q m.j m.d)) (first|with_reducible exact⟨e0,e1,e2,n0,n1,n2⟩|exact⟨c0,c1,c2,m0,m1,m2⟩)
     (first|(go_at_call 49;refine eU.out.mono ?_;rintro e w1 ⟨rfl,hb⟩;have aV:=hid ((qaa wr.heap.size wr).drew.trans hb);have gK:=hid (HM.out.later aV.out);obtain⟨e0,e1,e2⟩:=HX.out w1 aV.out;obtain⟨⟨n0,n1,n2⟩,g0,g1,g2⟩:=gK.out.2.2.cells;clear hb))
    clear c0 c1 c2 m0 m1 m2 f0 f1 f2;have cK:=hid (HQ.out.1.later aV.out);go_wp2_with fail;go_roundw
    case rel=>exact⟨k+1,by omega,cQ,by go_num,m,gK,hid ⟨by rw[bV.out.1];exact cK.out,bV.out.2,by rw[bV.out.1];exact HQ.out.2.2⟩⟩
    case measure=>simp[intOf];omega
  ·have Qt:k=qs.length:=by omega
   obtain⟨⟨m0,m1,m2⟩,f0,f1,f2⟩:=HM.out.2.2.cells;obtain⟨⟨r0,r1,r2⟩,g0,g1,g2⟩:=HM.out.2.1.cells;have HR:=hid (HM.out.2.1.put (x:=m));have HV:Hid (qaw wr (.agg #[.bool m.b,.slice m.p m.k m.c,.slice m.q m.j m.d]) (qkx qs)):=hid (by have:=HQ.out.1;rwa [Qt,List.take_length] at this);have HB:=hid HM.out.1;clear HQ Qt;go_wp2_with fail;refine bodyPost_ret (v := .agg #[.bool m.b,.slice m.p m.k m.c,.slice m.q m.j m.d]) ?_ rfl ?_
   ·simp[results,Tryz.results97,go_sem,r0,r1,r2]
   ·exact⟨⟨_,rfl,HR.out.2.1 _ _ HV.out⟩,HR.out.2.2.1 _ _ (qac _) HB.out⟩
theorem qv5{W:World}{z1 z2 z3 z4:NV}{q1 q2 q3 q4:Rat}(ty:TypeId)(h1:qaw W (.agg #[.bool z1.b,.slice z1.p z1.k z1.c,.slice z1.q z1.j z1.d]) q1)(h2:qaw W (.agg #[.bool z2.b,.slice z2.p z2.k z2.c,.slice z2.q z2.j z2.d]) q2)(h3:qaw W (.agg #[.bool z3.b,.slice z3.p z3.k z3.c,.slice z3.q z3.j z3.d]) q3)(h4:qaw W (.agg #[.bool z4.b,.slice z4.p z4.k z4.c,.slice z4.q z4.j z4.d]) q4):
  qhn (W.alloc (.cells #[.bool z1.b,.slice z1.p z1.k z1.c,.slice z1.q z1.j z1.d,.bool z2.b,.slice z2.p z2.k z2.c,.slice z2.q z2.j z2.d,.bool z3.b,.slice z3.p z3.k z3.c,.slice z3.q z3.j z3.d,.bool z4.b,.slice z4.p z4.k z4.c,.slice z4.q z4.j z4.d] ty)) W.heap.size 0 [q1,q2,q3,q4]:=by
 have aD:Below W.heap.size W (W.alloc (.cells #[.bool z1.b,.slice z1.p z1.k z1.c,.slice z1.q z1.j z1.d,.bool z2.b,.slice z2.p z2.k z2.c,.slice z2.q z2.j z2.d,.bool z3.b,.slice z3.p z3.k z3.c,.slice z3.q z3.j z3.d,.bool z4.b,.slice z4.p z4.k z4.c,.slice z4.q z4.j z4.d] ty)):=qad _ _;intro j q hq
 match j,hq with
 | 0,hq=>cases hq;refine⟨z1.b,z1.p,z1.k,z1.c,z1.q,z1.j,z1.d, ?_, ?_, ?_,h1.later aD⟩<;>(rw[World.cell?_alloc_at _ _ _ _ rfl];rfl)
 | 1,hq=>cases hq;refine⟨z2.b,z2.p,z2.k,z2.c,z2.q,z2.j,z2.d, ?_, ?_, ?_,h2.later aD⟩<;>(rw[World.cell?_alloc_at _ _ _ _ rfl];rfl)
 | 2,hq=>cases hq;refine⟨z3.b,z3.p,z3.k,z3.c,z3.q,z3.j,z3.d, ?_, ?_, ?_,h3.later aD⟩<;>(rw[World.cell?_alloc_at _ _ _ _ rfl];rfl)
 | 3,hq=>cases hq;refine⟨z4.b,z4.p,z4.k,z4.c,z4.q,z4.j,z4.d, ?_, ?_, ?_,h4.later aD⟩<;>(rw[World.cell?_alloc_at _ _ _ _ rfl];rfl)
theorem qhn.later{w w':World}{b o:Nat}{qs:List Rat}(h:qhn w b o qs)(hb:Below w.heap.size w w'):qhn w' b o qs:=fun j q hj=>by
 obtain⟨sg,p1,k1,c1,p2,k2,c2,e0,e1,e2,hv⟩:=h j q hj;refine⟨sg,p1,k1,c1,p2,k2,c2, ?_, ?_, ?_,hv.later hb⟩
 ·rw[hb.cell (qaf w _ e0)];exact e0
 ·rw[hb.cell (qaf w _ e1)];exact e1
 ·rw[hb.cell (qaf w _ e2)];exact e2
theorem qv6(va vb:Value)(a b c d:Rat)(w:World)(m:Nat)(ha:qgo w va a b)(hb:qgo w vb c d)(ba:bd a m)(bb:bd b m)(bc:bd c m)(bdd:bd d m)(hm:m≤1048576):
  Calls Tryz.prog 47 #[va,vb] w fun e w'=>(∃v',e = .returned v'∧qgo w' v' (qlp [a*c,a*d,b*c,b*d]) (qkx [a*c,a*d,b*c,b*d]))∧Below w.heap.size w w':=by
 obtain⟨x,y,rfl,hx,hy⟩:=ha.nv;obtain⟨x',y',rfl,hx',hy'⟩:=hb.nv;have ra:=ba.rs;have rb:=bb.rs;have rc:=bc.rs;have rd:=bdd.rs;have aO:=hid (qxm w x y x' y' 101 101 101)
 have wS:Hid (∀W,qsj w x y x' y' W→Calls Tryz.prog 53 #[.agg #[.bool x.b,.slice x.p x.k x.c,.slice x.q x.j x.d],.agg #[.bool x'.b,.slice x'.p x'.k x'.c,.slice x'.q x'.j x'.d]] W fun e w'=>(∃z:NV,e = .returned (.agg #[.bool z.b,.slice z.p z.k z.c,.slice z.q z.j z.d])∧qaw w' (.agg #[.bool z.b,.slice z.p z.k z.c,.slice z.q z.j z.d]) (a*c))∧qsj w x y x' y' w'∧Below W.heap.size W w'):=
  hid fun W hW=>qmu (_R:=fun _=>True) hW (qd5 _ _ _ _ W (hx.later hW.1) (hx'.later hW.1) (by unfold Cap at *;omega))
 have xD:Hid (∀W,qsj w x y x' y' W→Calls Tryz.prog 53 #[.agg #[.bool x.b,.slice x.p x.k x.c,.slice x.q x.j x.d],.agg #[.bool y'.b,.slice y'.p y'.k y'.c,.slice y'.q y'.j y'.d]] W fun e w'=>(∃z:NV,e = .returned (.agg #[.bool z.b,.slice z.p z.k z.c,.slice z.q z.j z.d])∧qaw w' (.agg #[.bool z.b,.slice z.p z.k z.c,.slice z.q z.j z.d]) (a*d))∧qsj w x y x' y' w'∧Below W.heap.size W w'):=
  hid fun W hW=>qmu (_R:=fun _=>True) hW (qd5 _ _ _ _ W (hx.later hW.1) (hy'.later hW.1) (by unfold Cap at *;omega))
 have Hj:Hid (∀W,qsj w x y x' y' W→Calls Tryz.prog 53 #[.agg #[.bool y.b,.slice y.p y.k y.c,.slice y.q y.j y.d],.agg #[.bool x'.b,.slice x'.p x'.k x'.c,.slice x'.q x'.j x'.d]] W fun e w'=>(∃z:NV,e = .returned (.agg #[.bool z.b,.slice z.p z.k z.c,.slice z.q z.j z.d])∧qaw w' (.agg #[.bool z.b,.slice z.p z.k z.c,.slice z.q z.j z.d]) (b*c))∧qsj w x y x' y' w'∧Below W.heap.size W w'):=
  hid fun W hW=>qmu (_R:=fun _=>True) hW (qd5 _ _ _ _ W (hy.later hW.1) (hx'.later hW.1) (by unfold Cap at *;omega))
 have Bv:Hid (∀W,qsj w x y x' y' W→Calls Tryz.prog 53 #[.agg #[.bool y.b,.slice y.p y.k y.c,.slice y.q y.j y.d],.agg #[.bool y'.b,.slice y'.p y'.k y'.c,.slice y'.q y'.j y'.d]] W fun e w'=>(∃z:NV,e = .returned (.agg #[.bool z.b,.slice z.p z.k z.c,.slice z.q z.j z.d])∧qaw w' (.agg #[.bool z.b,.slice z.p z.k z.c,.slice z.q z.j z.d]) (b*d))∧qsj w x y x' y' w'∧Below W.heap.size W w'):=
  hid fun W hW=>qmu (_R:=fun _=>True) hW (qd5 _ _ _ _ W (hy.later hW.1) (hy'.later hW.1) (by unfold Cap at *;omega))
 have dQ:Hid (∀p ∈ [a*c,a*d,b*c,b*d],∀q ∈ [a*c,a*d,b*c,b*d],rs p+rs q≤Cap):=hid (by
  have h1:=(qe0 ba bc).rs;have h2:=(qe0 ba bdd).rs;have h3:=(qe0 bb bc).rs;have h4:=(qe0 bb bdd).rs
  have key:∀p ∈ [a*c,a*d,b*c,b*d],rs p≤m+m+(m+m):=by
   intro p hp;simp only[List.mem_cons,List.not_mem_nil,or_false] at hp;rcases hp with rfl|rfl|rfl|rfl<;>assumption
  intro p hp q hq;have:=key p hp;have:=key q hq;unfold Cap
  omega)
 clear hx hy hx' hy' ha hb ba bb bc bdd ra rb rc rd hm;generalize a*c=q1 at *;generalize a*d=q2 at *;generalize b*c=q3 at *;generalize b*d=q4 at *;go_enter Tryz.func47,Tryz.ntmps47;go_wp2_with fail;generalize ((w.alloc (.cells #[.bool x.b,.slice x.p x.k x.c,.slice x.q x.j x.d,.bool y.b,.slice y.p y.k y.c,.slice y.q y.j y.d] 101)).alloc (.cells #[.bool x'.b,.slice x'.p x'.k x'.c,.slice x'.q x'.j x'.d,.bool y'.b,.slice y'.p y'.k y'.c,.slice y'.q y'.j y'.d] 101)).alloc (.cells #[.bool false,.slice none 0 0,.slice none 0 0,.bool false,.slice none 0 0,.slice none 0 0] 101)=w0 at *;have cF:=hid (aO.out.later ((qaa _ _).drew));have c0:=cF.out.2.1.cells;have d0:=cF.out.2.2.1.cells
 go_region_held3 (fun W=>W.cell? ⟨w.heap.size,0,none⟩=some (.bool x.b)∧W.cell? ⟨w.heap.size,1,none⟩=some (.slice x.p x.k x.c)∧W.cell? ⟨w.heap.size,2,none⟩=some (.slice x.q x.j x.d)∧W.cell? ⟨w.heap.size,3,none⟩=some (.bool y.b)∧W.cell? ⟨w.heap.size,4,none⟩=some (.slice y.p y.k y.c)∧W.cell? ⟨w.heap.size,5,none⟩=some (.slice y.q y.j y.d)∧W.cell? ⟨w.heap.size+1,0,none⟩=some (.bool x'.b)∧W.cell? ⟨w.heap.size+1,1,none⟩=some (.slice x'.p x'.k x'.c)∧W.cell? ⟨w.heap.size+1,2,none⟩=some (.slice x'.q x'.j x'.d)∧W.cell? ⟨w.heap.size+1,3,none⟩=some (.bool y'.b)∧W.cell? ⟨w.heap.size+1,4,none⟩=some (.slice y'.p y'.k y'.c)∧W.cell? ⟨w.heap.size+1,5,none⟩=some (.slice y'.q y'.j y'.d)) (first|with_reducible exact⟨c0.1,c0.2.1,c0.2.2.1,c0.2.2.2.1,c0.2.2.2.2.1,c0.2.2.2.2.2,d0⟩|with_reducible exact⟨c1.1,c1.2.1,c1.2.2.1,c1.2.2.2.1,c1.2.2.2.2.1,c1.2.2.2.2.2,d1⟩|with_reducible exact⟨c2.1,c2.2.1,c2.2.2.1,c2.2.2.2.1,c2.2.2.2.2.1,c2.2.2.2.2.2,d2⟩|with_reducible exact⟨c3.1,c3.2.1,c3.2.2.1,c3.2.2.2.1,c3.2.2.2.2.1,c3.2.2.2.2.2,d3⟩|with_reducible exact⟨c4.1,c4.2.1,c4.2.2.1,c4.2.2.2.1,c4.2.2.2.2.1,c4.2.2.2.2.2,d4⟩|with_reducible exact⟨c5.1,c5.2.1,c5.2.2.1,c5.2.2.2.1,c5.2.2.2.2.1,c5.2.2.2.2.2,d5⟩)
  (first
   | (go_at_call 53;first
     | ((with_reducible refine(wS.out _ cF.out).mono ?_);rintro e wL1 ⟨⟨z1,rfl,hn⟩,ht,hb⟩;have HV1_1:=hid hn;have cW:=hid ht;have c1:=ht.2.1.cells;have d1:=ht.2.2.1.cells;clear hn ht hb)
     | ((with_reducible refine(xD.out _ cW.out).mono ?_);rintro e wL2 ⟨⟨z2,rfl,hn⟩,ht,hb⟩;have HV2_2:=hid hn;have HV1_2:=hid (HV1_1.out.later hb);have gF:=hid ht;have c2:=ht.2.1.cells;have d2:=ht.2.2.1.cells;clear hn ht hb)
     | ((with_reducible refine(Hj.out _ gF.out).mono ?_);rintro e wL3 ⟨⟨z3,rfl,hn⟩,ht,hb⟩;have HV3_3:=hid hn;have HV1_3:=hid (HV1_2.out.later hb);have HV2_3:=hid (HV2_2.out.later hb);have oR:=hid ht;have c3:=ht.2.1.cells;have d3:=ht.2.2.1.cells;clear hn ht hb)
     | ((with_reducible refine(Bv.out _ oR.out).mono ?_);rintro e Fe ⟨⟨z4,rfl,hn⟩,ht,hb⟩;have HV4_4:=hid hn;have HV1_4:=hid (HV1_3.out.later hb);have HV2_4:=hid (HV2_3.out.later hb);have HV3_4:=hid (HV3_3.out.later hb);have Bs:=hid ht;have c4:=ht.2.1.cells;have d4:=ht.2.2.1.cells;have HAL5:Hid (Below Fe.heap.size Fe (Fe.alloc (.cells #[.bool z1.b,.slice z1.p z1.k z1.c,.slice z1.q z1.j z1.d,.bool z2.b,.slice z2.p z2.k z2.c,.slice z2.q z2.j z2.d,.bool z3.b,.slice z3.p z3.k z3.c,.slice z3.q z3.j z3.d,.bool z4.b,.slice z4.p z4.k z4.c,.slice z4.q z4.j z4.d] 85))):=hid (qad _ _);have Ff:=hid (ht.later HAL5.out);have c5:=Ff.out.2.1.cells;have d5:=Ff.out.2.2.1.cells;clear hn ht hb)))
 clear c0 d0 c1 d1 c2 d2 c3 d3 c4 d4 c5 d5;have dN:=hid (qv5 85 HV1_4.out HV2_4.out HV3_4.out HV4_4.out);have Ql:=hid (qv3 [q1,q2,q3,q4] Fe.heap.size 0 4 _ dN.out (by simp) (by simp) dQ.out);have Bq:Hid (∀W,Below (Fe.alloc (.cells #[.bool z1.b,.slice z1.p z1.k z1.c,.slice z1.q z1.j z1.d,.bool z2.b,.slice z2.p z2.k z2.c,.slice z2.q z2.j z2.d,.bool z3.b,.slice z3.p z3.k z3.c,.slice z3.q z3.j z3.d,.bool z4.b,.slice z4.p z4.k z4.c,.slice z4.q z4.j z4.d] 85)).heap.size (Fe.alloc (.cells #[.bool z1.b,.slice z1.p z1.k z1.c,.slice z1.q z1.j z1.d,.bool z2.b,.slice z2.p z2.k z2.c,.slice z2.q z2.j z2.d,.bool z3.b,.slice z3.p z3.k z3.c,.slice z3.q z3.j z3.d,.bool z4.b,.slice z4.p z4.k z4.c,.slice z4.q z4.j z4.d] 85)) W→Calls Tryz.prog 97 #[.slice (some ⟨Fe.heap.size,0,none⟩) 4 4,.func (.func 49) #[] #[]] W fun e w'=>(∃v',e = .returned v'∧qaw w' v' (qkx [q1,q2,q3,q4]))∧Below W.heap.size W w'):=hid fun W hW=>qv4 [q1,q2,q3,q4] Fe.heap.size 0 4 W (dN.out.later hW) (by simp) (by simp) dQ.out;clear HV1_1 HV1_2 HV1_3 HV1_4 HV2_2 HV2_3 HV2_4 HV3_3 HV3_4 HV4_4 cF cW gF oR dQ wS xD Hj Bv;go_wp2_with fail;refine Ql.out.mono ?_;rintro e w5 ⟨⟨v5,rfl,hn⟩,hb⟩;obtain⟨y5,rfl⟩:=hn.nv;have HM5:=hid hn;have nC:=hid hb;have HT6:=hid (Ff.out.later hb);clear hn hb Ql;go_wp2_with fail;refine(Bq.out _ nC.out).mono ?_;rintro e w6 ⟨⟨v6,rfl,hn⟩,hb⟩;obtain⟨y6,rfl⟩:=hn.nv;have Fg:=hid hn;have HL6:=hid (HM5.out.later hb);have Kn:=hid (HT6.out.later hb);obtain⟨⟨r0,g0⟩,⟨r1,g1⟩,⟨r2,g2⟩,⟨r3,g3⟩,⟨r4,g4⟩,⟨r5,g5⟩⟩:=qd3 Kn.out.2.2.2;have jG:=qhm Kn.out.2.2.2 (.bool y5.b) (.slice y5.p y5.k y5.c) (.slice y5.q y5.j y5.d) (.bool y6.b) (.slice y6.p y6.k y6.c) (.slice y6.q y6.j y6.d);have HN:=hid (qib (jG.1 _ _ HL6.out) (jG.1 _ _ Fg.out));have HB:=hid (jG.2 w.heap.size w (by omega) Kn.out.1);clear hn hb jG Bq
 go_wp2_with fail;refine bodyPost_ret (v := .agg #[.bool y5.b,.slice y5.p y5.k y5.c,.slice y5.q y5.j y5.d,.bool y6.b,.slice y6.p y6.k y6.c,.slice y6.q y6.j y6.d]) ?_ rfl ?_
 ·simp[results,Tryz.results47,go_sem,r0,r1,r2,r3,r4,r5]
 ·exact⟨⟨_,rfl,HN.out⟩,HB.out⟩
end Go.Proofs.YtmcfcpgglfimjaaGreatDoor
