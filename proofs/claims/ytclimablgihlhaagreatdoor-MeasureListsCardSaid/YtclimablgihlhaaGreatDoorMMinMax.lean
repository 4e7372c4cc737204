/- slices.MinFunc and slices.MaxFunc of numbers. -/
import Derived.Test.YtclimablgihlhaaGreatDoorMNv
set_option linter.all false
namespace Go.Proofs.YtclimablgihlhaaGreatDoor
open Go.RowKit
set_option maxRecDepth 100000
set_option maxHeartbeats 4000000
def qlm:List Rat→Rat
 | []=>0
 | q::l=>l.foldl (fun m a=>if a<m then a else m) q
def qkp:List Rat→Rat
 | []=>0
 | q::l=>l.foldl (fun m a=>if m<a then a else m) q
theorem q18(l:List Rat)(a:Rat)(h:l≠[]):qlm (l++[a])=if a<qlm l then a else qlm l:=by
 cases l with
 | nil=>exact absurd rfl h
 | cons q l=>show(l++[a]).foldl _ q=_;rw[List.foldl_append];rfl
theorem q19(l:List Rat)(a:Rat)(h:l≠[]):qkp (l++[a])=if qkp l<a then a else qkp l:=by
 cases l with
 | nil=>exact absurd rfl h
 | cons q l=>show(l++[a]).foldl _ q=_;rw[List.foldl_append];rfl
def One(W:World)(g:Nat)(x:NV):Prop:=Own W g 3 (qci x.b (.slice x.p x.k x.c) (.slice x.q x.j x.d))
abbrev qm7(g o:Nat)(x:NV)(W:World):Prop:=
 W.cell? ⟨g,o,none⟩=some (.bool x.b)∧W.cell? ⟨g,o+1,none⟩=some (.slice x.p x.k x.c)∧W.cell? ⟨g,o+2,none⟩=some (.slice x.q x.j x.d)
theorem One.cells{W:World}{g:Nat}{x:NV}(h:One W g x):(W.cell? ⟨g,0,none⟩=some (.bool x.b)∧W.cell? ⟨g,1,none⟩=some (.slice x.p x.k x.c)∧W.cell? ⟨g,2,none⟩=some (.slice x.q x.j x.d))∧W.frozen? ⟨g,0,none⟩=false∧W.frozen? ⟨g,1,none⟩=false∧W.frozen? ⟨g,2,none⟩=false:=
 ⟨⟨(h.2 0 (by omega)).1,(h.2 1 (by omega)).1,(h.2 2 (by omega)).1⟩,(h.2 0 (by omega)).2,(h.2 1 (by omega)).2,(h.2 2 (by omega)).2⟩
theorem qgg(w:World)(x:NV):One (w.alloc (.cells #[.bool x.b,.slice x.p x.k x.c,.slice x.q x.j x.d] 74)) w.heap.size x:=qp7 _ _ _ _
theorem One.put{W:World}{g:Nat}{m x:NV}(h:One W g m):
  One (((W.setCell ⟨g,0,none⟩ (.bool x.b)).setCell ⟨g,1,none⟩ (.slice x.p x.k x.c)).setCell ⟨g,2,none⟩ (.slice x.q x.j x.d)) g x∧
  (∀v q,qaj W v q→qaj (((W.setCell ⟨g,0,none⟩ (.bool x.b)).setCell ⟨g,1,none⟩ (.slice x.p x.k x.c)).setCell ⟨g,2,none⟩ (.slice x.q x.j x.d)) v q)∧
  (∀B w0,B≤g→Below B w0 W→Below B w0 (((W.setCell ⟨g,0,none⟩ (.bool x.b)).setCell ⟨g,1,none⟩ (.slice x.p x.k x.c)).setCell ⟨g,2,none⟩ (.slice x.q x.j x.d)))∧
  (∀g' n f,g'≠g→Own W g' n f→Own (((W.setCell ⟨g,0,none⟩ (.bool x.b)).setCell ⟨g,1,none⟩ (.slice x.p x.k x.c)).setCell ⟨g,2,none⟩ (.slice x.q x.j x.d)) g' n f):=by
 have o1:=Own.set h 0 (by omega) (.bool x.b);have o2:=o1.set 1 (by omega) (.slice x.p x.k x.c);have o3:=o2.set 2 (by omega) (.slice x.q x.j x.d);refine⟨o3.congr fun i hi => ?_,fun v q hv => ?_,fun B w0 hB hb => ?_,fun g' n f hne ho => ?_⟩
 ·match i,hi with
  | 0,_=>rfl
  | 1,_=>rfl
  | 2,_=>rfl
 ·have h1:=qa7 hv h 0 (by omega) (by intro k z e;cases e) (.bool x.b)
  have h2:=qa7 h1 o1 1 (by omega) (by intro k z e;cases e) (.slice x.p x.k x.c);exact qa7 h2 o2 2 (by omega) (by intro k z e;cases e) (.slice x.q x.j x.d)
 ·exact((hb.setCell (p:=⟨g,0,none⟩) hB _).setCell (p:=⟨g,1,none⟩) hB _).setCell (p:=⟨g,2,none⟩) hB _
 ·exact((((qe6.refl g W).set _ _).set _ _).set _ _).own ho hne
theorem qhl.nv{W:World}{b o:Nat}{qs:List Rat}(h:qhl W b o qs)(j:Nat)(q:Rat)(hq:qs[j]? = some q):∃x:NV,qm7 b (o+j*3) x W∧qaj W (.agg #[.bool x.b,.slice x.p x.k x.c,.slice x.q x.j x.d]) q:=by
 obtain⟨sg,p1,k1,c1,p2,k2,c2,e0,e1,e2,hv⟩:=h j q hq;exact⟨⟨sg,p1,k1,c1,p2,k2,c2⟩,⟨e0,e1,e2⟩,hv⟩
theorem qm7.later{w W:World}{b o:Nat}{x:NV}(h:qm7 b o x w)(hb:Below w.heap.size w W):qm7 b o x W:=by
 obtain⟨e0,e1,e2⟩:=h;refine⟨?_, ?_, ?_⟩
 ·rw[hb.cell (zaq w _ e0)];exact e0
 ·rw[hb.cell (zaq w _ e1)];exact e1
 ·rw[hb.cell (zaq w _ e2)];exact e2
def q46(w:World)(m:NV)(W:World):Prop:=
 Below w.heap.size w W∧One W w.heap.size ⟨false,none,0,0,none,0,0⟩∧One W (w.heap.size+1) m
theorem q46.later{w W W':World}{m:NV}(h:q46 w m W)(hb:Below W.heap.size W W'):q46 w m W':=
 ⟨h.1.trans (hb.mono h.1.size),h.2.1.later (hb.mono h.2.1.1),h.2.2.later (hb.mono h.2.2.1)⟩
theorem qw5(w:World)(x:NV):q46 w x ((w.alloc (.cells #[.bool false,.slice none 0 0,.slice none 0 0] 74)).alloc (.cells #[.bool x.b,.slice x.p x.k x.c,.slice x.q x.j x.d] 74)):=by
 have h1:Below w.heap.size w (w.alloc (.cells #[.bool false,.slice none 0 0,.slice none 0 0] 74)):=zam _ _;have o1:=qp7 w false (.slice none 0 0) (.slice none 0 0);have o2:=qp7 (w.alloc (.cells #[.bool false,.slice none 0 0,.slice none 0 0] 74)) x.b (.slice x.p x.k x.c) (.slice x.q x.j x.d);rw[zao] at o2;exact⟨h1.alloc (by rw[zao];omega) _,o1.later ((zan _ _).alloc (by rw[zao];omega) _),o2⟩
theorem q46.put{w W:World}{m x:NV}(h:q46 w m W):
  q46 w x (((W.setCell ⟨w.heap.size+1,0,none⟩ (.bool x.b)).setCell ⟨w.heap.size+1,1,none⟩ (.slice x.p x.k x.c)).setCell ⟨w.heap.size+1,2,none⟩ (.slice x.q x.j x.d)):=
 ⟨h.2.2.put.2.2.1 _ _ (by omega) h.1,h.2.2.put.2.2.2 _ _ _ (by omega) h.2.1,h.2.2.put.1⟩
theorem qvo(qs:List Rat)(b o c:Nat)(w:World)(aB:qhl w b o qs)(lT:1≤qs.length)(hl:qs.length≤1048576)(hs:∀p ∈ qs,∀q ∈ qs,rs p+rs q≤Cap):
  Calls Tryz.prog 99 #[.slice (some ⟨b,o,none⟩) qs.length c,.func (.func 33) #[] #[]] w fun e w'=>(∃v',e = .returned v'∧qaj w' v' (qlm qs))∧Below w.heap.size w w':=by
 have bN:=hid aB;have HS:=hid hs;obtain⟨q0,iC⟩:∃q,qs[0]? = some q:=⟨qs[0],zau lT⟩;obtain⟨x0,oH,pW⟩:=aB.nv 0 q0 iC;have qE:=qw5 w x0;have aD:Below w.heap.size w (w.alloc (.cells #[.bool false,.slice none 0 0,.slice none 0 0] 74)):=zam _ _;obtain⟨c0,c1,c2⟩:=qm7.later oH aD;rw[Nat.zero_mul,Nat.add_zero] at c0 c1 c2;have uE:=hid (pW.later qE.1);have HQM:Hid (q0 ∈ qs):=hid (zax iC);have aO:=hid qE
 have cE:Hid (qlm (qs.take 1)=q0∧qs.take 1≠[]):=hid (by
  cases qs with
  | nil=>simp at lT
  | cons a t=>simp at iC;subst iC;simp[qlm])
 have dL:decide (qs.length<1)=false:=zar (by omega);have hnl:¬((qs.length:Int)<1):=by omega
 have jM:0<qs.length:=lT;clear aB hs pW qE iC;go_enter Tryz.func99,Tryz.ntmps99;go_wp2_with fail;clear c0 c1 c2
 go_loopw [6] (fun i wr=>∃k:Nat,1≤k∧k≤qs.length∧i = .int .i64 k∧∃m:NV,Hid (q46 w m wr)∧Hid (qaj wr (.agg #[.bool m.b,.slice m.p m.k m.c,.slice m.q m.j m.d]) (qlm (qs.take k))∧qs.take k≠[]∧qlm (qs.take k) ∈ qs)) (fun i _=>qs.length-(intOf i).toNat)
 case atStart=>exact⟨1,zap _,lT,rfl,x0,aO,hid ⟨by rw[cE.out.1];exact uE.out,cE.out.2,by rw[cE.out.1];exact HQM.out⟩⟩
 case round=>
  obtain⟨k,kA,hk,rfl,m,HM,HQ⟩:=hrel;by_cases cV:k<qs.length
  ·obtain⟨q,qX⟩:∃q,qs[k]? = some q:=⟨qs[k],zau cV⟩
   obtain⟨x,hx,hv⟩:=bN.out.nv k q qX;have hd:Below wr.heap.size wr wr.drew:=(zan _ _).drew;have HX:Hid (∀W,Below wr.heap.size wr W→qm7 b (o+k*3) x W):=hid fun W hW=>(hx.later HM.out.1).later hW;have gS:=hid (hv.later HM.out.1);have iG:Hid (qs.take (k+1)=qs.take k++[q]):=hid (qcm qX);have kM:Hid (q ∈ qs):=hid (zax qX);have lA:=hid (q18 (qs.take k) q HQ.out.2.1);have fJ:=hid (qb5 (.agg #[.bool x.b,.slice x.p x.k x.c,.slice x.q x.j x.d]) (.agg #[.bool m.b,.slice m.p m.k m.c,.slice m.q m.j m.d]) q (qlm (qs.take k)) wr.drew (gS.out.later hd) (HQ.out.1.later hd) (HS.out _ kM.out _ HQ.out.2.2));have nA:=@qoh q (qlm (qs.take k));have eM:=hid nA;obtain⟨c0,c1,c2⟩:=HX.out wr (zan _ _);obtain⟨⟨m0,m1,m2⟩,f0,f1,f2⟩:=HM.out.2.2.cells;clear qX hx hv hd nA;generalize qcq q (qlm (qs.take k))=r at *;generalize qlm (qs.take k)=mq at *;by_cases hr:r<0
   ·have cH:Hid (qlm (qs.take (k+1))=q∧qs.take (k+1)≠[]):=hid ⟨by rw[iG.out,lA.out,if_pos (eM.out.1 hr)],by rw[iG.out];simp⟩
    go_wp2_with fail
    go_region_held3 (fun W=>W.cell? ⟨b,o+k*3,none⟩=some (.bool x.b)∧W.cell? ⟨b,o+k*3+1,none⟩=some (.slice x.p x.k x.c)∧W.cell? ⟨b,o+k*3+2,none⟩=some (.slice x.q x.j x.d)∧W.cell? ⟨w.heap.size+1,0,none⟩=some (.bool m.b)∧W.cell? ⟨w.heap.size+1,1,none⟩=some (.slice m.p m.k m.c)∧W.cell? ⟨w.heap.size+1,2,none⟩=some (.slice m.q m.j m.d)) (first|with_reducible exact⟨e0,e1,e2,n0,n1,n2⟩|exact⟨c0,c1,c2,m0,m1,m2⟩)
     (first|(go_at_call 33;refine fJ.out.mono ?_;rintro e w1 ⟨rfl,hb⟩;have aX:=hid ((zan wr.heap.size wr).drew.trans hb);have hJ:=hid (HM.out.later aX.out);obtain⟨e0,e1,e2⟩:=HX.out w1 aX.out;obtain⟨⟨n0,n1,n2⟩,g0,g1,g2⟩:=hJ.out.2.2.cells;clear hb))
    clear c0 c1 c2 m0 m1 m2 f0 f1 f2;have fE:=hid (hJ.out.put (x:=x));have cO:=hid (hJ.out.2.2.put (x:=x) |>.2.1 _ _ (gS.out.later aX.out));go_wp2_with fail;go_roundw
    case rel=>exact⟨k+1,by omega,cV,by go_num,x,fE,hid ⟨by rw[cH.out.1];exact cO.out,cH.out.2,by rw[cH.out.1];exact kM.out⟩⟩
    case measure=>simp[intOf];omega
   ·have cH:Hid (qlm (qs.take (k+1))=mq∧qs.take (k+1)≠[]):=hid ⟨by rw[iG.out,lA.out,if_neg (fun h=>hr (eM.out.2 h))],by rw[iG.out];simp⟩
    go_wp2_with fail
    go_region_held3 (fun W=>W.cell? ⟨b,o+k*3,none⟩=some (.bool x.b)∧W.cell? ⟨b,o+k*3+1,none⟩=some (.slice x.p x.k x.c)∧W.cell? ⟨b,o+k*3+2,none⟩=some (.slice x.q x.j x.d)∧W.cell? ⟨w.heap.size+1,0,none⟩=some (.bool m.b)∧W.cell? ⟨w.heap.size+1,1,none⟩=some (.slice m.p m.k m.c)∧W.cell? ⟨w.heap.size+1,2,none⟩=some (.slice m.q m.j m.d)) (first|with_reducible exact⟨e0,e1,e2,n0,n1,n2⟩|exact⟨c0,c1,c2,m0,m1,m2⟩)
     (first|(go_at_call 33;refine fJ.out.mono ?_;rintro e w1 ⟨rfl,hb⟩;have aX:=hid ((zan wr.heap.size wr).drew.trans hb);have hJ:=hid (HM.out.later aX.out);obtain⟨e0,e1,e2⟩:=HX.out w1 aX.out;obtain⟨⟨n0,n1,n2⟩,g0,g1,g2⟩:=hJ.out.2.2.cells;clear hb))
    clear c0 c1 c2 m0 m1 m2 f0 f1 f2;have cO:=hid (HQ.out.1.later aX.out);go_wp2_with fail;go_roundw
    case rel=>exact⟨k+1,by omega,cV,by go_num,m,hJ,hid ⟨by rw[cH.out.1];exact cO.out,cH.out.2,by rw[cH.out.1];exact HQ.out.2.2⟩⟩
    case measure=>simp[intOf];omega
  ·have Ty:k=qs.length:=by omega
   obtain⟨⟨m0,m1,m2⟩,f0,f1,f2⟩:=HM.out.2.2.cells;obtain⟨⟨r0,r1,r2⟩,g0,g1,g2⟩:=HM.out.2.1.cells;have HR:=hid (HM.out.2.1.put (x:=m));have HV:Hid (qaj wr (.agg #[.bool m.b,.slice m.p m.k m.c,.slice m.q m.j m.d]) (qlm qs)):=hid (by have:=HQ.out.1;rwa [Ty,List.take_length] at this);have HB:=hid HM.out.1;clear HQ Ty;go_wp2_with fail;refine bodyPost_ret (v := .agg #[.bool m.b,.slice m.p m.k m.c,.slice m.q m.j m.d]) ?_ rfl ?_
   ·simp[results,Tryz.results99,go_sem,r0,r1,r2]
   ·exact⟨⟨_,rfl,HR.out.2.1 _ _ HV.out⟩,HR.out.2.2.1 _ _ (zap _) HB.out⟩
theorem qvp(qs:List Rat)(b o c:Nat)(w:World)(aB:qhl w b o qs)(lT:1≤qs.length)(hl:qs.length≤1048576)(hs:∀p ∈ qs,∀q ∈ qs,rs p+rs q≤Cap):
  Calls Tryz.prog 100 #[.slice (some ⟨b,o,none⟩) qs.length c,.func (.func 33) #[] #[]] w fun e w'=>(∃v',e = .returned v'∧qaj w' v' (qkp qs))∧Below w.heap.size w w':=by
 have bN:=hid aB;have HS:=hid hs;obtain⟨q0,iC⟩:∃q,qs[0]? = some q:=⟨qs[0],zau lT⟩;obtain⟨x0,oH,pW⟩:=aB.nv 0 q0 iC;have qE:=qw5 w x0;have aD:Below w.heap.size w (w.alloc (.cells #[.bool false,.slice none 0 0,.slice none 0 0] 74)):=zam _ _;obtain⟨c0,c1,c2⟩:=qm7.later oH aD;rw[Nat.zero_mul,Nat.add_zero] at c0 c1 c2;have uE:=hid (pW.later qE.1);have HQM:Hid (q0 ∈ qs):=hid (zax iC);have aO:=hid qE
 have cE:Hid (qkp (qs.take 1)=q0∧qs.take 1≠[]):=hid (by
  cases qs with
  | nil=>simp at lT
  | cons a t=>simp at iC;subst iC;simp[qkp])
 have dL:decide (qs.length<1)=false:=zar (by omega);have hnl:¬((qs.length:Int)<1):=by omega
 have jM:0<qs.length:=lT;clear aB hs pW qE iC;go_enter Tryz.func100,Tryz.ntmps100;go_wp2_with fail;clear c0 c1 c2
 go_loopw [6] (fun i wr=>∃k:Nat,1≤k∧k≤qs.length∧i = .int .i64 k∧∃m:NV,Hid (q46 w m wr)∧Hid (qaj wr (.agg #[.bool m.b,.slice m.p m.k m.c,.slice m.q m.j m.d]) (qkp (qs.take k))∧qs.take k≠[]∧qkp (qs.take k) ∈ qs)) (fun i _=>qs.length-(intOf i).toNat)
 case atStart=>exact⟨1,zap _,lT,rfl,x0,aO,hid ⟨by rw[cE.out.1];exact uE.out,cE.out.2,by rw[cE.out.1];exact HQM.out⟩⟩
 case round=>
  obtain⟨k,kA,hk,rfl,m,HM,HQ⟩:=hrel;by_cases cV:k<qs.length
  ·obtain⟨q,qX⟩:∃q,qs[k]? = some q:=⟨qs[k],zau cV⟩
   obtain⟨x,hx,hv⟩:=bN.out.nv k q qX;have hd:Below wr.heap.size wr wr.drew:=(zan _ _).drew;have HX:Hid (∀W,Below wr.heap.size wr W→qm7 b (o+k*3) x W):=hid fun W hW=>(hx.later HM.out.1).later hW;have gS:=hid (hv.later HM.out.1);have iG:Hid (qs.take (k+1)=qs.take k++[q]):=hid (qcm qX);have kM:Hid (q ∈ qs):=hid (zax qX);have lA:=hid (q19 (qs.take k) q HQ.out.2.1);have fJ:=hid (qb5 (.agg #[.bool x.b,.slice x.p x.k x.c,.slice x.q x.j x.d]) (.agg #[.bool m.b,.slice m.p m.k m.c,.slice m.q m.j m.d]) q (qkp (qs.take k)) wr.drew (gS.out.later hd) (HQ.out.1.later hd) (HS.out _ kM.out _ HQ.out.2.2));have nA:=@qus q (qkp (qs.take k));have eM:=hid nA;obtain⟨c0,c1,c2⟩:=HX.out wr (zan _ _);obtain⟨⟨m0,m1,m2⟩,f0,f1,f2⟩:=HM.out.2.2.cells;clear qX hx hv hd nA;generalize qcq q (qkp (qs.take k))=r at *;generalize qkp (qs.take k)=mq at *;by_cases hr:0<r
   ·have cH:Hid (qkp (qs.take (k+1))=q∧qs.take (k+1)≠[]):=hid ⟨by rw[iG.out,lA.out,if_pos (eM.out.1 hr)],by rw[iG.out];simp⟩
    go_wp2_with fail
    go_region_held3 (fun W=>W.cell? ⟨b,o+k*3,none⟩=some (.bool x.b)∧W.cell? ⟨b,o+k*3+1,none⟩=some (.slice x.p x.k x.c)∧W.cell? ⟨b,o+k*3+2,none⟩=some (.slice x.q x.j x.d)∧W.cell? ⟨w.heap.size+1,0,none⟩=some (.bool m.b)∧W.cell? ⟨w.heap.size+1,1,none⟩=some (.slice m.p m.k m.c)∧W.cell? ⟨w.heap.size+1,2,none⟩=some (.slice m.q m.j m.d)) (first|with_reducible exact⟨e0,e1,e2,n0,n1,n2⟩|exact⟨c0,c1,c2,m0,m1,m2⟩)
     (first|(go_at_call 33;refine fJ.out.mono ?_;rintro e w1 ⟨rfl,hb⟩;have aX:=hid ((zan wr.heap.size wr).drew.trans hb);have hJ:=hid (HM.out.later aX.out);obtain⟨e0,e1,e2⟩:=HX.out w1 aX.out;obtain⟨⟨n0,n1,n2⟩,g0,g1,g2⟩:=hJ.out.2.2.cells;clear hb))
    clear c0 c1 c2 m0 m1 m2 f0 f1 f2;have fE:=hid (hJ.out.put (x:=x));have cO:=hid (hJ.out.2.2.put (x:=x) |>.2.1 _ _ (gS.out.later aX.out));go_wp2_with fail;go_roundw
    case rel=>exact⟨k+1,by omega,cV,by go_num,x,fE,hid ⟨by rw[cH.out.1];exact cO.out,cH.out.2,by rw[cH.out.1];exact kM.out⟩⟩
    case measure=>simp[intOf];omega
   ·have cH:Hid (qkp (qs.take (k+1))=mq∧qs.take (k+1)≠[]):=hid ⟨by rw[iG.out,lA.out,if_neg (fun h=>hr (eM.out.2 h))],by rw[iG.out];simp⟩
    go_wp2_with fail
    go_region_held3 (fun W=>W.cell? ⟨b,o+k*3,none⟩=some (.bool x.b)∧W.cell? ⟨b,o+k*3+1,none⟩=some (.slice x.p x.k x.c)∧W.cell? ⟨b,o+k*3+2,none⟩=some (.slice x.q x.j x.d)∧W.cell? ⟨w.heap.size+1,0,none⟩=some (.bool m.b)∧W.cell? ⟨w.heap.size+1,1,none⟩=some (.slice m.p m.k m.c)∧W.cell? ⟨w.heap.size+1,2,none⟩=some (.slice m.q m.j m.d)) (first|with_reducible exact⟨e0,e1,e2,n0,n1,n2⟩|exact⟨c0,c1,c2,m0,m1,m2⟩)
     (first|(go_at_call 33;refine fJ.out.mono ?_;rintro e w1 ⟨rfl,hb⟩;have aX:=hid ((zan wr.heap.size wr).drew.trans hb);have hJ:=hid (HM.out.later aX.out);obtain⟨e0,e1,e2⟩:=HX.out w1 aX.out;obtain⟨⟨n0,n1,n2⟩,g0,g1,g2⟩:=hJ.out.2.2.cells;clear hb))
    clear c0 c1 c2 m0 m1 m2 f0 f1 f2;have cO:=hid (HQ.out.1.later aX.out);go_wp2_with fail;go_roundw
    case rel=>exact⟨k+1,by omega,cV,by go_num,m,hJ,hid ⟨by rw[cH.out.1];exact cO.out,cH.out.2,by rw[cH.out.1];exact HQ.out.2.2⟩⟩
    case measure=>simp[intOf];omega
  ·have Ty:k=qs.length:=by omega
   obtain⟨⟨m0,m1,m2⟩,f0,f1,f2⟩:=HM.out.2.2.cells;obtain⟨⟨r0,r1,r2⟩,g0,g1,g2⟩:=HM.out.2.1.cells;have HR:=hid (HM.out.2.1.put (x:=m));have HV:Hid (qaj wr (.agg #[.bool m.b,.slice m.p m.k m.c,.slice m.q m.j m.d]) (qkp qs)):=hid (by have:=HQ.out.1;rwa [Ty,List.take_length] at this);have HB:=hid HM.out.1;clear HQ Ty;go_wp2_with fail;refine bodyPost_ret (v := .agg #[.bool m.b,.slice m.p m.k m.c,.slice m.q m.j m.d]) ?_ rfl ?_
   ·simp[results,Tryz.results100,go_sem,r0,r1,r2]
   ·exact⟨⟨_,rfl,HR.out.2.1 _ _ HV.out⟩,HR.out.2.2.1 _ _ (zap _) HB.out⟩
theorem qvq{W:World}{z1 z2 z3 z4:NV}{q1 q2 q3 q4:Rat}(ty:TypeId)(h1:qaj W (.agg #[.bool z1.b,.slice z1.p z1.k z1.c,.slice z1.q z1.j z1.d]) q1)(h2:qaj W (.agg #[.bool z2.b,.slice z2.p z2.k z2.c,.slice z2.q z2.j z2.d]) q2)(h3:qaj W (.agg #[.bool z3.b,.slice z3.p z3.k z3.c,.slice z3.q z3.j z3.d]) q3)(h4:qaj W (.agg #[.bool z4.b,.slice z4.p z4.k z4.c,.slice z4.q z4.j z4.d]) q4):
  qhl (W.alloc (.cells #[.bool z1.b,.slice z1.p z1.k z1.c,.slice z1.q z1.j z1.d,.bool z2.b,.slice z2.p z2.k z2.c,.slice z2.q z2.j z2.d,.bool z3.b,.slice z3.p z3.k z3.c,.slice z3.q z3.j z3.d,.bool z4.b,.slice z4.p z4.k z4.c,.slice z4.q z4.j z4.d] ty)) W.heap.size 0 [q1,q2,q3,q4]:=by
 have aD:Below W.heap.size W (W.alloc (.cells #[.bool z1.b,.slice z1.p z1.k z1.c,.slice z1.q z1.j z1.d,.bool z2.b,.slice z2.p z2.k z2.c,.slice z2.q z2.j z2.d,.bool z3.b,.slice z3.p z3.k z3.c,.slice z3.q z3.j z3.d,.bool z4.b,.slice z4.p z4.k z4.c,.slice z4.q z4.j z4.d] ty)):=zam _ _;intro j q hq
 match j,hq with
 | 0,hq=>cases hq;refine⟨z1.b,z1.p,z1.k,z1.c,z1.q,z1.j,z1.d, ?_, ?_, ?_,h1.later aD⟩<;>(rw[World.cell?_alloc_at _ _ _ _ rfl];rfl)
 | 1,hq=>cases hq;refine⟨z2.b,z2.p,z2.k,z2.c,z2.q,z2.j,z2.d, ?_, ?_, ?_,h2.later aD⟩<;>(rw[World.cell?_alloc_at _ _ _ _ rfl];rfl)
 | 2,hq=>cases hq;refine⟨z3.b,z3.p,z3.k,z3.c,z3.q,z3.j,z3.d, ?_, ?_, ?_,h3.later aD⟩<;>(rw[World.cell?_alloc_at _ _ _ _ rfl];rfl)
 | 3,hq=>cases hq;refine⟨z4.b,z4.p,z4.k,z4.c,z4.q,z4.j,z4.d, ?_, ?_, ?_,h4.later aD⟩<;>(rw[World.cell?_alloc_at _ _ _ _ rfl];rfl)
theorem qhl.later{w w':World}{b o:Nat}{qs:List Rat}(h:qhl w b o qs)(hb:Below w.heap.size w w'):qhl w' b o qs:=fun j q hj=>by
 obtain⟨sg,p1,k1,c1,p2,k2,c2,e0,e1,e2,hv⟩:=h j q hj;refine⟨sg,p1,k1,c1,p2,k2,c2, ?_, ?_, ?_,hv.later hb⟩
 ·rw[hb.cell (zaq w _ e0)];exact e0
 ·rw[hb.cell (zaq w _ e1)];exact e1
 ·rw[hb.cell (zaq w _ e2)];exact e2
theorem qvr(va vb:Value)(a b c d:Rat)(w:World)(m:Nat)(ha:qgm w va a b)(hb:qgm w vb c d)(ba:bd a m)(bb:bd b m)(bc:bd c m)(bdd:bd d m)(hm:m≤1048576):
  Calls Tryz.prog 55 #[va,vb] w fun e w'=>(∃v',e = .returned v'∧qgm w' v' (qlm [a*c,a*d,b*c,b*d]) (qkp [a*c,a*d,b*c,b*d]))∧Below w.heap.size w w':=by
 obtain⟨x,y,rfl,hx,hy⟩:=ha.nv;obtain⟨x',y',rfl,hx',hy'⟩:=hb.nv;have ra:=ba.rs;have rb:=bb.rs;have rc:=bc.rs;have rd:=bdd.rs;have aO:=hid (qw3 w x y x' y' 76 76 76)
 have zP:Hid (∀W,qr5 w x y x' y' W→Calls Tryz.prog 37 #[.agg #[.bool x.b,.slice x.p x.k x.c,.slice x.q x.j x.d],.agg #[.bool x'.b,.slice x'.p x'.k x'.c,.slice x'.q x'.j x'.d]] W fun e w'=>(∃z:NV,e = .returned (.agg #[.bool z.b,.slice z.p z.k z.c,.slice z.q z.j z.d])∧qaj w' (.agg #[.bool z.b,.slice z.p z.k z.c,.slice z.q z.j z.d]) (a*c))∧qr5 w x y x' y' w'∧Below W.heap.size W w'):=
  hid fun W hW=>qmk (_R:=fun _=>True) hW (qdx _ _ _ _ W (hx.later hW.1) (hx'.later hW.1) (by unfold Cap at *;omega))
 have uM:Hid (∀W,qr5 w x y x' y' W→Calls Tryz.prog 37 #[.agg #[.bool x.b,.slice x.p x.k x.c,.slice x.q x.j x.d],.agg #[.bool y'.b,.slice y'.p y'.k y'.c,.slice y'.q y'.j y'.d]] W fun e w'=>(∃z:NV,e = .returned (.agg #[.bool z.b,.slice z.p z.k z.c,.slice z.q z.j z.d])∧qaj w' (.agg #[.bool z.b,.slice z.p z.k z.c,.slice z.q z.j z.d]) (a*d))∧qr5 w x y x' y' w'∧Below W.heap.size W w'):=
  hid fun W hW=>qmk (_R:=fun _=>True) hW (qdx _ _ _ _ W (hx.later hW.1) (hy'.later hW.1) (by unfold Cap at *;omega))
 have De:Hid (∀W,qr5 w x y x' y' W→Calls Tryz.prog 37 #[.agg #[.bool y.b,.slice y.p y.k y.c,.slice y.q y.j y.d],.agg #[.bool x'.b,.slice x'.p x'.k x'.c,.slice x'.q x'.j x'.d]] W fun e w'=>(∃z:NV,e = .returned (.agg #[.bool z.b,.slice z.p z.k z.c,.slice z.q z.j z.d])∧qaj w' (.agg #[.bool z.b,.slice z.p z.k z.c,.slice z.q z.j z.d]) (b*c))∧qr5 w x y x' y' w'∧Below W.heap.size W w'):=
  hid fun W hW=>qmk (_R:=fun _=>True) hW (qdx _ _ _ _ W (hy.later hW.1) (hx'.later hW.1) (by unfold Cap at *;omega))
 have xJ:Hid (∀W,qr5 w x y x' y' W→Calls Tryz.prog 37 #[.agg #[.bool y.b,.slice y.p y.k y.c,.slice y.q y.j y.d],.agg #[.bool y'.b,.slice y'.p y'.k y'.c,.slice y'.q y'.j y'.d]] W fun e w'=>(∃z:NV,e = .returned (.agg #[.bool z.b,.slice z.p z.k z.c,.slice z.q z.j z.d])∧qaj w' (.agg #[.bool z.b,.slice z.p z.k z.c,.slice z.q z.j z.d]) (b*d))∧qr5 w x y x' y' w'∧Below W.heap.size W w'):=
  hid fun W hW=>qmk (_R:=fun _=>True) hW (qdx _ _ _ _ W (hy.later hW.1) (hy'.later hW.1) (by unfold Cap at *;omega))
 have cU:Hid (∀p ∈ [a*c,a*d,b*c,b*d],∀q ∈ [a*c,a*d,b*c,b*d],rs p+rs q≤Cap):=hid (by
  have h1:=(qex ba bc).rs;have h2:=(qex ba bdd).rs;have h3:=(qex bb bc).rs;have h4:=(qex bb bdd).rs
  have key:∀p ∈ [a*c,a*d,b*c,b*d],rs p≤m+m+(m+m):=by
   intro p hp;simp only[List.mem_cons,List.not_mem_nil,or_false] at hp;rcases hp with rfl|rfl|rfl|rfl<;>assumption
  intro p hp q hq;have:=key p hp;have:=key q hq;unfold Cap
  omega)
 clear hx hy hx' hy' ha hb ba bb bc bdd ra rb rc rd hm;generalize a*c=q1 at *;generalize a*d=q2 at *;generalize b*c=q3 at *;generalize b*d=q4 at *;go_enter Tryz.func55,Tryz.ntmps55;go_wp2_with fail;generalize ((w.alloc (.cells #[.bool x.b,.slice x.p x.k x.c,.slice x.q x.j x.d,.bool y.b,.slice y.p y.k y.c,.slice y.q y.j y.d] 76)).alloc (.cells #[.bool x'.b,.slice x'.p x'.k x'.c,.slice x'.q x'.j x'.d,.bool y'.b,.slice y'.p y'.k y'.c,.slice y'.q y'.j y'.d] 76)).alloc (.cells #[.bool false,.slice none 0 0,.slice none 0 0,.bool false,.slice none 0 0,.slice none 0 0] 76)=w0 at *;have cG:=hid (aO.out.later ((zan _ _).drew));have c0:=cG.out.2.1.cells;have d0:=cG.out.2.2.1.cells
 go_region_held3 (fun W=>W.cell? ⟨w.heap.size,0,none⟩=some (.bool x.b)∧W.cell? ⟨w.heap.size,1,none⟩=some (.slice x.p x.k x.c)∧W.cell? ⟨w.heap.size,2,none⟩=some (.slice x.q x.j x.d)∧W.cell? ⟨w.heap.size,3,none⟩=some (.bool y.b)∧W.cell? ⟨w.heap.size,4,none⟩=some (.slice y.p y.k y.c)∧W.cell? ⟨w.heap.size,5,none⟩=some (.slice y.q y.j y.d)∧W.cell? ⟨w.heap.size+1,0,none⟩=some (.bool x'.b)∧W.cell? ⟨w.heap.size+1,1,none⟩=some (.slice x'.p x'.k x'.c)∧W.cell? ⟨w.heap.size+1,2,none⟩=some (.slice x'.q x'.j x'.d)∧W.cell? ⟨w.heap.size+1,3,none⟩=some (.bool y'.b)∧W.cell? ⟨w.heap.size+1,4,none⟩=some (.slice y'.p y'.k y'.c)∧W.cell? ⟨w.heap.size+1,5,none⟩=some (.slice y'.q y'.j y'.d)) (first|with_reducible exact⟨c0.1,c0.2.1,c0.2.2.1,c0.2.2.2.1,c0.2.2.2.2.1,c0.2.2.2.2.2,d0⟩|with_reducible exact⟨c1.1,c1.2.1,c1.2.2.1,c1.2.2.2.1,c1.2.2.2.2.1,c1.2.2.2.2.2,d1⟩|with_reducible exact⟨c2.1,c2.2.1,c2.2.2.1,c2.2.2.2.1,c2.2.2.2.2.1,c2.2.2.2.2.2,d2⟩|with_reducible exact⟨c3.1,c3.2.1,c3.2.2.1,c3.2.2.2.1,c3.2.2.2.2.1,c3.2.2.2.2.2,d3⟩|with_reducible exact⟨c4.1,c4.2.1,c4.2.2.1,c4.2.2.2.1,c4.2.2.2.2.1,c4.2.2.2.2.2,d4⟩|with_reducible exact⟨c5.1,c5.2.1,c5.2.2.1,c5.2.2.2.1,c5.2.2.2.2.1,c5.2.2.2.2.2,d5⟩)
  (first
   | (go_at_call 37;first
     | ((with_reducible refine(zP.out _ cG.out).mono ?_);rintro e wL1 ⟨⟨z1,rfl,hn⟩,ht,hb⟩;have HV1_1:=hid hn;have cE:=hid ht;have c1:=ht.2.1.cells;have d1:=ht.2.2.1.cells;clear hn ht hb)
     | ((with_reducible refine(uM.out _ cE.out).mono ?_);rintro e wL2 ⟨⟨z2,rfl,hn⟩,ht,hb⟩;have HV2_2:=hid hn;have HV1_2:=hid (HV1_1.out.later hb);have dW:=hid ht;have c2:=ht.2.1.cells;have d2:=ht.2.2.1.cells;clear hn ht hb)
     | ((with_reducible refine(De.out _ dW.out).mono ?_);rintro e wL3 ⟨⟨z3,rfl,hn⟩,ht,hb⟩;have HV3_3:=hid hn;have HV1_3:=hid (HV1_2.out.later hb);have HV2_3:=hid (HV2_2.out.later hb);have qB:=hid ht;have c3:=ht.2.1.cells;have d3:=ht.2.2.1.cells;clear hn ht hb)
     | ((with_reducible refine(xJ.out _ qB.out).mono ?_);rintro e Hy ⟨⟨z4,rfl,hn⟩,ht,hb⟩;have HV4_4:=hid hn;have HV1_4:=hid (HV1_3.out.later hb);have HV2_4:=hid (HV2_3.out.later hb);have HV3_4:=hid (HV3_3.out.later hb);have El:=hid ht;have c4:=ht.2.1.cells;have d4:=ht.2.2.1.cells;have HAL5:Hid (Below Hy.heap.size Hy (Hy.alloc (.cells #[.bool z1.b,.slice z1.p z1.k z1.c,.slice z1.q z1.j z1.d,.bool z2.b,.slice z2.p z2.k z2.c,.slice z2.q z2.j z2.d,.bool z3.b,.slice z3.p z3.k z3.c,.slice z3.q z3.j z3.d,.bool z4.b,.slice z4.p z4.k z4.c,.slice z4.q z4.j z4.d] 74))):=hid (zam _ _);have Hz:=hid (ht.later HAL5.out);have c5:=Hz.out.2.1.cells;have d5:=Hz.out.2.2.1.cells;clear hn ht hb)))
 clear c0 d0 c1 d1 c2 d2 c3 d3 c4 d4 c5 d5;have gC:=hid (qvq 74 HV1_4.out HV2_4.out HV3_4.out HV4_4.out);have Sk:=hid (qvo [q1,q2,q3,q4] Hy.heap.size 0 4 _ gC.out (by simp) (by simp) cU.out);have Ej:Hid (∀W,Below (Hy.alloc (.cells #[.bool z1.b,.slice z1.p z1.k z1.c,.slice z1.q z1.j z1.d,.bool z2.b,.slice z2.p z2.k z2.c,.slice z2.q z2.j z2.d,.bool z3.b,.slice z3.p z3.k z3.c,.slice z3.q z3.j z3.d,.bool z4.b,.slice z4.p z4.k z4.c,.slice z4.q z4.j z4.d] 74)).heap.size (Hy.alloc (.cells #[.bool z1.b,.slice z1.p z1.k z1.c,.slice z1.q z1.j z1.d,.bool z2.b,.slice z2.p z2.k z2.c,.slice z2.q z2.j z2.d,.bool z3.b,.slice z3.p z3.k z3.c,.slice z3.q z3.j z3.d,.bool z4.b,.slice z4.p z4.k z4.c,.slice z4.q z4.j z4.d] 74)) W→Calls Tryz.prog 100 #[.slice (some ⟨Hy.heap.size,0,none⟩) 4 4,.func (.func 33) #[] #[]] W fun e w'=>(∃v',e = .returned v'∧qaj w' v' (qkp [q1,q2,q3,q4]))∧Below W.heap.size W w'):=hid fun W hW=>qvp [q1,q2,q3,q4] Hy.heap.size 0 4 W (gC.out.later hW) (by simp) (by simp) cU.out;clear HV1_1 HV1_2 HV1_3 HV1_4 HV2_2 HV2_3 HV2_4 HV3_3 HV3_4 HV4_4 cG cE dW qB cU zP uM De xJ;go_wp2_with fail;refine Sk.out.mono ?_;rintro e w5 ⟨⟨v5,rfl,hn⟩,hb⟩;obtain⟨y5,rfl⟩:=hn.nv;have HM5:=hid hn;have lJ:=hid hb;have HT6:=hid (Hz.out.later hb);clear hn hb Sk;go_wp2_with fail;refine(Ej.out _ lJ.out).mono ?_;rintro e w6 ⟨⟨v6,rfl,hn⟩,hb⟩;obtain⟨y6,rfl⟩:=hn.nv;have Ia:=hid hn;have HL6:=hid (HM5.out.later hb);have Nu:=hid (HT6.out.later hb);obtain⟨⟨r0,g0⟩,⟨r1,g1⟩,⟨r2,g2⟩,⟨r3,g3⟩,⟨r4,g4⟩,⟨r5,g5⟩⟩:=qbl Nu.out.2.2.2;have kO:=qhk Nu.out.2.2.2 (.bool y5.b) (.slice y5.p y5.k y5.c) (.slice y5.q y5.j y5.d) (.bool y6.b) (.slice y6.p y6.k y6.c) (.slice y6.q y6.j y6.d);have HN:=hid (qf4 (kO.1 _ _ HL6.out) (kO.1 _ _ Ia.out));have HB:=hid (kO.2 w.heap.size w (by omega) Nu.out.1);clear hn hb kO Ej
 go_wp2_with fail;refine bodyPost_ret (v := .agg #[.bool y5.b,.slice y5.p y5.k y5.c,.slice y5.q y5.j y5.d,.bool y6.b,.slice y6.p y6.k y6.c,.slice y6.q y6.j y6.d]) ?_ rfl ?_
 ·simp[results,Tryz.results55,go_sem,r0,r1,r2,r3,r4,r5]
 ·exact⟨⟨_,rfl,HN.out⟩,HB.out⟩
end Go.Proofs.YtclimablgihlhaaGreatDoor
