/- slices.MinFunc and slices.MaxFunc of numbers. -/
import Derived.Test.YtlkdlffhmakbgaaGreatDoorMNv
set_option linter.all false
namespace Go.Proofs.YtlkdlffhmakbgaaGreatDoor
open Go.RowKit
set_option maxRecDepth 100000
set_option maxHeartbeats 4000000
def qln:List Rat→Rat
 | []=>0
 | q::l=>l.foldl (fun m a=>if a<m then a else m) q
def qky:List Rat→Rat
 | []=>0
 | q::l=>l.foldl (fun m a=>if m<a then a else m) q
theorem q1v(l:List Rat)(a:Rat)(h:l≠[]):qln (l++[a])=if a<qln l then a else qln l:=by
 cases l with
 | nil=>exact absurd rfl h
 | cons q l=>show(l++[a]).foldl _ q=_;rw[List.foldl_append];rfl
theorem q1w(l:List Rat)(a:Rat)(h:l≠[]):qky (l++[a])=if qky l<a then a else qky l:=by
 cases l with
 | nil=>exact absurd rfl h
 | cons q l=>show(l++[a]).foldl _ q=_;rw[List.foldl_append];rfl
def One(W:World)(g:Nat)(x:NV):Prop:=Own W g 3 (qcs x.b (.slice x.p x.k x.c) (.slice x.q x.j x.d))
abbrev qne(g o:Nat)(x:NV)(W:World):Prop:=
 W.cell? ⟨g,o,none⟩=some (.bool x.b)∧W.cell? ⟨g,o+1,none⟩=some (.slice x.p x.k x.c)∧W.cell? ⟨g,o+2,none⟩=some (.slice x.q x.j x.d)
theorem One.cells{W:World}{g:Nat}{x:NV}(h:One W g x):(W.cell? ⟨g,0,none⟩=some (.bool x.b)∧W.cell? ⟨g,1,none⟩=some (.slice x.p x.k x.c)∧W.cell? ⟨g,2,none⟩=some (.slice x.q x.j x.d))∧W.frozen? ⟨g,0,none⟩=false∧W.frozen? ⟨g,1,none⟩=false∧W.frozen? ⟨g,2,none⟩=false:=
 ⟨⟨(h.2 0 (by omega)).1,(h.2 1 (by omega)).1,(h.2 2 (by omega)).1⟩,(h.2 0 (by omega)).2,(h.2 1 (by omega)).2,(h.2 2 (by omega)).2⟩
theorem qgg(w:World)(x:NV):One (w.alloc (.cells #[.bool x.b,.slice x.p x.k x.c,.slice x.q x.j x.d] 87)) w.heap.size x:=qqk _ _ _ _
theorem One.put{W:World}{g:Nat}{m x:NV}(h:One W g m):
  One (((W.setCell ⟨g,0,none⟩ (.bool x.b)).setCell ⟨g,1,none⟩ (.slice x.p x.k x.c)).setCell ⟨g,2,none⟩ (.slice x.q x.j x.d)) g x∧
  (∀v q,qau W v q→qau (((W.setCell ⟨g,0,none⟩ (.bool x.b)).setCell ⟨g,1,none⟩ (.slice x.p x.k x.c)).setCell ⟨g,2,none⟩ (.slice x.q x.j x.d)) v q)∧
  (∀B w0,B≤g→Below B w0 W→Below B w0 (((W.setCell ⟨g,0,none⟩ (.bool x.b)).setCell ⟨g,1,none⟩ (.slice x.p x.k x.c)).setCell ⟨g,2,none⟩ (.slice x.q x.j x.d)))∧
  (∀g' n f,g'≠g→Own W g' n f→Own (((W.setCell ⟨g,0,none⟩ (.bool x.b)).setCell ⟨g,1,none⟩ (.slice x.p x.k x.c)).setCell ⟨g,2,none⟩ (.slice x.q x.j x.d)) g' n f):=by
 have o1:=Own.set h 0 (by omega) (.bool x.b);have o2:=o1.set 1 (by omega) (.slice x.p x.k x.c);have o3:=o2.set 2 (by omega) (.slice x.q x.j x.d);refine⟨o3.congr fun i hi => ?_,fun v q hv => ?_,fun B w0 hB hb => ?_,fun g' n f hne ho => ?_⟩
 ·match i,hi with
  | 0,_=>rfl
  | 1,_=>rfl
  | 2,_=>rfl
 ·have h1:=qbp hv h 0 (by omega) (by intro k z e;cases e) (.bool x.b)
  have h2:=qbp h1 o1 1 (by omega) (by intro k z e;cases e) (.slice x.p x.k x.c);exact qbp h2 o2 2 (by omega) (by intro k z e;cases e) (.slice x.q x.j x.d)
 ·exact((hb.setCell (p:=⟨g,0,none⟩) hB _).setCell (p:=⟨g,1,none⟩) hB _).setCell (p:=⟨g,2,none⟩) hB _
 ·exact((((qfd.refl g W).set _ _).set _ _).set _ _).own ho hne
theorem qhh.nv{W:World}{b o:Nat}{qs:List Rat}(h:qhh W b o qs)(j:Nat)(q:Rat)(hq:qs[j]? = some q):∃x:NV,qne b (o+j*3) x W∧qau W (.agg #[.bool x.b,.slice x.p x.k x.c,.slice x.q x.j x.d]) q:=by
 obtain⟨sg,p1,k1,c1,p2,k2,c2,e0,e1,e2,hv⟩:=h j q hq;exact⟨⟨sg,p1,k1,c1,p2,k2,c2⟩,⟨e0,e1,e2⟩,hv⟩
theorem qne.later{w W:World}{b o:Nat}{x:NV}(h:qne b o x w)(hb:Below w.heap.size w W):qne b o x W:=by
 obtain⟨e0,e1,e2⟩:=h;refine⟨?_, ?_, ?_⟩
 ·rw[hb.cell (qae w _ e0)];exact e0
 ·rw[hb.cell (qae w _ e1)];exact e1
 ·rw[hb.cell (qae w _ e2)];exact e2
def q5j(w:World)(m:NV)(W:World):Prop:=
 Below w.heap.size w W∧One W w.heap.size ⟨false,none,0,0,none,0,0⟩∧One W (w.heap.size+1) m
theorem q5j.later{w W W':World}{m:NV}(h:q5j w m W)(hb:Below W.heap.size W W'):q5j w m W':=
 ⟨h.1.trans (hb.mono h.1.size),h.2.1.later (hb.mono h.2.1.1),h.2.2.later (hb.mono h.2.2.1)⟩
theorem qxg(w:World)(x:NV):q5j w x ((w.alloc (.cells #[.bool false,.slice none 0 0,.slice none 0 0] 87)).alloc (.cells #[.bool x.b,.slice x.p x.k x.c,.slice x.q x.j x.d] 87)):=by
 have h1:Below w.heap.size w (w.alloc (.cells #[.bool false,.slice none 0 0,.slice none 0 0] 87)):=qad _ _;have o1:=qqk w false (.slice none 0 0) (.slice none 0 0);have o2:=qqk (w.alloc (.cells #[.bool false,.slice none 0 0,.slice none 0 0] 87)) x.b (.slice x.p x.k x.c) (.slice x.q x.j x.d);rw[qab] at o2;exact⟨h1.alloc (by rw[qab];omega) _,o1.later ((qaa _ _).alloc (by rw[qab];omega) _),o2⟩
theorem q5j.put{w W:World}{m x:NV}(h:q5j w m W):
  q5j w x (((W.setCell ⟨w.heap.size+1,0,none⟩ (.bool x.b)).setCell ⟨w.heap.size+1,1,none⟩ (.slice x.p x.k x.c)).setCell ⟨w.heap.size+1,2,none⟩ (.slice x.q x.j x.d)):=
 ⟨h.2.2.put.2.2.1 _ _ (by omega) h.1,h.2.2.put.2.2.2 _ _ _ (by omega) h.2.1,h.2.2.put.1⟩
theorem qvj(qs:List Rat)(b o c:Nat)(w:World)(aB:qhh w b o qs)(kD:1≤qs.length)(hl:qs.length≤1048576)(hs:∀p ∈ qs,∀q ∈ qs,rs p+rs q≤Cap):
  Calls Tryz.prog 105 #[.slice (some ⟨b,o,none⟩) qs.length c,.func (.func 51) #[] #[]] w fun e w'=>(∃v',e = .returned v'∧qau w' v' (qln qs))∧Below w.heap.size w w':=by
 have bL:=hid aB;have HS:=hid hs;obtain⟨q0,pE⟩:∃q,qs[0]? = some q:=⟨qs[0],qap kD⟩;obtain⟨x0,nT,lU⟩:=aB.nv 0 q0 pE;have rC:=qxg w x0;have aD:Below w.heap.size w (w.alloc (.cells #[.bool false,.slice none 0 0,.slice none 0 0] 87)):=qad _ _;obtain⟨c0,c1,c2⟩:=qne.later nT aD;rw[Nat.zero_mul,Nat.add_zero] at c0 c1 c2;have tA:=hid (lU.later rC.1);have HQM:Hid (q0 ∈ qs):=hid (qbh pE);have aM:=hid rC
 have cV:Hid (qln (qs.take 1)=q0∧qs.take 1≠[]):=hid (by
  cases qs with
  | nil=>simp at kD
  | cons a t=>simp at pE;subst pE;simp[qln])
 have dS:decide (qs.length<1)=false:=qaf (by omega);have hnl:¬((qs.length:Int)<1):=by omega
 have lM:0<qs.length:=kD;clear aB hs lU rC pE;go_enter Tryz.func105,Tryz.ntmps105;go_wp2_with fail;clear c0 c1 c2
 go_loopw [6] (fun i wr=>∃k:Nat,1≤k∧k≤qs.length∧i = .int .i64 k∧∃m:NV,Hid (q5j w m wr)∧Hid (qau wr (.agg #[.bool m.b,.slice m.p m.k m.c,.slice m.q m.j m.d]) (qln (qs.take k))∧qs.take k≠[]∧qln (qs.take k) ∈ qs)) (fun i _=>qs.length-(intOf i).toNat)
 case atStart=>exact⟨1,qac _,kD,rfl,x0,aM,hid ⟨by rw[cV.out.1];exact tA.out,cV.out.2,by rw[cV.out.1];exact HQM.out⟩⟩
 case round=>
  obtain⟨k,jN,hk,rfl,m,HM,HQ⟩:=hrel;by_cases cT:k<qs.length
  ·obtain⟨q,sT⟩:∃q,qs[k]? = some q:=⟨qs[k],qap cT⟩
   obtain⟨x,hx,hv⟩:=bL.out.nv k q sT;have hd:Below wr.heap.size wr wr.drew:=(qaa _ _).drew;have HX:Hid (∀W,Below wr.heap.size wr W→qne b (o+k*3) x W):=hid fun W hW=>(hx.later HM.out.1).later hW;have gG:=hid (hv.later HM.out.1);have fW:Hid (qs.take (k+1)=qs.take k++[q]):=hid (qbl sT);have jR:Hid (q ∈ qs):=hid (qbh sT);have iW:=hid (q1v (qs.take k) q HQ.out.2.1);have fE:=hid (qdq (.agg #[.bool x.b,.slice x.p x.k x.c,.slice x.q x.j x.d]) (.agg #[.bool m.b,.slice m.p m.k m.c,.slice m.q m.j m.d]) q (qln (qs.take k)) wr.drew (gG.out.later hd) (HQ.out.1.later hd) (HS.out _ jR.out _ HQ.out.2.2));have kJ:=@qot q (qln (qs.take k));have eM:=hid kJ;obtain⟨c0,c1,c2⟩:=HX.out wr (qaa _ _);obtain⟨⟨m0,m1,m2⟩,f0,f1,f2⟩:=HM.out.2.2.cells;clear sT hx hv hd kJ;generalize qfe q (qln (qs.take k))=r at *;generalize qln (qs.take k)=mq at *;by_cases hr:r<0
   ·have bY:Hid (qln (qs.take (k+1))=q∧qs.take (k+1)≠[]):=hid ⟨by rw[fW.out,iW.out,if_pos (eM.out.1 hr)],by rw[fW.out];simp⟩
    go_wp2_with fail
    go_region_held3 (fun W=>W.cell? ⟨b,o+k*3,none⟩=some (.bool x.b)∧W.cell? ⟨b,o+k*3+1,none⟩=some (.slice x.p x.k x.c)∧W.cell? ⟨b,o+k*3+2,none⟩=some (.slice x.q x.j x.d)∧W.cell? ⟨w.heap.size+1,0,none⟩=some (.bool m.b)∧W.cell? ⟨w.heap.size+1,1,none⟩=some (.slice m.p m.k m.c)∧W.cell? ⟨w.heap.size+1,2,none⟩=some (.slice m.q m.j m.d)) (first|with_reducible exact⟨e0,e1,e2,n0,n1,n2⟩|exact⟨c0,c1,c2,m0,m1,m2⟩)
     (first|(go_at_call 51;refine fE.out.mono ?_;rintro e w1 ⟨rfl,hb⟩;have aW:=hid ((qaa wr.heap.size wr).drew.trans hb);have fY:=hid (HM.out.later aW.out);obtain⟨e0,e1,e2⟩:=HX.out w1 aW.out;obtain⟨⟨n0,n1,n2⟩,g0,g1,g2⟩:=fY.out.2.2.cells;clear hb))
    clear c0 c1 c2 m0 m1 m2 f0 f1 f2;have eV:=hid (fY.out.put (x:=x));have cO:=hid (fY.out.2.2.put (x:=x) |>.2.1 _ _ (gG.out.later aW.out));go_wp2_with fail;go_roundw
    case rel=>exact⟨k+1,by omega,cT,by go_num,x,eV,hid ⟨by rw[bY.out.1];exact cO.out,bY.out.2,by rw[bY.out.1];exact jR.out⟩⟩
    case measure=>simp[intOf];omega
   ·have bY:Hid (qln (qs.take (k+1))=mq∧qs.take (k+1)≠[]):=hid ⟨by rw[fW.out,iW.out,if_neg (fun h=>hr (eM.out.2 h))],by rw[fW.out];simp⟩
    go_wp2_with fail
    go_region_held3 (fun W=>W.cell? ⟨b,o+k*3,none⟩=some (.bool x.b)∧W.cell? ⟨b,o+k*3+1,none⟩=some (.slice x.p x.k x.c)∧W.cell? ⟨b,o+k*3+2,none⟩=some (.slice x.q x.j x.d)∧W.cell? ⟨w.heap.size+1,0,none⟩=some (.bool m.b)∧W.cell? ⟨w.heap.size+1,1,none⟩=some (.slice m.p m.k m.c)∧W.cell? ⟨w.heap.size+1,2,none⟩=some (.slice m.q m.j m.d)) (first|with_reducible exact⟨e0,e1,e2,n0,n1,n2⟩|exact⟨c0,c1,c2,m0,m1,m2⟩)
     (first|(go_at_call 51;refine fE.out.mono ?_;rintro e w1 ⟨rfl,hb⟩;have aW:=hid ((qaa wr.heap.size wr).drew.trans hb);have fY:=hid (HM.out.later aW.out);obtain⟨e0,e1,e2⟩:=HX.out w1 aW.out;obtain⟨⟨n0,n1,n2⟩,g0,g1,g2⟩:=fY.out.2.2.cells;clear hb))
    clear c0 c1 c2 m0 m1 m2 f0 f1 f2;have cO:=hid (HQ.out.1.later aW.out);go_wp2_with fail;go_roundw
    case rel=>exact⟨k+1,by omega,cT,by go_num,m,fY,hid ⟨by rw[bY.out.1];exact cO.out,bY.out.2,by rw[bY.out.1];exact HQ.out.2.2⟩⟩
    case measure=>simp[intOf];omega
  ·have Qj:k=qs.length:=by omega
   obtain⟨⟨m0,m1,m2⟩,f0,f1,f2⟩:=HM.out.2.2.cells;obtain⟨⟨r0,r1,r2⟩,g0,g1,g2⟩:=HM.out.2.1.cells;have HR:=hid (HM.out.2.1.put (x:=m));have HV:Hid (qau wr (.agg #[.bool m.b,.slice m.p m.k m.c,.slice m.q m.j m.d]) (qln qs)):=hid (by have:=HQ.out.1;rwa [Qj,List.take_length] at this);have HB:=hid HM.out.1;clear HQ Qj;go_wp2_with fail;refine bodyPost_ret (v := .agg #[.bool m.b,.slice m.p m.k m.c,.slice m.q m.j m.d]) ?_ rfl ?_
   ·simp[results,Tryz.results105,go_sem,r0,r1,r2]
   ·exact⟨⟨_,rfl,HR.out.2.1 _ _ HV.out⟩,HR.out.2.2.1 _ _ (qac _) HB.out⟩
theorem qvk(qs:List Rat)(b o c:Nat)(w:World)(aB:qhh w b o qs)(kD:1≤qs.length)(hl:qs.length≤1048576)(hs:∀p ∈ qs,∀q ∈ qs,rs p+rs q≤Cap):
  Calls Tryz.prog 106 #[.slice (some ⟨b,o,none⟩) qs.length c,.func (.func 51) #[] #[]] w fun e w'=>(∃v',e = .returned v'∧qau w' v' (qky qs))∧Below w.heap.size w w':=by
 have bL:=hid aB;have HS:=hid hs;obtain⟨q0,pE⟩:∃q,qs[0]? = some q:=⟨qs[0],qap kD⟩;obtain⟨x0,nT,lU⟩:=aB.nv 0 q0 pE;have rC:=qxg w x0;have aD:Below w.heap.size w (w.alloc (.cells #[.bool false,.slice none 0 0,.slice none 0 0] 87)):=qad _ _;obtain⟨c0,c1,c2⟩:=qne.later nT aD;rw[Nat.zero_mul,Nat.add_zero] at c0 c1 c2;have tA:=hid (lU.later rC.1);have HQM:Hid (q0 ∈ qs):=hid (qbh pE);have aM:=hid rC
 have cV:Hid (qky (qs.take 1)=q0∧qs.take 1≠[]):=hid (by
  cases qs with
  | nil=>simp at kD
  | cons a t=>simp at pE;subst pE;simp[qky])
 have dS:decide (qs.length<1)=false:=qaf (by omega);have hnl:¬((qs.length:Int)<1):=by omega
 have lM:0<qs.length:=kD;clear aB hs lU rC pE;go_enter Tryz.func106,Tryz.ntmps106;go_wp2_with fail;clear c0 c1 c2
 go_loopw [6] (fun i wr=>∃k:Nat,1≤k∧k≤qs.length∧i = .int .i64 k∧∃m:NV,Hid (q5j w m wr)∧Hid (qau wr (.agg #[.bool m.b,.slice m.p m.k m.c,.slice m.q m.j m.d]) (qky (qs.take k))∧qs.take k≠[]∧qky (qs.take k) ∈ qs)) (fun i _=>qs.length-(intOf i).toNat)
 case atStart=>exact⟨1,qac _,kD,rfl,x0,aM,hid ⟨by rw[cV.out.1];exact tA.out,cV.out.2,by rw[cV.out.1];exact HQM.out⟩⟩
 case round=>
  obtain⟨k,jN,hk,rfl,m,HM,HQ⟩:=hrel;by_cases cT:k<qs.length
  ·obtain⟨q,sT⟩:∃q,qs[k]? = some q:=⟨qs[k],qap cT⟩
   obtain⟨x,hx,hv⟩:=bL.out.nv k q sT;have hd:Below wr.heap.size wr wr.drew:=(qaa _ _).drew;have HX:Hid (∀W,Below wr.heap.size wr W→qne b (o+k*3) x W):=hid fun W hW=>(hx.later HM.out.1).later hW;have gG:=hid (hv.later HM.out.1);have fW:Hid (qs.take (k+1)=qs.take k++[q]):=hid (qbl sT);have jR:Hid (q ∈ qs):=hid (qbh sT);have iW:=hid (q1w (qs.take k) q HQ.out.2.1);have fE:=hid (qdq (.agg #[.bool x.b,.slice x.p x.k x.c,.slice x.q x.j x.d]) (.agg #[.bool m.b,.slice m.p m.k m.c,.slice m.q m.j m.d]) q (qky (qs.take k)) wr.drew (gG.out.later hd) (HQ.out.1.later hd) (HS.out _ jR.out _ HQ.out.2.2));have kJ:=@qu3 q (qky (qs.take k));have eM:=hid kJ;obtain⟨c0,c1,c2⟩:=HX.out wr (qaa _ _);obtain⟨⟨m0,m1,m2⟩,f0,f1,f2⟩:=HM.out.2.2.cells;clear sT hx hv hd kJ;generalize qfe q (qky (qs.take k))=r at *;generalize qky (qs.take k)=mq at *;by_cases hr:0<r
   ·have bY:Hid (qky (qs.take (k+1))=q∧qs.take (k+1)≠[]):=hid ⟨by rw[fW.out,iW.out,if_pos (eM.out.1 hr)],by rw[fW.out];simp⟩
    go_wp2_with fail
    go_region_held3 (fun W=>W.cell? ⟨b,o+k*3,none⟩=some (.bool x.b)∧W.cell? ⟨b,o+k*3+1,none⟩=some (.slice x.p x.k x.c)∧W.cell? ⟨b,o+k*3+2,none⟩=some (.slice x.q x.j x.d)∧W.cell? ⟨w.heap.size+1,0,none⟩=some (.bool m.b)∧W.cell? ⟨w.heap.size+1,1,none⟩=some (.slice m.p m.k m.c)∧W.cell? ⟨w.heap.size+1,2,none⟩=some (.slice m.q m.j m.d)) (first|with_reducible exact⟨e0,e1,e2,n0,n1,n2⟩|exact⟨c0,c1,c2,m0,m1,m2⟩)
     (first|(go_at_call 51;refine fE.out.mono ?_;rintro e w1 ⟨rfl,hb⟩;have aW:=hid ((qaa wr.heap.size wr).drew.trans hb);have fY:=hid (HM.out.later aW.out);obtain⟨e0,e1,e2⟩:=HX.out w1 aW.out;obtain⟨⟨n0,n1,n2⟩,g0,g1,g2⟩:=fY.out.2.2.cells;clear hb))
    clear c0 c1 c2 m0 m1 m2 f0 f1 f2;have eV:=hid (fY.out.put (x:=x));have cO:=hid (fY.out.2.2.put (x:=x) |>.2.1 _ _ (gG.out.later aW.out));go_wp2_with fail;go_roundw
    case rel=>exact⟨k+1,by omega,cT,by go_num,x,eV,hid ⟨by rw[bY.out.1];exact cO.out,bY.out.2,by rw[bY.out.1];exact jR.out⟩⟩
    case measure=>simp[intOf];omega
   ·have bY:Hid (qky (qs.take (k+1))=mq∧qs.take (k+1)≠[]):=hid ⟨by rw[fW.out,iW.out,if_neg (fun h=>hr (eM.out.2 h))],by rw[fW.out];simp⟩
    go_wp2_with fail
    go_region_held3 (fun W=>W.cell? ⟨b,o+k*3,none⟩=some (.bool x.b)∧W.cell? ⟨b,o+k*3+1,none⟩=some (.slice x.p x.k x.c)∧W.cell? ⟨b,o+k*3+2,none⟩=some (.slice x.q x.j x.d)∧W.cell? ⟨w.heap.size+1,0,none⟩=some (.bool m.b)∧W.cell? ⟨w.heap.size+1,1,none⟩=some (.slice m.p m.k m.c)∧W.cell? ⟨w.heap.size+1,2,none⟩=some (.slice m.q m.j m.d)) (first|with_reducible exact⟨e0,e1,e2,n0,n1,n2⟩|exact⟨c0,c1,c2,m0,m1,m2⟩)
     (first|(go_at_call 51;refine fE.out.mono ?_;rintro e w1 ⟨rfl,hb⟩;have aW:=hid ((qaa wr.heap.size wr).drew.trans hb);have fY:=hid (HM.out.later aW.out);obtain⟨e0,e1,e2⟩:=HX.out w1 aW.out;obtain⟨⟨n0,n1,n2⟩,g0,g1,g2⟩:=fY.out.2.2.cells;clear hb))
    clear c0 c1 c2 m0 m1 m2 f0 f1 f2;have cO:=hid (HQ.out.1.later aW.out);go_wp2_with fail;go_roundw
    case rel=>exact⟨k+1,by omega,cT,by go_num,m,fY,hid ⟨by rw[bY.out.1];exact cO.out,bY.out.2,by rw[bY.out.1];exact HQ.out.2.2⟩⟩
    case measure=>simp[intOf];omega
  ·have Qj:k=qs.length:=by omega
   obtain⟨⟨m0,m1,m2⟩,f0,f1,f2⟩:=HM.out.2.2.cells;obtain⟨⟨r0,r1,r2⟩,g0,g1,g2⟩:=HM.out.2.1.cells;have HR:=hid (HM.out.2.1.put (x:=m));have HV:Hid (qau wr (.agg #[.bool m.b,.slice m.p m.k m.c,.slice m.q m.j m.d]) (qky qs)):=hid (by have:=HQ.out.1;rwa [Qj,List.take_length] at this);have HB:=hid HM.out.1;clear HQ Qj;go_wp2_with fail;refine bodyPost_ret (v := .agg #[.bool m.b,.slice m.p m.k m.c,.slice m.q m.j m.d]) ?_ rfl ?_
   ·simp[results,Tryz.results106,go_sem,r0,r1,r2]
   ·exact⟨⟨_,rfl,HR.out.2.1 _ _ HV.out⟩,HR.out.2.2.1 _ _ (qac _) HB.out⟩
theorem qvl{W:World}{z1 z2 z3 z4:NV}{q1 q2 q3 q4:Rat}(ty:TypeId)(h1:qau W (.agg #[.bool z1.b,.slice z1.p z1.k z1.c,.slice z1.q z1.j z1.d]) q1)(h2:qau W (.agg #[.bool z2.b,.slice z2.p z2.k z2.c,.slice z2.q z2.j z2.d]) q2)(h3:qau W (.agg #[.bool z3.b,.slice z3.p z3.k z3.c,.slice z3.q z3.j z3.d]) q3)(h4:qau W (.agg #[.bool z4.b,.slice z4.p z4.k z4.c,.slice z4.q z4.j z4.d]) q4):
  qhh (W.alloc (.cells #[.bool z1.b,.slice z1.p z1.k z1.c,.slice z1.q z1.j z1.d,.bool z2.b,.slice z2.p z2.k z2.c,.slice z2.q z2.j z2.d,.bool z3.b,.slice z3.p z3.k z3.c,.slice z3.q z3.j z3.d,.bool z4.b,.slice z4.p z4.k z4.c,.slice z4.q z4.j z4.d] ty)) W.heap.size 0 [q1,q2,q3,q4]:=by
 have aD:Below W.heap.size W (W.alloc (.cells #[.bool z1.b,.slice z1.p z1.k z1.c,.slice z1.q z1.j z1.d,.bool z2.b,.slice z2.p z2.k z2.c,.slice z2.q z2.j z2.d,.bool z3.b,.slice z3.p z3.k z3.c,.slice z3.q z3.j z3.d,.bool z4.b,.slice z4.p z4.k z4.c,.slice z4.q z4.j z4.d] ty)):=qad _ _;intro j q hq
 match j,hq with
 | 0,hq=>cases hq;refine⟨z1.b,z1.p,z1.k,z1.c,z1.q,z1.j,z1.d, ?_, ?_, ?_,h1.later aD⟩<;>(rw[World.cell?_alloc_at _ _ _ _ rfl];rfl)
 | 1,hq=>cases hq;refine⟨z2.b,z2.p,z2.k,z2.c,z2.q,z2.j,z2.d, ?_, ?_, ?_,h2.later aD⟩<;>(rw[World.cell?_alloc_at _ _ _ _ rfl];rfl)
 | 2,hq=>cases hq;refine⟨z3.b,z3.p,z3.k,z3.c,z3.q,z3.j,z3.d, ?_, ?_, ?_,h3.later aD⟩<;>(rw[World.cell?_alloc_at _ _ _ _ rfl];rfl)
 | 3,hq=>cases hq;refine⟨z4.b,z4.p,z4.k,z4.c,z4.q,z4.j,z4.d, ?_, ?_, ?_,h4.later aD⟩<;>(rw[World.cell?_alloc_at _ _ _ _ rfl];rfl)
theorem qhh.later{w w':World}{b o:Nat}{qs:List Rat}(h:qhh w b o qs)(hb:Below w.heap.size w w'):qhh w' b o qs:=fun j q hj=>by
 obtain⟨sg,p1,k1,c1,p2,k2,c2,e0,e1,e2,hv⟩:=h j q hj;refine⟨sg,p1,k1,c1,p2,k2,c2, ?_, ?_, ?_,hv.later hb⟩
 ·rw[hb.cell (qae w _ e0)];exact e0
 ·rw[hb.cell (qae w _ e1)];exact e1
 ·rw[hb.cell (qae w _ e2)];exact e2
theorem qvm(va vb:Value)(a b c d:Rat)(w:World)(m:Nat)(ha:qgl w va a b)(hb:qgl w vb c d)(ba:bd a m)(bb:bd b m)(bc:bd c m)(bdd:bd d m)(hm:m≤1048576):
  Calls Tryz.prog 49 #[va,vb] w fun e w'=>(∃v',e = .returned v'∧qgl w' v' (qln [a*c,a*d,b*c,b*d]) (qky [a*c,a*d,b*c,b*d]))∧Below w.heap.size w w':=by
 obtain⟨x,y,rfl,hx,hy⟩:=ha.nv;obtain⟨x',y',rfl,hx',hy'⟩:=hb.nv;have ra:=ba.rs;have rb:=bb.rs;have rc:=bc.rs;have rd:=bdd.rs;have aM:=hid (qxe w x y x' y' 103 103 103)
 have yB:Hid (∀W,qsk w x y x' y' W→Calls Tryz.prog 55 #[.agg #[.bool x.b,.slice x.p x.k x.c,.slice x.q x.j x.d],.agg #[.bool x'.b,.slice x'.p x'.k x'.c,.slice x'.q x'.j x'.d]] W fun e w'=>(∃z:NV,e = .returned (.agg #[.bool z.b,.slice z.p z.k z.c,.slice z.q z.j z.d])∧qau w' (.agg #[.bool z.b,.slice z.p z.k z.c,.slice z.q z.j z.d]) (a*c))∧qsk w x y x' y' w'∧Below W.heap.size W w'):=
  hid fun W hW=>qmw (_R:=fun _=>True) hW (qd8 _ _ _ _ W (hx.later hW.1) (hx'.later hW.1) (by unfold Cap at *;omega))
 have tH:Hid (∀W,qsk w x y x' y' W→Calls Tryz.prog 55 #[.agg #[.bool x.b,.slice x.p x.k x.c,.slice x.q x.j x.d],.agg #[.bool y'.b,.slice y'.p y'.k y'.c,.slice y'.q y'.j y'.d]] W fun e w'=>(∃z:NV,e = .returned (.agg #[.bool z.b,.slice z.p z.k z.c,.slice z.q z.j z.d])∧qau w' (.agg #[.bool z.b,.slice z.p z.k z.c,.slice z.q z.j z.d]) (a*d))∧qsk w x y x' y' w'∧Below W.heap.size W w'):=
  hid fun W hW=>qmw (_R:=fun _=>True) hW (qd8 _ _ _ _ W (hx.later hW.1) (hy'.later hW.1) (by unfold Cap at *;omega))
 have Bp:Hid (∀W,qsk w x y x' y' W→Calls Tryz.prog 55 #[.agg #[.bool y.b,.slice y.p y.k y.c,.slice y.q y.j y.d],.agg #[.bool x'.b,.slice x'.p x'.k x'.c,.slice x'.q x'.j x'.d]] W fun e w'=>(∃z:NV,e = .returned (.agg #[.bool z.b,.slice z.p z.k z.c,.slice z.q z.j z.d])∧qau w' (.agg #[.bool z.b,.slice z.p z.k z.c,.slice z.q z.j z.d]) (b*c))∧qsk w x y x' y' w'∧Below W.heap.size W w'):=
  hid fun W hW=>qmw (_R:=fun _=>True) hW (qd8 _ _ _ _ W (hy.later hW.1) (hx'.later hW.1) (by unfold Cap at *;omega))
 have uK:Hid (∀W,qsk w x y x' y' W→Calls Tryz.prog 55 #[.agg #[.bool y.b,.slice y.p y.k y.c,.slice y.q y.j y.d],.agg #[.bool y'.b,.slice y'.p y'.k y'.c,.slice y'.q y'.j y'.d]] W fun e w'=>(∃z:NV,e = .returned (.agg #[.bool z.b,.slice z.p z.k z.c,.slice z.q z.j z.d])∧qau w' (.agg #[.bool z.b,.slice z.p z.k z.c,.slice z.q z.j z.d]) (b*d))∧qsk w x y x' y' w'∧Below W.heap.size W w'):=
  hid fun W hW=>qmw (_R:=fun _=>True) hW (qd8 _ _ _ _ W (hy.later hW.1) (hy'.later hW.1) (by unfold Cap at *;omega))
 have dU:Hid (∀p ∈ [a*c,a*d,b*c,b*d],∀q ∈ [a*c,a*d,b*c,b*d],rs p+rs q≤Cap):=hid (by
  have h1:=(qe3 ba bc).rs;have h2:=(qe3 ba bdd).rs;have h3:=(qe3 bb bc).rs;have h4:=(qe3 bb bdd).rs
  have key:∀p ∈ [a*c,a*d,b*c,b*d],rs p≤m+m+(m+m):=by
   intro p hp;simp only[List.mem_cons,List.not_mem_nil,or_false] at hp;rcases hp with rfl|rfl|rfl|rfl<;>assumption
  intro p hp q hq;have:=key p hp;have:=key q hq;unfold Cap
  omega)
 clear hx hy hx' hy' ha hb ba bb bc bdd ra rb rc rd hm;generalize a*c=q1 at *;generalize a*d=q2 at *;generalize b*c=q3 at *;generalize b*d=q4 at *;go_enter Tryz.func49,Tryz.ntmps49;go_wp2_with fail;generalize ((w.alloc (.cells #[.bool x.b,.slice x.p x.k x.c,.slice x.q x.j x.d,.bool y.b,.slice y.p y.k y.c,.slice y.q y.j y.d] 103)).alloc (.cells #[.bool x'.b,.slice x'.p x'.k x'.c,.slice x'.q x'.j x'.d,.bool y'.b,.slice y'.p y'.k y'.c,.slice y'.q y'.j y'.d] 103)).alloc (.cells #[.bool false,.slice none 0 0,.slice none 0 0,.bool false,.slice none 0 0,.slice none 0 0] 103)=w0 at *;have bX:=hid (aM.out.later ((qaa _ _).drew));have c0:=bX.out.2.1.cells;have d0:=bX.out.2.2.1.cells
 go_region_held3 (fun W=>W.cell? ⟨w.heap.size,0,none⟩=some (.bool x.b)∧W.cell? ⟨w.heap.size,1,none⟩=some (.slice x.p x.k x.c)∧W.cell? ⟨w.heap.size,2,none⟩=some (.slice x.q x.j x.d)∧W.cell? ⟨w.heap.size,3,none⟩=some (.bool y.b)∧W.cell? ⟨w.heap.size,4,none⟩=some (.slice y.p y.k y.c)∧W.cell? ⟨w.heap.size,5,none⟩=some (.slice y.q y.j y.d)∧W.cell? ⟨w.heap.size+1,0,none⟩=some (.bool x'.b)∧W.cell? ⟨w.heap.size+1,1,none⟩=some (.slice x'.p x'.k x'.c)∧W.cell? ⟨w.heap.size+1,2,none⟩=some (.slice x'.q x'.j x'.d)∧W.cell? ⟨w.heap.size+1,3,none⟩=some (.bool y'.b)∧W.cell? ⟨w.heap.size+1,4,none⟩=some (.slice y'.p y'.k y'.c)∧W.cell? ⟨w.heap.size+1,5,none⟩=some (.slice y'.q y'.j y'.d)) (first|with_reducible exact⟨c0.1,c0.2.1,c0.2.2.1,c0.2.2.2.1,c0.2.2.2.2.1,c0.2.2.2.2.2,d0⟩|with_reducible exact⟨c1.1,c1.2.1,c1.2.2.1,c1.2.2.2.1,c1.2.2.2.2.1,c1.2.2.2.2.2,d1⟩|with_reducible exact⟨c2.1,c2.2.1,c2.2.2.1,c2.2.2.2.1,c2.2.2.2.2.1,c2.2.2.2.2.2,d2⟩|with_reducible exact⟨c3.1,c3.2.1,c3.2.2.1,c3.2.2.2.1,c3.2.2.2.2.1,c3.2.2.2.2.2,d3⟩|with_reducible exact⟨c4.1,c4.2.1,c4.2.2.1,c4.2.2.2.1,c4.2.2.2.2.1,c4.2.2.2.2.2,d4⟩|with_reducible exact⟨c5.1,c5.2.1,c5.2.2.1,c5.2.2.2.1,c5.2.2.2.2.1,c5.2.2.2.2.2,d5⟩)
  (first
   | (go_at_call 55;first
     | ((with_reducible refine(yB.out _ bX.out).mono ?_);rintro e wL1 ⟨⟨z1,rfl,hn⟩,ht,hb⟩;have HV1_1:=hid hn;have cV:=hid ht;have c1:=ht.2.1.cells;have d1:=ht.2.2.1.cells;clear hn ht hb)
     | ((with_reducible refine(tH.out _ cV.out).mono ?_);rintro e wL2 ⟨⟨z2,rfl,hn⟩,ht,hb⟩;have HV2_2:=hid hn;have HV1_2:=hid (HV1_1.out.later hb);have fZ:=hid ht;have c2:=ht.2.1.cells;have d2:=ht.2.2.1.cells;clear hn ht hb)
     | ((with_reducible refine(Bp.out _ fZ.out).mono ?_);rintro e wL3 ⟨⟨z3,rfl,hn⟩,ht,hb⟩;have HV3_3:=hid hn;have HV1_3:=hid (HV1_2.out.later hb);have HV2_3:=hid (HV2_2.out.later hb);have pT:=hid ht;have c3:=ht.2.1.cells;have d3:=ht.2.2.1.cells;clear hn ht hb)
     | ((with_reducible refine(uK.out _ pT.out).mono ?_);rintro e Ga ⟨⟨z4,rfl,hn⟩,ht,hb⟩;have HV4_4:=hid hn;have HV1_4:=hid (HV1_3.out.later hb);have HV2_4:=hid (HV2_3.out.later hb);have HV3_4:=hid (HV3_3.out.later hb);have Cz:=hid ht;have c4:=ht.2.1.cells;have d4:=ht.2.2.1.cells;have HAL5:Hid (Below Ga.heap.size Ga (Ga.alloc (.cells #[.bool z1.b,.slice z1.p z1.k z1.c,.slice z1.q z1.j z1.d,.bool z2.b,.slice z2.p z2.k z2.c,.slice z2.q z2.j z2.d,.bool z3.b,.slice z3.p z3.k z3.c,.slice z3.q z3.j z3.d,.bool z4.b,.slice z4.p z4.k z4.c,.slice z4.q z4.j z4.d] 87))):=hid (qad _ _);have Gb:=hid (ht.later HAL5.out);have c5:=Gb.out.2.1.cells;have d5:=Gb.out.2.2.1.cells;clear hn ht hb)))
 clear c0 d0 c1 d1 c2 d2 c3 d3 c4 d4 c5 d5;have dR:=hid (qvl 87 HV1_4.out HV2_4.out HV3_4.out HV4_4.out);have Qd:=hid (qvj [q1,q2,q3,q4] Ga.heap.size 0 4 _ dR.out (by simp) (by simp) dU.out);have Cx:Hid (∀W,Below (Ga.alloc (.cells #[.bool z1.b,.slice z1.p z1.k z1.c,.slice z1.q z1.j z1.d,.bool z2.b,.slice z2.p z2.k z2.c,.slice z2.q z2.j z2.d,.bool z3.b,.slice z3.p z3.k z3.c,.slice z3.q z3.j z3.d,.bool z4.b,.slice z4.p z4.k z4.c,.slice z4.q z4.j z4.d] 87)).heap.size (Ga.alloc (.cells #[.bool z1.b,.slice z1.p z1.k z1.c,.slice z1.q z1.j z1.d,.bool z2.b,.slice z2.p z2.k z2.c,.slice z2.q z2.j z2.d,.bool z3.b,.slice z3.p z3.k z3.c,.slice z3.q z3.j z3.d,.bool z4.b,.slice z4.p z4.k z4.c,.slice z4.q z4.j z4.d] 87)) W→Calls Tryz.prog 106 #[.slice (some ⟨Ga.heap.size,0,none⟩) 4 4,.func (.func 51) #[] #[]] W fun e w'=>(∃v',e = .returned v'∧qau w' v' (qky [q1,q2,q3,q4]))∧Below W.heap.size W w'):=hid fun W hW=>qvk [q1,q2,q3,q4] Ga.heap.size 0 4 W (dR.out.later hW) (by simp) (by simp) dU.out;clear HV1_1 HV1_2 HV1_3 HV1_4 HV2_2 HV2_3 HV2_4 HV3_3 HV3_4 HV4_4 bX cV fZ pT dU yB tH Bp uK;go_wp2_with fail;refine Qd.out.mono ?_;rintro e w5 ⟨⟨v5,rfl,hn⟩,hb⟩;obtain⟨y5,rfl⟩:=hn.nv;have HM5:=hid hn;have lG:=hid hb;have HT6:=hid (Gb.out.later hb);clear hn hb Qd;go_wp2_with fail;refine(Cx.out _ lG.out).mono ?_;rintro e w6 ⟨⟨v6,rfl,hn⟩,hb⟩;obtain⟨y6,rfl⟩:=hn.nv;have Gc:=hid hn;have HL6:=hid (HM5.out.later hb);have Lo:=hid (HT6.out.later hb);obtain⟨⟨r0,g0⟩,⟨r1,g1⟩,⟨r2,g2⟩,⟨r3,g3⟩,⟨r4,g4⟩,⟨r5,g5⟩⟩:=qd4 Lo.out.2.2.2;have jT:=qhg Lo.out.2.2.2 (.bool y5.b) (.slice y5.p y5.k y5.c) (.slice y5.q y5.j y5.d) (.bool y6.b) (.slice y6.p y6.k y6.c) (.slice y6.q y6.j y6.d);have HN:=hid (qh5 (jT.1 _ _ HL6.out) (jT.1 _ _ Gc.out));have HB:=hid (jT.2 w.heap.size w (by omega) Lo.out.1);clear hn hb jT Cx
 go_wp2_with fail;refine bodyPost_ret (v := .agg #[.bool y5.b,.slice y5.p y5.k y5.c,.slice y5.q y5.j y5.d,.bool y6.b,.slice y6.p y6.k y6.c,.slice y6.q y6.j y6.d]) ?_ rfl ?_
 ·simp[results,Tryz.results49,go_sem,r0,r1,r2,r3,r4,r5]
 ·exact⟨⟨_,rfl,HN.out⟩,HB.out⟩
end Go.Proofs.YtlkdlffhmakbgaaGreatDoor
