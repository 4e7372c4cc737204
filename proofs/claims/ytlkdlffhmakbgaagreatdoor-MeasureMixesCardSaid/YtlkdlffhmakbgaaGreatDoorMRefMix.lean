/- The reference's CheckMix and Mix. -/
import Derived.Test.YtlkdlffhmakbgaaGreatDoorMMix
import Derived.Test.YtlkdlffhmakbgaaGreatDoorMMixShares
import Derived.Test.YtlkdlffhmakbgaaGreatDoorMMixLots
import Derived.Test.YtlkdlffhmakbgaaGreatDoorMClash
import Derived.BigQuiet
import Derived.Deep.RegionHeld3
set_option linter.all false
namespace Go.Proofs.YtlkdlffhmakbgaaGreatDoor
open Go.RowKit
set_option maxRecDepth 100000
set_option maxHeartbeats 8000000
def qck:List Lay→BA
 | []=>⟨#[]⟩
 | x::_=>x.grain
def qdc(l:List Lay):Nat:=
 if l.length=0 then 2 else if 64<l.length then 5 else if qaj (l.map qbj)≠0 then qaj (l.map qbj) else if(l.all fun x=>decide (x.grain=qck l))=false then 16 else if 999999999<qav l then 4 else if 64<(qci l).length then 5 else 0
def qx8(c:Nat)(w:World)(e:Ending)(w':World):Prop:=e = .returned (.tuple #[.agg #[.string ⟨#[]⟩,.int .i64 0,.slice none 0 0],.int .i64 (c:Nat)])∧Below w.heap.size w w'
theorem qay{W:World}{g:Nat}{a b c:Value}(h:Own W g 3 (qep a b c)):W.cell? ⟨g,0,none⟩=some a∧W.frozen? ⟨g,0,none⟩=false∧W.cell? ⟨g,1,none⟩=some b∧W.frozen? ⟨g,1,none⟩=false∧W.cell? ⟨g,2,none⟩=some c∧W.frozen? ⟨g,2,none⟩=false:=by
 obtain⟨a0,f0⟩:=h.2 0 (by omega);obtain⟨a1,f1⟩:=h.2 1 (by omega);obtain⟨a2,f2⟩:=h.2 2 (by omega);exact⟨a0,f0,a1,f1,a2,f2⟩
theorem qgk{w W:World}(h:Below w.heap.size w W)(x y z:Value):Below w.heap.size w (((W.setCell ⟨w.heap.size,0,none⟩ x).setCell ⟨w.heap.size,1,none⟩ y).setCell ⟨w.heap.size,2,none⟩ z):=
 ((h.setCell (p:=⟨w.heap.size,0,none⟩) (qac _) _).setCell (p:=⟨w.heap.size,1,none⟩) (qac _) _).setCell (p:=⟨w.heap.size,2,none⟩) (qac _) _
theorem q4c(p:Option Addr)(n c ck:Nat)(w:World)(hn:n≤9223372036854775807)(h:(n=0∧ck=2)∨(64<n∧ck=5)):Calls Tryz.prog 10 #[.slice p n c] w (qx8 ck w):=by
 have cX:=hid ((qaa w.heap.size w).alloc (qac _) (.cells #[.string ⟨#[]⟩,.int .i64 0,.slice none 0 0] 29));obtain⟨a0,f0,a1,f1,a2,f2⟩:=qay (qb4 w 29 (.string ⟨#[]⟩) (.int .i64 0) (.slice none 0 0));rcases h with⟨rfl,rfl⟩|⟨h,rfl⟩
 ·go_enter Tryz.func10,Tryz.ntmps10
  go_wp2_with fail;refine bodyPost_ret (v := .tuple #[.agg #[.string ⟨#[]⟩,.int .i64 0,.slice none 0 0],.int .i64 2]) ?_ rfl ?_
  ·simp[results,Tryz.results10,go_sem,a0,a1,a2]
  ·exact⟨rfl,cX.out⟩
 ·have dS:((n:Int)==0)=false:=qam (by omega)
  go_enter Tryz.func10,Tryz.ntmps10;go_wp2_with fail;refine bodyPost_ret (v := .tuple #[.agg #[.string ⟨#[]⟩,.int .i64 0,.slice none 0 0],.int .i64 5]) ?_ rfl ?_
  ·simp[results,Tryz.results10,go_sem,a0,a1,a2]
  ·exact⟨rfl,cX.out⟩
theorem q80(l:List Lay)(b o c ck:Nat)(w:World)(hg:GW w)(aB:qdz w b o l)(mS:1≤l.length)(hl:l.length≤64)(hs:∀x ∈ l,∀s ∈ x.shares,s.2.size≤1073741824)(lV:qaj (l.map qbj)=ck)(h0:ck≠0):
  Calls Tryz.prog 10 #[.slice (some ⟨b,o,none⟩) l.length c] w (qx8 ck w):=by
 have aD:=(qaa w.heap.size w).alloc (qac _) (.cells #[.string ⟨#[]⟩,.int .i64 0,.slice none 0 0] 29);have cX:=hid aD;have HO:=hid (qb4 w 29 (.string ⟨#[]⟩) (.int .i64 0) (.slice none 0 0))
 have uX:=hid ((qqr l b o c _ (hg.later aD) (aB.later aD) (by omega) hs).mono (R':=fun e w'=>e = .returned (.tuple #[.slice none 0 0,.int .i64 (ck:Nat)])∧Below (w.alloc (.cells #[.string ⟨#[]⟩,.int .i64 0,.slice none 0 0] 29)).heap.size (w.alloc (.cells #[.string ⟨#[]⟩,.int .i64 0,.slice none 0 0] 29)) w') fun e w' h=>by
  unfold qip at h;rw[lV,if_neg h0] at h
  exact h)
 have dS:((l.length:Int)==0)=false:=qam (by omega);have aZ:((ck:Int)==0)=false:=qam (by omega);clear hg aB hs lV h0 aD;go_enter Tryz.func10,Tryz.ntmps10;go_wp2_with fail;refine uX.out.mono ?_;rintro e w1 ⟨rfl,hb⟩;have HB:=hid (cX.out.trans (hb.mono cX.out.size));have fB:=hid (HO.out.later (hb.mono HO.out.1));clear hb uX HO cX;obtain⟨a0,f0,a1,f1,a2,f2⟩:=qay fB.out;have jA:=hid (qgk HB.out (.string ⟨#[]⟩) (.int .i64 0) (.slice none 0 0));go_wp2_with fail;refine bodyPost_ret (v := .tuple #[.agg #[.string ⟨#[]⟩,.int .i64 0,.slice none 0 0],.int .i64 ck]) ?_ rfl ?_
 ·simp[results,Tryz.results10,go_sem,a0,a1,a2]
 ·exact⟨rfl,jA.out⟩
theorem qq6{l:List Lay}{k:Nat}{x:Lay}{g:BA}(hk:l[k]? = some x)(h:∀y ∈ l.take k,y.grain=g)(hx:x.grain=g):∀y ∈ l.take (k+1),y.grain=g:=fun y hy=>by
 rw[qbl hk] at hy;rcases List.mem_append.1 hy with hy|hy
 ·exact h y hy
 ·rw[List.mem_singleton.1 hy];exact hx
theorem q6l(l:List Lay)(g0:BA)(b o c ck:Nat)(w:World)(hg:GW w)(aB:qdz w b o l)(mS:1≤l.length)(hl:l.length≤64)
  (hs:∀x ∈ l,∀s ∈ x.shares,s.1.size≤1073741824∧s.2.size≤1073741824) (cM:∀x ∈ l,qbj x=0) (nN:qck l=g0)
  (h:((∃x ∈ l,x.grain≠g0)∧ck=16)∨((∀x ∈ l,x.grain=g0)∧999999999<qav l∧ck=4)∨((∀x ∈ l,x.grain=g0)∧qav l≤999999999∧64<(qci l).length∧ck=5)):
  Calls Tryz.prog 10 #[.slice (some ⟨b,o,none⟩) l.length c] w (qx8 ck w):=by
 have aD:=(qaa w.heap.size w).alloc (qac _) (.cells #[.string ⟨#[]⟩,.int .i64 0,.slice none 0 0] 29);have cX:=hid aD;have HO:=hid (qb4 w 29 (.string ⟨#[]⟩) (.int .i64 0) (.slice none 0 0));have uX:=hid (qji (c:=c) (hg.later aD) (aB.later aD) hl (fun x hx s hs'=>(hs x hx s hs').2) cM);have bL:=hid aB;obtain⟨eU,fL⟩:=qfc l cM;have xS:=hid cM
 have xE:Hid (∀y,l[0]? = some y→y.grain=g0):=hid fun y hy=>by
  rw[←nN]
  match l,hy with
  | x::_,hy=>
   simp only[List.getElem?_cons_zero,Option.some.injEq] at hy;subst hy;rfl
 have HH:=hid h;have uM:Hid (∀W g,Below w.heap.size w W→qdg q12 W g l.length (l.map qp6)→Calls Tryz.prog 33 #[.slice (some ⟨b,o,none⟩) l.length c,.slice (some ⟨g,0,none⟩) l.length l.length] W fun e w'=>(∃E,e = .returned (.map (some W.heap.size))∧qhm w' W.heap.size E∧qhn E=qci l∧∀e ∈ E,bd e.2.2 (602*64*64+1))∧Below W.heap.size W w'):=hid fun W g hW hr=>qnn l b o c g W (aB.later hW) hl cM hr
 have rH:Hid (∀W E r,64<(qci l).length→qav l≤999999999→qhn E=qci l→qhm W r E→(∀e ∈ E,bd e.2.2 (602*64*64+1))→Calls Tryz.prog 32 #[.map (some r),.int .i64 (qav l)] W fun e w'=>e = .returned (.tuple #[.slice none 0 0,.int .i64 5])∧Below W.heap.size W w'):=hid fun W E r fU bZ hd hN hb=>by
  have sD:=qub l (N:=1073741824) fun x hx s hs'=>(hs x hx s hs').1
  have hne:=qsc l (by rintro rfl;exact absurd mS (by decide)) fun x hx h=>by
   have:=(qbo (cM x hx)).2.2.1;rw[h] at this;exact absurd this (by decide)
  rw[←hd] at sD hne fU;have hEl:64<E.length:=by unfold qhn at fU;rwa [List.length_map] at fU
  refine(qno r E (qav l) W hN (by rintro rfl;exact hne rfl) (fun e he => ?_) (by omega) bZ hb).mono fun e w' h => ?_
  ·have:=sD (e.1,e.2.2) (by unfold qhn;exact List.mem_map_of_mem (f:=fun e:BA × NV × Rat=>(e.1,e.2.2)) he)
   exact Nat.le_trans this (by decide)
  ·unfold qwd at h
   rw[if_pos hEl] at h;exact h
 have dS:((l.length:Int)==0)=false:=qam (by omega);have sG:=hid mS;clear hg aB hs cM aD nN h;go_enter Tryz.func10,Tryz.ntmps10;go_wp2_with fail;refine uX.out.mono ?_;rintro e w1 ⟨⟨gp,hgp,rfl,hr⟩,hb⟩;have HR:=hid hr;have HB:=hid (cX.out.trans (hb.mono cX.out.size));have fB:=hid (HO.out.later (hb.mono HO.out.1));clear hr hb uX HO;go_wp2_with fail
 go_loopw [6,29] (fun a i wr=>∃k:Nat,k≤l.length∧i = .int .i64 k∧a = .int .i64 (qav (l.take k))∧Hid (Below w1.heap.size w1 wr)∧Hid (∀y ∈ l.take k,y.grain=g0)) (fun _ i _=>l.length-(intOf i).toNat)
 case atStart=>exact⟨0,Nat.zero_le _,rfl,rfl,hid (qaa _ _),hid (by intro y hy;cases hy)⟩
 case round=>
  obtain⟨k,hk,rfl,rfl,bM,HGT⟩:=hrel;by_cases cT:k<l.length
  ·obtain⟨x,bV⟩:∃x,l[k]? = some x:=⟨l[k],qap cT⟩
   obtain⟨y,hy⟩:∃y,l[0]? = some y:=⟨l[0]'(by omega),qap _⟩;obtain⟨e0,e1,p,cc,e2,_⟩:=bL.out k x bV;obtain⟨f0,_⟩:=bL.out 0 y hy;rw[xE.out y hy] at f0;have lK:=HB.out.trans (bM.out.mono HB.out.size);have c0:wr.cell? ⟨b,o+k*3,none⟩=some (.string x.grain):=by rw[lK.cell (qae w _ e0)];exact e0
   have c1:wr.cell? ⟨b,o+k*3+1,none⟩=some (.int .i64 x.mass):=by rw[lK.cell (qae w _ e1)];exact e1
   have c2:wr.cell? ⟨b,o+k*3+2,none⟩=some (.slice p x.shares.length cc):=by rw[lK.cell (qae w _ e2)];exact e2
   have aD:Below wr.heap.size wr (wr.alloc (.cells #[.string x.grain,.int .i64 x.mass,.slice p x.shares.length cc] 29)):=qad _ _
   have d0:(wr.alloc (.cells #[.string x.grain,.int .i64 x.mass,.slice p x.shares.length cc] 29)).cell? ⟨b,o,none⟩=some (.string g0):=by
    have h1:=(lK.trans (aD.mono lK.size)).cell (qae w _ f0);rw[f0] at h1
    simpa using h1
   have ho:=qb4 wr 29 (.string x.grain) (.int .i64 x.mass) (.slice p x.shares.length cc);obtain⟨a0,_⟩:=ho.2 0 (by omega);obtain⟨a1,_⟩:=ho.2 1 (by omega);simp only[qep,if_pos,if_neg,Nat.one_ne_zero] at a0 a1;obtain⟨nT,nS,_⟩:=qbo (xS.out x (qbh bV));obtain⟨iA,dO⟩:=qfc (l.take k) fun z hz=>xS.out z (List.mem_of_mem_take hz);have aY:(l.take k).length≤64:=Nat.le_trans (List.length_take_le' ..) hl;have fW:Hid (qav (l.take (k+1))=qav (l.take k)+x.mass):=hid (by rw[qbl bV,qfq]);have cZ:=hid (bM.out.trans (aD.mono bM.out.size));have oO:=hid (qq6 bV HGT.out)
   have iF:Hid (x.grain≠g0→ck=16):=hid fun hx=>by
    rcases HH.out with⟨_,h⟩|⟨h,_⟩|⟨h,_⟩
    ·exact h
    ·exact absurd (h x (qbh bV)) hx
    ·exact absurd (h x (qbh bV)) hx
   have nH:=hid ((fB.out.later (bM.out.mono fB.out.1)).later (aD.mono (fB.out.later (bM.out.mono fB.out.1)).1));have kO:=hid (lK.trans (aD.mono lK.size));clear e0 e1 e2 f0 lK aD ho bV hy bM HGT;generalize x.mass=mx at *;generalize x.shares.length=nx at *;generalize x.grain=gx at *;generalize qav (l.take k)=a at *;by_cases Ml:gx=g0
   ·have HGN2:=hid (oO.out Ml)
    subst Ml;clear iF oO nH kO;go_wp2_with fail
    go_quiet (fail)
    go_wp2_with fail;go_roundw
    case rel=>exact⟨k+1,by omega,by go_num,by rw[fW.out],hid (below_drewN cZ.out _),HGN2⟩
    case measure=>simp[intOf];omega
   ·have eX:=hid (iF.out Ml)
    have iR:(gx==g0)=false:=by
     rw[Bool.eq_false_iff];exact fun e=>Ml ((qbu _ _).1 e)
    have pX:(gx.toList==g0.toList)=false:=qam fun e=>Ml (by rw[←qgw gx,←Lib.toList_data,e,Lib.toList_data,qgw]);clear iF oO Ml HH uM rH;go_wp2_with fail
    go_quiet (fail)
    obtain⟨z0,g0',z1,g1,z2,g2⟩:=qay nH.out;go_wp2_with fail;refine bodyPost_ret (v := .tuple #[.agg #[.string ⟨#[]⟩,.int .i64 0,.slice none 0 0],.int .i64 16]) ?_ rfl ?_
    ·simp[results,Tryz.results10,go_sem,z0,z1,z2]
    ·exact⟨by rw[eX.out];rfl,qgk (below_drewN kO.out _) _ _ _⟩
  ·obtain rfl:k=l.length:=by omega
   rw[List.take_length] at HGT ⊢;have kO:=hid (HB.out.trans (bM.out.mono HB.out.size));have HRZ:=hid (HR.out.later qh8 bM.out);have Dz:=hid (uM.out wr gp kO.out HRZ.out);have nH:=hid (fB.out.later (bM.out.mono fB.out.1));rcases HH.out with⟨⟨x,hx,Rn⟩,-⟩|⟨-,jM,rfl⟩|⟨-,jM,fU,rfl⟩
   ·exact absurd (HGT.out x hx) Rn
   ·obtain⟨z0,g0',z1,g1,z2,g2⟩:=qay nH.out
    clear uM bM fB HR Dz rH HH;go_wp2_with fail;refine bodyPost_ret (v := .tuple #[.agg #[.string ⟨#[]⟩,.int .i64 0,.slice none 0 0],.int .i64 4]) ?_ rfl ?_
    ·simp[results,Tryz.results10,go_sem,z0,z1,z2]
    ·exact⟨rfl,qgk kO.out _ _ _⟩
   ·have hms2:¬999999999<qav l:=by omega
    have Sw:=hid fun W E r=>rH.out W E r fU jM;clear uM bM fB HR rH HH fU jM;go_wp2_with fail;refine Dz.out.mono ?_;rintro e w2 ⟨⟨E,rfl,hN,hD,pK⟩,hb⟩;have oG:=hid (Sw.out w2 E _ hD hN pK);have aK:=hid (kO.out.trans (hb.mono kO.out.size));have iL:=hid (nH.out.later (hb.mono nH.out.1));clear hN hD pK hb Dz Sw kO nH;go_wp2_with fail;refine oG.out.mono ?_;rintro e w3 ⟨rfl,hb⟩;have lD:=hid (iL.out.later (hb.mono iL.out.1));have bR:=hid (aK.out.trans (hb.mono aK.out.size));obtain⟨z0,g0',z1,g1,z2,g2⟩:=qay lD.out;clear hb oG aK iL;go_wp2_with fail;refine bodyPost_ret (v := .tuple #[.agg #[.string ⟨#[]⟩,.int .i64 0,.slice none 0 0],.int .i64 5]) ?_ rfl ?_
    ·simp[results,Tryz.results10,go_sem,z0,z1,z2]
    ·exact⟨rfl,qgk bR.out _ _ _⟩
end Go.Proofs.YtlkdlffhmakbgaaGreatDoor
namespace Go.Proofs.YtlkdlffhmakbgaaGreatDoor
open Go.RowKit
set_option maxRecDepth 100000
set_option maxHeartbeats 8000000
def zah(x:Lay):Prop:=x.grain.size≤40∧∀s ∈ x.shares,s.1.size≤40∧s.2.size≤20
theorem qsi{l:List Lay}(cM:∀x ∈ l,qbj x=0)(hl:l.length≤6)(hs:∀x ∈ l,zah x):
  (∀x ∈ l,x.shares.length≤64∧0≤x.mass∧x.mass≤999999999∧∀s ∈ x.shares,s.2=rt (qcu s)∧sm (qcu s) 20)∧
  (∀k x j,l[k]? = some x→SmL (qgm x.mass (qd7 (l.take k)) (x.shares.take j)) 500)∧(∀k x j,l[k]? = some x→(qgm x.mass (qd7 (l.take k)) (x.shares.take j)).length≤1000000):=by
 have hp:∀x ∈ l,∀s ∈ x.shares,s.2=rt (qcu s)∧sm (qcu s) 20:=fun x hx s eT=>qwj ((qbo (cM x hx)).2.2.2.2 s eT) ((hs x hx).2 s eT).2;refine⟨fun x hx => ?_,fun k x j hk => ?_,fun k x j hk => ?_⟩
 ·obtain⟨h1,h2,h3,h4,h5⟩:=qbo (cM x hx)
  exact⟨h4,by omega,h2,hp x hx⟩
 ·have hx:=qbh hk
  obtain⟨h1,h2,h3,h4,h5⟩:=qbo (cM x hx);have cT:=(List.getElem?_eq_some_iff.1 hk).1;have hK:=qsg (l.take k) (fun y hy=>cM y (List.mem_of_mem_take hy)) fun y hy s eT=>(hp y (List.mem_of_mem_take hy) s eT).2;have hup:=(qpu _ _ (ql5 (cM x hx))).2;have h6:=(qx3 h1 h2 (qij (l.take k)).1 hK (x.shares.take j) (hup.sublist (List.take_sublist _ _)) fun s eT=>(hp x hx s (List.mem_of_mem_take eT)).2).2;exact fun p hpp=>qek (h6 p hpp).1 (by have:=List.length_take_le k l;omega)
 ·have hx:=qbh hk
  have h1:=qpv x.mass (x.shares.take j) (qd7 (l.take k));have h2:=qpw (l.take k) fun y hy=>(qbo (cM y (List.mem_of_mem_take hy))).2.2.2.1;have h3:=(qbo (cM x hx)).2.2.2.1;have h4:=List.length_take_le k l;have h5:=List.length_take_le j x.shares;have h6:64*(l.take k).length≤64*6:=Nat.mul_le_mul_left _ (by have:=List.length_take_le' k l;omega);have h7:=List.length_take_le' j x.shares;omega
theorem ql8{l:List Lay}:((l.all fun x=>decide (x.grain=qck l))=true↔∀x ∈ l,x.grain=qck l):=by
 rw[List.all_eq_true];exact⟨fun h x hx=>of_decide_eq_true (h x hx),fun h x hx=>qag (h x hx)⟩
theorem qkw{l:List Lay}{y:Lay}(h:l[0]? = some y):y.grain=qck l:=by
 match l,h with
 | x::_,h=>
  simp only[List.getElem?_cons_zero,Option.some.injEq] at h;subst h;rfl
theorem qum(v:Value)(l:List Lay)(w:World)(hv:qpa w v l)(hl:l.length≤6∨64<l.length)(hs:∀x ∈ l,zah x):
  Calls Tryz.prog 11 #[v] w fun e w'=>e = .returned (.int .i64 (qdc l:Nat))∧Below w.heap.size w w':=by
 have lU:=hv;obtain⟨p,c,rfl,bO,bG,aA⟩:=hv;unfold maxLen at bG;have dM:=hid (qaa w.heap.size w);by_cases h0:l.length=0
 ·have HR:Hid (qdc l=2):=hid (by unfold qdc;rw[if_pos h0])
  have hb:((l.length:Int)==0)=true:=by rw[h0];rfl
  clear aA hs lU hl;go_enter Tryz.func11,Tryz.ntmps11;go_wp2_with fail;go_ret;exact⟨qa1 (by rw[HR.out];rfl),dM.out⟩
 have dS:((l.length:Int)==0)=false:=qam (by omega);by_cases h1:64<l.length
 ·have HR:Hid (qdc l=5):=hid (by unfold qdc;rw[if_neg h0,if_pos h1])
  clear aA hs lU hl;go_enter Tryz.func11,Tryz.ntmps11;go_wp2_with fail;go_ret;exact⟨qa1 (by rw[HR.out];rfl),dM.out⟩
 have HR:Hid (qdc l=if qaj (l.map qbj)≠0 then qaj (l.map qbj) else if(l.all fun x=>decide (x.grain=qck l))=false then 16 else if 999999999<qav l then 4 else if 64<(qci l).length then 5 else 0):=hid (by unfold qdc;rw[if_neg h0,if_neg h1]);have HV:=hid lU;obtain⟨b,o,rfl,aB⟩:=aA.resolve_left h0;have bL:=hid aB;have HS:=hid hs;have hl6:l.length≤6:=by omega
 have HL6:=hid hl6;have Dr:=hid fun h=>qsi (l:=l) h hl6 hs;clear aA hs aB lU hl h1;go_enter Tryz.func11,Tryz.ntmps11;go_wp2_with fail
 go_loopw [3,4] (fun t i wr=>∃k:Nat,k≤l.length∧i = .int .i64 k∧(∃z:Int,t = .int .i64 z∧0≤z∧z≤999999999*(k:Int)∧Hid (z=qav (l.take k)))∧Hid (qaj ((l.map qbj).take k)=0)∧Hid (Below w.heap.size w wr)) (fun _ i _=>l.length-(intOf i).toNat)
 case atStart=>exact⟨0,Nat.zero_le _,rfl,⟨0,rfl,Int.le_refl _,by omega,hid rfl⟩,hid rfl,dM⟩
 case round=>
  obtain⟨k,hk,rfl,⟨z,rfl,cU,eE,HZ⟩,HF,HB⟩:=hrel;clear dM;by_cases aY:k<l.length
  ·obtain⟨x,bV⟩:∃x,l[k]? = some x:=⟨_,qap aY⟩
   obtain⟨e0,e1,q,cq,e2,yM⟩:=bL.out k x bV
   have yG:Hid (∀W,Below w.heap.size w W→W.cell? ⟨b,o+k*3,none⟩=some (.string x.grain)∧W.cell? ⟨b,o+k*3+1,none⟩=some (.int .i64 x.mass)∧W.cell? ⟨b,o+k*3+2,none⟩=some (.slice q x.shares.length cq)):=hid fun W hW=>by
    rw[hW.cell (qae w _ e0),hW.cell (qae w _ e1),hW.cell (qae w _ e2)];exact⟨e0,e1,e2⟩
   obtain⟨f0,f1⟩:=qpr HF.out (show(l.map qbj)[k]? = some (qbj x) by rw[List.getElem?_map,bV];rfl);have uR:=HS.out x (qbh bV);have HC:=hid (qui x q cq wr (yM.later HB.out) (by have:=uR.1;omega) fun s eT=>by have:=uR.2 s eT;omega);have HZN:Hid (z+x.mass=qav (l.take (k+1))):=hid (by rw[qbl bV,qfq,←HZ.out]);have oN:Hid (qbj x=0→0<x.mass∧x.mass≤999999999):=hid fun h=>⟨(qbo h).1,(qbo h).2.1⟩;have Cc:(0:Int)≤(k:Int):=by omega
   have tO:(k:Int)<(l.length:Int):=by omega
   have pW:=hid f0;have gV:=hid f1;clear bV uR yM e0 e1 e2 f0 f1;obtain⟨c0,c1,c2⟩:=yG.out _ HB.out;generalize qbj x=lx at *;generalize x.mass=mx at *;generalize x.grain=gx at *;generalize x.shares.length=nx at *;by_cases hz:lx=0
   ·obtain⟨mT,eU⟩:=oN.out hz
    have kH:=hid (pW.out hz);rw[hz] at HC;clear pW gV oN hz HZ;go_wp2_with fail;refine HC.out.mono ?_;rintro e w1 ⟨rfl,hb⟩;have aP:=hid (HB.out.trans (hb.mono HB.out.size));clear hb HC c0 c1 c2;obtain⟨c0,c1,c2⟩:=yG.out _ aP.out;have bZ:IntKind.i64.wrap (z+mx)=z+mx:=IntWalk.i64_in _ (by have:=HL6.out;omega);go_wp2_with fail;go_roundw
    case rel=>exact⟨k+1,by omega,by go_num,⟨z+mx,rfl,by omega,by omega,HZN⟩,kH,aP⟩
    case measure=>simp[intOf];omega
   ·have HG:=hid (gV.out hz)
    have hne:((lx:Int) != 0)=true:=by simpa using hz
    have Iz:((lx:Int)==0)=false:=qam (by omega);have kW:=hid hz;clear pW gV oN hz HZ;go_wp2_with fail;refine HC.out.mono ?_;rintro e w1 ⟨rfl,hb⟩;have aP:=hid (HB.out.trans (hb.mono HB.out.size));clear hb HC c0 c1 c2;go_wp2_with fail;go_ret;exact⟨qa1 (by rw[HR.out,if_pos (by rw[HG.out];exact kW.out),HG.out]),aP.out⟩
  ·have iM:k=l.length:=by omega
   have kH:Hid (qaj (l.map qbj)=0):=hid (by rw[←HF.out,iM,List.take_of_length_le (by rw[List.length_map];omega)]);have xS:Hid (∀x ∈ l,qbj x=0):=hid fun x hx=>qjz kH.out _ (List.mem_map_of_mem hx);have kW:Hid (z=qav l):=hid (by rw[HZ.out,iM,List.take_length]);have xT:=hid (Dr.out xS.out);have rX:=hid fun W hW=>qq5 _ l W (HV.out.later hW) (by have:=HL6.out;omega) xT.out.1 xT.out.2.1 xT.out.2.2;have cK:Hid (qdc l=if(l.all fun x=>decide (x.grain=qck l))=false then 16 else if 999999999<qav l then 4 else if 64<(qci l).length then 5 else 0):=hid (by rw[HR.out,if_neg (by rw[kH.out];simp)]);clear HF HZ HR Dr xT iM kH;go_wp2_with fail
   go_loopw [6] (fun i wi=>∃j:Nat,1≤j∧j≤l.length∧i = .int .i64 j∧Hid (∀y ∈ l.take j,y.grain=qck l)∧Hid (Below w.heap.size w wi)) (fun i _=>l.length-(intOf i).toNat)
   case atStart=>exact⟨1,qac _,by omega,rfl,hid (by
     obtain⟨y,hy⟩:∃y,l[0]? = some y:=⟨_,qap (by omega)⟩;intro u hu;rw[show(1:Nat)=0+1 from rfl,qbl hy] at hu;simp only[List.take_zero,List.nil_append,List.mem_singleton] at hu;rw[hu]
     exact qkw hy),HB⟩
   case round=>
    obtain⟨j,Bu,hj,rfl,Ad,aK⟩:=hrel;clear HB;by_cases yD:j<l.length
    ·obtain⟨x,bV⟩:∃x,l[j]? = some x:=⟨_,qap yD⟩
     obtain⟨y,hy⟩:∃y,l[0]? = some y:=⟨_,qap (by omega)⟩;obtain⟨e0,-⟩:=bL.out j x bV;obtain⟨f0,-⟩:=bL.out 0 y hy;rw[qkw hy,Nat.zero_mul,Nat.add_zero] at f0;have c0:wr.cell? ⟨b,o+j*3,none⟩=some (.string x.grain):=by rw[aK.out.cell (qae w _ e0)];exact e0
     have d0:wr.cell? ⟨b,o,none⟩=some (.string (qck l)):=by rw[aK.out.cell (qae w _ f0)];exact f0
     have Cc:(0:Int)≤(j:Int):=by omega
     have tO:(j:Int)<(l.length:Int):=by omega
     have kD:(0:Int)<(l.length:Int):=by omega
     by_cases hg:x.grain=qck l
     ·have oO:=hid (qq6 bV Ad.out hg)
      rw[hg] at c0;clear bV hy e0 f0 hg Ad;go_wp2_with fail
      go_quiet (fail)
      go_wp2_with fail;go_roundw
      case rel=>exact⟨j+1,by omega,by omega,by go_num,oO,hid (below_drewN aK.out _)⟩
      case measure=>simp[intOf];omega
     ·have fP:Hid (qdc l=16):=hid (by rw[cK.out,if_pos (by rw[Bool.eq_false_iff];exact fun h=>hg (ql8.1 h x (qbh bV)))])
      have iR:(x.grain.toList==(qck l).toList)=false:=qam fun e=>hg (qca (by rw[←Lib.toList_data,←Lib.toList_data,e]));have pX:(x.grain.toList != (qck l).toList)=true:=by rw[bne,iR];rfl
      clear bV hy e0 f0 hg Ad cK;generalize x.grain=gx at *;generalize qck l=g0 at *;go_wp2_with fail
      go_quiet (fail)
      go_wp2_with fail;go_ret;exact⟨qa1 (by rw[fP.out];rfl),below_drewN aK.out _⟩
    ·have lC:j=l.length:=by omega
     have nN:=Ad.out;rw[lC,List.take_length] at nN;have fP:Hid (qdc l=if 999999999<qav l then 4 else if 64<(qci l).length then 5 else 0):=hid (by rw[cK.out,if_neg (by rw[ql8.2 nN];simp)]);clear nN Ad cK lC;by_cases jM:999999999<z
     ·have oT:Hid (qdc l=4):=hid (by rw[fP.out,if_pos (by rw[←kW.out];exact jM)])
      clear fP;go_wp2_with fail;go_ret;exact⟨qa1 (by rw[oT.out];rfl),aK.out⟩
     ·have oT:Hid (qdc l=if 64<(qd7 l).length then 5 else 0):=hid (by rw[fP.out,if_neg (by rw[←kW.out];exact jM),(qij l).2.length_eq])
      clear fP;go_wp2_with fail;refine(rX.out _ aK.out).mono ?_;rintro e w3 ⟨⟨v',rfl,hl⟩,hb⟩;have bR:=hid (aK.out.trans (hb.mono aK.out.size))
      obtain⟨p',c',rfl⟩:∃p' c',v' = .slice p' (qd7 l).length c':=by
       rcases hl with⟨h1,h2⟩|⟨g,c',h1,_⟩
       ·exact⟨none,0,by rw[h2,h1];rfl⟩
       ·exact⟨_,c',h1⟩
      clear hb hl rX;generalize (qd7 l).length=n at *;by_cases hn:64<n
      ·have qL:Hid (qdc l=5):=hid (by rw[oT.out,if_pos hn])
       go_wp2_with fail;go_ret;exact⟨qa1 (by rw[qL.out];rfl),bR.out⟩
      ·have qL:Hid (qdc l=0):=hid (by rw[oT.out,if_neg hn])
       go_wp2_with fail;go_ret;exact⟨qa1 (by rw[qL.out];rfl),bR.out⟩
theorem qhp{base:Nat}{W W':World}{v:Value}{L:QL}(h:qm5 base W v L)(hb:Below W.heap.size W W'):qm5 base W' v L:=qs6 h hb
def qkx(l:List Lay):QL:=(qd7 l).map fun p=>(p.1,p.2/((qav l:Int):Rat))
def q0d(w:World)(g0:BA)(z:Int)(v:Value)(W:World):Prop:=
 Below w.heap.size w W∧Own W w.heap.size 3 (qep (.string ⟨#[]⟩) (.int .i64 0) (.slice none 0 0))∧Own W (w.heap.size+1) 3 (qep (.string g0) (.int .i64 z) v)
theorem q0d.later{w W W':World}{g0:BA}{z:Int}{v:Value}(h:q0d w g0 z v W)(hb:Below W.heap.size W W'):q0d w g0 z v W':=
 ⟨h.1.trans (hb.mono h.1.size),h.2.1.later (hb.mono h.2.1.1),h.2.2.later (hb.mono h.2.2.1)⟩
theorem q6m(w:World)(g0:BA)(t1 t2:TypeId):q0d w g0 0 (.slice none 0 0) ((w.alloc (.cells #[.string ⟨#[]⟩,.int .i64 0,.slice none 0 0] t1)).alloc (.cells #[.string g0,.int .i64 0,.slice none 0 0] t2)):=by
 have h1:=qb4 w t1 (.string ⟨#[]⟩) (.int .i64 0) (.slice none 0 0);have hb:Below (w.alloc (.cells #[.string ⟨#[]⟩,.int .i64 0,.slice none 0 0] t1)).heap.size (w.alloc (.cells #[.string ⟨#[]⟩,.int .i64 0,.slice none 0 0] t1)) ((w.alloc (.cells #[.string ⟨#[]⟩,.int .i64 0,.slice none 0 0] t1)).alloc (.cells #[.string g0,.int .i64 0,.slice none 0 0] t2)):=qad _ _;have h2:=qb4 (w.alloc (.cells #[.string ⟨#[]⟩,.int .i64 0,.slice none 0 0] t1)) t2 (.string g0) (.int .i64 0) (.slice none 0 0);rw[qab] at h2;exact⟨((qad _ _).trans (hb.mono (by rw[qab];omega))),h1.later (hb.mono h1.1),h2⟩
theorem zai{w W:World}{g0:BA}{z:Int}{v:Value}(h:q0d w g0 z v W)(z':Int):q0d w g0 z' v (W.setCell ⟨w.heap.size+1,1,none⟩ (.int .i64 z')):=
 ⟨h.1.setCell (p:=⟨w.heap.size+1,1,none⟩) (by show w.heap.size≤w.heap.size+1;omega) _,h.2.1.setOther (by omega) _ _,(h.2.2.set 1 (by omega) _).congr fun i hi=>by
  match i,hi with
  | 0,_=>rfl
  | 1,_=>rfl
  | 2,_=>rfl⟩
theorem q4d{w W:World}{g0:BA}{z:Int}{v:Value}(h:q0d w g0 z v W)(v':Value):q0d w g0 z v' (W.setCell ⟨w.heap.size+1,2,none⟩ v'):=
 ⟨h.1.setCell (p:=⟨w.heap.size+1,2,none⟩) (by show w.heap.size≤w.heap.size+1;omega) _,h.2.1.setOther (by omega) _ _,(h.2.2.set 2 (by omega) _).congr fun i hi=>by
  match i,hi with
  | 0,_=>rfl
  | 1,_=>rfl
  | 2,_=>rfl⟩
def zal(w:World)(p:Option Addr)(n B:Nat)(L:QL)(W:World):Prop:=n=0∨∃g,p=some ⟨g,0,none⟩∧g≠w.heap.size+1∧g<B∧qbm W g 0 (L.map rtS)
theorem qq7{B:Nat}{W W':World}{g o:Nat}{l:List (BA × BA)}(h:qbm W g o l)(hg:g<B)(hb:Below B W W'):qbm W' g o l:=fun j s hj=>by
 obtain⟨e0,e1⟩:=h j s hj;rw[hb.cell (p:=⟨g,o+j*2,none⟩) hg,hb.cell (p:=⟨g,o+j*2+1,none⟩) hg];exact⟨e0,e1⟩
theorem qfr{W:World}{g o g' i:Nat}{v:Value}{l:List (BA × BA)}(h:qbm W g o l)(hg:g≠g'):qbm (W.setCell ⟨g',i,none⟩ v) g o l:=fun j s hj=>by
 obtain⟨e0,e1⟩:=h j s hj;rw[World.cell?_setCell_other _ _ _ _ (by intro e;injection e with e;exact hg e.symm),World.cell?_setCell_other _ _ _ _ (by intro e;injection e with e;exact hg e.symm)];exact⟨e0,e1⟩
theorem q4e{w W W':World}{g0:BA}{z:Int}{v:Value}{B:Nat}(h:q0d w g0 z v W)(hB:w.heap.size+1<B)(hb:Below B W W'):q0d w g0 z v W':=
 ⟨h.1.trans (hb.mono (by omega)),h.2.1.later (hb.mono (by omega)),h.2.2.later (hb.mono (by omega))⟩
theorem q81(l:List Lay)(b o c:Nat)(w:World)(hv:qpa w (.slice (some ⟨b,o,none⟩) l.length c) l)(aB:qdz w b o l)(mS:1≤l.length)(hl:l.length≤6)(hs:∀x ∈ l,zah x)(cM:∀x ∈ l,qbj x=0)(bZ:qav l≤999999999):
  Calls Tryz.prog 12 #[.slice (some ⟨b,o,none⟩) l.length c] w fun e w'=>(∃v',e = .returned (.tuple #[.agg #[.string (qck l),.int .i64 (qav l),v'],.int .i64 0])∧LV w' v' (qkx l))∧Below w.heap.size w w':=by
 have bL:=hid aB;obtain⟨eU,fL⟩:=qfc l cM;obtain⟨M,hM⟩:∃z,qav l=z:=⟨_,rfl⟩;have Ra:=hid hM;have xS:=hid cM;obtain⟨dW,dP,hp3⟩:=qsi cM hl hs;have rX:=hid fun W hW=>qq5 _ l W (hv.later hW) (by omega) dW dP hp3;have hS:=qsg l cM fun x hx s eT=>((dW x hx).2.2.2 s eT).2;have Sx:Hid (SmL (qd7 l) 200):=hid fun p hp=>qek (hS p hp) (by omega);have Ba:=qpw l fun x hx=>(dW x hx).1
 have Sy:Hid (qd7 l≠[]):=hid fun e=>by
  have h:=qsc l (by rintro rfl;exact absurd mS (by decide)) fun x hx h=>by
   have:=(qbo (cM x hx)).2.2.1;rw[h] at this;exact absurd this (by decide)
  have hp:=(qij l).2;rw[e] at hp;exact h hp.nil_eq.symm
 have kQ:Hid ((qd7 l).length≤500):=hid (by omega);obtain⟨y,hy⟩:∃y,l[0]? = some y:=⟨l[0]'(by omega),qap _⟩
 have hf0:w.cell? ⟨b,o,none⟩=some (.string (qck l)):=by
  obtain⟨f0,-⟩:=aB 0 y hy;rw[qkw hy,Nat.zero_mul,Nat.add_zero] at f0;exact f0
 have kU:Below w.heap.size w (w.alloc (.cells #[.string ⟨#[]⟩,.int .i64 0,.slice none 0 0] 29)):=qad _ _;rw[←kU.cell (qae w _ hf0)] at hf0;have kD:(0:Int)<(l.length:Int):=by omega
 rw[hM] at eU fL bZ ⊢;have fY:Hid (1≤M):=hid (by omega);have lQ:=hid (q6m w (qck l) 29 29);clear hv aB hs cM dW dP hp3 hS Ba hy kU hM eU fL;generalize rE:qck l=g0 at *;go_enter Tryz.func12,Tryz.ntmps12;go_wp2_with fail;clear hf0
 go_loopw [5] (fun i wr=>∃k:Nat,k≤l.length∧i = .int .i64 k∧Hid (q0d w g0 (qav (l.take k)) (.slice none 0 0) wr)) (fun i _=>l.length-(intOf i).toNat)
 case atStart=>exact⟨0,Nat.zero_le _,rfl,lQ⟩
 case round=>
  obtain⟨k,hk,rfl,HI⟩:=hrel;clear lQ;by_cases aY:k<l.length
  ·obtain⟨x,bV⟩:∃x,l[k]? = some x:=⟨_,qap aY⟩
   obtain⟨-,e1,-⟩:=bL.out k x bV;have HZN:Hid (qav (l.take k)+x.mass=qav (l.take (k+1))):=hid (by rw[qbl bV,qfq]);obtain⟨nT,nS,-⟩:=qbo (xS.out x (qbh bV));obtain⟨iA,dO⟩:=qfc (l.take k) fun z hz=>xS.out z (List.mem_of_mem_take hz);have hlt6:(l.take k).length≤6:=Nat.le_trans (List.length_take_le' ..) hl;have Cc:(0:Int)≤(k:Int):=by omega
   have tO:(k:Int)<(l.length:Int):=by omega
   have yG:Hid (∀W,Below w.heap.size w W→W.cell? ⟨b,o+k*3+1,none⟩=some (.int .i64 x.mass)):=hid fun W hW=>by
    rw[hW.cell (qae w _ e1)];exact e1
   clear e1 bV;generalize x.mass=mx at *;generalize qav (l.take k)=z at *;have hwr:IntKind.i64.wrap (z+mx)=z+mx:=IntWalk.i64_in _ (by omega);have HID:=hid (HI.out.later (qaa _ _).drew);have zT:=hid (zai HID.out (z+mx));obtain⟨a0,f0,a1,f1,a2,f2⟩:=qay HID.out.2.2;have c1:=yG.out _ HID.out.1;have eZ:wr.drew.cell? ⟨w.heap.size+1,1,none⟩=some (.int .i64 z)∧wr.drew.cell? ⟨b,o+k*3+1,none⟩=some (.int .i64 mx):=⟨a1,c1⟩;have e2:=yG.out _ zT.out.1;have e3:=(qay zT.out.2.2).2.2.1;go_wp2_with fail;refine wp_region_held_drew (S:=(fun W=>W.cell? ⟨b,o+k*3+1,none⟩=some (.int .i64 mx))) (by kernel_rfl) c1 (fun dE => ?_)
   refine' tkw 0 (v:=_) rfl (by kernel_rfl) (by kernel_rfl) dE (fun _ _ _ h=>h) ?q1_y1 ?_
   case q1_y1=>(intro w hSw;(try dsimp only at hSw);go_simp;(try with_reducible rfl))
   try simp only[Act.put,List.setIfInBounds_toArray,List.set_cons_zero,List.set_cons_succ]
   refine' tkw 2 (v:=_) rfl (by kernel_rfl) (by kernel_rfl) dE (fun _ _ _ h=>h) ?q1_y2 ?_
   case q1_y2=>(intro w hSw;(try dsimp only at hSw);go_simp;(try with_reducible rfl))
   try simp only[Act.put,List.setIfInBounds_toArray,List.set_cons_zero,List.set_cons_succ]
   refine' tkw 3 (v:=_) rfl (by kernel_rfl) (by kernel_rfl) dE (fun _ _ _ h=>h) ?q1_y3 ?_
   case q1_y3=>(intro w hSw;(try dsimp only at hSw);go_simp;(try with_reducible rfl))
   try simp only[Act.put,List.setIfInBounds_toArray,List.set_cons_zero,List.set_cons_succ]
   refine' tkw 4 (v:=_) rfl (by kernel_rfl) (by kernel_rfl) dE (fun _ _ _ h=>h) ?q1_y4 ?_
   case q1_y4=>(intro w hSw;(try dsimp only at hSw);go_simp;(try with_reducible rfl))
   try simp only[Act.put,List.setIfInBounds_toArray,List.set_cons_zero,List.set_cons_succ]
   refine' tkw 5 (v:=_) rfl (by kernel_rfl) (by kernel_rfl) dE (fun _ _ _ h=>h) ?q1_y5 ?_
   case q1_y5=>(intro w hSw;(try dsimp only at hSw);go_simp;(try with_reducible rfl))
   try simp only[Act.put,List.setIfInBounds_toArray,List.set_cons_zero,List.set_cons_succ]
   refine' tkw 6 (v:=_) rfl (by kernel_rfl) (by kernel_rfl) dE (fun _ _ _ h=>h) ?q1_y6 ?_
   case q1_y6=>(intro w hSw;(try dsimp only at hSw);go_simp;(try with_reducible rfl))
   try simp only[Act.put,List.setIfInBounds_toArray,List.set_cons_zero,List.set_cons_succ]
   refine wpAnyH_ready (rs:=[1]) (by kernel_rfl) (by simp) ?_;refine AllReadyH.cons rfl (fun K hK => ?q1_step7) ?q1_next7
   case q1_step7=>
    go_simp;refine hK.out _ _ ?q1_hS1 (fun tY => ?q1_more1)
    case q1_hS1=>exact dE
    clear hK
    refine' tkw 7 (v:=_) rfl (by kernel_rfl) (by kernel_rfl) tY (fun _ _ _ h=>h) ?q1_y8 ?_
    case q1_y8=>(intro w hSw;(try dsimp only at hSw);go_simp;(try with_reducible rfl))
    try simp only[Act.put,List.setIfInBounds_toArray,List.set_cons_zero,List.set_cons_succ]
    refine' tkw 8 (v:=_) rfl (by kernel_rfl) (by kernel_rfl) tY (fun _ _ _ h=>h) ?q1_y9 ?_
    case q1_y9=>(intro w hSw;(try dsimp only at hSw);go_simp;(try with_reducible rfl))
    try simp only[Act.put,List.setIfInBounds_toArray,List.set_cons_zero,List.set_cons_succ]
    refine wpAnyH_ready (rs:=[9]) (by kernel_rfl) (by simp) ?_;refine AllReadyH.cons rfl (fun K hK => ?q1_step10) ?q1_next10
    case q1_step10=>
     go_simp;refine hK.out _ _ ?q1_hS2 (fun Ki => ?q1_more2)
     case q1_hS2=>exact e2
     clear hK;refine wpAnyH_done (by kernel_rfl) ?_ _;go_wp2_with fail;go_roundw
     case rel=>exact⟨k+1,by omega,by go_num,hid (by rw[←HZN.out];exact zT.out)⟩
     case measure=>simp[intOf];omega
    exact AllReadyH.nil
   exact AllReadyH.nil
  ·have iM:k=l.length:=by omega
   have gR:=HI;rw[iM,List.take_length] at gR;rw[Ra.out] at gR;clear iM HI;obtain⟨a0,f0,a1,f1,a2,f2⟩:=qay gR.out.2.2;go_wp2_with fail;refine(rX.out _ gR.out.1).mono ?_;rintro e w3 ⟨⟨v',rfl,hlv⟩,hb⟩;have yL:=hid (gR.out.later hb);have Ag:=hid hlv;have pE:(M:Rat).num≠0:=by show M≠0;have:=fY.out;omega
   have jM:sm ((M:Int):Rat) 9:=⟨by show M.natAbs<10^9;have:=fY.out;omega,by show 1<10^9;decide⟩;have HQ:=hid pE;have Su:=hid jM;have HF:=hid fun W=>qxw M W (by have:=fY.out;omega) (by omega);obtain⟨L,hL⟩:∃L,qd7 l=L:=⟨_,rfl⟩;have yY:Hid (qkx l=L.map fun p=>(p.1,p.2/((M:Int):Rat))):=hid (by unfold qkx;rw[hL,Ra.out]);rw[hL] at Sx kQ Ag Sy
   obtain⟨p',n',c',rfl,hn',hcell'⟩:∃p' n' c',v' = .slice p' n' c'∧n'=L.length∧(n'=0∨∃g',p'=some ⟨g',0,none⟩∧qbm w3 g' 0 (L.map rtS)):=by
    rcases Ag.out with⟨h1,h2⟩|⟨g,c',h1,h2,h3,h4,h5⟩
    ·exact⟨none,0,0,h2,by rw[h1];rfl,.inl rfl⟩
    ·exact⟨_,_,c',h1,rfl,.inr ⟨g,rfl,h5⟩⟩
   have HN:=hid hn';have HC:=hid hcell';clear hb hlv rX gR a0 f0 a1 f1 a2 f2 hL Ra Ag hn' hcell' pE jM bL xS;have hn5:n'≤500:=by have:=kQ.out;have:=HN.out;omega
   have kF:Hid (zal w p' n' w3.heap.size L w3):=hid (by
    rcases HC.out with h0|⟨g',h1,h2⟩
    ·exact .inl h0
    ·rcases qas n' with e|e
     ·exact .inl e
     obtain⟨q,hq⟩:∃q,L[0]? = some q:=⟨_,qap (by have:=HN.out;omega)⟩;obtain⟨f0,f1⟩:=h2 0 (rtS q) (by rw[List.getElem?_map,hq];rfl);refine .inr ⟨g',h1,fun e => ?_,qae w3 _ f0,h2⟩;have h3:=(qay yL.out.2.2).2.2.1;rw[←e] at h3;rw[show(0+0*2+1:Nat)=1 from rfl,h3] at f1
     cases f1)
   have sS:Hid (w.heap.size+1<w3.heap.size):=hid yL.out.2.2.1;clear HC;go_wp2_with fail
   go_loopw [7] (fun i wi=>∃(k:Nat) (vS:Value),k≤n'∧i = .int .i64 k∧Hid (q0d w g0 M vS wi)∧Hid (qm5 w3.heap.size wi vS ((L.take k).map fun p=>(p.1,p.2/((M:Int):Rat))))∧Hid (zal w p' n' w3.heap.size L wi)∧Hid (w3.heap.size≤wi.heap.size)) (fun i _=>n'-(intOf i).toNat)
   case atStart=>exact⟨0,_,Nat.zero_le _,rfl,yL,hid (World.ownsRow_nil _ _ _ _),kF,hid (qac _)⟩
   case round=>
    obtain⟨k,vS,hk,rfl,HI,HO,HR,HZ9⟩:=hrel;clear kF yL;by_cases aY:k<n'
    ·rcases HR.out with h0|⟨g',rfl,iR,pX,sJ⟩
     ·omega
     obtain⟨q,hq⟩:∃q,L[k]? = some q:=⟨_,qap (by have:=HN.out;omega)⟩
     have bA:Hid (∀W,qbm W g' 0 (L.map rtS)→W.cell? ⟨g',k*2,none⟩=some (.string q.1)∧W.cell? ⟨g',k*2+1,none⟩=some (.string (rt q.2))):=hid fun W hW=>by
      obtain⟨f0,f1⟩:=hW k (rtS q) (by rw[List.getElem?_map,hq];rfl);rw[Nat.zero_add] at f0 f1;exact⟨f0,f1⟩
     have iU:=Sx.out q (qbh hq);have HD:=hid fun W=>q94 q.2 ((M:Int):Rat) 300 W (qek iU (by decide)) (qek Su.out (by decide)) (by decide) HQ.out;have Iu:sm (q.2/((M:Int):Rat)) 209:=q62 iU Su.out HQ.out;have HLG:=hid fun W=>q5w (q.2/((M:Int):Rat)) W (by have:=qgj Iu;omega);have dY:qlz (q.2/((M:Int):Rat))=0:=by unfold qlz;rw[if_pos (qm4 Iu (by decide))]
     rw[dY] at HLG;have fW:Hid ((L.take (k+1)).map (fun p=>(p.1,p.2/((M:Int):Rat)))=(L.take k).map (fun p=>(p.1,p.2/((M:Int):Rat)))++[(q.1,q.2/((M:Int):Rat))]):=hid (by rw[qbl hq,List.map_append];rfl);have Sz:((L.take k).map fun p=>(p.1,p.2/((M:Int):Rat))).length≤1048576:=by rw[List.length_map];have:=List.length_take_le' k L;have:=kQ.out;omega
     have HL5:=hid Sz;obtain⟨dq,hdq⟩:∃t,q.2/((M:Int):Rat)=t:=⟨_,rfl⟩;rw[hdq] at HD HLG fW;obtain⟨Lk,hLk⟩:∃t,(L.take k).map (fun p=>(p.1,p.2/((M:Int):Rat)))=t:=⟨_,rfl⟩;rw[hLk] at HO fW HL5;unfold qq0 at HF HD;have Gv:=hid (HI.out.later (qaa _ _).drew);have cH:Hid (qbm wr.drew g' 0 (L.map rtS)):=hid (sJ.later (qaa _ _).drew);have HG:=hid (show g'≠w.heap.size+1∧g'<w3.heap.size from⟨iR,pX⟩);have mX:Hid (w3.heap.size≤wr.drew.heap.size):=hid HZ9.out;have Mm:Hid (qm5 w3.heap.size wr.drew vS Lk):=hid (qhp HO.out (qaa _ _).drew);have Cc:(0:Int)≤(k:Int):=by omega
     have tO:(k:Int)<(n':Int):=by omega
     have eV:Hid (∀W,q0d w g0 M vS W→W.cell? ⟨w.heap.size+1,1,none⟩=some (.int .i64 M)):=hid fun W h=>(qay h.2.2).2.2.1;clear hq sJ iR pX iU Iu dY Sz hdq hLk HI HR HO;generalize rt q.2=q2 at *;generalize q.1=q1 at *;generalize rt ((M:Int):Rat)=tM at *;have eZ:wr.drew.cell? ⟨g',k*2+1,none⟩=some (.string q2)∧wr.drew.cell? ⟨w.heap.size+1,1,none⟩=some (.int .i64 M):=⟨(bA.out _ cH.out).2,eV.out _ Gv.out⟩;go_wp2_with fail
     go_region_held3 (fun W=>W.cell? ⟨g',k*2+1,none⟩=some (.string q2)∧W.cell? ⟨w.heap.size+1,1,none⟩=some (.int .i64 M)) (exact⟨(bA.out _ cH.out).2,eV.out _ Gv.out⟩)
      (first
       | (go_at_call 36;((with_reducible refine(HF.out _).mono ?_);rintro e wA ⟨rfl,hb⟩;have Gv:=hid (Gv.out.later hb);have cH:=hid (cH.out.later hb);have mX:=hid (Nat.le_trans mX.out hb.size);have Mm:=hid (qhp Mm.out hb);clear hb))
       | (go_at_call 35;((with_reducible refine(HD.out _).mono ?_);rintro e wB ⟨rfl,hb⟩;have Gv:=hid (Gv.out.later hb);have cH:=hid (cH.out.later hb);have mX:=hid (Nat.le_trans mX.out hb.size);have Mm:=hid (qhp Mm.out hb);clear hb)))
     all_goals
      go_wp2_with fail;refine(HLG.out _).mono ?_;rintro e wL ⟨rfl,rfl⟩;have vW:=hid (Gv.out.later (qaa _ _).drew);have wS:Hid (qbm wL.drew g' 0 (L.map rtS)):=hid (cH.out.later (qaa _ _).drew);have mV:Hid (qm5 w3.heap.size wL.drew vS Lk):=hid (qhp Mm.out (qaa _ _).drew);have nX:=hid (vW.out.later ((qaa _ _).alloc (qac _) (.cells #[.string q1,.string (rt dq)] 58)));have dN:=hid (wS.out.later ((qaa _ _).alloc (qac _) (.cells #[.string q1,.string (rt dq)] 58)));have fB:Hid (qm5 w3.heap.size (wL.drew.alloc (.cells #[.string q1,.string (rt dq)] 58)) vS Lk):=hid (qhp mV.out (qad _ _));have nR:=hid (ql7 wL.drew q1 dq 58);have cL:Hid (w3.heap.size≤(wL.drew.alloc (.cells #[.string q1,.string (rt dq)] 58)).heap.size):=hid (by rw[qab];exact Nat.le_succ_of_le mX.out);have a0:=(qay vW.out.2.2).2.2.2.2.1;have a1:=(qay nX.out.2.2).2.2.2.2.1;have a2:(wL.alloc (.cells #[.string q1,.string (rt dq)] 58)).drew.cell? ⟨w.heap.size+1,2,none⟩=some vS:=a1;have x0:=(bA.out _ wS.out).1;have x1:=(bA.out _ dN.out).1;clear HD HF HLG Gv cH Mm mX eZ;go_wp2_with fail;refine wp_region_held_drew (S:=fun W=>W.cell? ⟨g',k*2,none⟩=some (.string q1)) (by kernel_rfl) x0 (fun hHeld => ?_)
      refine' tkw 0 (v:=_) rfl (by kernel_rfl) (by kernel_rfl) hHeld (fun _ _ _ h=>h) ?_ ?_
      rotate_left
      ·intro w hSw;(try dsimp only at hSw);go_simp;(try with_reducible rfl)
      try simp only[Act.put,List.setIfInBounds_toArray,List.set_cons_zero,List.set_cons_succ]
      refine' tkw 2 (v:=_) rfl (by kernel_rfl) (by kernel_rfl) hHeld (fun _ _ _ h=>h) ?_ ?_
      rotate_left
      ·intro w hSw;(try dsimp only at hSw);go_simp;(try with_reducible rfl)
      try simp only[Act.put,List.setIfInBounds_toArray,List.set_cons_zero,List.set_cons_succ]
      refine' tkw 3 (v:=_) rfl (by kernel_rfl) (by kernel_rfl) hHeld (fun _ _ _ h=>h) ?_ ?_
      rotate_left
      ·intro w hSw;(try dsimp only at hSw);go_simp;(try with_reducible rfl)
      try simp only[Act.put,List.setIfInBounds_toArray,List.set_cons_zero,List.set_cons_succ]
      refine' tkw 4 (v:=_) rfl (by kernel_rfl) (by kernel_rfl) hHeld (fun _ _ _ h=>h) ?_ ?_
      rotate_left
      ·intro w hSw;(try dsimp only at hSw);go_simp;(try with_reducible rfl)
      try simp only[Act.put,List.setIfInBounds_toArray,List.set_cons_zero,List.set_cons_succ]
      refine' tkw 5 (v:=_) rfl (by kernel_rfl) (by kernel_rfl) hHeld (fun _ _ _ h=>h) ?_ ?_
      rotate_left
      ·intro w hSw;(try dsimp only at hSw);go_simp;(try with_reducible rfl)
      try simp only[Act.put,List.setIfInBounds_toArray,List.set_cons_zero,List.set_cons_succ]
      refine' tkw 6 (v:=_) rfl (by kernel_rfl) (by kernel_rfl) hHeld (fun _ _ _ h=>h) ?_ ?_
      rotate_left
      ·intro w hSw;(try dsimp only at hSw);go_simp;(try with_reducible rfl)
      try simp only[Act.put,List.setIfInBounds_toArray,List.set_cons_zero,List.set_cons_succ]
      refine' tkw 7 (v:=_) rfl (by kernel_rfl) (by kernel_rfl) hHeld (fun _ _ _ h=>h) ?_ ?_
      rotate_left
      ·intro w hSw;(try dsimp only at hSw);go_simp;(try with_reducible rfl)
      try simp only[Act.put,List.setIfInBounds_toArray,List.set_cons_zero,List.set_cons_succ]
      refine' tkw 8 (v:=_) rfl (by kernel_rfl) (by kernel_rfl) hHeld (fun _ _ _ h=>h) ?_ ?_
      rotate_left
      ·intro w hSw;(try dsimp only at hSw);go_simp;(try with_reducible rfl)
      try simp only[Act.put,List.setIfInBounds_toArray,List.set_cons_zero,List.set_cons_succ]
      refine wpAnyH_ready (rs:=[1,9]) (by kernel_rfl) (by simp) ?_;refine AllReadyH.cons rfl (fun K hK => ?_) ?_
      ·go_simp
       refine hK.out _ _ x0 (fun hHeld => ?_);clear hK;refine wpAnyH_ready (rs:=[9]) (by kernel_rfl) (by simp) ?_;refine AllReadyH.cons rfl (fun K hK => ?_) ?_
       ·go_simp
        refine hK.out _ _ x1 (fun hHeld => ?_);clear hK;refine wpAnyH_ready (rs:=[10]) (by kernel_rfl) (by simp) ?_;refine AllReadyH.cons rfl (fun K hK => ?_) ?_
        ·refine qcj (by rfl) _ _ (by rfl) _ w3.heap.size vS (.slice (some ⟨wL.heap.size,0,none⟩) 1 1) Lk [(q1,dq)] (by rfl) fB.out cL.out (by rfl) (.inr ⟨_,0,1,rfl,nR.out⟩) HL5.out (by simp) ?_
         intro v4 w4 ho hb hk;obtain⟨g4,c4,rfl,h1,-,h3,h4,-⟩:=qpy ho (by simp);obtain⟨nk,uP⟩:∃t,(Lk++[(q1,dq)]).length=t:=⟨_,rfl⟩;rw[uP] at ho ⊢;have tR:=hid ho;have tV:=hid (q4e nX.out sS.out hb);have Bm:=hid (qq7 dN.out HG.out.2 hb);have x4:=(bA.out _ Bm.out).1;have HZF:Hid (w3.heap.size≤(w4.setCell ⟨w.heap.size+1,2,none⟩ (.slice (some ⟨g4,0,none⟩) nk c4)).heap.size):=hid (by rw[World.size_setCell];exact Nat.le_trans cL.out hb.size);have HIF:=hid (q4d tV.out (.slice (some ⟨g4,0,none⟩) nk c4));have oY:=hid (qfr (i:=2) (v := .slice (some ⟨g4,0,none⟩) nk c4) Bm.out HG.out.1);have x5:=(bA.out _ oY.out).1;have HRF:Hid (zal w (some ⟨g',0,none⟩) n' w3.heap.size L _):=hid (.inr ⟨g',rfl,HG.out.1,HG.out.2,oY.out⟩);have At:Hid (qm5 w3.heap.size (w4.setCell ⟨w.heap.size+1,2,none⟩ (.slice (some ⟨g4,0,none⟩) nk c4)) (.slice (some ⟨g4,0,none⟩) nk c4) ((L.take (k+1)).map fun p=>(p.1,p.2/((M:Int):Rat)))):=hid (by rw[fW.out];exact ownsRow_setCell_below tR.out sS.out _);obtain⟨b0,f0,b1,f1,b2,f2⟩:=qay tV.out.2.2;clear ho hb hk h1 h3 h4 uP;go_simp;refine hK.out _ _ x4 (fun hHeld => ?_);clear hK
         refine' tkw 11 (v:=_) rfl (by kernel_rfl) (by kernel_rfl) hHeld (fun _ _ _ h=>h) ?_ ?_
         rotate_left
         ·intro w hSw;(try dsimp only at hSw);go_simp;(try with_reducible rfl)
         try simp only[Act.put,List.setIfInBounds_toArray,List.set_cons_zero,List.set_cons_succ]
         refine wpAnyH_ready (rs:=[12]) (by kernel_rfl) (by simp) ?_;refine AllReadyH.cons rfl (fun K hK => ?_) ?_
         ·go_simp
          refine hK.out _ _ x5 (fun hHeld => ?_);clear hK;refine wpAnyH_done (by kernel_rfl) ?_ _;go_wp2_with fail;go_roundw
          case rel=>exact⟨k+1,_,by omega,by go_num,HIF,At,HRF,HZF⟩
          case measure=>simp[intOf];omega
         exact AllReadyH.nil
        exact AllReadyH.nil
       exact AllReadyH.nil
      refine AllReadyH.cons rfl (fun K hK => ?_) ?_
      ·go_simp
       refine hK.out _ _ x1 (fun hHeld => ?_);clear hK;refine wpAnyH_ready (rs:=[1]) (by kernel_rfl) (by simp) ?_;refine AllReadyH.cons rfl (fun K hK => ?_) ?_
       ·go_simp
        refine hK.out _ _ x1 (fun hHeld => ?_);clear hK;refine wpAnyH_ready (rs:=[10]) (by kernel_rfl) (by simp) ?_;refine AllReadyH.cons rfl (fun K hK => ?_) ?_
        ·refine qcj (by rfl) _ _ (by rfl) _ w3.heap.size vS (.slice (some ⟨wL.heap.size,0,none⟩) 1 1) Lk [(q1,dq)] (by rfl) fB.out cL.out (by rfl) (.inr ⟨_,0,1,rfl,nR.out⟩) HL5.out (by simp) ?_
         intro v4 w4 ho hb hk;obtain⟨g4,c4,rfl,h1,-,h3,h4,-⟩:=qpy ho (by simp);obtain⟨nk,uP⟩:∃t,(Lk++[(q1,dq)]).length=t:=⟨_,rfl⟩;rw[uP] at ho ⊢;have tR:=hid ho;have tV:=hid (q4e nX.out sS.out hb);have Bm:=hid (qq7 dN.out HG.out.2 hb);have x4:=(bA.out _ Bm.out).1;have HZF:Hid (w3.heap.size≤(w4.setCell ⟨w.heap.size+1,2,none⟩ (.slice (some ⟨g4,0,none⟩) nk c4)).heap.size):=hid (by rw[World.size_setCell];exact Nat.le_trans cL.out hb.size);have HIF:=hid (q4d tV.out (.slice (some ⟨g4,0,none⟩) nk c4));have oY:=hid (qfr (i:=2) (v := .slice (some ⟨g4,0,none⟩) nk c4) Bm.out HG.out.1);have x5:=(bA.out _ oY.out).1;have HRF:Hid (zal w (some ⟨g',0,none⟩) n' w3.heap.size L _):=hid (.inr ⟨g',rfl,HG.out.1,HG.out.2,oY.out⟩);have At:Hid (qm5 w3.heap.size (w4.setCell ⟨w.heap.size+1,2,none⟩ (.slice (some ⟨g4,0,none⟩) nk c4)) (.slice (some ⟨g4,0,none⟩) nk c4) ((L.take (k+1)).map fun p=>(p.1,p.2/((M:Int):Rat)))):=hid (by rw[fW.out];exact ownsRow_setCell_below tR.out sS.out _);obtain⟨b0,f0,b1,f1,b2,f2⟩:=qay tV.out.2.2;clear ho hb hk h1 h3 h4 uP;go_simp;refine hK.out _ _ x4 (fun hHeld => ?_);clear hK
         refine' tkw 11 (v:=_) rfl (by kernel_rfl) (by kernel_rfl) hHeld (fun _ _ _ h=>h) ?_ ?_
         rotate_left
         ·intro w hSw;(try dsimp only at hSw);go_simp;(try with_reducible rfl)
         try simp only[Act.put,List.setIfInBounds_toArray,List.set_cons_zero,List.set_cons_succ]
         refine wpAnyH_ready (rs:=[12]) (by kernel_rfl) (by simp) ?_;refine AllReadyH.cons rfl (fun K hK => ?_) ?_
         ·go_simp
          refine hK.out _ _ x5 (fun hHeld => ?_);clear hK;refine wpAnyH_done (by kernel_rfl) ?_ _;go_wp2_with fail;go_roundw
          case rel=>exact⟨k+1,_,by omega,by go_num,HIF,At,HRF,HZF⟩
          case measure=>simp[intOf];omega
         exact AllReadyH.nil
        exact AllReadyH.nil
       exact AllReadyH.nil
      exact AllReadyH.nil
    ·have iM:k=n':=by omega
     have hoz:=HO.out;rw[iM,HN.out,List.take_length,←yY.out] at hoz;have hne:qkx l≠[]:=by rw[yY.out];exact fun e=>Sy.out (List.map_eq_nil_iff.1 e)
     obtain⟨g4,c4,rfl,h1,h2,h3,h4,h5⟩:=qpy hoz hne;have Ma:g4≠w.heap.size:=by have:=sS.out;omega
     have HLV4:=hid (show LV (((wr.setCell ⟨w.heap.size,0,none⟩ (.string g0)).setCell ⟨w.heap.size,1,none⟩ (.int .i64 M)).setCell ⟨w.heap.size,2,none⟩ (.slice (some ⟨g4,0,none⟩) (qkx l).length c4)) (.slice (some ⟨g4,0,none⟩) (qkx l).length c4) (qkx l) from .inr ⟨g4,c4,rfl,h2,h3,h4,qfr (qfr (qfr h5 Ma) Ma) Ma⟩);obtain⟨a0,f0,a1,f1,a2,f2⟩:=qay HI.out.2.2;obtain⟨r0,e0,r1,e1,r2,e2⟩:=qay HI.out.2.1;have jA:=hid (qgk HI.out.1 (.string g0) (.int .i64 M) (.slice (some ⟨g4,0,none⟩) (qkx l).length c4));clear hoz hne h1 h2 h3 h4 h5 Ma iM HF HO HR;go_wp2_with fail;refine bodyPost_ret (v := .tuple #[.agg #[.string g0,.int .i64 M,.slice (some ⟨g4,0,none⟩) (qkx l).length c4],.int .i64 0]) ?_ rfl ?_
     ·simp[results,Tryz.results12,go_sem,r0,r1,r2]
     ·exact⟨⟨_,rfl,HLV4.out⟩,jA.out⟩
end Go.Proofs.YtlkdlffhmakbgaaGreatDoor
