/- readLayer. -/
import Derived.Test.YtmcfcpgglfimjaaGreatDoorMShare
import Derived.Test.YtmcfcpgglfimjaaGreatDoorMMinMax
set_option linter.all false
namespace Go.Proofs.YtmcfcpgglfimjaaGreatDoor
open Go.RowKit
set_option maxRecDepth 100000
set_option maxHeartbeats 4000000
structure Lay where
 grain:BA
 mass:Int
 shares:List (BA × BA)
def qbc(x:Lay):Nat:=if qbx x.grain.data.toList=false then 8 else if x.mass<1∨999999999<x.mass then 3 else qbd x.shares
def qr4(x:Lay)(w:World)(e:Ending)(w':World):Prop:=
 (if qbc x=0 then ∃g,w.heap.size≤g∧e = .returned (.tuple #[.slice (some ⟨g,0,none⟩) x.shares.length x.shares.length,.int .i64 0])∧qj0 w' g x.shares.length (x.shares.map qbk)
  else e = .returned (.tuple #[.slice none 0 0,.int .i64 (qbc x:Nat)]))∧Below w.heap.size w w'
theorem qt1{x:Lay}{w w':World}(k:Nat){z:Int}(h:qbc x=k)(hk:k≠0)(hz:z=k)(hb:Below w.heap.size w w'):qr4 x w (.returned (.tuple #[.slice none 0 0,.int .i64 z])) w':=by
 unfold qr4;rw[h,if_neg hk,hz];exact⟨rfl,hb⟩
def qfv(a b c:Value)(i:Nat):Value:=if i=0 then a else if i=1 then b else c
theorem qdr(w:World)(t:TypeId)(a b c:Value):Own (w.alloc (.cells #[a,b,c] t)) w.heap.size 3 (qfv a b c):=by
 refine⟨by rw[qab];omega,fun i hi => ?_⟩;rw[World.cell?_alloc_at _ _ _ _ rfl,World.frozen?_alloc_at _ _ _ _ rfl]
 match i,hi with
 | 0,_=>exact⟨rfl,rfl⟩
 | 1,_=>exact⟨rfl,rfl⟩
 | 2,_=>exact⟨rfl,rfl⟩
theorem qv9{l:List (BA × BA)}{w w':World}{e:Ending}(h:qdi l w e w'):∃(p:Option Addr) (n c:Nat) (z:Int),e = .returned (.tuple #[.slice p n c,.int .i64 z]):=by
 unfold qdi at h;obtain⟨h,_⟩:=h;split at h
 ·obtain⟨g,_,he,_⟩:=h
  exact⟨_,_,_,_,he⟩
 ·exact⟨_,_,_,_,h⟩
theorem qr5(x:Lay)(v:Value)(w:World)(hg:GW w)(hv:qdc w v x.shares)(hs:∀s ∈ x.shares,s.2.size≤1073741824):
  Calls Tryz.prog 29 #[.agg #[.string x.grain,.int .i64 x.mass,v]] w (qr4 x w):=by
 obtain⟨p,c,hvv,bO,bJ,aA⟩:=hv;have pJ:qdc w (.slice p x.shares.length c) x.shares:=⟨p,c,rfl,bO,bJ,aA⟩;subst hvv;have aD:Below w.heap.size w (w.alloc (.cells #[.string x.grain,.int .i64 x.mass,.slice p x.shares.length c] 28)):=qad _ _;have HO:=hid (qdr w 28 (.string x.grain) (.int .i64 x.mass) (.slice p x.shares.length c));have dN:=hid (qjw x.grain (w.alloc (.cells #[.string x.grain,.int .i64 x.mass,.slice p x.shares.length c] 28)));have pS:Hid (∀W,Below w.heap.size w W→Calls Tryz.prog 67 #[.slice p x.shares.length c] W (qdi x.shares W)):=hid fun W hW=>qp9 _ x.shares W (hg.later hW) (pJ.later hW) hs;obtain⟨a0,_⟩:=HO.out.2 0 (by omega);obtain⟨a1,_⟩:=HO.out.2 1 (by omega);obtain⟨a2,_⟩:=HO.out.2 2 (by omega);simp only[qfv,if_pos,Nat.one_ne_zero] at a0 a1 a2;have dK:=hid aD;clear hg pJ hs aA aD;by_cases hn:qbx x.grain.data.toList=false
 ·have HF:Hid (∀w',Below w.heap.size w w'→qr4 x w (.returned (.tuple #[.slice none 0 0,.int .i64 8])) w'):=hid fun w' hb=>qt1 8 (by unfold qbc;rw[if_pos hn]) (by omega) rfl hb
  rw[hn] at dN;clear hn;go_enter Tryz.func29,Tryz.ntmps29;go_wp2_with fail;refine dN.out.mono ?_;rintro e w1 ⟨rfl,hb⟩;have HB:=hid (dK.out.trans (hb.mono dK.out.size));clear hb dN;go_wp2_with fail;go_ret2;exact HF.out _ HB.out
 have hn':qbx x.grain.data.toList=true:=by simpa using hn
 rw[hn'] at dN;by_cases hm:x.mass<1∨999999999<x.mass
 ·have HF:Hid (∀w',Below w.heap.size w w'→qr4 x w (.returned (.tuple #[.slice none 0 0,.int .i64 3])) w'):=hid fun w' hb=>qt1 3 (by unfold qbc;rw[if_neg hn,if_pos hm]) (by omega) rfl hb
  clear hn hn';by_cases fD:x.mass<1
  ·clear hm
   go_enter Tryz.func29,Tryz.ntmps29;go_wp2_with fail;clear a0 a1 a2;refine dN.out.mono ?_;rintro e w1 ⟨rfl,hb⟩;have HB:=hid (dK.out.trans (hb.mono dK.out.size));obtain⟨a0,_⟩:=(HO.out.later (hb.mono HO.out.1)).2 0 (by omega);obtain⟨a1,_⟩:=(HO.out.later (hb.mono HO.out.1)).2 1 (by omega);simp only[qfv,if_pos,Nat.one_ne_zero] at a0 a1;clear hb dN;go_wp2_with fail;go_ret2;exact HF.out _ HB.out
  ·have fP:999999999<x.mass:=by omega
   clear hm;go_enter Tryz.func29,Tryz.ntmps29;go_wp2_with fail;clear a0 a1 a2;refine dN.out.mono ?_;rintro e w1 ⟨rfl,hb⟩;have HB:=hid (dK.out.trans (hb.mono dK.out.size));obtain⟨a0,_⟩:=(HO.out.later (hb.mono HO.out.1)).2 0 (by omega);obtain⟨a1,_⟩:=(HO.out.later (hb.mono HO.out.1)).2 1 (by omega);simp only[qfv,if_pos,Nat.one_ne_zero] at a0 a1;clear hb dN;go_wp2_with fail;go_ret2;exact HF.out _ HB.out
 ·have HF:Hid (∀w1 e w',Below w.heap.size w w1→qdi x.shares w1 e w'→qr4 x w e w'):=hid fun w1 e w' hb h=>by
   have hz:qbc x=qbd x.shares:=by unfold qbc;rw[if_neg hn,if_neg hm]
   unfold qdi at h;unfold qr4;rw[hz];refine⟨?_,hb.trans (h.2.mono hb.size)⟩;split
   ·rename_i h0
    rw[if_pos h0] at h;obtain⟨⟨g,h1,h2,h3⟩,_⟩:=h;exact⟨g,Nat.le_trans hb.size h1,h2,h3⟩
   ·rename_i h0
    rw[if_neg h0] at h;exact h.1
  obtain⟨fD,fP⟩:¬x.mass<1∧¬999999999<x.mass:=by omega
  clear hn hn' hm;go_enter Tryz.func29,Tryz.ntmps29;go_wp2_with fail;clear a0 a1 a2;refine dN.out.mono ?_;rintro e w1 ⟨rfl,hb⟩;have HB:=hid (dK.out.trans (hb.mono dK.out.size));obtain⟨a0,_⟩:=(HO.out.later (hb.mono HO.out.1)).2 0 (by omega);obtain⟨a1,_⟩:=(HO.out.later (hb.mono HO.out.1)).2 1 (by omega);obtain⟨a2,_⟩:=(HO.out.later (hb.mono HO.out.1)).2 2 (by omega);simp only[qfv,if_pos,Nat.one_ne_zero] at a0 a1 a2;clear hb dN;go_wp2_with fail;refine(pS.out _ HB.out).mono ?_;rintro e w2 h;obtain⟨q,n,c',z,rfl⟩:=qv9 h;have HQ:=hid (HF.out _ _ _ HB.out h);clear h pS;go_wp2_with fail;go_ret2;exact HQ.out
theorem qj0.at{W:World}{g cap:Nat}{qs:List Rat}(h:qj0 W g cap qs):qhn W g 0 qs:=fun j q hq=>by
 obtain⟨b,p1,k1,c1,p2,k2,c2,e0,e1,e2,hv⟩:=h.get j q hq;refine⟨b,p1,k1,c1,p2,k2,c2, ?_, ?_, ?_,hv⟩
 ·rw[Nat.zero_add];exact e0
 ·rw[Nat.zero_add];exact e1
 ·rw[Nat.zero_add];exact e2
def q4r:qur (List Rat) where
 ty:=67
 size:=1
 ok:=fun c=>∃p n c',c = .slice p n c'
 E:=fun W cs qs=>∃g,cs=[.slice (some ⟨g,0,none⟩) qs.length qs.length]∧qhn W g 0 qs
theorem qj1:q4r.Law where
 pos:=by show 0<1;omega
 cells:=by
  rintro W cs qs ⟨g,rfl,_⟩;refine⟨rfl,fun c hc => ?_⟩;simp only[List.mem_cons,List.not_mem_nil,or_false] at hc;subst hc;exact⟨⟨_,_,_,rfl⟩,rfl⟩
 later:=by
  rintro W W' cs qs ⟨g,rfl,h⟩ hb;exact⟨g,rfl,h.later hb⟩
 set:=by
  rintro W g' cur ty fr cs qs cs' ⟨g,rfl,h⟩ hg hc;refine⟨g,rfl,fun j q hq => ?_⟩;obtain⟨b,p1,k1,c1,p2,k2,c2,e0,e1,e2,hv⟩:=h j q hq
  have hne:g≠g':=by
   rintro rfl;rw[cell_of_row W g _ cur ty fr hg,←Array.getElem?_toList] at e0;obtain⟨p,n,c',hh⟩:=hc _ (qbj e0);cases hh
  have key:∀o,(W.setRow g' cs').cell? ⟨g,o,none⟩=W.cell? ⟨g,o,none⟩:=fun o=>cell_setRow_other W g' cs' ⟨g,o,none⟩ hne
  refine⟨b,p1,k1,c1,p2,k2,c2, ?_, ?_, ?_,hv.setRow hg (fun c fL k z e=>by
   obtain⟨p,n,c',hh⟩:=hc c fL;rw[hh] at e
   cases e) cs'⟩
  ·rw[key];exact e0
  ·rw[key];exact e1
  ·rw[key];exact e2
def qec(W:World)(b o:Nat)(l:List Lay):Prop:=
 ∀(j:Nat) (x:Lay),l[j]? = some x→W.cell? ⟨b,o+j*3,none⟩=some (.string x.grain)∧W.cell? ⟨b,o+j*3+1,none⟩=some (.int .i64 x.mass)∧∃p c,W.cell? ⟨b,o+j*3+2,none⟩=some (.slice p x.shares.length c)∧qdc W (.slice p x.shares.length c) x.shares
theorem qec.later{w w':World}{b o:Nat}{l:List Lay}(h:qec w b o l)(hb:Below w.heap.size w w'):qec w' b o l:=fun j x hj=>by
 obtain⟨e0,e1,p,c,e2,hv⟩:=h j x hj;refine⟨?_, ?_,p,c, ?_,hv.later hb⟩
 ·rw[hb.cell (qaf w _ e0)];exact e0
 ·rw[hb.cell (qaf w _ e1)];exact e1
 ·rw[hb.cell (qaf w _ e2)];exact e2
def qr6(w:World)(v:Value)(l:List Lay):Prop:=
 ∃p c,v = .slice p l.length c∧l.length≤c∧c≤maxLen∧(l.length=0∨∃b o,p=some ⟨b,o,none⟩∧qec w b o l)
theorem qr6.later{w w':World}{v:Value}{l:List Lay}(h:qr6 w v l)(hb:Below w.heap.size w w'):qr6 w' v l:=by
 obtain⟨p,c,h1,h2,h3,h4⟩:=h;refine⟨p,c,h1,h2,h3, ?_⟩;rcases h4 with h4|⟨b,o,h5,h6⟩
 ·exact .inl h4
 ·exact .inr ⟨b,o,h5,h6.later hb⟩
def qqy(x:Lay):List Rat:=x.shares.map qbk
theorem q2y(n:Nat)(hn:n≤1048576)(w:World):
  (Instr.makeSlice 64 (.int .i64 0) (.int .i64 (n:Int))).run Tryz.prog w = .ok (.slice (some ⟨w.heap.size,0,none⟩) 0 n) (w.alloc (.cells (madeCells #[.slice none 0 0] n) 67)):=by
 obtain⟨i0,hi,cP,dV,eF⟩:=info_parts (show(Tryz.prog.info? 67).map (fun i=>(i.zero,i.size,i.bytes))=some (some (.slice none 0 0),1,24) by kernel_rfl);have h:=run_make (P:=Tryz.prog) w 64 67 i0 _ Tryz.underlying64 hi cP .i64 .i64 0 (n:Int) (Int.le_refl _) (by omega) (by rw[eF];omega) (by omega);rw[dV] at h
 simpa [Value.cells] using h
theorem qqa{x:Lay}{v:Value}{w:World}(h:Calls Tryz.prog 29 #[.agg #[.string x.grain,.int .i64 x.mass,v]] w (qr4 x w))(hc:qbc x=0):
  Calls Tryz.prog 29 #[.agg #[.string x.grain,.int .i64 x.mass,v]] w fun e w'=>(∃g,e = .returned (.tuple #[.slice (some ⟨g,0,none⟩) (qqy x).length (qqy x).length,.int .i64 0])∧qhn w' g 0 (qqy x))∧Below w.heap.size w w':=by
 refine h.mono ?_;rintro e w' ⟨h1,h2⟩;rw[if_pos hc] at h1;obtain⟨g,_,he,hn⟩:=h1;refine⟨⟨g, ?_,hn.at⟩,h2⟩;unfold qqy;rw[List.length_map];exact he
theorem qr7{x:Lay}{v:Value}{w:World}(h:Calls Tryz.prog 29 #[.agg #[.string x.grain,.int .i64 x.mass,v]] w (qr4 x w))(hc:qbc x≠0):
  Calls Tryz.prog 29 #[.agg #[.string x.grain,.int .i64 x.mass,v]] w fun e w'=>e = .returned (.tuple #[.slice none 0 0,.int .i64 (qbc x:Nat)])∧Below w.heap.size w w':=by
 refine h.mono ?_;rintro e w' ⟨h1,h2⟩;rw[if_neg hc] at h1;exact⟨h1,h2⟩
theorem qzu(l:List Lay)(b o c:Nat)(w:World)(hg:GW w)(aB:qec w b o l)(hl:l.length≤1048576)(hs:∀x ∈ l,∀s ∈ x.shares,s.2.size≤1073741824):
  Calls Tryz.prog 28 #[.slice (some ⟨b,o,none⟩) l.length c,.func (.func 29) #[] #[]] w
   (qji q4r (l.map qbc) (l.map qqy) w):=by
 have HG:=hid hg;have bP:=hid aB;have HS:=hid hs;have kX:=q2y l.length hl;obtain⟨i0,hi,cP,dV,eF⟩:=info_parts (show(Tryz.prog.info? 67).map (fun i=>(i.zero,i.size,i.bytes))=some (some (.slice none 0 0),1,24) by kernel_rfl);have HI:=hid hi;clear aB hs hi cP eF
 have gJ:=hid (qkt qj1 w l.length l.length #[.slice none 0 0] (Nat.mul_one _).symm rfl (by
  intro c hc;simp only[List.mem_cons,List.not_mem_nil,or_false] at hc;subst hc
  exact⟨_,_,_,rfl⟩))
 have dU:Hid (Below w.heap.size w (w.alloc (.cells (madeCells #[.slice none 0 0] l.length) 67))):=hid (qad _ _);clear hg;go_enter Tryz.func28,Tryz.ntmps28;go_wp2_with fail;clear kX
 replace gJ:Hid (qdk q4r (w.alloc (.cells (madeCells #[.slice none 0 0] l.length) 67)) w.heap.size l.length []):=gJ
 generalize w.alloc (.cells (madeCells #[.slice none 0 0] l.length) 67)=w0 at *
 go_loopw [6,16] (fun r i wr=>∃k:Nat,k≤l.length∧i = .int .i64 k∧r = .slice (some ⟨w.heap.size,0,none⟩) k l.length∧Hid (qdk q4r wr w.heap.size l.length ((l.take k).map qqy))∧Hid (qai ((l.take k).map qbc)=0)∧Hid (Below w.heap.size w wr)) (fun _ i _=>l.length-(intOf i).toNat)
 case atStart=>exact⟨0,Nat.zero_le _,rfl,rfl,gJ,hid rfl,dU⟩
 case round=>
  obtain⟨k,hk,rfl,rfl,HN,HE,HB⟩:=hrel;clear gJ dU;by_cases cQ:k<l.length
  ·obtain⟨x,cI⟩:∃x,l[k]? = some x:=⟨l[k],qat cQ⟩
   obtain⟨e0,e1,p,cc,e2,hv⟩:=bP.out k x cI;have fA:wr.cell? ⟨b,o+k*3,none⟩=some (.string x.grain):=by rw[HB.out.cell (qaf w _ e0)];exact e0
   have bO:wr.cell? ⟨b,o+k*3+1,none⟩=some (.int .i64 x.mass):=by rw[HB.out.cell (qaf w _ e1)];exact e1
   have bJ:wr.cell? ⟨b,o+k*3+2,none⟩=some (.slice p x.shares.length cc):=by rw[HB.out.cell (qaf w _ e2)];exact e2
   have aD:Below wr.heap.size wr (wr.alloc (.cells #[.string x.grain,.int .i64 x.mass,.slice p x.shares.length cc] 28)):=qad _ _;have cH:=hid (qr5 x (.slice p x.shares.length cc) (wr.alloc (.cells #[.string x.grain,.int .i64 x.mass,.slice p x.shares.length cc] 28)) ((HG.out.later HB.out).later aD) ((hv.later HB.out).later aD) (HS.out x (qbj cI)));have ho:=qdr wr 28 (.string x.grain) (.int .i64 x.mass) (.slice p x.shares.length cc);obtain⟨a0,_⟩:=ho.2 0 (by omega);obtain⟨a1,_⟩:=ho.2 1 (by omega);obtain⟨a2,_⟩:=ho.2 2 (by omega);simp only[qfv,if_pos,Nat.one_ne_zero] at a0 a1 a2;have dK:=hid aD;have oE:=hid cI;clear e0 e1 e2 cI aD hv ho;by_cases hc:qbc x=0
   ·have eS:=hid (qqa cH.out hc)
    have gB:=hid (qhl qbc oE.out HE.out hc)
    have jU:((l.take k).map qqy)++[qqy x]=(l.take (k+1)).map qqy:=by
     rw[qbp oE.out,List.map_append];rfl
    have vJ:=hid jU;have gT:((l.take k).map qqy).length=k:=by rw[List.length_map,List.length_take];omega
    have dI:=hid (HN.out.later qj1 dK.out);have aP:=hid (HB.out.trans (dK.out.mono HB.out.size));clear cH HE hc jU HN HB dK;generalize qqy x=q at *;generalize ((l.take k).map qqy)=qs at *;go_wp2_with fail;refine eS.out.mono ?_;rintro e w1 ⟨⟨g,rfl,hv⟩,hb⟩;have aV:=hid (aP.out.trans (hb.mono aP.out.size));have kB:w.heap.size≤w1.heap.size:=aV.out.size;have bL:Below w1.heap.size w1 (w1.alloc (.cells #[.slice (some ⟨g,0,none⟩) q.length q.length] 67)):=qad _ _;obtain⟨cur,dX,bM,bZ,bI⟩:=((dI.out.later qj1 hb).later qj1 bL).push qj1 (cs:=[.slice (some ⟨g,0,none⟩) q.length q.length]) (by rw[gT];exact cQ) ⟨g,rfl,hv.later bL⟩;have iD:=heap_alloc_new w1 (.cells #[.slice (some ⟨g,0,none⟩) q.length q.length] 67);rw[gT] at bM bZ bI;simp only[List.append_assoc,List.cons_append,List.nil_append,q4r,List.length_cons,List.length_nil,Nat.zero_add] at bZ bI bM dX;simp only[Nat.mul_one] at bZ bI;have bV:Hid (qdk q4r _ _ _ _):=hid bZ;have aG:=hid (aV.out.trans ((bL.mono kB).trans (bI w.heap.size (qac _))));have kE:=hid dX;have jL:=hid iD;have dF:=hid bM;clear bL kB dX bM bZ bI iD dI aP gT hv hb aV a0 a1 a2 fA bO bJ eS;go_wp2_with (at_builtin;refine qbu _ rfl _ _ 64 rfl 67 i0 1 Tryz.underlying64 HI.out dV w.heap.size k l.length cur rfl kE.out ⟨w1.heap.size,0,none⟩ 1 1 [.slice (some ⟨g,0,none⟩) q.length q.length] rfl rfl (World.news_of_block jL.out) ?lQ (by omega) dF.out ?_)
    case lQ=>
     intro u hu;simp only[List.mem_cons,List.not_mem_nil,or_false] at hu;subst hu;rfl
    go_wp2_with fail;go_roundw
    case rel=>exact⟨k+1,cQ,by go_num,rfl,hid (by rw[←vJ.out];exact bV.out),gB,aG⟩
    case measure=>simp[intOf];omega
   ·have eS:=hid (qr7 cH.out hc)
    have HF:=hid (qjg qbc oE.out HE.out hc);clear cH HE;generalize qbc x=ck at *;have nE:((ck:Int)==0)=false:=qan (by omega);have eY:=hid hc;clear hc;go_wp2_with fail;refine eS.out.mono ?_;rintro e w1 ⟨rfl,hb⟩;have aP:=hid (HB.out.trans ((dK.out.trans (hb.mono dK.out.size)).mono HB.out.size));clear hb HB eS a0 a1 a2 fA bO bJ;go_wp2_with fail;go_ret2;exact qo7 HF.out eY.out rfl aP.out
  ·obtain rfl:k=l.length:=by omega
   have hE:=HE.out;have hN:=HN.out;rw[List.take_length] at hE hN;have HE':=hid hE;have HN':=hid hN;clear hE hN HE HN;go_wp2_with fail;go_ret2;exact qmv HE'.out (by rw[List.length_map]) (qac _) rfl HN'.out HB.out
end Go.Proofs.YtmcfcpgglfimjaaGreatDoor
