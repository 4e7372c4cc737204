/- readLayer. -/
import Derived.Test.YtclimablgihlhaaGreatDoorMShare
import Derived.Test.YtclimablgihlhaaGreatDoorMMinMax
set_option linter.all false
namespace Go.Proofs.YtclimablgihlhaaGreatDoor
open Go.RowKit
set_option maxRecDepth 100000
set_option maxHeartbeats 4000000
structure Lay where
 grain:BA
 mass:Int
 shares:List (BA × BA)
def qdi(x:Lay):Nat:=if qhf x.grain.data.toList=false then 8 else if x.mass<1∨999999999<x.mass then 3 else qcx x.shares
def qrt(x:Lay)(w:World)(e:Ending)(w':World):Prop:=
 (if qdi x=0 then ∃g,w.heap.size≤g∧e = .returned (.tuple #[.slice (some ⟨g,0,none⟩) x.shares.length x.shares.length,.int .i64 0])∧qjm w' g x.shares.length (x.shares.map qjv)
  else e = .returned (.tuple #[.slice none 0 0,.int .i64 (qdi x:Nat)]))∧Below w.heap.size w w'
theorem qtu{x:Lay}{w w':World}(k:Nat){z:Int}(h:qdi x=k)(hk:k≠0)(hz:z=k)(hb:Below w.heap.size w w'):qrt x w (.returned (.tuple #[.slice none 0 0,.int .i64 z])) w':=by
 unfold qrt;rw[h,if_neg hk,hz];exact⟨rfl,hb⟩
def qhm(a b c:Value)(i:Nat):Value:=if i=0 then a else if i=1 then b else c
theorem qev(w:World)(t:TypeId)(a b c:Value):Own (w.alloc (.cells #[a,b,c] t)) w.heap.size 3 (qhm a b c):=by
 refine⟨by rw[zao];omega,fun i hi => ?_⟩;rw[World.cell?_alloc_at _ _ _ _ rfl,World.frozen?_alloc_at _ _ _ _ rfl]
 match i,hi with
 | 0,_=>exact⟨rfl,rfl⟩
 | 1,_=>exact⟨rfl,rfl⟩
 | 2,_=>exact⟨rfl,rfl⟩
theorem qvu{l:List (BA × BA)}{w w':World}{e:Ending}(h:qc9 l w e w'):∃(p:Option Addr) (n c:Nat) (z:Int),e = .returned (.tuple #[.slice p n c,.int .i64 z]):=by
 unfold qc9 at h;obtain⟨h,_⟩:=h;split at h
 ·obtain⟨g,_,he,_⟩:=h
  exact⟨_,_,_,_,he⟩
 ·exact⟨_,_,_,_,h⟩
theorem qru(x:Lay)(v:Value)(w:World)(hg:GW w)(hv:qbq w v x.shares)(hs:∀s ∈ x.shares,s.2.size≤1073741824):
  Calls Tryz.prog 60 #[.agg #[.string x.grain,.int .i64 x.mass,v]] w (qrt x w):=by
 obtain⟨p,c,hvv,bP,bK,aA⟩:=hv;have qN:qbq w (.slice p x.shares.length c) x.shares:=⟨p,c,rfl,bP,bK,aA⟩;subst hvv;have aD:Below w.heap.size w (w.alloc (.cells #[.string x.grain,.int .i64 x.mass,.slice p x.shares.length c] 57)):=zam _ _;have HO:=hid (qev w 57 (.string x.grain) (.int .i64 x.mass) (.slice p x.shares.length c));have gC:=hid (qjj x.grain (w.alloc (.cells #[.string x.grain,.int .i64 x.mass,.slice p x.shares.length c] 57)));have qF:Hid (∀W,Below w.heap.size w W→Calls Tryz.prog 103 #[.slice p x.shares.length c] W (qc9 x.shares W)):=hid fun W hW=>qpx _ x.shares W (hg.later hW) (qN.later hW) hs;obtain⟨a0,_⟩:=HO.out.2 0 (by omega);obtain⟨a1,_⟩:=HO.out.2 1 (by omega);obtain⟨a2,_⟩:=HO.out.2 2 (by omega);simp only[qhm,if_pos,Nat.one_ne_zero] at a0 a1 a2;have eI:=hid aD;clear hg qN hs aA aD;by_cases hn:qhf x.grain.data.toList=false
 ·have HF:Hid (∀w',Below w.heap.size w w'→qrt x w (.returned (.tuple #[.slice none 0 0,.int .i64 8])) w'):=hid fun w' hb=>qtu 8 (by unfold qdi;rw[if_pos hn]) (by omega) rfl hb
  rw[hn] at gC;clear hn;go_enter Tryz.func60,Tryz.ntmps60;go_wp2_with fail;refine gC.out.mono ?_;rintro e w1 ⟨rfl,hb⟩;have HB:=hid (eI.out.trans (hb.mono eI.out.size));clear hb gC;go_wp2_with fail;go_ret2;exact HF.out _ HB.out
 have hn':qhf x.grain.data.toList=true:=by simpa using hn
 rw[hn'] at gC;by_cases hm:x.mass<1∨999999999<x.mass
 ·have HF:Hid (∀w',Below w.heap.size w w'→qrt x w (.returned (.tuple #[.slice none 0 0,.int .i64 3])) w'):=hid fun w' hb=>qtu 3 (by unfold qdi;rw[if_neg hn,if_pos hm]) (by omega) rfl hb
  clear hn hn';by_cases gI:x.mass<1
  ·clear hm
   go_enter Tryz.func60,Tryz.ntmps60;go_wp2_with fail;clear a0 a1 a2;refine gC.out.mono ?_;rintro e w1 ⟨rfl,hb⟩;have HB:=hid (eI.out.trans (hb.mono eI.out.size));obtain⟨a0,_⟩:=(HO.out.later (hb.mono HO.out.1)).2 0 (by omega);obtain⟨a1,_⟩:=(HO.out.later (hb.mono HO.out.1)).2 1 (by omega);simp only[qhm,if_pos,Nat.one_ne_zero] at a0 a1;clear hb gC;go_wp2_with fail;go_ret2;exact HF.out _ HB.out
  ·have hU:999999999<x.mass:=by omega
   clear hm;go_enter Tryz.func60,Tryz.ntmps60;go_wp2_with fail;clear a0 a1 a2;refine gC.out.mono ?_;rintro e w1 ⟨rfl,hb⟩;have HB:=hid (eI.out.trans (hb.mono eI.out.size));obtain⟨a0,_⟩:=(HO.out.later (hb.mono HO.out.1)).2 0 (by omega);obtain⟨a1,_⟩:=(HO.out.later (hb.mono HO.out.1)).2 1 (by omega);simp only[qhm,if_pos,Nat.one_ne_zero] at a0 a1;clear hb gC;go_wp2_with fail;go_ret2;exact HF.out _ HB.out
 ·have HF:Hid (∀w1 e w',Below w.heap.size w w1→qc9 x.shares w1 e w'→qrt x w e w'):=hid fun w1 e w' hb h=>by
   have hz:qdi x=qcx x.shares:=by unfold qdi;rw[if_neg hn,if_neg hm]
   unfold qc9 at h;unfold qrt;rw[hz];refine⟨?_,hb.trans (h.2.mono hb.size)⟩;split
   ·rename_i h0
    rw[if_pos h0] at h;obtain⟨⟨g,h1,h2,h3⟩,_⟩:=h;exact⟨g,Nat.le_trans hb.size h1,h2,h3⟩
   ·rename_i h0
    rw[if_neg h0] at h;exact h.1
  obtain⟨gI,hU⟩:¬x.mass<1∧¬999999999<x.mass:=by omega
  clear hn hn' hm;go_enter Tryz.func60,Tryz.ntmps60;go_wp2_with fail;clear a0 a1 a2;refine gC.out.mono ?_;rintro e w1 ⟨rfl,hb⟩;have HB:=hid (eI.out.trans (hb.mono eI.out.size));obtain⟨a0,_⟩:=(HO.out.later (hb.mono HO.out.1)).2 0 (by omega);obtain⟨a1,_⟩:=(HO.out.later (hb.mono HO.out.1)).2 1 (by omega);obtain⟨a2,_⟩:=(HO.out.later (hb.mono HO.out.1)).2 2 (by omega);simp only[qhm,if_pos,Nat.one_ne_zero] at a0 a1 a2;clear hb gC;go_wp2_with fail;refine(qF.out _ HB.out).mono ?_;rintro e w2 h;obtain⟨q,n,c',z,rfl⟩:=qvu h;have HQ:=hid (HF.out _ _ _ HB.out h);clear h qF;go_wp2_with fail;go_ret2;exact HQ.out
theorem qjm.at{W:World}{g cap:Nat}{qs:List Rat}(h:qjm W g cap qs):qhl W g 0 qs:=fun j q hq=>by
 obtain⟨b,p1,k1,c1,p2,k2,c2,e0,e1,e2,hv⟩:=h.get j q hq;refine⟨b,p1,k1,c1,p2,k2,c2, ?_, ?_, ?_,hv⟩
 ·rw[Nat.zero_add];exact e0
 ·rw[Nat.zero_add];exact e1
 ·rw[Nat.zero_add];exact e2
def q3r:quh (List Rat) where
 ty:=112
 size:=1
 ok:=fun c=>∃p n c',c = .slice p n c'
 E:=fun W cs qs=>∃g,cs=[.slice (some ⟨g,0,none⟩) qs.length qs.length]∧qhl W g 0 qs
theorem qjr:q3r.Law where
 pos:=by show 0<1;omega
 cells:=by
  rintro W cs qs ⟨g,rfl,_⟩;refine⟨rfl,fun c hc => ?_⟩;simp only[List.mem_cons,List.not_mem_nil,or_false] at hc;subst hc;exact⟨⟨_,_,_,rfl⟩,rfl⟩
 later:=by
  rintro W W' cs qs ⟨g,rfl,h⟩ hb;exact⟨g,rfl,h.later hb⟩
 set:=by
  rintro W g' cur ty fr cs qs cs' ⟨g,rfl,h⟩ hg hc;refine⟨g,rfl,fun j q hq => ?_⟩;obtain⟨b,p1,k1,c1,p2,k2,c2,e0,e1,e2,hv⟩:=h j q hq
  have hne:g≠g':=by
   rintro rfl;rw[cell_of_row W g _ cur ty fr hg,←Array.getElem?_toList] at e0;obtain⟨p,n,c',hh⟩:=hc _ (zax e0);cases hh
  have key:∀o,(W.setRow g' cs').cell? ⟨g,o,none⟩=W.cell? ⟨g,o,none⟩:=fun o=>cell_setRow_other W g' cs' ⟨g,o,none⟩ hne
  refine⟨b,p1,k1,c1,p2,k2,c2, ?_, ?_, ?_,hv.setRow hg (fun c gA k z e=>by
   obtain⟨p,n,c',hh⟩:=hc c gA;rw[hh] at e
   cases e) cs'⟩
  ·rw[key];exact e0
  ·rw[key];exact e1
  ·rw[key];exact e2
def qfb(W:World)(b o:Nat)(l:List Lay):Prop:=
 ∀(j:Nat) (x:Lay),l[j]? = some x→W.cell? ⟨b,o+j*3,none⟩=some (.string x.grain)∧W.cell? ⟨b,o+j*3+1,none⟩=some (.int .i64 x.mass)∧∃p c,W.cell? ⟨b,o+j*3+2,none⟩=some (.slice p x.shares.length c)∧qbq W (.slice p x.shares.length c) x.shares
theorem qfb.later{w w':World}{b o:Nat}{l:List Lay}(h:qfb w b o l)(hb:Below w.heap.size w w'):qfb w' b o l:=fun j x hj=>by
 obtain⟨e0,e1,p,c,e2,hv⟩:=h j x hj;refine⟨?_, ?_,p,c, ?_,hv.later hb⟩
 ·rw[hb.cell (zaq w _ e0)];exact e0
 ·rw[hb.cell (zaq w _ e1)];exact e1
 ·rw[hb.cell (zaq w _ e2)];exact e2
def q72(w:World)(v:Value)(l:List Lay):Prop:=
 ∃p c,v = .slice p l.length c∧l.length≤c∧c≤maxLen∧(l.length=0∨∃b o,p=some ⟨b,o,none⟩∧qfb w b o l)
theorem q72.later{w w':World}{v:Value}{l:List Lay}(h:q72 w v l)(hb:Below w.heap.size w w'):q72 w' v l:=by
 obtain⟨p,c,h1,h2,h3,h4⟩:=h;refine⟨p,c,h1,h2,h3, ?_⟩;rcases h4 with h4|⟨b,o,h5,h6⟩
 ·exact .inl h4
 ·exact .inr ⟨b,o,h5,h6.later hb⟩
def qql(x:Lay):List Rat:=x.shares.map qjv
theorem q2d(n:Nat)(hn:n≤1048576)(w:World):
  (Instr.makeSlice 109 (.int .i64 0) (.int .i64 (n:Int))).run Tryz.prog w = .ok (.slice (some ⟨w.heap.size,0,none⟩) 0 n) (w.alloc (.cells (madeCells #[.slice none 0 0] n) 112)):=by
 obtain⟨i0,hi,cT,dT,dU⟩:=info_parts (show(Tryz.prog.info? 112).map (fun i=>(i.zero,i.size,i.bytes))=some (some (.slice none 0 0),1,24) by kernel_rfl);have h:=run_make (P:=Tryz.prog) w 109 112 i0 _ Tryz.underlying109 hi cT .i64 .i64 0 (n:Int) (Int.le_refl _) (by omega) (by rw[dU];omega) (by omega);rw[dT] at h
 simpa [Value.cells] using h
theorem qpy{x:Lay}{v:Value}{w:World}(h:Calls Tryz.prog 60 #[.agg #[.string x.grain,.int .i64 x.mass,v]] w (qrt x w))(hc:qdi x=0):
  Calls Tryz.prog 60 #[.agg #[.string x.grain,.int .i64 x.mass,v]] w fun e w'=>(∃g,e = .returned (.tuple #[.slice (some ⟨g,0,none⟩) (qql x).length (qql x).length,.int .i64 0])∧qhl w' g 0 (qql x))∧Below w.heap.size w w':=by
 refine h.mono ?_;rintro e w' ⟨h1,h2⟩;rw[if_pos hc] at h1;obtain⟨g,_,he,hn⟩:=h1;refine⟨⟨g, ?_,hn.at⟩,h2⟩;unfold qql;rw[List.length_map];exact he
theorem qrv{x:Lay}{v:Value}{w:World}(h:Calls Tryz.prog 60 #[.agg #[.string x.grain,.int .i64 x.mass,v]] w (qrt x w))(hc:qdi x≠0):
  Calls Tryz.prog 60 #[.agg #[.string x.grain,.int .i64 x.mass,v]] w fun e w'=>e = .returned (.tuple #[.slice none 0 0,.int .i64 (qdi x:Nat)])∧Below w.heap.size w w':=by
 refine h.mono ?_;rintro e w' ⟨h1,h2⟩;rw[if_neg hc] at h1;exact⟨h1,h2⟩
theorem qy0(l:List Lay)(b o c:Nat)(w:World)(hg:GW w)(aB:qfb w b o l)(hl:l.length≤1048576)(hs:∀x ∈ l,∀s ∈ x.shares,s.2.size≤1073741824):
  Calls Tryz.prog 59 #[.slice (some ⟨b,o,none⟩) l.length c,.func (.func 60) #[] #[]] w
   (qi5 q3r (l.map qdi) (l.map qql) w):=by
 have HG:=hid hg;have bN:=hid aB;have HS:=hid hs;have lS:=q2d l.length hl;obtain⟨i0,hi,cT,dT,dU⟩:=info_parts (show(Tryz.prog.info? 112).map (fun i=>(i.zero,i.size,i.bytes))=some (some (.slice none 0 0),1,24) by kernel_rfl);have HI:=hid hi;clear aB hs hi cT dU
 have gE:=hid (qkj qjr w l.length l.length #[.slice none 0 0] (Nat.mul_one _).symm rfl (by
  intro c hc;simp only[List.mem_cons,List.not_mem_nil,or_false] at hc;subst hc
  exact⟨_,_,_,rfl⟩))
 have eY:Hid (Below w.heap.size w (w.alloc (.cells (madeCells #[.slice none 0 0] l.length) 112))):=hid (zam _ _);clear hg;go_enter Tryz.func59,Tryz.ntmps59;go_wp2_with fail;clear lS
 replace gE:Hid (qcz q3r (w.alloc (.cells (madeCells #[.slice none 0 0] l.length) 112)) w.heap.size l.length []):=gE
 generalize w.alloc (.cells (madeCells #[.slice none 0 0] l.length) 112)=w0 at *
 go_loopw [6,16] (fun r i wr=>∃k:Nat,k≤l.length∧i = .int .i64 k∧r = .slice (some ⟨w.heap.size,0,none⟩) k l.length∧Hid (qcz q3r wr w.heap.size l.length ((l.take k).map qql))∧Hid (qac ((l.take k).map qdi)=0)∧Hid (Below w.heap.size w wr)) (fun _ i _=>l.length-(intOf i).toNat)
 case atStart=>exact⟨0,Nat.zero_le _,rfl,rfl,gE,hid rfl,eY⟩
 case round=>
  obtain⟨k,hk,rfl,rfl,HN,HE,HB⟩:=hrel;clear gE eY;by_cases cV:k<l.length
  ·obtain⟨x,eL⟩:∃x,l[k]? = some x:=⟨l[k],zau cV⟩
   obtain⟨e0,e1,p,cc,e2,hv⟩:=bN.out k x eL;have fC:wr.cell? ⟨b,o+k*3,none⟩=some (.string x.grain):=by rw[HB.out.cell (zaq w _ e0)];exact e0
   have bP:wr.cell? ⟨b,o+k*3+1,none⟩=some (.int .i64 x.mass):=by rw[HB.out.cell (zaq w _ e1)];exact e1
   have bK:wr.cell? ⟨b,o+k*3+2,none⟩=some (.slice p x.shares.length cc):=by rw[HB.out.cell (zaq w _ e2)];exact e2
   have aD:Below wr.heap.size wr (wr.alloc (.cells #[.string x.grain,.int .i64 x.mass,.slice p x.shares.length cc] 57)):=zam _ _;have cM:=hid (qru x (.slice p x.shares.length cc) (wr.alloc (.cells #[.string x.grain,.int .i64 x.mass,.slice p x.shares.length cc] 57)) ((HG.out.later HB.out).later aD) ((hv.later HB.out).later aD) (HS.out x (zax eL)));have ho:=qev wr 57 (.string x.grain) (.int .i64 x.mass) (.slice p x.shares.length cc);obtain⟨a0,_⟩:=ho.2 0 (by omega);obtain⟨a1,_⟩:=ho.2 1 (by omega);obtain⟨a2,_⟩:=ho.2 2 (by omega);simp only[qhm,if_pos,Nat.one_ne_zero] at a0 a1 a2;have eI:=hid aD;have pI:=hid eL;clear e0 e1 e2 eL aD hv ho;by_cases hc:qdi x=0
   ·have fG:=hid (qpy cM.out hc)
    have jR:=hid (qhh qdi pI.out HE.out hc)
    have jQ:((l.take k).map qql)++[qql x]=(l.take (k+1)).map qql:=by
     rw[qcm pI.out,List.map_append];rfl
    have yT:=hid jQ;have jB:((l.take k).map qql).length=k:=by rw[List.length_map,List.length_take];omega
    have cX:=hid (HN.out.later qjr eI.out);have aQ:=hid (HB.out.trans (eI.out.mono HB.out.size));clear cM HE hc jQ HN HB eI;generalize qql x=q at *;generalize ((l.take k).map qql)=qs at *;go_wp2_with fail;refine fG.out.mono ?_;rintro e w1 ⟨⟨g,rfl,hv⟩,hb⟩;have aX:=hid (aQ.out.trans (hb.mono aQ.out.size));have kJ:w.heap.size≤w1.heap.size:=aX.out.size;have bT:Below w1.heap.size w1 (w1.alloc (.cells #[.slice (some ⟨g,0,none⟩) q.length q.length] 112)):=zam _ _;obtain⟨cur,eJ,bZ,cK,bM⟩:=((cX.out.later qjr hb).later qjr bT).push qjr (cs:=[.slice (some ⟨g,0,none⟩) q.length q.length]) (by rw[jB];exact cV) ⟨g,rfl,hv.later bT⟩;have jI:=heap_alloc_new w1 (.cells #[.slice (some ⟨g,0,none⟩) q.length q.length] 112);rw[jB] at bZ cK bM;simp only[List.append_assoc,List.cons_append,List.nil_append,q3r,List.length_cons,List.length_nil,Nat.zero_add] at cK bM bZ eJ;simp only[Nat.mul_one] at cK bM;have cH:Hid (qcz q3r _ _ _ _):=hid cK;have aH:=hid (aX.out.trans ((bT.mono kJ).trans (bM w.heap.size (zap _))));have lB:=hid eJ;have kU:=hid jI;have dQ:=hid bZ;clear bT kJ eJ bZ cK bM jI cX aQ jB hv hb aX a0 a1 a2 fC bP bK fG;go_wp2_with (at_builtin;refine qbi _ rfl _ _ 109 rfl 112 i0 1 Tryz.underlying109 HI.out dT w.heap.size k l.length cur rfl lB.out ⟨w1.heap.size,0,none⟩ 1 1 [.slice (some ⟨g,0,none⟩) q.length q.length] rfl rfl (World.news_of_block kU.out) ?mT (by omega) dQ.out ?_)
    case mT=>
     intro u hu;simp only[List.mem_cons,List.not_mem_nil,or_false] at hu;subst hu;rfl
    go_wp2_with fail;go_roundw
    case rel=>exact⟨k+1,cV,by go_num,rfl,hid (by rw[←yT.out];exact cH.out),jR,aH⟩
    case measure=>simp[intOf];omega
   ·have fG:=hid (qrv cM.out hc)
    have HF:=hid (qiz qdi pI.out HE.out hc);clear cM HE;generalize qdi x=ck at *;have oF:((ck:Int)==0)=false:=zat (by omega);have gN:=hid hc;clear hc;go_wp2_with fail;refine fG.out.mono ?_;rintro e w1 ⟨rfl,hb⟩;have aQ:=hid (HB.out.trans ((eI.out.trans (hb.mono eI.out.size)).mono HB.out.size));clear hb HB fG a0 a1 a2 fC bP bK;go_wp2_with fail;go_ret2;exact qo3 HF.out gN.out rfl aQ.out
  ·obtain rfl:k=l.length:=by omega
   have hE:=HE.out;have hN:=HN.out;rw[List.take_length] at hE hN;have HE':=hid hE;have HN':=hid hN;clear hE hN HE HN;go_wp2_with fail;go_ret2;exact qml HE'.out (by rw[List.length_map]) (zap _) rfl HN'.out HB.out
end Go.Proofs.YtclimablgihlhaaGreatDoor
