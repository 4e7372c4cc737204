/- readLayer. -/
import Derived.Test.YthjagoogkkgelaaGreatDoorMShare
import Derived.Test.YthjagoogkkgelaaGreatDoorMMinMax
set_option linter.all false
namespace Go.Proofs.YthjagoogkkgelaaGreatDoor
open Go.RowKit
set_option maxRecDepth 100000
set_option maxHeartbeats 4000000
structure Lay where
 grain:ByteArray
 mass:Int
 shares:List (ByteArray × ByteArray)
def qdm(x:Lay):Nat:=if qhw x.grain.data.toList=false then 8 else if x.mass<1∨999999999<x.mass then 3 else qc9 x.shares
def qsg(x:Lay)(w:World)(e:Ending)(w':World):Prop:=
 (if qdm x=0 then ∃g,w.heap.size≤g∧e = .returned (.tuple #[.slice (some ⟨g,0,none⟩) x.shares.length x.shares.length,.int .i64 0])∧qj7 w' g x.shares.length (x.shares.map qkh)
  else e = .returned (.tuple #[.slice none 0 0,.int .i64 (qdm x:Nat)]))∧Below w.heap.size w w'
theorem qt7{x:Lay}{w w':World}(k:Nat){z:Int}(h:qdm x=k)(hk:k≠0)(hz:z=k)(hb:Below w.heap.size w w'):qsg x w (.returned (.tuple #[.slice none 0 0,.int .i64 z])) w':=by
 unfold qsg;rw[h,if_neg hk,hz];exact⟨rfl,hb⟩
def qh1(a b c:Value)(i:Nat):Value:=if i=0 then a else if i=1 then b else c
theorem qe5(w:World)(t:TypeId)(a b c:Value):Own (w.alloc (.cells #[a,b,c] t)) w.heap.size 3 (qh1 a b c):=by
 refine⟨by rw[World.size_alloc];omega,fun i hi => ?_⟩;rw[World.cell?_alloc_at _ _ _ _ rfl,World.frozen?_alloc_at _ _ _ _ rfl]
 match i,hi with
 | 0,_=>exact⟨rfl,rfl⟩
 | 1,_=>exact⟨rfl,rfl⟩
 | 2,_=>exact⟨rfl,rfl⟩
theorem qwi{l:List (ByteArray × ByteArray)}{w w':World}{e:Ending}(h:qde l w e w'):∃(p:Option Addr) (n c:Nat) (z:Int),e = .returned (.tuple #[.slice p n c,.int .i64 z]):=by
 unfold qde at h;obtain⟨h,_⟩:=h;split at h
 ·obtain⟨g,_,he,_⟩:=h
  exact⟨_,_,_,_,he⟩
 ·exact⟨_,_,_,_,h⟩
theorem qsh(x:Lay)(v:Value)(w:World)(hg:GW w)(hv:qbr w v x.shares)(hs:∀s ∈ x.shares,s.2.size≤1073741824):
  Calls Tryz.prog 63 #[.agg #[.string x.grain,.int .i64 x.mass,v]] w (qsg x w):=by
 obtain⟨p,c,hvv,hc1,hc2,hcells⟩:=hv;have hv2:qbr w (.slice p x.shares.length c) x.shares:=⟨p,c,rfl,hc1,hc2,hcells⟩;subst hvv;have hal:Below w.heap.size w (w.alloc (.cells #[.string x.grain,.int .i64 x.mass,.slice p x.shares.length c] 64)):=(Below.refl _ _).alloc (Nat.le_refl _) _;have HO:=hid (qe5 w 64 (.string x.grain) (.int .i64 x.mass) (.slice p x.shares.length c));have HNA:=hid (qj4 x.grain (w.alloc (.cells #[.string x.grain,.int .i64 x.mass,.slice p x.shares.length c] 64)));have HSH:Hid (∀W,Below w.heap.size w W→Calls Tryz.prog 106 #[.slice p x.shares.length c] W (qde x.shares W)):=hid fun W hW=>qqs _ x.shares W (hg.later hW) (hv2.later hW) hs;obtain⟨a0,_⟩:=HO.out.2 0 (by omega);obtain⟨a1,_⟩:=HO.out.2 1 (by omega);obtain⟨a2,_⟩:=HO.out.2 2 (by omega);simp only[qh1,if_pos,Nat.one_ne_zero] at a0 a1 a2;have HAL:=hid hal;clear hg hv2 hs hcells hal;by_cases hn:qhw x.grain.data.toList=false
 ·have HF:Hid (∀w',Below w.heap.size w w'→qsg x w (.returned (.tuple #[.slice none 0 0,.int .i64 8])) w'):=hid fun w' hb=>qt7 8 (by unfold qdm;rw[if_pos hn]) (by omega) rfl hb
  rw[hn] at HNA;clear hn;go_enter Tryz.func63,Tryz.ntmps63;go_wp2_with fail;refine HNA.out.mono ?_;rintro e w1 ⟨rfl,hb⟩;have HB:=hid (HAL.out.trans (hb.mono HAL.out.size));clear hb HNA;go_wp2_with fail;go_ret2;exact HF.out _ HB.out
 have hn':qhw x.grain.data.toList=true:=by simpa using hn
 rw[hn'] at HNA;by_cases hm:x.mass<1∨999999999<x.mass
 ·have HF:Hid (∀w',Below w.heap.size w w'→qsg x w (.returned (.tuple #[.slice none 0 0,.int .i64 3])) w'):=hid fun w' hb=>qt7 3 (by unfold qdm;rw[if_neg hn,if_pos hm]) (by omega) rfl hb
  clear hn hn';by_cases hm1:x.mass<1
  ·clear hm
   go_enter Tryz.func63,Tryz.ntmps63;go_wp2_with fail;clear a0 a1 a2;refine HNA.out.mono ?_;rintro e w1 ⟨rfl,hb⟩;have HB:=hid (HAL.out.trans (hb.mono HAL.out.size));obtain⟨a0,_⟩:=(HO.out.later (hb.mono HO.out.1)).2 0 (by omega);obtain⟨a1,_⟩:=(HO.out.later (hb.mono HO.out.1)).2 1 (by omega);simp only[qh1,if_pos,Nat.one_ne_zero] at a0 a1;clear hb HNA;go_wp2_with fail;go_ret2;exact HF.out _ HB.out
  ·have hm2:999999999<x.mass:=by omega
   clear hm;go_enter Tryz.func63,Tryz.ntmps63;go_wp2_with fail;clear a0 a1 a2;refine HNA.out.mono ?_;rintro e w1 ⟨rfl,hb⟩;have HB:=hid (HAL.out.trans (hb.mono HAL.out.size));obtain⟨a0,_⟩:=(HO.out.later (hb.mono HO.out.1)).2 0 (by omega);obtain⟨a1,_⟩:=(HO.out.later (hb.mono HO.out.1)).2 1 (by omega);simp only[qh1,if_pos,Nat.one_ne_zero] at a0 a1;clear hb HNA;go_wp2_with fail;go_ret2;exact HF.out _ HB.out
 ·have HF:Hid (∀w1 e w',Below w.heap.size w w1→qde x.shares w1 e w'→qsg x w e w'):=hid fun w1 e w' hb h=>by
   have hz:qdm x=qc9 x.shares:=by unfold qdm;rw[if_neg hn,if_neg hm]
   unfold qde at h;unfold qsg;rw[hz];refine⟨?_,hb.trans (h.2.mono hb.size)⟩;split
   ·rename_i h0
    rw[if_pos h0] at h;obtain⟨⟨g,h1,h2,h3⟩,_⟩:=h;exact⟨g,Nat.le_trans hb.size h1,h2,h3⟩
   ·rename_i h0
    rw[if_neg h0] at h;exact h.1
  obtain⟨hm1,hm2⟩:¬x.mass<1∧¬999999999<x.mass:=by omega
  clear hn hn' hm;go_enter Tryz.func63,Tryz.ntmps63;go_wp2_with fail;clear a0 a1 a2;refine HNA.out.mono ?_;rintro e w1 ⟨rfl,hb⟩;have HB:=hid (HAL.out.trans (hb.mono HAL.out.size));obtain⟨a0,_⟩:=(HO.out.later (hb.mono HO.out.1)).2 0 (by omega);obtain⟨a1,_⟩:=(HO.out.later (hb.mono HO.out.1)).2 1 (by omega);obtain⟨a2,_⟩:=(HO.out.later (hb.mono HO.out.1)).2 2 (by omega);simp only[qh1,if_pos,Nat.one_ne_zero] at a0 a1 a2;clear hb HNA;go_wp2_with fail;refine(HSH.out _ HB.out).mono ?_;rintro e w2 h;obtain⟨q,n,c',z,rfl⟩:=qwi h;have HQ:=hid (HF.out _ _ _ HB.out h);clear h HSH;go_wp2_with fail;go_ret2;exact HQ.out
theorem qj7.at{W:World}{g cap:Nat}{qs:List Rat}(h:qj7 W g cap qs):qh0 W g 0 qs:=fun j q hq=>by
 obtain⟨b,p1,k1,c1,p2,k2,c2,e0,e1,e2,hv⟩:=h.get j q hq;refine⟨b,p1,k1,c1,p2,k2,c2, ?_, ?_, ?_,hv⟩
 ·rw[Nat.zero_add];exact e0
 ·rw[Nat.zero_add];exact e1
 ·rw[Nat.zero_add];exact e2
def q5e:qvm (List Rat) where
 ty:=118
 size:=1
 ok:=fun c=>∃p n c',c = .slice p n c'
 E:=fun W cs qs=>∃g,cs=[.slice (some ⟨g,0,none⟩) qs.length qs.length]∧qh0 W g 0 qs
theorem qj9:q5e.Law where
 pos:=by show 0<1;omega
 cells:=by
  rintro W cs qs ⟨g,rfl,_⟩;refine⟨rfl,fun c hc => ?_⟩;simp only[List.mem_cons,List.not_mem_nil,or_false] at hc;subst hc;exact⟨⟨_,_,_,rfl⟩,rfl⟩
 later:=by
  rintro W W' cs qs ⟨g,rfl,h⟩ hb;exact⟨g,rfl,h.later hb⟩
 set:=by
  rintro W g' cur ty fr cs qs cs' ⟨g,rfl,h⟩ hg hc;refine⟨g,rfl,fun j q hq => ?_⟩;obtain⟨b,p1,k1,c1,p2,k2,c2,e0,e1,e2,hv⟩:=h j q hq
  have hne:g≠g':=by
   rintro rfl;rw[cell_of_row W g _ cur ty fr hg,←Array.getElem?_toList] at e0;obtain⟨p,n,c',hh⟩:=hc _ (List.mem_of_getElem? e0);cases hh
  have key:∀o,(W.setRow g' cs').cell? ⟨g,o,none⟩=W.cell? ⟨g,o,none⟩:=fun o=>cell_setRow_other W g' cs' ⟨g,o,none⟩ hne
  refine⟨b,p1,k1,c1,p2,k2,c2, ?_, ?_, ?_,hv.setRow hg (fun c hcc k z e=>by
   obtain⟨p,n,c',hh⟩:=hc c hcc;rw[hh] at e
   cases e) cs'⟩
  ·rw[key];exact e0
  ·rw[key];exact e1
  ·rw[key];exact e2
def qfk(W:World)(b o:Nat)(l:List Lay):Prop:=
 ∀(j:Nat) (x:Lay),l[j]? = some x→W.cell? ⟨b,o+j*3,none⟩=some (.string x.grain)∧W.cell? ⟨b,o+j*3+1,none⟩=some (.int .i64 x.mass)∧∃p c,W.cell? ⟨b,o+j*3+2,none⟩=some (.slice p x.shares.length c)∧qbr W (.slice p x.shares.length c) x.shares
theorem qfk.later{w w':World}{b o:Nat}{l:List Lay}(h:qfk w b o l)(hb:Below w.heap.size w w'):qfk w' b o l:=fun j x hj=>by
 obtain⟨e0,e1,p,c,e2,hv⟩:=h j x hj;refine⟨?_, ?_,p,c, ?_,hv.later hb⟩
 ·rw[hb.cell (World.block_lt_of_cell? w _ e0)];exact e0
 ·rw[hb.cell (World.block_lt_of_cell? w _ e1)];exact e1
 ·rw[hb.cell (World.block_lt_of_cell? w _ e2)];exact e2
def q9e(w:World)(v:Value)(l:List Lay):Prop:=
 ∃p c,v = .slice p l.length c∧l.length≤c∧c≤maxLen∧(l.length=0∨∃b o,p=some ⟨b,o,none⟩∧qfk w b o l)
theorem q9e.later{w w':World}{v:Value}{l:List Lay}(h:q9e w v l)(hb:Below w.heap.size w w'):q9e w' v l:=by
 obtain⟨p,c,h1,h2,h3,h4⟩:=h;refine⟨p,c,h1,h2,h3, ?_⟩;rcases h4 with h4|⟨b,o,h5,h6⟩
 ·exact .inl h4
 ·exact .inr ⟨b,o,h5,h6.later hb⟩
def qrb(x:Lay):List Rat:=x.shares.map qkh
theorem q2t(n:Nat)(hn:n≤1048576)(w:World):
  (Instr.makeSlice 115 (.int .i64 0) (.int .i64 (n:Int))).run Tryz.prog w = .ok (.slice (some ⟨w.heap.size,0,none⟩) 0 n) (w.alloc (.cells (madeCells #[.slice none 0 0] n) 118)):=by
 obtain⟨i0,hi,hz0,hz1,hz2⟩:=info_parts (show(Tryz.prog.info? 118).map (fun i=>(i.zero,i.size,i.bytes))=some (some (.slice none 0 0),1,24) by kernel_rfl);have h:=run_make (P:=Tryz.prog) w 115 118 i0 _ Tryz.underlying115 hi hz0 .i64 .i64 0 (n:Int) (Int.le_refl _) (by omega) (by rw[hz2];omega) (by omega);rw[hz1] at h
 simpa [Value.cells] using h
theorem qqt{x:Lay}{v:Value}{w:World}(h:Calls Tryz.prog 63 #[.agg #[.string x.grain,.int .i64 x.mass,v]] w (qsg x w))(hc:qdm x=0):
  Calls Tryz.prog 63 #[.agg #[.string x.grain,.int .i64 x.mass,v]] w fun e w'=>(∃g,e = .returned (.tuple #[.slice (some ⟨g,0,none⟩) (qrb x).length (qrb x).length,.int .i64 0])∧qh0 w' g 0 (qrb x))∧Below w.heap.size w w':=by
 refine h.mono ?_;rintro e w' ⟨h1,h2⟩;rw[if_pos hc] at h1;obtain⟨g,_,he,hn⟩:=h1;refine⟨⟨g, ?_,hn.at⟩,h2⟩;unfold qrb;rw[List.length_map];exact he
theorem qsi{x:Lay}{v:Value}{w:World}(h:Calls Tryz.prog 63 #[.agg #[.string x.grain,.int .i64 x.mass,v]] w (qsg x w))(hc:qdm x≠0):
  Calls Tryz.prog 63 #[.agg #[.string x.grain,.int .i64 x.mass,v]] w fun e w'=>e = .returned (.tuple #[.slice none 0 0,.int .i64 (qdm x:Nat)])∧Below w.heap.size w w':=by
 refine h.mono ?_;rintro e w' ⟨h1,h2⟩;rw[if_neg hc] at h1;exact⟨h1,h2⟩
theorem qz3(l:List Lay)(b o c:Nat)(w:World)(hg:GW w)(hrow:qfk w b o l)(hl:l.length≤1048576)(hs:∀x ∈ l,∀s ∈ x.shares,s.2.size≤1073741824):
  Calls Tryz.prog 62 #[.slice (some ⟨b,o,none⟩) l.length c,.func (.func 63) #[] #[]] w
   (qjh q5e (l.map qdm) (l.map qrb) w):=by
 have HG:=hid hg;have HROW:=hid hrow;have HS:=hid hs;have hmk:=q2t l.length hl;obtain⟨i0,hi,hz0,hz1,hz2⟩:=info_parts (show(Tryz.prog.info? 118).map (fun i=>(i.zero,i.size,i.bytes))=some (some (.slice none 0 0),1,24) by kernel_rfl);have HI:=hid hi;clear hrow hs hi hz0 hz2
 have HN0:=hid (qk1 qj9 w l.length l.length #[.slice none 0 0] (Nat.mul_one _).symm rfl (by
  intro c hc;simp only[List.mem_cons,List.not_mem_nil,or_false] at hc;subst hc
  exact⟨_,_,_,rfl⟩))
 have HB0:Hid (Below w.heap.size w (w.alloc (.cells (madeCells #[.slice none 0 0] l.length) 118))):=hid ((Below.refl _ _).alloc (Nat.le_refl _) _);clear hg;go_enter Tryz.func62,Tryz.ntmps62;go_wp2_with fail;clear hmk
 replace HN0:Hid (qdb q5e (w.alloc (.cells (madeCells #[.slice none 0 0] l.length) 118)) w.heap.size l.length []):=HN0
 generalize w.alloc (.cells (madeCells #[.slice none 0 0] l.length) 118)=w0 at *
 go_loopw [6,16] (fun r i wr=>∃k:Nat,k≤l.length∧i = .int .i64 k∧r = .slice (some ⟨w.heap.size,0,none⟩) k l.length∧Hid (qdb q5e wr w.heap.size l.length ((l.take k).map qrb))∧Hid (qac ((l.take k).map qdm)=0)∧Hid (Below w.heap.size w wr)) (fun _ i _=>l.length-(intOf i).toNat)
 case atStart=>exact⟨0,Nat.zero_le _,rfl,rfl,HN0,hid rfl,HB0⟩
 case round=>
  obtain⟨k,hk,rfl,rfl,HN,HE,HB⟩:=hrel;clear HN0 HB0;by_cases hkl:k<l.length
  ·obtain⟨x,hsk⟩:∃x,l[k]? = some x:=⟨l[k],List.getElem?_eq_getElem hkl⟩
   obtain⟨e0,e1,p,cc,e2,hv⟩:=HROW.out k x hsk;have hc0:wr.cell? ⟨b,o+k*3,none⟩=some (.string x.grain):=by rw[HB.out.cell (World.block_lt_of_cell? w _ e0)];exact e0
   have hc1:wr.cell? ⟨b,o+k*3+1,none⟩=some (.int .i64 x.mass):=by rw[HB.out.cell (World.block_lt_of_cell? w _ e1)];exact e1
   have hc2:wr.cell? ⟨b,o+k*3+2,none⟩=some (.slice p x.shares.length cc):=by rw[HB.out.cell (World.block_lt_of_cell? w _ e2)];exact e2
   have hal:Below wr.heap.size wr (wr.alloc (.cells #[.string x.grain,.int .i64 x.mass,.slice p x.shares.length cc] 64)):=(Below.refl _ _).alloc (Nat.le_refl _) _;have HRD:=hid (qsh x (.slice p x.shares.length cc) (wr.alloc (.cells #[.string x.grain,.int .i64 x.mass,.slice p x.shares.length cc] 64)) ((HG.out.later HB.out).later hal) ((hv.later HB.out).later hal) (HS.out x (List.mem_of_getElem? hsk)));have ho:=qe5 wr 64 (.string x.grain) (.int .i64 x.mass) (.slice p x.shares.length cc);obtain⟨a0,_⟩:=ho.2 0 (by omega);obtain⟨a1,_⟩:=ho.2 1 (by omega);obtain⟨a2,_⟩:=ho.2 2 (by omega);simp only[qh1,if_pos,Nat.one_ne_zero] at a0 a1 a2;have HAL:=hid hal;have HSK:=hid hsk;clear e0 e1 e2 hsk hal hv ho;by_cases hc:qdm x=0
   ·have HRD2:=hid (qqt HRD.out hc)
    have HE2:=hid (qhy qdm HSK.out HE.out hc)
    have hqs:((l.take k).map qrb)++[qrb x]=(l.take (k+1)).map qrb:=by
     rw[qb9 HSK.out,List.map_append];rfl
    have HQS:=hid hqs;have hql:((l.take k).map qrb).length=k:=by rw[List.length_map,List.length_take];omega
    have HN1:=hid (HN.out.later qj9 HAL.out);have HB1:=hid (HB.out.trans (HAL.out.mono HB.out.size));clear HRD HE hc hqs HN HB HAL;generalize qrb x=q at *;generalize ((l.take k).map qrb)=qs at *;go_wp2_with fail;refine HRD2.out.mono ?_;rintro e w1 ⟨⟨g,rfl,hv⟩,hb⟩;have HBB:=hid (HB1.out.trans (hb.mono HB1.out.size));have hbs:w.heap.size≤w1.heap.size:=HBB.out.size;have hal2:Below w1.heap.size w1 (w1.alloc (.cells #[.slice (some ⟨g,0,none⟩) q.length q.length] 118)):=(Below.refl _ _).alloc (Nat.le_refl _) _;obtain⟨cur,hcur,hfit,hnew,hbel⟩:=((HN1.out.later qj9 hb).later qj9 hal2).push qj9 (cs:=[.slice (some ⟨g,0,none⟩) q.length q.length]) (by rw[hql];exact hkl) ⟨g,rfl,hv.later hal2⟩;have hnb:=heap_alloc_new w1 (.cells #[.slice (some ⟨g,0,none⟩) q.length q.length] 118);rw[hql] at hfit hnew hbel;simp only[List.append_assoc,List.cons_append,List.nil_append,q5e,List.length_cons,List.length_nil,Nat.zero_add] at hnew hbel hfit hcur;simp only[Nat.mul_one] at hnew hbel;have HNEW:Hid (qdb q5e _ _ _ _):=hid hnew;have HBEL:=hid (HBB.out.trans ((hal2.mono hbs).trans (hbel w.heap.size (Nat.le_refl _))));have HCUR:=hid hcur;have HNB:=hid hnb;have HFIT:=hid hfit;clear hal2 hbs hcur hfit hnew hbel hnb HN1 HB1 hql hv hb HBB a0 a1 a2 hc0 hc1 hc2 HRD2;go_wp2_with (at_builtin;refine qbi _ rfl _ _ 115 rfl 118 i0 1 Tryz.underlying115 HI.out hz1 w.heap.size k l.length cur rfl HCUR.out ⟨w1.heap.size,0,none⟩ 1 1 [.slice (some ⟨g,0,none⟩) q.length q.length] rfl rfl (World.news_of_block HNB.out) ?qc1 (by omega) HFIT.out ?_)
    case qc1=>
     intro u hu;simp only[List.mem_cons,List.not_mem_nil,or_false] at hu;subst hu;rfl
    go_wp2_with fail;go_roundw
    case rel=>exact⟨k+1,hkl,by go_num,rfl,hid (by rw[←HQS.out];exact HNEW.out),HE2,HBEL⟩
    case measure=>simp[intOf];omega
   ·have HRD2:=hid (qsi HRD.out hc)
    have HF:=hid (qjg qdm HSK.out HE.out hc);clear HRD HE;generalize qdm x=ck at *;have hck:((ck:Int)==0)=false:=beq_eq_false_iff_ne.2 (by omega);have HCK:=hid hc;clear hc;go_wp2_with fail;refine HRD2.out.mono ?_;rintro e w1 ⟨rfl,hb⟩;have HB1:=hid (HB.out.trans ((HAL.out.trans (hb.mono HAL.out.size)).mono HB.out.size));clear hb HB HRD2 a0 a1 a2 hc0 hc1 hc2;go_wp2_with fail;go_ret2;exact qpl HF.out HCK.out rfl HB1.out
  ·obtain rfl:k=l.length:=by omega
   have hE:=HE.out;have hN:=HN.out;rw[List.take_length] at hE hN;have HE':=hid hE;have HN':=hid hN;clear hE hN HE HN;go_wp2_with fail;go_ret2;exact qm8 HE'.out (by rw[List.length_map]) (Nat.le_refl _) rfl HN'.out HB.out
end Go.Proofs.YthjagoogkkgelaaGreatDoor
