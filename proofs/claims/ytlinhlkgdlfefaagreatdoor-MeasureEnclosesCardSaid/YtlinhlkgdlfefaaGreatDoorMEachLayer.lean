/- readLayer. -/
import Derived.Test.YtlinhlkgdlfefaaGreatDoorMShare
import Derived.Test.YtlinhlkgdlfefaaGreatDoorMMinMax
set_option linter.all false
namespace Go.Proofs.YtlinhlkgdlfefaaGreatDoor
open Go.RowKit
set_option maxRecDepth 100000
set_option maxHeartbeats 4000000
structure Lay where
 grain:ByteArray
 mass:Int
 shares:List (ByteArray × ByteArray)
def qdt(x:Lay):Nat:=if qhr x.grain.data.toList=false then 8 else if x.mass<1∨999999999<x.mass then 3 else qda x.shares
def qsl(x:Lay)(w:World)(e:Ending)(w':World):Prop:=
 (if qdt x=0 then ∃g,w.heap.size≤g∧e = .returned (.tuple #[.slice (some ⟨g,0,none⟩) x.shares.length x.shares.length,.int .i64 0])∧qj3 w' g x.shares.length (x.shares.map qke)
  else e = .returned (.tuple #[.slice none 0 0,.int .i64 (qdt x:Nat)]))∧Below w.heap.size w w'
theorem quy{x:Lay}{w w':World}(k:Nat){z:Int}(h:qdt x=k)(hk:k≠0)(hz:z=k)(hb:Below w.heap.size w w'):qsl x w (.returned (.tuple #[.slice none 0 0,.int .i64 z])) w':=by
 unfold qsl;rw[h,if_neg hk,hz];exact⟨rfl,hb⟩
def qh1(a b c:Value)(i:Nat):Value:=if i=0 then a else if i=1 then b else c
theorem qe7(w:World)(t:TypeId)(a b c:Value):Own (w.alloc (.cells #[a,b,c] t)) w.heap.size 3 (qh1 a b c):=by
 refine⟨by rw[World.size_alloc];omega,fun i hi => ?_⟩;rw[World.cell?_alloc_at _ _ _ _ rfl,World.frozen?_alloc_at _ _ _ _ rfl]
 match i,hi with
 | 0,_=>exact⟨rfl,rfl⟩
 | 1,_=>exact⟨rfl,rfl⟩
 | 2,_=>exact⟨rfl,rfl⟩
theorem qw9{l:List (ByteArray × ByteArray)}{w w':World}{e:Ending}(h:qdk l w e w'):∃(p:Option Addr) (n c:Nat) (z:Int),e = .returned (.tuple #[.slice p n c,.int .i64 z]):=by
 unfold qdk at h;obtain⟨h,_⟩:=h;split at h
 ·obtain⟨g,_,he,_⟩:=h
  exact⟨_,_,_,_,he⟩
 ·exact⟨_,_,_,_,h⟩
theorem qsm(x:Lay)(v:Value)(w:World)(hg:GW w)(hv:qb7 w v x.shares)(hs:∀s ∈ x.shares,s.2.size≤1073741824):
  Calls Tryz.prog 69 #[.agg #[.string x.grain,.int .i64 x.mass,v]] w (qsl x w):=by
 obtain⟨p,c,hvv,hc1,hc2,hcells⟩:=hv;have hv2:qb7 w (.slice p x.shares.length c) x.shares:=⟨p,c,rfl,hc1,hc2,hcells⟩;subst hvv;have hal:Below w.heap.size w (w.alloc (.cells #[.string x.grain,.int .i64 x.mass,.slice p x.shares.length c] 56)):=(Below.refl _ _).alloc (Nat.le_refl _) _;have HO:=hid (qe7 w 56 (.string x.grain) (.int .i64 x.mass) (.slice p x.shares.length c));have HNA:=hid (qj0 x.grain (w.alloc (.cells #[.string x.grain,.int .i64 x.mass,.slice p x.shares.length c] 56)));have HSH:Hid (∀W,Below w.heap.size w W→Calls Tryz.prog 124 #[.slice p x.shares.length c] W (qdk x.shares W)):=hid fun W hW=>qqi _ x.shares W (hg.later hW) (hv2.later hW) hs;obtain⟨a0,_⟩:=HO.out.2 0 (by omega);obtain⟨a1,_⟩:=HO.out.2 1 (by omega);obtain⟨a2,_⟩:=HO.out.2 2 (by omega);simp only[qh1,if_pos,Nat.one_ne_zero] at a0 a1 a2;have HAL:=hid hal;clear hg hv2 hs hcells hal;by_cases hn:qhr x.grain.data.toList=false
 ·have HF:Hid (∀w',Below w.heap.size w w'→qsl x w (.returned (.tuple #[.slice none 0 0,.int .i64 8])) w'):=hid fun w' hb=>quy 8 (by unfold qdt;rw[if_pos hn]) (by omega) rfl hb
  rw[hn] at HNA;clear hn;go_enter Tryz.func69,Tryz.ntmps69;go_wp2_with fail;refine HNA.out.mono ?_;rintro e w1 ⟨rfl,hb⟩;have HB:=hid (HAL.out.trans (hb.mono HAL.out.size));clear hb HNA;go_wp2_with fail;go_ret2;exact HF.out _ HB.out
 have hn':qhr x.grain.data.toList=true:=by simpa using hn
 rw[hn'] at HNA;by_cases hm:x.mass<1∨999999999<x.mass
 ·have HF:Hid (∀w',Below w.heap.size w w'→qsl x w (.returned (.tuple #[.slice none 0 0,.int .i64 3])) w'):=hid fun w' hb=>quy 3 (by unfold qdt;rw[if_neg hn,if_pos hm]) (by omega) rfl hb
  clear hn hn';by_cases hm1:x.mass<1
  ·clear hm
   go_enter Tryz.func69,Tryz.ntmps69;go_wp2_with fail;clear a0 a1 a2;refine HNA.out.mono ?_;rintro e w1 ⟨rfl,hb⟩;have HB:=hid (HAL.out.trans (hb.mono HAL.out.size));obtain⟨a0,_⟩:=(HO.out.later (hb.mono HO.out.1)).2 0 (by omega);obtain⟨a1,_⟩:=(HO.out.later (hb.mono HO.out.1)).2 1 (by omega);simp only[qh1,if_pos,Nat.one_ne_zero] at a0 a1;clear hb HNA;go_wp2_with fail;go_ret2;exact HF.out _ HB.out
  ·have hm2:999999999<x.mass:=by omega
   clear hm;go_enter Tryz.func69,Tryz.ntmps69;go_wp2_with fail;clear a0 a1 a2;refine HNA.out.mono ?_;rintro e w1 ⟨rfl,hb⟩;have HB:=hid (HAL.out.trans (hb.mono HAL.out.size));obtain⟨a0,_⟩:=(HO.out.later (hb.mono HO.out.1)).2 0 (by omega);obtain⟨a1,_⟩:=(HO.out.later (hb.mono HO.out.1)).2 1 (by omega);simp only[qh1,if_pos,Nat.one_ne_zero] at a0 a1;clear hb HNA;go_wp2_with fail;go_ret2;exact HF.out _ HB.out
 ·have HF:Hid (∀w1 e w',Below w.heap.size w w1→qdk x.shares w1 e w'→qsl x w e w'):=hid fun w1 e w' hb h=>by
   have hz:qdt x=qda x.shares:=by unfold qdt;rw[if_neg hn,if_neg hm]
   unfold qdk at h;unfold qsl;rw[hz];refine⟨?_,hb.trans (h.2.mono hb.size)⟩;split
   ·rename_i h0
    rw[if_pos h0] at h;obtain⟨⟨g,h1,h2,h3⟩,_⟩:=h;exact⟨g,Nat.le_trans hb.size h1,h2,h3⟩
   ·rename_i h0
    rw[if_neg h0] at h;exact h.1
  obtain⟨hm1,hm2⟩:¬x.mass<1∧¬999999999<x.mass:=by omega
  clear hn hn' hm;go_enter Tryz.func69,Tryz.ntmps69;go_wp2_with fail;clear a0 a1 a2;refine HNA.out.mono ?_;rintro e w1 ⟨rfl,hb⟩;have HB:=hid (HAL.out.trans (hb.mono HAL.out.size));obtain⟨a0,_⟩:=(HO.out.later (hb.mono HO.out.1)).2 0 (by omega);obtain⟨a1,_⟩:=(HO.out.later (hb.mono HO.out.1)).2 1 (by omega);obtain⟨a2,_⟩:=(HO.out.later (hb.mono HO.out.1)).2 2 (by omega);simp only[qh1,if_pos,Nat.one_ne_zero] at a0 a1 a2;clear hb HNA;go_wp2_with fail;refine(HSH.out _ HB.out).mono ?_;rintro e w2 h;obtain⟨q,n,c',z,rfl⟩:=qw9 h;have HQ:=hid (HF.out _ _ _ HB.out h);clear h HSH;go_wp2_with fail;go_ret2;exact HQ.out
theorem qj3.at{W:World}{g cap:Nat}{qs:List Rat}(h:qj3 W g cap qs):qhv W g 0 qs:=fun j q hq=>by
 obtain⟨b,p1,k1,c1,p2,k2,c2,e0,e1,e2,hv⟩:=h.get j q hq;refine⟨b,p1,k1,c1,p2,k2,c2, ?_, ?_, ?_,hv⟩
 ·rw[Nat.zero_add];exact e0
 ·rw[Nat.zero_add];exact e1
 ·rw[Nat.zero_add];exact e2
def q4y:qvv (List Rat) where
 ty:=119
 size:=1
 ok:=fun c=>∃p n c',c = .slice p n c'
 E:=fun W cs qs=>∃g,cs=[.slice (some ⟨g,0,none⟩) qs.length qs.length]∧qhv W g 0 qs
theorem qj8:q4y.Law where
 pos:=by show 0<1;omega
 cells:=by
  rintro W cs qs ⟨g,rfl,_⟩;refine⟨rfl,fun c hc => ?_⟩;simp only[List.mem_cons,List.not_mem_nil,or_false] at hc;subst hc;exact⟨⟨_,_,_,rfl⟩,rfl⟩
 later:=by
  rintro W W' cs qs ⟨g,rfl,h⟩ hb;exact⟨g,rfl,h.later hb⟩
 set:=by
  rintro W g' cur ty fr cs qs cs' ⟨g,rfl,h⟩ hg hc;refine⟨g,rfl,fun j q hq => ?_⟩;obtain⟨b,p1,k1,c1,p2,k2,c2,e0,e1,e2,hv⟩:=h j q hq
  have hne:g≠g':=by
   rintro rfl;rw[cell_of_row W g _ cur ty fr hg,←Array.getElem?_toList] at e0;obtain⟨p,n,c',hh⟩:=hc _ (List.mem_of_getElem? e0);cases hh
  have key:∀o,(W.setRow g' cs').cell? ⟨g,o,none⟩=W.cell? ⟨g,o,none⟩:=fun o=>cell_setRow_other W g' cs' ⟨g,o,none⟩ hne
  refine⟨b,p1,k1,c1,p2,k2,c2, ?_, ?_, ?_,hv.setRow hg (fun c hcc k z e=>by
   obtain⟨p,n,c',hh⟩:=hc c hcc;rw[hh] at e
   cases e) cs'⟩
  ·rw[key];exact e0
  ·rw[key];exact e1
  ·rw[key];exact e2
def qfp(W:World)(b o:Nat)(l:List Lay):Prop:=
 ∀(j:Nat) (x:Lay),l[j]? = some x→W.cell? ⟨b,o+j*3,none⟩=some (.string x.grain)∧W.cell? ⟨b,o+j*3+1,none⟩=some (.int .i64 x.mass)∧∃p c,W.cell? ⟨b,o+j*3+2,none⟩=some (.slice p x.shares.length c)∧qb7 W (.slice p x.shares.length c) x.shares
theorem qfp.later{w w':World}{b o:Nat}{l:List Lay}(h:qfp w b o l)(hb:Below w.heap.size w w'):qfp w' b o l:=fun j x hj=>by
 obtain⟨e0,e1,p,c,e2,hv⟩:=h j x hj;refine⟨?_, ?_,p,c, ?_,hv.later hb⟩
 ·rw[hb.cell (World.block_lt_of_cell? w _ e0)];exact e0
 ·rw[hb.cell (World.block_lt_of_cell? w _ e1)];exact e1
 ·rw[hb.cell (World.block_lt_of_cell? w _ e2)];exact e2
def q8z(w:World)(v:Value)(l:List Lay):Prop:=
 ∃p c,v = .slice p l.length c∧l.length≤c∧c≤maxLen∧(l.length=0∨∃b o,p=some ⟨b,o,none⟩∧qfp w b o l)
theorem q8z.later{w w':World}{v:Value}{l:List Lay}(h:q8z w v l)(hb:Below w.heap.size w w'):q8z w' v l:=by
 obtain⟨p,c,h1,h2,h3,h4⟩:=h;refine⟨p,c,h1,h2,h3, ?_⟩;rcases h4 with h4|⟨b,o,h5,h6⟩
 ·exact .inl h4
 ·exact .inr ⟨b,o,h5,h6.later hb⟩
def qre(x:Lay):List Rat:=x.shares.map qke
theorem q3s(n:Nat)(hn:n≤1048576)(w:World):
  (Instr.makeSlice 116 (.int .i64 0) (.int .i64 (n:Int))).run Tryz.prog w = .ok (.slice (some ⟨w.heap.size,0,none⟩) 0 n) (w.alloc (.cells (madeCells #[.slice none 0 0] n) 119)):=by
 obtain⟨i0,hi,hz0,hz1,hz2⟩:=info_parts (show(Tryz.prog.info? 119).map (fun i=>(i.zero,i.size,i.bytes))=some (some (.slice none 0 0),1,24) by kernel_rfl);have h:=run_make (P:=Tryz.prog) w 116 119 i0 _ Tryz.underlying116 hi hz0 .i64 .i64 0 (n:Int) (Int.le_refl _) (by omega) (by rw[hz2];omega) (by omega);rw[hz1] at h
 simpa [Value.cells] using h
theorem qqj{x:Lay}{v:Value}{w:World}(h:Calls Tryz.prog 69 #[.agg #[.string x.grain,.int .i64 x.mass,v]] w (qsl x w))(hc:qdt x=0):
  Calls Tryz.prog 69 #[.agg #[.string x.grain,.int .i64 x.mass,v]] w fun e w'=>(∃g,e = .returned (.tuple #[.slice (some ⟨g,0,none⟩) (qre x).length (qre x).length,.int .i64 0])∧qhv w' g 0 (qre x))∧Below w.heap.size w w':=by
 refine h.mono ?_;rintro e w' ⟨h1,h2⟩;rw[if_pos hc] at h1;obtain⟨g,_,he,hn⟩:=h1;refine⟨⟨g, ?_,hn.at⟩,h2⟩;unfold qre;rw[List.length_map];exact he
theorem qsn{x:Lay}{v:Value}{w:World}(h:Calls Tryz.prog 69 #[.agg #[.string x.grain,.int .i64 x.mass,v]] w (qsl x w))(hc:qdt x≠0):
  Calls Tryz.prog 69 #[.agg #[.string x.grain,.int .i64 x.mass,v]] w fun e w'=>e = .returned (.tuple #[.slice none 0 0,.int .i64 (qdt x:Nat)])∧Below w.heap.size w w':=by
 refine h.mono ?_;rintro e w' ⟨h1,h2⟩;rw[if_neg hc] at h1;exact⟨h1,h2⟩
theorem q0e(l:List Lay)(b o c:Nat)(w:World)(hg:GW w)(hrow:qfp w b o l)(hl:l.length≤1048576)(hs:∀x ∈ l,∀s ∈ x.shares,s.2.size≤1073741824):
  Calls Tryz.prog 68 #[.slice (some ⟨b,o,none⟩) l.length c,.func (.func 69) #[] #[]] w
   (qji q4y (l.map qdt) (l.map qre) w):=by
 have HG:=hid hg;have HROW:=hid hrow;have HS:=hid hs;have hmk:=q3s l.length hl;obtain⟨i0,hi,hz0,hz1,hz2⟩:=info_parts (show(Tryz.prog.info? 119).map (fun i=>(i.zero,i.size,i.bytes))=some (some (.slice none 0 0),1,24) by kernel_rfl);have HI:=hid hi;clear hrow hs hi hz0 hz2
 have HN0:=hid (qk1 qj8 w l.length l.length #[.slice none 0 0] (Nat.mul_one _).symm rfl (by
  intro c hc;simp only[List.mem_cons,List.not_mem_nil,or_false] at hc;subst hc
  exact⟨_,_,_,rfl⟩))
 have HB0:Hid (Below w.heap.size w (w.alloc (.cells (madeCells #[.slice none 0 0] l.length) 119))):=hid ((Below.refl _ _).alloc (Nat.le_refl _) _);clear hg;go_enter Tryz.func68,Tryz.ntmps68;go_wp2_with fail;clear hmk
 replace HN0:Hid (qdg q4y (w.alloc (.cells (madeCells #[.slice none 0 0] l.length) 119)) w.heap.size l.length []):=HN0
 generalize w.alloc (.cells (madeCells #[.slice none 0 0] l.length) 119)=w0 at *
 go_loopw [6,16] (fun r i wr=>∃k:Nat,k≤l.length∧i = .int .i64 k∧r = .slice (some ⟨w.heap.size,0,none⟩) k l.length∧Hid (qdg q4y wr w.heap.size l.length ((l.take k).map qre))∧Hid (qad ((l.take k).map qdt)=0)∧Hid (Below w.heap.size w wr)) (fun _ i _=>l.length-(intOf i).toNat)
 case atStart=>exact⟨0,Nat.zero_le _,rfl,rfl,HN0,hid rfl,HB0⟩
 case round=>
  obtain⟨k,hk,rfl,rfl,HN,HE,HB⟩:=hrel;clear HN0 HB0;by_cases hkl:k<l.length
  ·obtain⟨x,hsk⟩:∃x,l[k]? = some x:=⟨l[k],List.getElem?_eq_getElem hkl⟩
   obtain⟨e0,e1,p,cc,e2,hv⟩:=HROW.out k x hsk;have hc0:wr.cell? ⟨b,o+k*3,none⟩=some (.string x.grain):=by rw[HB.out.cell (World.block_lt_of_cell? w _ e0)];exact e0
   have hc1:wr.cell? ⟨b,o+k*3+1,none⟩=some (.int .i64 x.mass):=by rw[HB.out.cell (World.block_lt_of_cell? w _ e1)];exact e1
   have hc2:wr.cell? ⟨b,o+k*3+2,none⟩=some (.slice p x.shares.length cc):=by rw[HB.out.cell (World.block_lt_of_cell? w _ e2)];exact e2
   have hal:Below wr.heap.size wr (wr.alloc (.cells #[.string x.grain,.int .i64 x.mass,.slice p x.shares.length cc] 56)):=(Below.refl _ _).alloc (Nat.le_refl _) _;have HRD:=hid (qsm x (.slice p x.shares.length cc) (wr.alloc (.cells #[.string x.grain,.int .i64 x.mass,.slice p x.shares.length cc] 56)) ((HG.out.later HB.out).later hal) ((hv.later HB.out).later hal) (HS.out x (List.mem_of_getElem? hsk)));have ho:=qe7 wr 56 (.string x.grain) (.int .i64 x.mass) (.slice p x.shares.length cc);obtain⟨a0,_⟩:=ho.2 0 (by omega);obtain⟨a1,_⟩:=ho.2 1 (by omega);obtain⟨a2,_⟩:=ho.2 2 (by omega);simp only[qh1,if_pos,Nat.one_ne_zero] at a0 a1 a2;have HAL:=hid hal;have HSK:=hid hsk;clear e0 e1 e2 hsk hal hv ho;by_cases hc:qdt x=0
   ·have HRD2:=hid (qqj HRD.out hc)
    have HE2:=hid (qht qdt HSK.out HE.out hc)
    have hqs:((l.take k).map qre)++[qre x]=(l.take (k+1)).map qre:=by
     rw[qcs HSK.out,List.map_append];rfl
    have HQS:=hid hqs;have hql:((l.take k).map qre).length=k:=by rw[List.length_map,List.length_take];omega
    have HN1:=hid (HN.out.later qj8 HAL.out);have HB1:=hid (HB.out.trans (HAL.out.mono HB.out.size));clear HRD HE hc hqs HN HB HAL;generalize qre x=q at *;generalize ((l.take k).map qre)=qs at *;go_wp2_with fail;refine HRD2.out.mono ?_;rintro e w1 ⟨⟨g,rfl,hv⟩,hb⟩;have HBB:=hid (HB1.out.trans (hb.mono HB1.out.size));have hbs:w.heap.size≤w1.heap.size:=HBB.out.size;have hal2:Below w1.heap.size w1 (w1.alloc (.cells #[.slice (some ⟨g,0,none⟩) q.length q.length] 119)):=(Below.refl _ _).alloc (Nat.le_refl _) _;obtain⟨cur,hcur,hfit,hnew,hbel⟩:=((HN1.out.later qj8 hb).later qj8 hal2).push qj8 (cs:=[.slice (some ⟨g,0,none⟩) q.length q.length]) (by rw[hql];exact hkl) ⟨g,rfl,hv.later hal2⟩;have hnb:=heap_alloc_new w1 (.cells #[.slice (some ⟨g,0,none⟩) q.length q.length] 119);rw[hql] at hfit hnew hbel;simp only[List.append_assoc,List.cons_append,List.nil_append,q4y,List.length_cons,List.length_nil,Nat.zero_add] at hnew hbel hfit hcur;simp only[Nat.mul_one] at hnew hbel;have HNEW:Hid (qdg q4y _ _ _ _):=hid hnew;have HBEL:=hid (HBB.out.trans ((hal2.mono hbs).trans (hbel w.heap.size (Nat.le_refl _))));have HCUR:=hid hcur;have HNB:=hid hnb;have HFIT:=hid hfit;clear hal2 hbs hcur hfit hnew hbel hnb HN1 HB1 hql hv hb HBB a0 a1 a2 hc0 hc1 hc2 HRD2;go_wp2_with (at_builtin;refine qbh _ rfl _ _ 116 rfl 119 i0 1 Tryz.underlying116 HI.out hz1 w.heap.size k l.length cur rfl HCUR.out ⟨w1.heap.size,0,none⟩ 1 1 [.slice (some ⟨g,0,none⟩) q.length q.length] rfl rfl (World.news_of_block HNB.out) ?qc1 (by omega) HFIT.out ?_)
    case qc1=>
     intro u hu;simp only[List.mem_cons,List.not_mem_nil,or_false] at hu;subst hu;rfl
    go_wp2_with fail;go_roundw
    case rel=>exact⟨k+1,hkl,by go_num,rfl,hid (by rw[←HQS.out];exact HNEW.out),HE2,HBEL⟩
    case measure=>simp[intOf];omega
   ·have HRD2:=hid (qsn HRD.out hc)
    have HF:=hid (qjg qdt HSK.out HE.out hc);clear HRD HE;generalize qdt x=ck at *;have hck:((ck:Int)==0)=false:=beq_eq_false_iff_ne.2 (by omega);have HCK:=hid hc;clear hc;go_wp2_with fail;refine HRD2.out.mono ?_;rintro e w1 ⟨rfl,hb⟩;have HB1:=hid (HB.out.trans ((HAL.out.trans (hb.mono HAL.out.size)).mono HB.out.size));clear hb HB HRD2 a0 a1 a2 hc0 hc1 hc2;go_wp2_with fail;go_ret2;exact qpc HF.out HCK.out rfl HB1.out
  ·obtain rfl:k=l.length:=by omega
   have hE:=HE.out;have hN:=HN.out;rw[List.take_length] at hE hN;have HE':=hid hE;have HN':=hid hN;clear hE hN HE HN;go_wp2_with fail;go_ret2;exact qmv HE'.out (by rw[List.length_map]) (Nat.le_refl _) rfl HN'.out HB.out
end Go.Proofs.YtlinhlkgdlfefaaGreatDoor
