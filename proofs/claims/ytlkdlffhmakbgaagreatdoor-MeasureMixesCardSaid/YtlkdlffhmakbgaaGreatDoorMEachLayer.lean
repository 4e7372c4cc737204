/- readLayer. -/
import Derived.Test.YtlkdlffhmakbgaaGreatDoorMShare
import Derived.Test.YtlkdlffhmakbgaaGreatDoorMMinMax
set_option linter.all false
namespace Go.Proofs.YtlkdlffhmakbgaaGreatDoor
open Go.RowKit
set_option maxRecDepth 100000
set_option maxHeartbeats 4000000
structure Lay where
 grain:BA
 mass:Int
 shares:List (BA × BA)
def qbj(x:Lay):Nat:=if qdl x.grain.data.toList=false then 8 else if x.mass<1∨999999999<x.mass then 3 else qbe x.shares
def qo9(x:Lay)(w:World)(e:Ending)(w':World):Prop:=
 (if qbj x=0 then ∃g,w.heap.size≤g∧e = .returned (.tuple #[.slice (some ⟨g,0,none⟩) x.shares.length x.shares.length,.int .i64 0])∧qjv w' g x.shares.length (x.shares.map qcu)
  else e = .returned (.tuple #[.slice none 0 0,.int .i64 (qbj x:Nat)]))∧Below w.heap.size w w'
theorem qto{x:Lay}{w w':World}(k:Nat){z:Int}(h:qbj x=k)(hk:k≠0)(hz:z=k)(hb:Below w.heap.size w w'):qo9 x w (.returned (.tuple #[.slice none 0 0,.int .i64 z])) w':=by
 unfold qo9;rw[h,if_neg hk,hz];exact⟨rfl,hb⟩
def qep(a b c:Value)(i:Nat):Value:=if i=0 then a else if i=1 then b else c
theorem qb4(w:World)(t:TypeId)(a b c:Value):Own (w.alloc (.cells #[a,b,c] t)) w.heap.size 3 (qep a b c):=by
 refine⟨by rw[qab];omega,fun i hi => ?_⟩;rw[World.cell?_alloc_at _ _ _ _ rfl,World.frozen?_alloc_at _ _ _ _ rfl]
 match i,hi with
 | 0,_=>exact⟨rfl,rfl⟩
 | 1,_=>exact⟨rfl,rfl⟩
 | 2,_=>exact⟨rfl,rfl⟩
theorem qvp{l:List (BA × BA)}{w w':World}{e:Ending}(h:qcv l w e w'):∃(p:Option Addr) (n c:Nat) (z:Int),e = .returned (.tuple #[.slice p n c,.int .i64 z]):=by
 unfold qcv at h;obtain⟨h,_⟩:=h;split at h
 ·obtain⟨g,_,he,_⟩:=h
  exact⟨_,_,_,_,he⟩
 ·exact⟨_,_,_,_,h⟩
theorem qlp(x:Lay)(v:Value)(w:World)(hg:GW w)(hv:qc9 w v x.shares)(hs:∀s ∈ x.shares,s.2.size≤1073741824):
  Calls Tryz.prog 30 #[.agg #[.string x.grain,.int .i64 x.mass,v]] w (qo9 x w):=by
 obtain⟨p,c,hvv,bO,bG,aA⟩:=hv;have qD:qc9 w (.slice p x.shares.length c) x.shares:=⟨p,c,rfl,bO,bG,aA⟩;subst hvv;have aD:Below w.heap.size w (w.alloc (.cells #[.string x.grain,.int .i64 x.mass,.slice p x.shares.length c] 29)):=qad _ _;have HO:=hid (qb4 w 29 (.string x.grain) (.int .i64 x.mass) (.slice p x.shares.length c));have dR:=hid (qjs x.grain (w.alloc (.cells #[.string x.grain,.int .i64 x.mass,.slice p x.shares.length c] 29)));have nR:Hid (∀W,Below w.heap.size w W→Calls Tryz.prog 25 #[.slice p x.shares.length c] W (qcv x.shares W)):=hid fun W hW=>qkb _ x.shares W (hg.later hW) (qD.later hW) hs;obtain⟨a0,_⟩:=HO.out.2 0 (by omega);obtain⟨a1,_⟩:=HO.out.2 1 (by omega);obtain⟨a2,_⟩:=HO.out.2 2 (by omega);simp only[qep,if_pos,Nat.one_ne_zero] at a0 a1 a2;have cX:=hid aD;clear hg qD hs aA aD;by_cases hn:qdl x.grain.data.toList=false
 ·have HF:Hid (∀w',Below w.heap.size w w'→qo9 x w (.returned (.tuple #[.slice none 0 0,.int .i64 8])) w'):=hid fun w' hb=>qto 8 (by unfold qbj;rw[if_pos hn]) (by omega) rfl hb
  rw[hn] at dR;clear hn;go_enter Tryz.func30,Tryz.ntmps30;go_wp2_with fail;refine dR.out.mono ?_;rintro e w1 ⟨rfl,hb⟩;have HB:=hid (cX.out.trans (hb.mono cX.out.size));clear hb dR;go_wp2_with fail;go_ret2;exact HF.out _ HB.out
 have hn':qdl x.grain.data.toList=true:=by simpa using hn
 rw[hn'] at dR;by_cases hm:x.mass<1∨999999999<x.mass
 ·have HF:Hid (∀w',Below w.heap.size w w'→qo9 x w (.returned (.tuple #[.slice none 0 0,.int .i64 3])) w'):=hid fun w' hb=>qto 3 (by unfold qbj;rw[if_neg hn,if_pos hm]) (by omega) rfl hb
  clear hn hn';by_cases eU:x.mass<1
  ·clear hm
   go_enter Tryz.func30,Tryz.ntmps30;go_wp2_with fail;clear a0 a1 a2;refine dR.out.mono ?_;rintro e w1 ⟨rfl,hb⟩;have HB:=hid (cX.out.trans (hb.mono cX.out.size));obtain⟨a0,_⟩:=(HO.out.later (hb.mono HO.out.1)).2 0 (by omega);obtain⟨a1,_⟩:=(HO.out.later (hb.mono HO.out.1)).2 1 (by omega);simp only[qep,if_pos,Nat.one_ne_zero] at a0 a1;clear hb dR;go_wp2_with fail;go_ret2;exact HF.out _ HB.out
  ·have fL:999999999<x.mass:=by omega
   clear hm;go_enter Tryz.func30,Tryz.ntmps30;go_wp2_with fail;clear a0 a1 a2;refine dR.out.mono ?_;rintro e w1 ⟨rfl,hb⟩;have HB:=hid (cX.out.trans (hb.mono cX.out.size));obtain⟨a0,_⟩:=(HO.out.later (hb.mono HO.out.1)).2 0 (by omega);obtain⟨a1,_⟩:=(HO.out.later (hb.mono HO.out.1)).2 1 (by omega);simp only[qep,if_pos,Nat.one_ne_zero] at a0 a1;clear hb dR;go_wp2_with fail;go_ret2;exact HF.out _ HB.out
 ·have HF:Hid (∀w1 e w',Below w.heap.size w w1→qcv x.shares w1 e w'→qo9 x w e w'):=hid fun w1 e w' hb h=>by
   have hz:qbj x=qbe x.shares:=by unfold qbj;rw[if_neg hn,if_neg hm]
   unfold qcv at h;unfold qo9;rw[hz];refine⟨?_,hb.trans (h.2.mono hb.size)⟩;split
   ·rename_i h0
    rw[if_pos h0] at h;obtain⟨⟨g,h1,h2,h3⟩,_⟩:=h;exact⟨g,Nat.le_trans hb.size h1,h2,h3⟩
   ·rename_i h0
    rw[if_neg h0] at h;exact h.1
  obtain⟨eU,fL⟩:¬x.mass<1∧¬999999999<x.mass:=by omega
  clear hn hn' hm;go_enter Tryz.func30,Tryz.ntmps30;go_wp2_with fail;clear a0 a1 a2;refine dR.out.mono ?_;rintro e w1 ⟨rfl,hb⟩;have HB:=hid (cX.out.trans (hb.mono cX.out.size));obtain⟨a0,_⟩:=(HO.out.later (hb.mono HO.out.1)).2 0 (by omega);obtain⟨a1,_⟩:=(HO.out.later (hb.mono HO.out.1)).2 1 (by omega);obtain⟨a2,_⟩:=(HO.out.later (hb.mono HO.out.1)).2 2 (by omega);simp only[qep,if_pos,Nat.one_ne_zero] at a0 a1 a2;clear hb dR;go_wp2_with fail;refine(nR.out _ HB.out).mono ?_;rintro e w2 h;obtain⟨q,n,c',z,rfl⟩:=qvp h;have HQ:=hid (HF.out _ _ _ HB.out h);clear h nR;go_wp2_with fail;go_ret2;exact HQ.out
theorem qjv.at{W:World}{g cap:Nat}{qs:List Rat}(h:qjv W g cap qs):qhh W g 0 qs:=fun j q hq=>by
 obtain⟨b,p1,k1,c1,p2,k2,c2,e0,e1,e2,hv⟩:=h.get j q hq;refine⟨b,p1,k1,c1,p2,k2,c2, ?_, ?_, ?_,hv⟩
 ·rw[Nat.zero_add];exact e0
 ·rw[Nat.zero_add];exact e1
 ·rw[Nat.zero_add];exact e2
def q12:qur (List Rat) where
 ty:=63
 size:=1
 ok:=fun c=>∃p n c',c = .slice p n c'
 E:=fun W cs qs=>∃g,cs=[.slice (some ⟨g,0,none⟩) qs.length qs.length]∧qhh W g 0 qs
theorem qh8:q12.Law where
 pos:=by show 0<1;omega
 cells:=by
  rintro W cs qs ⟨g,rfl,_⟩;refine⟨rfl,fun c hc => ?_⟩;simp only[List.mem_cons,List.not_mem_nil,or_false] at hc;subst hc;exact⟨⟨_,_,_,rfl⟩,rfl⟩
 later:=by
  rintro W W' cs qs ⟨g,rfl,h⟩ hb;exact⟨g,rfl,h.later hb⟩
 set:=by
  rintro W g' cur ty fr cs qs cs' ⟨g,rfl,h⟩ hg hc;refine⟨g,rfl,fun j q hq => ?_⟩;obtain⟨b,p1,k1,c1,p2,k2,c2,e0,e1,e2,hv⟩:=h j q hq
  have hne:g≠g':=by
   rintro rfl;rw[cell_of_row W g _ cur ty fr hg,←Array.getElem?_toList] at e0;obtain⟨p,n,c',hh⟩:=hc _ (qbh e0);cases hh
  have key:∀o,(W.setRow g' cs').cell? ⟨g,o,none⟩=W.cell? ⟨g,o,none⟩:=fun o=>cell_setRow_other W g' cs' ⟨g,o,none⟩ hne
  refine⟨b,p1,k1,c1,p2,k2,c2, ?_, ?_, ?_,hv.setRow hg (fun c fR k z e=>by
   obtain⟨p,n,c',hh⟩:=hc c fR;rw[hh] at e
   cases e) cs'⟩
  ·rw[key];exact e0
  ·rw[key];exact e1
  ·rw[key];exact e2
def qdz(W:World)(b o:Nat)(l:List Lay):Prop:=
 ∀(j:Nat) (x:Lay),l[j]? = some x→W.cell? ⟨b,o+j*3,none⟩=some (.string x.grain)∧W.cell? ⟨b,o+j*3+1,none⟩=some (.int .i64 x.mass)∧∃p c,W.cell? ⟨b,o+j*3+2,none⟩=some (.slice p x.shares.length c)∧qc9 W (.slice p x.shares.length c) x.shares
theorem qdz.later{w w':World}{b o:Nat}{l:List Lay}(h:qdz w b o l)(hb:Below w.heap.size w w'):qdz w' b o l:=fun j x hj=>by
 obtain⟨e0,e1,p,c,e2,hv⟩:=h j x hj;refine⟨?_, ?_,p,c, ?_,hv.later hb⟩
 ·rw[hb.cell (qae w _ e0)];exact e0
 ·rw[hb.cell (qae w _ e1)];exact e1
 ·rw[hb.cell (qae w _ e2)];exact e2
def qpa(w:World)(v:Value)(l:List Lay):Prop:=
 ∃p c,v = .slice p l.length c∧l.length≤c∧c≤maxLen∧(l.length=0∨∃b o,p=some ⟨b,o,none⟩∧qdz w b o l)
theorem qpa.later{w w':World}{v:Value}{l:List Lay}(h:qpa w v l)(hb:Below w.heap.size w w'):qpa w' v l:=by
 obtain⟨p,c,h1,h2,h3,h4⟩:=h;refine⟨p,c,h1,h2,h3, ?_⟩;rcases h4 with h4|⟨b,o,h5,h6⟩
 ·exact .inl h4
 ·exact .inr ⟨b,o,h5,h6.later hb⟩
def qp6(x:Lay):List Rat:=x.shares.map qcu
theorem q13(n:Nat)(hn:n≤1048576)(w:World):
  (Instr.makeSlice 69 (.int .i64 0) (.int .i64 (n:Int))).run Tryz.prog w = .ok (.slice (some ⟨w.heap.size,0,none⟩) 0 n) (w.alloc (.cells (madeCells #[.slice none 0 0] n) 63)):=by
 obtain⟨i0,hi,cU,eE,eK⟩:=info_parts (show(Tryz.prog.info? 63).map (fun i=>(i.zero,i.size,i.bytes))=some (some (.slice none 0 0),1,24) by kernel_rfl);have h:=run_make (P:=Tryz.prog) w 69 63 i0 _ Tryz.underlying69 hi cU .i64 .i64 0 (n:Int) (Int.le_refl _) (by omega) (by rw[eK];omega) (by omega);rw[eE] at h
 simpa [Value.cells] using h
theorem qp7{x:Lay}{v:Value}{w:World}(h:Calls Tryz.prog 30 #[.agg #[.string x.grain,.int .i64 x.mass,v]] w (qo9 x w))(hc:qbj x=0):
  Calls Tryz.prog 30 #[.agg #[.string x.grain,.int .i64 x.mass,v]] w fun e w'=>(∃g,e = .returned (.tuple #[.slice (some ⟨g,0,none⟩) (qp6 x).length (qp6 x).length,.int .i64 0])∧qhh w' g 0 (qp6 x))∧Below w.heap.size w w':=by
 refine h.mono ?_;rintro e w' ⟨h1,h2⟩;rw[if_pos hc] at h1;obtain⟨g,_,he,hn⟩:=h1;refine⟨⟨g, ?_,hn.at⟩,h2⟩;unfold qp6;rw[List.length_map];exact he
theorem qrx{x:Lay}{v:Value}{w:World}(h:Calls Tryz.prog 30 #[.agg #[.string x.grain,.int .i64 x.mass,v]] w (qo9 x w))(hc:qbj x≠0):
  Calls Tryz.prog 30 #[.agg #[.string x.grain,.int .i64 x.mass,v]] w fun e w'=>e = .returned (.tuple #[.slice none 0 0,.int .i64 (qbj x:Nat)])∧Below w.heap.size w w':=by
 refine h.mono ?_;rintro e w' ⟨h1,h2⟩;rw[if_neg hc] at h1;exact⟨h1,h2⟩
theorem qqr(l:List Lay)(b o c:Nat)(w:World)(hg:GW w)(aB:qdz w b o l)(hl:l.length≤1048576)(hs:∀x ∈ l,∀s ∈ x.shares,s.2.size≤1073741824):
  Calls Tryz.prog 31 #[.slice (some ⟨b,o,none⟩) l.length c,.func (.func 30) #[] #[]] w
   (qip q12 (l.map qbj) (l.map qp6) w):=by
 have HG:=hid hg;have bL:=hid aB;have HS:=hid hs;have lO:=q13 l.length hl;obtain⟨i0,hi,cU,eE,eK⟩:=info_parts (show(Tryz.prog.info? 63).map (fun i=>(i.zero,i.size,i.bytes))=some (some (.slice none 0 0),1,24) by kernel_rfl);have HI:=hid hi;clear aB hs hi cU eK
 have hU:=hid (qkp qh8 w l.length l.length #[.slice none 0 0] (Nat.mul_one _).symm rfl (by
  intro c hc;simp only[List.mem_cons,List.not_mem_nil,or_false] at hc;subst hc
  exact⟨_,_,_,rfl⟩))
 have dM:Hid (Below w.heap.size w (w.alloc (.cells (madeCells #[.slice none 0 0] l.length) 63))):=hid (qad _ _);clear hg;go_enter Tryz.func31,Tryz.ntmps31;go_wp2_with fail;clear lO
 replace hU:Hid (qdg q12 (w.alloc (.cells (madeCells #[.slice none 0 0] l.length) 63)) w.heap.size l.length []):=hU
 generalize w.alloc (.cells (madeCells #[.slice none 0 0] l.length) 63)=w0 at *
 go_loopw [6,16] (fun r i wr=>∃k:Nat,k≤l.length∧i = .int .i64 k∧r = .slice (some ⟨w.heap.size,0,none⟩) k l.length∧Hid (qdg q12 wr w.heap.size l.length ((l.take k).map qp6))∧Hid (qaj ((l.take k).map qbj)=0)∧Hid (Below w.heap.size w wr)) (fun _ i _=>l.length-(intOf i).toNat)
 case atStart=>exact⟨0,Nat.zero_le _,rfl,rfl,hU,hid rfl,dM⟩
 case round=>
  obtain⟨k,hk,rfl,rfl,HN,HE,HB⟩:=hrel;clear hU dM;by_cases cT:k<l.length
  ·obtain⟨x,bV⟩:∃x,l[k]? = some x:=⟨l[k],qap cT⟩
   obtain⟨e0,e1,p,cc,e2,hv⟩:=bL.out k x bV;have eY:wr.cell? ⟨b,o+k*3,none⟩=some (.string x.grain):=by rw[HB.out.cell (qae w _ e0)];exact e0
   have bO:wr.cell? ⟨b,o+k*3+1,none⟩=some (.int .i64 x.mass):=by rw[HB.out.cell (qae w _ e1)];exact e1
   have bG:wr.cell? ⟨b,o+k*3+2,none⟩=some (.slice p x.shares.length cc):=by rw[HB.out.cell (qae w _ e2)];exact e2
   have aD:Below wr.heap.size wr (wr.alloc (.cells #[.string x.grain,.int .i64 x.mass,.slice p x.shares.length cc] 29)):=qad _ _;have cJ:=hid (qlp x (.slice p x.shares.length cc) (wr.alloc (.cells #[.string x.grain,.int .i64 x.mass,.slice p x.shares.length cc] 29)) ((HG.out.later HB.out).later aD) ((hv.later HB.out).later aD) (HS.out x (qbh bV)));have ho:=qb4 wr 29 (.string x.grain) (.int .i64 x.mass) (.slice p x.shares.length cc);obtain⟨a0,_⟩:=ho.2 0 (by omega);obtain⟨a1,_⟩:=ho.2 1 (by omega);obtain⟨a2,_⟩:=ho.2 2 (by omega);simp only[qep,if_pos,Nat.one_ne_zero] at a0 a1 a2;have cX:=hid aD;have oZ:=hid bV;clear e0 e1 e2 bV aD hv ho;by_cases hc:qbj x=0
   ·have fC:=hid (qp7 cJ.out hc)
    have gN:=hid (qhf qbj oZ.out HE.out hc)
    have iU:((l.take k).map qp6)++[qp6 x]=(l.take (k+1)).map qp6:=by
     rw[qbl oZ.out,List.map_append];rfl
    have xN:=hid iU;have iG:((l.take k).map qp6).length=k:=by rw[List.length_map,List.length_take];omega
    have dH:=hid (HN.out.later qh8 cX.out);have aP:=hid (HB.out.trans (cX.out.mono HB.out.size));clear cJ HE hc iU HN HB cX;generalize qp6 x=q at *;generalize ((l.take k).map qp6)=qs at *;go_wp2_with fail;refine fC.out.mono ?_;rintro e w1 ⟨⟨g,rfl,hv⟩,hb⟩;have aW:=hid (aP.out.trans (hb.mono aP.out.size));have kM:w.heap.size≤w1.heap.size:=aW.out.size;have bP:Below w1.heap.size w1 (w1.alloc (.cells #[.slice (some ⟨g,0,none⟩) q.length q.length] 63)):=qad _ _;obtain⟨cur,eH,bU,cG,bK⟩:=((dH.out.later qh8 hb).later qh8 bP).push qh8 (cs:=[.slice (some ⟨g,0,none⟩) q.length q.length]) (by rw[iG];exact cT) ⟨g,rfl,hv.later bP⟩;have gO:=heap_alloc_new w1 (.cells #[.slice (some ⟨g,0,none⟩) q.length q.length] 63);rw[iG] at bU cG bK;simp only[List.append_assoc,List.cons_append,List.nil_append,q12,List.length_cons,List.length_nil,Nat.zero_add] at cG bK bU eH;simp only[Nat.mul_one] at cG bK;have bY:Hid (qdg q12 _ _ _ _):=hid cG;have aG:=hid (aW.out.trans ((bP.mono kM).trans (bK w.heap.size (qac _))));have kT:=hid eH;have kA:=hid gO;have dJ:=hid bU;clear bP kM eH bU cG bK gO dH aP iG hv hb aW a0 a1 a2 eY bO bG fC;go_wp2_with (at_builtin;refine qbw _ rfl _ _ 69 rfl 63 i0 1 Tryz.underlying69 HI.out eE w.heap.size k l.length cur rfl kT.out ⟨w1.heap.size,0,none⟩ 1 1 [.slice (some ⟨g,0,none⟩) q.length q.length] rfl rfl (World.news_of_block kA.out) ?mK (by omega) dJ.out ?_)
    case mK=>
     intro u hu;simp only[List.mem_cons,List.not_mem_nil,or_false] at hu;subst hu;rfl
    go_wp2_with fail;go_roundw
    case rel=>exact⟨k+1,cT,by go_num,rfl,hid (by rw[←xN.out];exact bY.out),gN,aG⟩
    case measure=>simp[intOf];omega
   ·have fC:=hid (qrx cJ.out hc)
    have HF:=hid (qja qbj oZ.out HE.out hc);clear cJ HE;generalize qbj x=ck at *;have lV:((ck:Int)==0)=false:=qam (by omega);have eX:=hid hc;clear hc;go_wp2_with fail;refine fC.out.mono ?_;rintro e w1 ⟨rfl,hb⟩;have aP:=hid (HB.out.trans ((cX.out.trans (hb.mono cX.out.size)).mono HB.out.size));clear hb HB fC a0 a1 a2 eY bO bG;go_wp2_with fail;go_ret2;exact qo4 HF.out eX.out rfl aP.out
  ·obtain rfl:k=l.length:=by omega
   have hE:=HE.out;have hN:=HN.out;rw[List.take_length] at hE hN;have HE':=hid hE;have HN':=hid hN;clear hE hN HE HN;go_wp2_with fail;go_ret2;exact qmx HE'.out (by rw[List.length_map]) (qac _) rfl HN'.out HB.out
end Go.Proofs.YtlkdlffhmakbgaaGreatDoor
