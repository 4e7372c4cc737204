/- The reference's Check of a text. -/
import Derived.Test.YtclimablgihlhaaGreatDoorMRefE
import Derived.Test.YtclimablgihlhaaGreatDoorMRefC
import Derived.Test.YtclimablgihlhaaGreatDoorMNumWalk
import Derived.Test.YtclimablgihlhaaGreatDoorMRules
import Derived.Test.YtclimablgihlhaaGreatDoorMRounded
set_option linter.all false
namespace Go.Proofs.YtclimablgihlhaaGreatDoor
open Go.RowKit
set_option maxRecDepth 100000
set_option maxHeartbeats 16000000
theorem q9m{w:World}{p:Option Addr}{k c g:Nat}(h:DN w (.slice p k c) g):(g=1∧k=1∧∃b o,p=some ⟨b,o,none⟩∧w.cell? ⟨b,o,none⟩=some (.int .i64 1))∨(g≠1∧((¬k=1)∨(k=1∧∃b o d,p=some ⟨b,o,none⟩∧w.cell? ⟨b,o,none⟩=some (.int .i64 ((d:Nat):Int))∧d≠1))):=by
 obtain⟨p',k',c',he,hk⟩:=qf1 h;cases he
 by_cases h1:k=1
 ·have qV:dl g=1:=by rw[←hk];exact h1
  obtain⟨h0,h9⟩:=qld qV;have qU:qaf D9 g=[g]:=qdh h0 (by rw[qbo];exact h9);obtain⟨_,p',c',he,_,_,hc⟩:=h;rw[qU] at he hc;cases he
  rcases hc with h0'|⟨b,o,u1,u2⟩
  ·cases h0'
  ·have aC:w.cell? ⟨b,o,none⟩=some (.int .i64 ((g:Nat):Int)):=by have:=u2 0 (by simp);unfold dv at this;simpa using this
   by_cases hg:g=1
   ·subst hg
    exact .inl ⟨rfl,rfl,b,o,u1,aC⟩
   ·exact .inr ⟨hg,.inr ⟨rfl,b,o,g,u1,aC,hg⟩⟩
 ·refine .inr ⟨fun hg=>h1 ?_,.inl h1⟩
  rw[hk,hg];unfold dl;rw[qdh (by omega) (by decide)];rfl
theorem DN.dnLater{w w':World}{v:Value}{n:Nat}(h:DN w v n)(hb:Below w.heap.size w w'):DN w' v n:=h.later hb
theorem qtm{l:List UInt8}(h:qbd l=true):∀c ∈ l,isD c=true:=((qep l).1 (qd8 h)).2
theorem qw2(l:List UInt8)(h:∀c ∈ l,isD c=true):qaz 0 l<10^l.length:=qfn l h
theorem qvk(s:BA)(w:World)(h:s.size=0):Calls Tryz.prog 79 #[.string s] w fun e w'=>e = .returned (.int .i64 1)∧Below w.heap.size w w':=by
 have hl:s.data.toList=[]:=by
  have h2:s.data.toList.length=s.size:=by simp
  exact List.eq_nil_of_length_eq_zero (by omega)
 have he:s=⟨#[]⟩:=qb7 (by rw[hl]);subst he;have bH:Hid (∀W,Calls Tryz.prog 125 #[.string ⟨#[]⟩] W fun e w'=>e = .returned (.int .i64 0)∧w'=W):=hid fun W=>qqf ⟨#[]⟩ W (by decide);have gR:Hid (∀W,Calls Tryz.prog 126 #[.string ⟨#[]⟩] W fun e w'=>e = .returned (.bool false)∧w'=W):=hid fun W=>qi2 ⟨#[]⟩ W (by decide);have hsa:∀W:World,(Instr.slice 9 (.string ⟨#[]⟩) none (some (.int .i64 0)) none).run Tryz.prog W = .ok (.string ⟨#[]⟩) W:=fun W=>run_slice_string_h W 9 ⟨#[]⟩ Tryz.underlying9 .i64 0 (by decide) (by decide);clear h hl;go_enter Tryz.func79,Tryz.ntmps79;go_wp2_with fail;refine(bH.out _).mono ?_;rintro e w1 ⟨rfl,rfl⟩;go_wp2_with fail;refine(gR.out _).mono ?_;rintro e w1 ⟨rfl,rfl⟩;go_wp2_with fail;go_ret;exact⟨rfl,zan _ _⟩
theorem qqk(s t:BA)(neg F:Bool)(K:Nat)(ta tb:BA)(w:World)(hK:K=sl t.data.toList)(hta:ta=t.extract 0 K)(Bp:tb=t.extract (K+1) t.size)(h:qic s t neg ta.toList tb.toList F)(dM:s.size≤5000)(gF:0<s.size):
  Calls Tryz.prog 79 #[.string s] w fun e w'=>e = .returned (.int .i64 (qaa s.data.toList:Nat))∧Below w.heap.size w w':=by
 have rQ:t.data.toList.length=t.size:=by simp
 have dF:=q4w t.data.toList;have Ls:=h.found;have kD:=h.top;have Fi:=h.bot;rw[rQ,←hK] at dF Ls;rw[←hK] at kD Fi;have Ly:=h.whole
 have kO:t.size≤s.size:=by
  have h1:=congrArg List.length Ly;have h2:s.data.toList.length=s.size:=by simp
  rw[h2,List.length_append,rQ] at h1;omega
 have lL:Hid (neg=false→s=t∧∃ch:Int,(∀h':0<s.size,((s[0]'h').toNat:Int)=ch)∧(ch==45)=false):=hid fun hn=>by
  subst hn;refine⟨qb7 (by rw[Ly];rfl),((s[0]'gF).toNat:Int),fun _=>rfl,zat fun e => ?_⟩;have h1:=h.plus rfl;have h3:s.data.toList[0]'(by simpa using gF)=s[0]'gF:=qdm s 0 gF;have h4:s[0]'gF=45:=UInt8.toNat_inj.1 (by show(s[0]'gF).toNat=45;omega);rw[h4] at h3;cases hl:s.data.toList with
  | nil=>
   have h9:s.data.toList.length=s.size:=by simp
   rw[hl] at h9;simp only[List.length_nil] at h9;omega
  | cons x y=>
   rw[hl] at h1;simp only[hl,List.getElem_cons_zero] at h3;rw[h3] at h1;cases h1
 have gG:Hid (neg=true→(∀h':0<s.size,((s[0]'h').toNat:Int)=45)∧∀W:World,(Instr.slice 9 (.string s) (some (.int .i64 1)) none none).run Tryz.prog W = .ok (.string t) W):=hid fun hn=>by
  subst hn;refine⟨fun h' => ?_,fun W => ?_⟩
  ·have h1:s.data.toList[0]'(by simpa using h')=s[0]'h':=qdm s 0 h'
   rw[←h1];simp only[Ly];rfl
  ·have h1:=run_slice_string_l W 9 s Tryz.underlying9 .i64 1 (by omega) (by omega)
   have h2:s.extract 1 s.size=t:=qb7 (by
    rw[Lib.extract_data,List.take_of_length_le (by simp),Ly];rfl)
   rw[show(1:Int).toNat=1 from rfl,h2] at h1;exact h1
 have bH:Hid (∀W,Calls Tryz.prog 125 #[.string t] W fun e w'=>e = .returned (.int .i64 (K:Nat))∧w'=W):=hid fun W=>by rw[hK];exact qqf t W (by omega)
 have Tw:ta.toList.length=K:=by rw[←kD,List.length_take,rQ];omega
 have hsa:∀W:World,(Instr.slice 9 (.string t) none (some (.int .i64 (K:Int))) none).run Tryz.prog W = .ok (.string ta) W:=fun W=>by rw[hta];exact run_slice_string_h W 9 t Tryz.underlying9 .i64 (K:Int) (by omega) (by omega)
 have gR:Hid (∀W,Calls Tryz.prog 126 #[.string ta] W fun e w'=>e = .returned (.bool (qbd ta.toList))∧w'=W):=hid fun W=>by
  rw[ByteArray.toList_eq];exact qi2 ta W (by rw[hta,ByteArray.size_extract];omega)
 have hKi:(K:Int)≤(t.size:Int):=by omega
 have hKb:(K:Int)≤5000:=by omega
 have dI:IntKind.i64.wrap ((t.size:Int)-(K:Int))=(t.size:Int)-(K:Int):=by rw[IntKind.wrap_i64];omega
 have mI:IntKind.i64.wrap ((t.size:Int)-(K:Int)-1)=(t.size:Int)-(K:Int)-1:=by rw[IntKind.wrap_i64];omega
 have hK0:(0:Int)≤(K:Int)+1:=by omega
 have hKw:IntKind.i64.wrap ((K:Int)+1)=(K:Int)+1:=by rw[IntKind.wrap_i64];omega
 have hKt:((K:Int)+1).toNat=K+1:=by omega
 have HFN:Hid (F=false→¬K<t.size∧¬(600:Int)<(t.size:Int)-(K:Int)-1):=hid fun e=>by
  subst e;have:=of_decide_eq_false Ls;exact⟨this,by omega⟩
 have HFT:Hid (F=true→K<t.size∧K+1≤t.size∧(K:Int)+1≤(t.size:Int)):=hid fun e=>by
  subst e;have:=of_decide_eq_true Ls;exact⟨this,this,by omega⟩
 have jE:Hid (K<t.size→(600<tb.toList.length↔(600:Int)<(t.size:Int)-(K:Int)-1)):=hid fun _=>by
  have:tb.toList.length=t.size-K-1:=by rw[←Fi,List.length_drop,rQ];omega
  omega
 have cQ:Hid (K<t.size→∀W:World,(Instr.slice 9 (.string t) (some (.int .i64 ((K:Int)+1))) none none).run Tryz.prog W = .ok (.string tb) W):=hid fun bI W=>by
  have h:=run_slice_string_l W 9 t Tryz.underlying9 .i64 ((K:Int)+1) (by omega) (by omega);rw[hKt,←Bp] at h;exact h
 have gH:Hid (∀W,Calls Tryz.prog 126 #[.string tb] W fun e w'=>e = .returned (.bool (qbd tb.toList))∧w'=W):=hid fun W=>by
  rw[ByteArray.toList_eq];exact qi2 tb W (by rw[Bp,ByteArray.size_extract];omega)
 have Dg:Hid (qbd ta.toList=true→qbd tb.toList=true→tb.toList≠[49]→K<t.size→∀W,Calls Tryz.prog 127 #[.string t] W fun e w'=>(∃n1 p1 k1 c1 n2 p2 k2 c2,e = .returned (.tuple #[.agg #[.bool n1,.slice p1 k1 c1],.agg #[.bool n2,.slice p2 k2 c2]])∧DN w' (.slice p1 k1 c1) (qaz 0 ta.toList)∧DN w' (.slice p2 k2 c2) (qaz 0 tb.toList))∧Below W.heap.size W w'):=hid fun rW rF bB bI W=>by
  refine(q1g t (qaz 0 ta.toList:Nat) (qaz 0 tb.toList) W ?_ (by omega)).mono fun _ _ ⟨⟨v1,v2,he,h1,h2⟩,hb⟩ => ?_
  ·have e1:=qe3 rF
   have e2:sl t.data.toList<t.data.toList.length:=by rw[rQ,←hK];exact bI
   rw[qbs,qe3 rW,e1,if_neg (fun e=>bB (by rw[←e1,e,qlj]))];have e3:=qw1 e2;rw[←hK,kD,Fi] at e3;exact e3
  ·obtain⟨p1,k1,c1,rfl,_,h3⟩:=h1.parts
   obtain⟨p2,k2,c2,rfl,_,h4⟩:=h2.parts;rw[Int.natAbs_natCast] at h3 h4;exact⟨⟨_,_,_,_,_,_,_,_,he,h3,h4⟩,hb⟩
 have iA:Hid (qbd ta.toList=true→qbd tb.toList=true→ta.toList.length≤600→tb.toList.length≤600→∀W va vb,DN W va (qaz 0 ta.toList)→DN W vb (qaz 0 tb.toList)→Calls Tryz.prog 128 #[va,vb] W fun e w'=>(∃p k c,e = .returned (.slice p k c)∧DN w' (.slice p k c) (Nat.gcd (qaz 0 ta.toList) (qaz 0 tb.toList)))∧Below W.heap.size W w'):=hid fun rW rF hl hl9 W va vb h1 h2=>by
  have hbA:=Nat.lt_of_lt_of_le (qw2 _ (qtm rW)) (Nat.pow_le_pow_right (n:=10) (by decide) hl);have Ah:=Nat.lt_of_lt_of_le (qw2 _ (qtm rF)) (Nat.pow_le_pow_right (n:=10) (by decide) hl9);refine(qve va vb _ _ W h1 h2 (qdq hbA (by decide)) (qdq Ah (by decide))).mono fun _ _ ⟨⟨v,he,h3⟩,hb⟩ => ?_;obtain⟨p,k,c,rfl,_⟩:=qf1 h3;exact⟨⟨p,k,c,he,h3⟩,hb⟩
 have rI:=hid h.lowest;have gN:=hid h.check;have kP:=hid Tw;obtain⟨F',hF'⟩:∃F',F'=F:=⟨_,rfl⟩;have Sh:=hid hF';have aX:=hid (zan w.heap.size w);clear h rQ dF Ls kD Fi Ly hK hta Bp Tw hF' kO;cases neg
 all_goals
  first
   | obtain⟨rfl,ch,vS,nS⟩:=lL.out rfl
   | obtain⟨vS,iD⟩:=gG.out rfl
  clear lL gG;go_enter Tryz.func79,Tryz.ntmps79;go_wp2_with fail;refine(bH.out _).mono ?_;rintro e w1 ⟨rfl,rfl⟩;go_wp2_with fail;refine(gR.out _).mono ?_;rintro e w1 ⟨rfl,rfl⟩;clear bH gR;cases rW:qbd ta.toList<;>cases hz:(ta.toList==[48])
 all_goals try(
  refine qdz (P:=qaa s.data.toList=1) ?_ ?_
  ·(rw[gN.out];simp[rW,hz])
  intro hk;have HK:=hid hk;clear hk;go_wp2_with fail;go_ret
  exact⟨qa0 (by rw[HK.out];rfl),aX.out⟩)
 all_goals cases F
 all_goals try obtain⟨hf,mL⟩:=HFN.out rfl
 all_goals try(
  obtain⟨hf,hKn,hKi2⟩:=HFT.out rfl;have hsb:=cQ.out hf;go_wp2_with fail;refine(gH.out _).mono ?_;rintro e w1 ⟨rfl,rfl⟩;clear gH
  cases rF:qbd tb.toList<;>cases dL:(tb.toList==[48])<;>cases bB:(tb.toList==[49]))
 all_goals try(
  refine qdz (P:=qaa s.data.toList=1) ?_ ?_
  ·(rw[gN.out];simp[rW,hz,rF,dL,bB])
  intro hk;have HK:=hid hk;clear hk;go_wp2_with fail;go_ret
  exact⟨qa0 (by rw[HK.out];rfl),aX.out⟩)
 all_goals by_cases dJ:600<K
 all_goals try(
  refine qdz (P:=qaa s.data.toList=4) ?_ ?_
  ·(rw[gN.out];simp[rW,hz,kP.out,dJ])
  intro hk;have HK:=hid hk;clear hk;go_wp2_with fail;go_ret
  exact⟨qa0 (by rw[HK.out];rfl),aX.out⟩)
 all_goals try(
  refine qdz (P:=qaa s.data.toList=4) ?_ ?_
  ·(rw[gN.out];simp[rW,hz,rF,dL,bB,kP.out,dJ])
  intro hk;have HK:=hid hk;clear hk;go_wp2_with fail;go_ret
  exact⟨qa0 (by rw[HK.out];rfl),aX.out⟩)
 all_goals try(
  refine qdz (P:=qaa s.data.toList=0) ?_ ?_
  ·(rw[gN.out,(rI.out rW (by first|trivial|exact fun _=>beq_eq_false_iff_ne.1 hz|(intro e;cases e)) (by first|trivial|(intro e;cases e)) (by have:=kP.out;omega) (by first|trivial|(intro e;cases e))).2 (by first|trivial|(intro e;cases e))];simp[rW,hz,kP.out,dJ])
  intro hk;have HK:=hid hk;clear hk;go_wp2_with fail;go_ret
  exact⟨qa0 (by rw[HK.out];rfl),aX.out⟩)
 all_goals by_cases dG:600<tb.toList.length
 all_goals first
  | have mL:=(jE.out hf).1 dG
  | have mL:=mt (jE.out hf).2 dG
 all_goals try(
  refine qdz (P:=qaa s.data.toList=4) ?_ ?_
  ·(rw[gN.out];simp[rW,hz,rF,dL,bB,kP.out,dJ,dG])
  intro hk;have HK:=hid hk;clear hk;go_wp2_with fail;go_ret
  exact⟨qa0 (by rw[HK.out];rfl),aX.out⟩)
 all_goals
  have sV:=hid (Dg.out rW rF (beq_eq_false_iff_ne.1 bB) hf);have Tx:=hid (iA.out rW rF (by have:=kP.out;omega) (by omega));have HL:=hid (rI.out rW (by first|trivial|exact fun _=>beq_eq_false_iff_ne.1 hz|(intro e;cases e)) (fun _=>⟨rF,beq_eq_false_iff_ne.1 dL,beq_eq_false_iff_ne.1 bB⟩) (by have:=kP.out;omega) (fun _=>by omega));have yO:Hid (qaa s.data.toList=if qk7 s.data.toList=s.data.toList then 0 else 1):=hid (by rw[gN.out];simp[rW,hz,rF,dL,bB,kP.out,dJ,dG]);clear Dg iA rI gN;generalize Nat.gcd (qaz 0 ta.toList) (qaz 0 tb.toList)=G at *;generalize qaz 0 ta.toList=NA at *;generalize qaz 0 tb.toList=NB at *;go_wp2_with fail;refine(sV.out _).mono ?_;rintro e w1 ⟨⟨n1,p1,k1,c1,n2,p2,k2,c2,rfl,h1,h2⟩,hb⟩;have cX:=hid (qd1 w1 n1 n2 (.slice p1 k1 c1) (.slice p2 k2 c2));have Hx:=qax cX.out;have lU:=hid (h1.dnLater cX.out.1);have kH:=hid (h2.dnLater cX.out.1);have aQ:=hid (hb.trans (cX.out.1.mono hb.size));clear h1 h2 hb sV aX;go_wp2_with fail;clear Hx;refine(Tx.out _ _ _ lU.out kH.out).mono ?_;rintro e w3 ⟨⟨p3,k3,c3,rfl,hg⟩,hb⟩;have bY:=hid (aQ.out.trans (hb.mono aQ.out.size));have vW:=q9m hg;clear hb hg Tx lU kH aQ cX;rcases vW with⟨lR,rfl,b,o,rfl,aC⟩|⟨lR,hk|⟨rfl,b,o,d,rfl,aC,hd⟩⟩
  ·have HK:Hid (qaa s.data.toList=0):=hid (by rw[yO.out,if_pos (HL.out.2 fun _=>lR)])
   have g1:(((1:Nat):Int)==1)=true:=rfl;clear lR HL yO;go_wp2_with fail;go_ret;exact⟨qa0 (by rw[HK.out];rfl),bY.out⟩
  ·have HK:Hid (qaa s.data.toList=1):=hid (by rw[yO.out,if_neg fun e=>lR (HL.out.1 e (by first|trivial|rfl))])
   have g1:((k3:Int)==1)=false:=zat (by omega);clear lR HL yO;go_wp2_with fail;go_ret;exact⟨qa0 (by rw[HK.out];rfl),bY.out⟩
  ·have HK:Hid (qaa s.data.toList=1):=hid (by rw[yO.out,if_neg fun e=>lR (HL.out.1 e (by first|trivial|rfl))])
   have g1:(((1:Nat):Int)==1)=true:=rfl;have g2:((d:Int)==1)=false:=zat (by omega);clear lR HL yO;go_wp2_with fail;go_ret;exact⟨qa0 (by rw[HK.out];rfl),bY.out⟩
theorem q1z(s t:BA)(neg:Bool)(h1:s.data.toList=(if neg then[45] else[])++t.data.toList)(h2:neg=false→Lib.hasPrefix s.data.toList [45]=false):
  qic s t neg (t.extract 0 (sl t.data.toList)).toList (t.extract (sl t.data.toList+1) t.size).toList (decide (sl t.data.toList<t.data.toList.length)):=
 ⟨h1,h2,by rw[ByteArray.toList_eq,Lib.extract_from_zero],by rw[ByteArray.toList_eq,Lib.extract_data,List.take_of_length_le (by simp)],rfl⟩
theorem q9n(s:BA)(w:World)(dM:s.size≤5000):Calls Tryz.prog 79 #[.string s] w fun e w'=>e = .returned (.int .i64 (qaa s.data.toList:Nat))∧Below w.heap.size w w':=by
 by_cases h0:s.size=0
 ·have hl:s.data.toList=[]:=by
   have h2:s.data.toList.length=s.size:=by simp
   exact List.eq_nil_of_length_eq_zero (by omega)
  have hr:qaa s.data.toList=1:=by rw[hl];rfl
  rw[hr];exact qvk s w h0
 ·by_cases hp:Lib.hasPrefix s.data.toList [45]=true
  ·obtain⟨l,hl⟩:∃l,s.data.toList=[45]++l:=by
    cases hq:s.data.toList with
    | nil=>rw[hq] at hp;cases hp
    | cons x y=>
     rw[hq] at hp;unfold Lib.hasPrefix at hp;simp[List.isPrefixOf] at hp;exact⟨y,by rw[←hp];rfl⟩
   exact qqk s ⟨l.toArray⟩ true _ _ _ _ w rfl rfl rfl (q1z s _ true (by simpa using hl) (by intro e;cases e)) dM (by omega)
  ·exact qqk s s false _ _ _ _ w rfl rfl rfl (q1z s s false (by simp) (fun _=>by simpa using hp)) dM (by omega)
theorem qh7(z:Int):(rt (z:Rat)).data.toList=qa1 z:=by
 rw[q6o]
theorem q9o(q:Rat)(w:World)(hs:(rt q).size≤5000):
  Calls Tryz.prog 176 #[.string (rt q)] w fun e w'=>e = .returned (.string (rt (q.num:Rat)))∧w'=w:=by
 have bH:=hid (fun W=>qqf (rt q) W (by omega));have dF:=q4w (rt q).data.toList;have rQ:(rt q).data.toList.length=(rt q).size:=by simp
 rw[rQ] at dF
 have hx:(rt q).extract 0 (sl (rt q).data.toList)=rt (q.num:Rat):=by
  refine qb7 ?_;rw[qh7];obtain⟨h1,h2⟩:=qjo (rt q) q.num q.den (by rw[qdv,qee]);by_cases hd:q.den=1
  ·rw[Lib.extract_from_zero,(h1 hd).1,List.take_of_length_le (by simp),(h1 hd).2]
  ·exact(h2 hd).2.1
 generalize sl (rt q).data.toList=K at *;have hsa:∀W:World,(Instr.slice 26 (.string (rt q)) none (some (.int .i64 (K:Int))) none).run Tryz.prog W = .ok (.string (rt (q.num:Rat))) W:=fun W=>by rw[←hx];exact run_slice_string_h W 26 (rt q) Tryz.underlying26 .i64 (K:Int) (by omega) (by omega)
 clear hx rQ dF;generalize rt (q.num:Rat)=tn at *;generalize rt q=tq at *;go_enter Tryz.func176,Tryz.ntmps176;go_wp2_with fail;refine(bH.out _).mono ?_;rintro e w1 ⟨rfl,rfl⟩;go_wp2_with fail;go_ret;exact⟨rfl,rfl⟩
theorem q9p(q:Rat)(w:World)(hs:(rt q).size≤5000):
  Calls Tryz.prog 177 #[.string (rt q)] w fun e w'=>e = .returned (.string (rt ((q.den:Int):Rat)))∧w'=w:=by
 have bH:=hid (fun W=>qqf (rt q) W (by omega));obtain⟨h1,h2⟩:=qjo (rt q) q.num q.den (by rw[qdv,qee]);generalize hK:sl (rt q).data.toList=K at *;clear hK;by_cases hd:q.den=1
 ·obtain⟨h3,_⟩:=h1 hd
  have hb:((K:Int)==((rt q).size:Int))=true:=beq_iff_eq.2 (by omega);have HE:Hid ((⟨#[49]⟩:BA)=rt ((q.den:Int):Rat)):=hid (qb7 (by rw[qh7,hd,qbs,qlj]));clear h1 h2 hd h3;generalize rt ((q.den:Int):Rat)=td at *;generalize rt q=tq at *;go_enter Tryz.func177,Tryz.ntmps177;go_wp2_with fail;refine(bH.out _).mono ?_;rintro e w1 ⟨rfl,rfl⟩;go_wp2_with fail;go_ret;exact⟨congrArg (fun x=>Ending.returned (Value.string x)) HE.out,rfl⟩
 ·obtain⟨h3,_,h4⟩:=h2 hd
  have hb:((K:Int)==((rt q).size:Int))=false:=zat (by omega);have HE:(rt q).extract (K+1) (rt q).size=rt ((q.den:Int):Rat):=qb7 (by rw[qh7];exact h4);have hKi2:(K:Int)+1≤((rt q).size:Int):=by omega
  have hK0:(0:Int)≤(K:Int)+1:=by omega
  have hKw:IntKind.i64.wrap ((K:Int)+1)=(K:Int)+1:=by rw[IntKind.wrap_i64];omega
  have hKt:((K:Int)+1).toNat=K+1:=by omega
  have hsb:∀W:World,(Instr.slice 26 (.string (rt q)) (some (.int .i64 ((K:Int)+1))) none none).run Tryz.prog W = .ok (.string (rt ((q.den:Int):Rat))) W:=fun W=>by
   have h:=run_slice_string_l W 26 (rt q) Tryz.underlying26 .i64 ((K:Int)+1) (by omega) (by omega);rw[hKt,HE] at h;exact h
  clear h1 h2 hd h4 HE;generalize rt ((q.den:Int):Rat)=td at *;generalize rt q=tq at *;go_enter Tryz.func177,Tryz.ntmps177;go_wp2_with fail;refine(bH.out _).mono ?_;rintro e w1 ⟨rfl,rfl⟩;go_wp2_with fail;go_ret;exact⟨rfl,rfl⟩
theorem q7v(z:Int):q95 (z:Rat)=((z.natAbs:Int):Rat):=by
 unfold q95;have h:((z:Rat)).num=z:=rfl;rw[h];by_cases hz:z<0
 ·rw[if_pos hz,show(z.natAbs:Int) = -z by omega]
  exact(Rat.intCast_neg z).symm
 ·rw[if_neg hz,show(z.natAbs:Int)=z by omega]
theorem qo1(n:Nat):(rt ((n:Int):Rat)).size=(qaw n).length:=by
 have h1:=congrArg List.length (qh7 (n:Int));have h2:(rt ((n:Int):Rat)).data.toList.length=(rt ((n:Int):Rat)).size:=by simp
 rw[h2,qbs] at h1;exact h1
def qi4(q:Rat):Nat:=if qa3 q 600 then 0 else 4
theorem q40(q:Rat):qa3 q 600=(decide ((qaw q.num.natAbs).length≤600)&&decide ((qaw q.den).length≤600)):=by
 unfold qa3;by_cases h:q.den=1
 ·rw[zas h,h,qlj];rfl
 ·rw[zar h];rfl
theorem q41(q:Rat)(w:World)(hs:(rt q).size≤5000):
  Calls Tryz.prog 129 #[.string (rt q)] w fun e w'=>e = .returned (.int .i64 (qi4 q:Nat))∧w'=w:=by
 have HN:=hid (fun W=>q9o q W hs);have HD:=hid (fun W=>q9p q W hs)
 have HA:Hid (∀W:World,Calls Tryz.prog 175 #[.string (rt (q.num:Rat))] W fun e w'=>e = .returned (.string (rt ((q.num.natAbs:Int):Rat)))∧w'=W):=hid fun W=>by
  have h:=q9h (q.num:Rat) W;rw[q7v] at h;exact h
 have h1:=qo1 q.num.natAbs;have h2:=qo1 q.den;have hF:=q40 q;generalize rt ((q.num.natAbs:Int):Rat)=ta at *;generalize rt ((q.den:Int):Rat)=td at *;generalize rt (q.num:Rat)=tn at *;generalize rt q=tq at *;by_cases ha:ta.size≤600
 ·have g1:¬600<ta.size:=by omega
  by_cases hd:td.size≤600
  ·have g2:¬600<td.size:=by omega
   have HR:Hid (qi4 q=0):=hid (by unfold qi4;rw[hF,zas (by omega),zas (by omega)];rfl);clear h1 h2 hF ha hd;go_enter Tryz.func129,Tryz.ntmps129;go_wp2_with fail;refine(HN.out _).mono ?_;rintro e w1 ⟨rfl,rfl⟩;go_wp2_with fail;refine(HA.out _).mono ?_;rintro e w1 ⟨rfl,rfl⟩;go_wp2_with fail;refine(HD.out _).mono ?_;rintro e w1 ⟨rfl,rfl⟩;go_wp2_with fail;go_ret;exact⟨qa0 (by rw[HR.out];rfl),rfl⟩
  ·have g2:600<td.size:=by omega
   have HR:Hid (qi4 q=4):=hid (by unfold qi4;rw[hF,zas (by omega),zar (by omega)];rfl);clear h1 h2 hF ha hd;go_enter Tryz.func129,Tryz.ntmps129;go_wp2_with fail;refine(HN.out _).mono ?_;rintro e w1 ⟨rfl,rfl⟩;go_wp2_with fail;refine(HA.out _).mono ?_;rintro e w1 ⟨rfl,rfl⟩;go_wp2_with fail;refine(HD.out _).mono ?_;rintro e w1 ⟨rfl,rfl⟩;go_wp2_with fail;go_ret;exact⟨qa0 (by rw[HR.out];rfl),rfl⟩
 ·have g1:600<ta.size:=by omega
  have HR:Hid (qi4 q=4):=hid (by unfold qi4;rw[hF,zar (by omega)];rfl);clear h1 h2 hF ha;go_enter Tryz.func129,Tryz.ntmps129;go_wp2_with fail;refine(HN.out _).mono ?_;rintro e w1 ⟨rfl,rfl⟩;go_wp2_with fail;refine(HA.out _).mono ?_;rintro e w1 ⟨rfl,rfl⟩;go_wp2_with fail;go_ret;exact⟨qa0 (by rw[HR.out];rfl),rfl⟩
def qg3(W:World)(v:Value)(l:List BA):Prop:=∃b o c,v = .slice (some ⟨b,o,none⟩) l.length c∧l.length≤c∧c≤maxLen∧∀j s,l[j]? = some s→W.cell? ⟨b,o+j,none⟩=some (.string s)
theorem qg3.later{W W':World}{v:Value}{l:List BA}(h:qg3 W v l)(hb:Below W.heap.size W W'):qg3 W' v l:=by
 obtain⟨b,o,c,h1,h2,h3,h4⟩:=h;refine⟨b,o,c,h1,h2,h3,fun j s hj => ?_⟩;rw[hb.cell (zaq W _ (h4 j s hj))];exact h4 j s hj
end Go.Proofs.YtclimablgihlhaaGreatDoor
