/- The reference's Check of a text. -/
import Derived.Test.YtlkdlffhmakbgaaGreatDoorMRefE
import Derived.Test.YtlkdlffhmakbgaaGreatDoorMRefC
import Derived.Test.YtlkdlffhmakbgaaGreatDoorMNumWalk
import Derived.Test.YtlkdlffhmakbgaaGreatDoorMRules
import Derived.Test.YtlkdlffhmakbgaaGreatDoorMRounded
set_option linter.all false
namespace Go.Proofs.YtlkdlffhmakbgaaGreatDoor
open Go.RowKit
set_option maxRecDepth 100000
set_option maxHeartbeats 16000000
theorem q95{w:World}{p:Option Addr}{k c g:Nat}(h:DN w (.slice p k c) g):(g=1∧k=1∧∃b o,p=some ⟨b,o,none⟩∧w.cell? ⟨b,o,none⟩=some (.int .i64 1))∨(g≠1∧((¬k=1)∨(k=1∧∃b o d,p=some ⟨b,o,none⟩∧w.cell? ⟨b,o,none⟩=some (.int .i64 ((d:Nat):Int))∧d≠1))):=by
 obtain⟨p',k',c',he,hk⟩:=qf6 h;cases he
 by_cases h1:k=1
 ·have xO:dl g=1:=by rw[←hk];exact h1
  obtain⟨h0,h9⟩:=qls xO;have qN:qan D9 g=[g]:=qds h0 (by rw[qb2];exact h9);obtain⟨_,p',c',he,_,_,hc⟩:=h;rw[qN] at he hc;cases he
  rcases hc with h0'|⟨b,o,u1,u2⟩
  ·cases h0'
  ·have aC:w.cell? ⟨b,o,none⟩=some (.int .i64 ((g:Nat):Int)):=by have:=u2 0 (by simp);unfold dv at this;simpa using this
   by_cases hg:g=1
   ·subst hg
    exact .inl ⟨rfl,rfl,b,o,u1,aC⟩
   ·exact .inr ⟨hg,.inr ⟨rfl,b,o,g,u1,aC,hg⟩⟩
 ·refine .inr ⟨fun hg=>h1 ?_,.inl h1⟩
  rw[hk,hg];unfold dl;rw[qds (by omega) (by decide)];rfl
theorem DN.dnLater{w w':World}{v:Value}{n:Nat}(h:DN w v n)(hb:Below w.heap.size w w'):DN w' v n:=h.later hb
theorem qt7{l:List UInt8}(h:qbs l=true):∀c ∈ l,isD c=true:=((qef l).1 (qej h)).2
theorem qxs(l:List UInt8)(h:∀c ∈ l,isD c=true):qbd 0 l<10^l.length:=qft l h
theorem qwa(s:BA)(w:World)(h:s.size=0):Calls Tryz.prog 27 #[.string s] w fun e w'=>e = .returned (.int .i64 1)∧Below w.heap.size w w':=by
 have hl:s.data.toList=[]:=by
  have h2:s.data.toList.length=s.size:=by simp
  exact List.eq_nil_of_length_eq_zero (by omega)
 have he:s=⟨#[]⟩:=qca (by rw[hl]);subst he;have aT:Hid (∀W,Calls Tryz.prog 68 #[.string ⟨#[]⟩] W fun e w'=>e = .returned (.int .i64 0)∧w'=W):=hid fun W=>qqu ⟨#[]⟩ W (by decide);have gF:Hid (∀W,Calls Tryz.prog 69 #[.string ⟨#[]⟩] W fun e w'=>e = .returned (.bool false)∧w'=W):=hid fun W=>qjf ⟨#[]⟩ W (by decide);have hsa:∀W:World,(Instr.slice 9 (.string ⟨#[]⟩) none (some (.int .i64 0)) none).run Tryz.prog W = .ok (.string ⟨#[]⟩) W:=fun W=>run_slice_string_h W 9 ⟨#[]⟩ Tryz.underlying9 .i64 0 (by decide) (by decide);clear h hl;go_enter Tryz.func27,Tryz.ntmps27;go_wp2_with fail;refine(aT.out _).mono ?_;rintro e w1 ⟨rfl,rfl⟩;go_wp2_with fail;refine(gF.out _).mono ?_;rintro e w1 ⟨rfl,rfl⟩;go_wp2_with fail;go_ret;exact⟨rfl,qaa _ _⟩
theorem qq1(s t:BA)(neg F:Bool)(K:Nat)(ta tb:BA)(w:World)(hK:K=sl t.data.toList)(hta:ta=t.extract 0 K)(Jw:tb=t.extract (K+1) t.size)(h:qhl s t neg ta.toList tb.toList F)(dK:s.size≤5000)(iA:0<s.size):
  Calls Tryz.prog 27 #[.string s] w fun e w'=>e = .returned (.int .i64 (qah s.data.toList:Nat))∧Below w.heap.size w w':=by
 have rB:t.data.toList.length=t.size:=by simp
 have dY:=q5t t.data.toList;have Kc:=h.found;have jI:=h.top;have Dw:=h.bot;rw[rB,←hK] at dY Kc;rw[←hK] at jI Dw;have Rz:=h.whole
 have jT:t.size≤s.size:=by
  have h1:=congrArg List.length Rz;have h2:s.data.toList.length=s.size:=by simp
  rw[h2,List.length_append,rB] at h1;omega
 have lI:Hid (neg=false→s=t∧∃ch:Int,(∀h':0<s.size,((s[0]'h').toNat:Int)=ch)∧(ch==45)=false):=hid fun hn=>by
  subst hn;refine⟨qca (by rw[Rz];rfl),((s[0]'iA).toNat:Int),fun _=>rfl,qam fun e => ?_⟩;have h1:=h.plus rfl;have h3:s.data.toList[0]'(by simpa using iA)=s[0]'iA:=qdv s 0 iA;have h4:s[0]'iA=45:=UInt8.toNat_inj.1 (by show(s[0]'iA).toNat=45;omega);rw[h4] at h3;cases hl:s.data.toList with
  | nil=>
   have h9:s.data.toList.length=s.size:=by simp
   rw[hl] at h9;simp only[List.length_nil] at h9;omega
  | cons x y=>
   rw[hl] at h1;simp only[hl,List.getElem_cons_zero] at h3;rw[h3] at h1;cases h1
 have jV:Hid (neg=true→(∀h':0<s.size,((s[0]'h').toNat:Int)=45)∧∀W:World,(Instr.slice 9 (.string s) (some (.int .i64 1)) none none).run Tryz.prog W = .ok (.string t) W):=hid fun hn=>by
  subst hn;refine⟨fun h' => ?_,fun W => ?_⟩
  ·have h1:s.data.toList[0]'(by simpa using h')=s[0]'h':=qdv s 0 h'
   rw[←h1];simp only[Rz];rfl
  ·have h1:=run_slice_string_l W 9 s Tryz.underlying9 .i64 1 (by omega) (by omega)
   have h2:s.extract 1 s.size=t:=qca (by
    rw[Lib.extract_data,List.take_of_length_le (by simp),Rz];rfl)
   rw[show(1:Int).toNat=1 from rfl,h2] at h1;exact h1
 have aT:Hid (∀W,Calls Tryz.prog 68 #[.string t] W fun e w'=>e = .returned (.int .i64 (K:Nat))∧w'=W):=hid fun W=>by rw[hK];exact qqu t W (by omega)
 have Sa:ta.toList.length=K:=by rw[←jI,List.length_take,rB];omega
 have hsa:∀W:World,(Instr.slice 9 (.string t) none (some (.int .i64 (K:Int))) none).run Tryz.prog W = .ok (.string ta) W:=fun W=>by rw[hta];exact run_slice_string_h W 9 t Tryz.underlying9 .i64 (K:Int) (by omega) (by omega)
 have gF:Hid (∀W,Calls Tryz.prog 69 #[.string ta] W fun e w'=>e = .returned (.bool (qbs ta.toList))∧w'=W):=hid fun W=>by
  rw[ByteArray.toList_eq];exact qjf ta W (by rw[hta,ByteArray.size_extract];omega)
 have hKi:(K:Int)≤(t.size:Int):=by omega
 have hKb:(K:Int)≤5000:=by omega
 have cY:IntKind.i64.wrap ((t.size:Int)-(K:Int))=(t.size:Int)-(K:Int):=by rw[IntKind.wrap_i64];omega
 have mD:IntKind.i64.wrap ((t.size:Int)-(K:Int)-1)=(t.size:Int)-(K:Int)-1:=by rw[IntKind.wrap_i64];omega
 have hK0:(0:Int)≤(K:Int)+1:=by omega
 have hKw:IntKind.i64.wrap ((K:Int)+1)=(K:Int)+1:=by rw[IntKind.wrap_i64];omega
 have hKt:((K:Int)+1).toNat=K+1:=by omega
 have HFN:Hid (F=false→¬K<t.size∧¬(600:Int)<(t.size:Int)-(K:Int)-1):=hid fun e=>by
  subst e;have:=of_decide_eq_false Kc;exact⟨this,by omega⟩
 have HFT:Hid (F=true→K<t.size∧K+1≤t.size∧(K:Int)+1≤(t.size:Int)):=hid fun e=>by
  subst e;have:=of_decide_eq_true Kc;exact⟨this,this,by omega⟩
 have jE:Hid (K<t.size→(600<tb.toList.length↔(600:Int)<(t.size:Int)-(K:Int)-1)):=hid fun _=>by
  have:tb.toList.length=t.size-K-1:=by rw[←Dw,List.length_drop,rB];omega
  omega
 have cP:Hid (K<t.size→∀W:World,(Instr.slice 9 (.string t) (some (.int .i64 ((K:Int)+1))) none none).run Tryz.prog W = .ok (.string tb) W):=hid fun aY W=>by
  have h:=run_slice_string_l W 9 t Tryz.underlying9 .i64 ((K:Int)+1) (by omega) (by omega);rw[hKt,←Jw] at h;exact h
 have fV:Hid (∀W,Calls Tryz.prog 69 #[.string tb] W fun e w'=>e = .returned (.bool (qbs tb.toList))∧w'=W):=hid fun W=>by
  rw[ByteArray.toList_eq];exact qjf tb W (by rw[Jw,ByteArray.size_extract];omega)
 have Bq:Hid (qbs ta.toList=true→qbs tb.toList=true→tb.toList≠[49]→K<t.size→∀W,Calls Tryz.prog 70 #[.string t] W fun e w'=>(∃n1 p1 k1 c1 n2 p2 k2 c2,e = .returned (.tuple #[.agg #[.bool n1,.slice p1 k1 c1],.agg #[.bool n2,.slice p2 k2 c2]])∧DN w' (.slice p1 k1 c1) (qbd 0 ta.toList)∧DN w' (.slice p2 k2 c2) (qbd 0 tb.toList))∧Below W.heap.size W w'):=hid fun rG qQ aZ aY W=>by
  refine(q2q t (qbd 0 ta.toList:Nat) (qbd 0 tb.toList) W ?_ (by omega)).mono fun _ _ ⟨⟨v1,v2,he,h1,h2⟩,hb⟩ => ?_
  ·have e1:=qfa qQ
   have e2:sl t.data.toList<t.data.toList.length:=by rw[rB,←hK];exact aY
   rw[qb6,qfa rG,e1,if_neg (fun e=>aZ (by rw[←e1,e,qly]))];have e3:=qxr e2;rw[←hK,jI,Dw] at e3;exact e3
  ·obtain⟨p1,k1,c1,rfl,_,h3⟩:=h1.parts
   obtain⟨p2,k2,c2,rfl,_,h4⟩:=h2.parts;rw[Int.natAbs_natCast] at h3 h4;exact⟨⟨_,_,_,_,_,_,_,_,he,h3,h4⟩,hb⟩
 have oV:Hid (qbs ta.toList=true→qbs tb.toList=true→ta.toList.length≤600→tb.toList.length≤600→∀W va vb,DN W va (qbd 0 ta.toList)→DN W vb (qbd 0 tb.toList)→Calls Tryz.prog 71 #[va,vb] W fun e w'=>(∃p k c,e = .returned (.slice p k c)∧DN w' (.slice p k c) (Nat.gcd (qbd 0 ta.toList) (qbd 0 tb.toList)))∧Below W.heap.size W w'):=hid fun rG qQ hl hl9 W va vb h1 h2=>by
  have hbA:=Nat.lt_of_lt_of_le (qxs _ (qt7 rG)) (Nat.pow_le_pow_right (n:=10) (by decide) hl);have yT:=Nat.lt_of_lt_of_le (qxs _ (qt7 qQ)) (Nat.pow_le_pow_right (n:=10) (by decide) hl9);refine(qv2 va vb _ _ W h1 h2 (qd0 hbA (by decide)) (qd0 yT (by decide))).mono fun _ _ ⟨⟨v,he,h3⟩,hb⟩ => ?_;obtain⟨p,k,c,rfl,_⟩:=qf6 h3;exact⟨⟨p,k,c,he,h3⟩,hb⟩
 have qT:=hid h.lowest;have eX:=hid h.check;have lA:=hid Sa;obtain⟨F',hF'⟩:∃F',F'=F:=⟨_,rfl⟩;have Qa:=hid hF';have aW:=hid (qaa w.heap.size w);clear h rB dY Kc jI Dw Rz hK hta Jw Sa hF' jT;cases neg
 all_goals
  first
   | obtain⟨rfl,ch,pH,nI⟩:=lI.out rfl
   | obtain⟨pH,eS⟩:=jV.out rfl
  clear lI jV;go_enter Tryz.func27,Tryz.ntmps27;go_wp2_with fail;refine(aT.out _).mono ?_;rintro e w1 ⟨rfl,rfl⟩;go_wp2_with fail;refine(gF.out _).mono ?_;rintro e w1 ⟨rfl,rfl⟩;clear aT gF;cases rG:qbs ta.toList<;>cases hz:(ta.toList==[48])
 all_goals try(
  refine qea (P:=qah s.data.toList=1) ?_ ?_
  ·(rw[eX.out];simp[rG,hz])
  intro hk;have HK:=hid hk;clear hk;go_wp2_with fail;go_ret
  exact⟨qa1 (by rw[HK.out];rfl),aW.out⟩)
 all_goals cases F
 all_goals try obtain⟨hf,pN⟩:=HFN.out rfl
 all_goals try(
  obtain⟨hf,hKn,hKi2⟩:=HFT.out rfl;have hsb:=cP.out hf;go_wp2_with fail;refine(fV.out _).mono ?_;rintro e w1 ⟨rfl,rfl⟩;clear fV
  cases qQ:qbs tb.toList<;>cases dS:(tb.toList==[48])<;>cases aZ:(tb.toList==[49]))
 all_goals try(
  refine qea (P:=qah s.data.toList=1) ?_ ?_
  ·(rw[eX.out];simp[rG,hz,qQ,dS,aZ])
  intro hk;have HK:=hid hk;clear hk;go_wp2_with fail;go_ret
  exact⟨qa1 (by rw[HK.out];rfl),aW.out⟩)
 all_goals by_cases dF:600<K
 all_goals try(
  refine qea (P:=qah s.data.toList=4) ?_ ?_
  ·(rw[eX.out];simp[rG,hz,lA.out,dF])
  intro hk;have HK:=hid hk;clear hk;go_wp2_with fail;go_ret
  exact⟨qa1 (by rw[HK.out];rfl),aW.out⟩)
 all_goals try(
  refine qea (P:=qah s.data.toList=4) ?_ ?_
  ·(rw[eX.out];simp[rG,hz,qQ,dS,aZ,lA.out,dF])
  intro hk;have HK:=hid hk;clear hk;go_wp2_with fail;go_ret
  exact⟨qa1 (by rw[HK.out];rfl),aW.out⟩)
 all_goals try(
  refine qea (P:=qah s.data.toList=0) ?_ ?_
  ·(rw[eX.out,(qT.out rG (by first|trivial|exact fun _=>beq_eq_false_iff_ne.1 hz|(intro e;cases e)) (by first|trivial|(intro e;cases e)) (by have:=lA.out;omega) (by first|trivial|(intro e;cases e))).2 (by first|trivial|(intro e;cases e))];simp[rG,hz,lA.out,dF])
  intro hk;have HK:=hid hk;clear hk;go_wp2_with fail;go_ret
  exact⟨qa1 (by rw[HK.out];rfl),aW.out⟩)
 all_goals by_cases cS:600<tb.toList.length
 all_goals first
  | have pN:=(jE.out hf).1 cS
  | have pN:=mt (jE.out hf).2 cS
 all_goals try(
  refine qea (P:=qah s.data.toList=4) ?_ ?_
  ·(rw[eX.out];simp[rG,hz,qQ,dS,aZ,lA.out,dF,cS])
  intro hk;have HK:=hid hk;clear hk;go_wp2_with fail;go_ret
  exact⟨qa1 (by rw[HK.out];rfl),aW.out⟩)
 all_goals
  have sC:=hid (Bq.out rG qQ (beq_eq_false_iff_ne.1 aZ) hf);have Sd:=hid (oV.out rG qQ (by have:=lA.out;omega) (by omega));have HL:=hid (qT.out rG (by first|trivial|exact fun _=>beq_eq_false_iff_ne.1 hz|(intro e;cases e)) (fun _=>⟨qQ,beq_eq_false_iff_ne.1 dS,beq_eq_false_iff_ne.1 aZ⟩) (by have:=lA.out;omega) (fun _=>by omega));have xI:Hid (qah s.data.toList=if qlg s.data.toList=s.data.toList then 0 else 1):=hid (by rw[eX.out];simp[rG,hz,qQ,dS,aZ,lA.out,dF,cS]);clear Bq oV qT eX;generalize Nat.gcd (qbd 0 ta.toList) (qbd 0 tb.toList)=G at *;generalize qbd 0 ta.toList=NA at *;generalize qbd 0 tb.toList=NB at *;go_wp2_with fail;refine(sC.out _).mono ?_;rintro e w1 ⟨⟨n1,p1,k1,c1,n2,p2,k2,c2,rfl,h1,h2⟩,hb⟩;have dH:=hid (qec w1 n1 n2 (.slice p1 k1 c1) (.slice p2 k2 c2));have hcl:=qbb dH.out;have lR:=hid (h1.dnLater dH.out.1);have jL:=hid (h2.dnLater dH.out.1);have aP:=hid (hb.trans (dH.out.1.mono hb.size));clear h1 h2 hb sC aW;go_wp2_with fail;clear hcl;refine(Sd.out _ _ _ lR.out jL.out).mono ?_;rintro e w3 ⟨⟨p3,k3,c3,rfl,hg⟩,hb⟩;have bR:=hid (aP.out.trans (hb.mono aP.out.size));have pX:=q95 hg;clear hb hg Sd lR jL aP dH;rcases pX with⟨iR,rfl,b,o,rfl,aC⟩|⟨iR,hk|⟨rfl,b,o,d,rfl,aC,hd⟩⟩
  ·have HK:Hid (qah s.data.toList=0):=hid (by rw[xI.out,if_pos (HL.out.2 fun _=>iR)])
   have g1:(((1:Nat):Int)==1)=true:=rfl;clear iR HL xI;go_wp2_with fail;go_ret;exact⟨qa1 (by rw[HK.out];rfl),bR.out⟩
  ·have HK:Hid (qah s.data.toList=1):=hid (by rw[xI.out,if_neg fun e=>iR (HL.out.1 e (by first|trivial|rfl))])
   have g1:((k3:Int)==1)=false:=qam (by omega);clear iR HL xI;go_wp2_with fail;go_ret;exact⟨qa1 (by rw[HK.out];rfl),bR.out⟩
  ·have HK:Hid (qah s.data.toList=1):=hid (by rw[xI.out,if_neg fun e=>iR (HL.out.1 e (by first|trivial|rfl))])
   have g1:(((1:Nat):Int)==1)=true:=rfl;have g2:((d:Int)==1)=false:=qam (by omega);clear iR HL xI;go_wp2_with fail;go_ret;exact⟨qa1 (by rw[HK.out];rfl),bR.out⟩
theorem q3a(s t:BA)(neg:Bool)(h1:s.data.toList=(if neg then[45] else[])++t.data.toList)(h2:neg=false→Lib.hasPrefix s.data.toList [45]=false):
  qhl s t neg (t.extract 0 (sl t.data.toList)).toList (t.extract (sl t.data.toList+1) t.size).toList (decide (sl t.data.toList<t.data.toList.length)):=
 ⟨h1,h2,by rw[ByteArray.toList_eq,Lib.extract_from_zero],by rw[ByteArray.toList_eq,Lib.extract_data,List.take_of_length_le (by simp)],rfl⟩
theorem q96(s:BA)(w:World)(dK:s.size≤5000):Calls Tryz.prog 27 #[.string s] w fun e w'=>e = .returned (.int .i64 (qah s.data.toList:Nat))∧Below w.heap.size w w':=by
 by_cases h0:s.size=0
 ·have hl:s.data.toList=[]:=by
   have h2:s.data.toList.length=s.size:=by simp
   exact List.eq_nil_of_length_eq_zero (by omega)
  have hr:qah s.data.toList=1:=by rw[hl];rfl
  rw[hr];exact qwa s w h0
 ·by_cases hp:Lib.hasPrefix s.data.toList [45]=true
  ·obtain⟨l,hl⟩:∃l,s.data.toList=[45]++l:=by
    cases hq:s.data.toList with
    | nil=>rw[hq] at hp;cases hp
    | cons x y=>
     rw[hq] at hp;unfold Lib.hasPrefix at hp;simp[List.isPrefixOf] at hp;exact⟨y,by rw[←hp];rfl⟩
   exact qq1 s ⟨l.toArray⟩ true _ _ _ _ w rfl rfl rfl (q3a s _ true (by simpa using hl) (by intro e;cases e)) dK (by omega)
  ·exact qq1 s s false _ _ _ _ w rfl rfl rfl (q3a s s false (by simp) (fun _=>by simpa using hp)) dK (by omega)
theorem qig(z:Int):(rt (z:Rat)).data.toList=qbf z:=by
 rw[q64]
theorem q97(q:Rat)(w:World)(hs:(rt q).size≤5000):
  Calls Tryz.prog 87 #[.string (rt q)] w fun e w'=>e = .returned (.string (rt (q.num:Rat)))∧w'=w:=by
 have aT:=hid (fun W=>qqu (rt q) W (by omega));have dY:=q5t (rt q).data.toList;have rB:(rt q).data.toList.length=(rt q).size:=by simp
 rw[rB] at dY
 have hx:(rt q).extract 0 (sl (rt q).data.toList)=rt (q.num:Rat):=by
  refine qca ?_;rw[qig];obtain⟨h1,h2⟩:=qjw (rt q) q.num q.den (by rw[qdi,qer]);by_cases hd:q.den=1
  ·rw[Lib.extract_from_zero,(h1 hd).1,List.take_of_length_le (by simp),(h1 hd).2]
  ·exact(h2 hd).2.1
 generalize sl (rt q).data.toList=K at *;have hsa:∀W:World,(Instr.slice 39 (.string (rt q)) none (some (.int .i64 (K:Int))) none).run Tryz.prog W = .ok (.string (rt (q.num:Rat))) W:=fun W=>by rw[←hx];exact run_slice_string_h W 39 (rt q) Tryz.underlying39 .i64 (K:Int) (by omega) (by omega)
 clear hx rB dY;generalize rt (q.num:Rat)=tn at *;generalize rt q=tq at *;go_enter Tryz.func87,Tryz.ntmps87;go_wp2_with fail;refine(aT.out _).mono ?_;rintro e w1 ⟨rfl,rfl⟩;go_wp2_with fail;go_ret;exact⟨rfl,rfl⟩
theorem q98(q:Rat)(w:World)(hs:(rt q).size≤5000):
  Calls Tryz.prog 88 #[.string (rt q)] w fun e w'=>e = .returned (.string (rt ((q.den:Int):Rat)))∧w'=w:=by
 have aT:=hid (fun W=>qqu (rt q) W (by omega));obtain⟨h1,h2⟩:=qjw (rt q) q.num q.den (by rw[qdi,qer]);generalize hK:sl (rt q).data.toList=K at *;clear hK;by_cases hd:q.den=1
 ·obtain⟨h3,_⟩:=h1 hd
  have hb:((K:Int)==((rt q).size:Int))=true:=beq_iff_eq.2 (by omega);have HE:Hid ((⟨#[49]⟩:BA)=rt ((q.den:Int):Rat)):=hid (qca (by rw[qig,hd,qb6,qly]));clear h1 h2 hd h3;generalize rt ((q.den:Int):Rat)=td at *;generalize rt q=tq at *;go_enter Tryz.func88,Tryz.ntmps88;go_wp2_with fail;refine(aT.out _).mono ?_;rintro e w1 ⟨rfl,rfl⟩;go_wp2_with fail;go_ret;exact⟨congrArg (fun x=>Ending.returned (Value.string x)) HE.out,rfl⟩
 ·obtain⟨h3,_,h4⟩:=h2 hd
  have hb:((K:Int)==((rt q).size:Int))=false:=qam (by omega);have HE:(rt q).extract (K+1) (rt q).size=rt ((q.den:Int):Rat):=qca (by rw[qig];exact h4);have hKi2:(K:Int)+1≤((rt q).size:Int):=by omega
  have hK0:(0:Int)≤(K:Int)+1:=by omega
  have hKw:IntKind.i64.wrap ((K:Int)+1)=(K:Int)+1:=by rw[IntKind.wrap_i64];omega
  have hKt:((K:Int)+1).toNat=K+1:=by omega
  have hsb:∀W:World,(Instr.slice 39 (.string (rt q)) (some (.int .i64 ((K:Int)+1))) none none).run Tryz.prog W = .ok (.string (rt ((q.den:Int):Rat))) W:=fun W=>by
   have h:=run_slice_string_l W 39 (rt q) Tryz.underlying39 .i64 ((K:Int)+1) (by omega) (by omega);rw[hKt,HE] at h;exact h
  clear h1 h2 hd h4 HE;generalize rt ((q.den:Int):Rat)=td at *;generalize rt q=tq at *;go_enter Tryz.func88,Tryz.ntmps88;go_wp2_with fail;refine(aT.out _).mono ?_;rintro e w1 ⟨rfl,rfl⟩;go_wp2_with fail;go_ret;exact⟨rfl,rfl⟩
theorem q8c(z:Int):zak (z:Rat)=((z.natAbs:Int):Rat):=by
 unfold zak;have h:((z:Rat)).num=z:=rfl;rw[h];by_cases hz:z<0
 ·rw[if_pos hz,show(z.natAbs:Int) = -z by omega]
  exact(Rat.intCast_neg z).symm
 ·rw[if_neg hz,show(z.natAbs:Int)=z by omega]
theorem qpj(n:Nat):(rt ((n:Int):Rat)).size=(qax n).length:=by
 have h1:=congrArg List.length (qig (n:Int));have h2:(rt ((n:Int):Rat)).data.toList.length=(rt ((n:Int):Rat)).size:=by simp
 rw[h2,qb6] at h1;exact h1
def qlz(q:Rat):Nat:=if qby q 600 then 0 else 4
theorem q5v(q:Rat):qby q 600=(decide ((qax q.num.natAbs).length≤600)&&decide ((qax q.den).length≤600)):=by
 unfold qby;by_cases h:q.den=1
 ·rw[qag h,h,qly];rfl
 ·rw[qaf h];rfl
theorem q5w(q:Rat)(w:World)(hs:(rt q).size≤5000):
  Calls Tryz.prog 37 #[.string (rt q)] w fun e w'=>e = .returned (.int .i64 (qlz q:Nat))∧w'=w:=by
 have HN:=hid (fun W=>q97 q W hs);have HD:=hid (fun W=>q98 q W hs)
 have HA:Hid (∀W:World,Calls Tryz.prog 86 #[.string (rt (q.num:Rat))] W fun e w'=>e = .returned (.string (rt ((q.num.natAbs:Int):Rat)))∧w'=W):=hid fun W=>by
  have h:=q91 (q.num:Rat) W;rw[q8c] at h;exact h
 have h1:=qpj q.num.natAbs;have h2:=qpj q.den;have hF:=q5v q;generalize rt ((q.num.natAbs:Int):Rat)=ta at *;generalize rt ((q.den:Int):Rat)=td at *;generalize rt (q.num:Rat)=tn at *;generalize rt q=tq at *;by_cases ha:ta.size≤600
 ·have g1:¬600<ta.size:=by omega
  by_cases hd:td.size≤600
  ·have g2:¬600<td.size:=by omega
   have HR:Hid (qlz q=0):=hid (by unfold qlz;rw[hF,qag (by omega),qag (by omega)];rfl);clear h1 h2 hF ha hd;go_enter Tryz.func37,Tryz.ntmps37;go_wp2_with fail;refine(HN.out _).mono ?_;rintro e w1 ⟨rfl,rfl⟩;go_wp2_with fail;refine(HA.out _).mono ?_;rintro e w1 ⟨rfl,rfl⟩;go_wp2_with fail;refine(HD.out _).mono ?_;rintro e w1 ⟨rfl,rfl⟩;go_wp2_with fail;go_ret;exact⟨qa1 (by rw[HR.out];rfl),rfl⟩
  ·have g2:600<td.size:=by omega
   have HR:Hid (qlz q=4):=hid (by unfold qlz;rw[hF,qag (by omega),qaf (by omega)];rfl);clear h1 h2 hF ha hd;go_enter Tryz.func37,Tryz.ntmps37;go_wp2_with fail;refine(HN.out _).mono ?_;rintro e w1 ⟨rfl,rfl⟩;go_wp2_with fail;refine(HA.out _).mono ?_;rintro e w1 ⟨rfl,rfl⟩;go_wp2_with fail;refine(HD.out _).mono ?_;rintro e w1 ⟨rfl,rfl⟩;go_wp2_with fail;go_ret;exact⟨qa1 (by rw[HR.out];rfl),rfl⟩
 ·have g1:600<ta.size:=by omega
  have HR:Hid (qlz q=4):=hid (by unfold qlz;rw[hF,qaf (by omega)];rfl);clear h1 h2 hF ha;go_enter Tryz.func37,Tryz.ntmps37;go_wp2_with fail;refine(HN.out _).mono ?_;rintro e w1 ⟨rfl,rfl⟩;go_wp2_with fail;refine(HA.out _).mono ?_;rintro e w1 ⟨rfl,rfl⟩;go_wp2_with fail;go_ret;exact⟨qa1 (by rw[HR.out];rfl),rfl⟩
def qwb(W:World)(v:Value)(l:List BA):Prop:=∃b o c,v = .slice (some ⟨b,o,none⟩) l.length c∧l.length≤c∧c≤maxLen∧∀j s,l[j]? = some s→W.cell? ⟨b,o+j,none⟩=some (.string s)
theorem qwb.later{W W':World}{v:Value}{l:List BA}(h:qwb W v l)(hb:Below W.heap.size W W'):qwb W' v l:=by
 obtain⟨b,o,c,h1,h2,h3,h4⟩:=h;refine⟨b,o,c,h1,h2,h3,fun j s hj => ?_⟩;rw[hb.cell (qae W _ (h4 j s hj))];exact h4 j s hj
end Go.Proofs.YtlkdlffhmakbgaaGreatDoor
