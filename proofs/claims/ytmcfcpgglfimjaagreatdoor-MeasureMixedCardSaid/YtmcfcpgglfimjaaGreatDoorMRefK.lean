/- The reference's Check of a text. -/
import Derived.Test.YtmcfcpgglfimjaaGreatDoorMRefE
import Derived.Test.YtmcfcpgglfimjaaGreatDoorMRefC
import Derived.Test.YtmcfcpgglfimjaaGreatDoorMNumWalk
import Derived.Test.YtmcfcpgglfimjaaGreatDoorMRules
import Derived.Test.YtmcfcpgglfimjaaGreatDoorMRounded
set_option linter.all false
namespace Go.Proofs.YtmcfcpgglfimjaaGreatDoor
open Go.RowKit
set_option maxRecDepth 100000
set_option maxHeartbeats 16000000
theorem zaa{w:World}{p:Option Addr}{k c g:Nat}(h:DN w (.slice p k c) g):(g=1∧k=1∧∃b o,p=some ⟨b,o,none⟩∧w.cell? ⟨b,o,none⟩=some (.int .i64 1))∨(g≠1∧((¬k=1)∨(k=1∧∃b o d,p=some ⟨b,o,none⟩∧w.cell? ⟨b,o,none⟩=some (.int .i64 ((d:Nat):Int))∧d≠1))):=by
 obtain⟨p',k',c',he,hk⟩:=qgw h;cases he
 by_cases h1:k=1
 ·have zA:dl g=1:=by rw[←hk];exact h1
  obtain⟨h0,h9⟩:=qov zA;have uY:qao D9 g=[g]:=qfl h0 (by rw[qb4];exact h9);obtain⟨_,p',c',he,_,_,hc⟩:=h;rw[uY] at he hc;cases he
  rcases hc with h0'|⟨b,o,u1,u2⟩
  ·cases h0'
  ·have aC:w.cell? ⟨b,o,none⟩=some (.int .i64 ((g:Nat):Int)):=by have:=u2 0 (by simp);unfold dv at this;simpa using this
   by_cases hg:g=1
   ·subst hg
    exact .inl ⟨rfl,rfl,b,o,u1,aC⟩
   ·exact .inr ⟨hg,.inr ⟨rfl,b,o,g,u1,aC,hg⟩⟩
 ·refine .inr ⟨fun hg=>h1 ?_,.inl h1⟩
  rw[hk,hg];unfold dl;rw[qfl (by omega) (by decide)];rfl
theorem DN.dnLater{w w':World}{v:Value}{n:Nat}(h:DN w v n)(hb:Below w.heap.size w w'):DN w' v n:=h.later hb
theorem qt2{l:List UInt8}(h:qbo l=true):∀c ∈ l,isD c=true:=((qea l).1 (qef h)).2
theorem qxs(l:List UInt8)(h:∀c ∈ l,isD c=true):qbb 0 l<10^l.length:=qfq l h
theorem qwa(s:BA)(w:World)(h:s.size=0):Calls Tryz.prog 24 #[.string s] w fun e w'=>e = .returned (.int .i64 1)∧Below w.heap.size w w':=by
 have hl:s.data.toList=[]:=by
  have h2:s.data.toList.length=s.size:=by simp
  exact List.eq_nil_of_length_eq_zero (by omega)
 have he:s=⟨#[]⟩:=qb5 (by rw[hl]);subst he;have aU:Hid (∀W,Calls Tryz.prog 62 #[.string ⟨#[]⟩] W fun e w'=>e = .returned (.int .i64 0)∧w'=W):=hid fun W=>qqr ⟨#[]⟩ W (by decide);have gD:Hid (∀W,Calls Tryz.prog 63 #[.string ⟨#[]⟩] W fun e w'=>e = .returned (.bool false)∧w'=W):=hid fun W=>qi8 ⟨#[]⟩ W (by decide);have hsa:∀W:World,(Instr.slice 9 (.string ⟨#[]⟩) none (some (.int .i64 0)) none).run Tryz.prog W = .ok (.string ⟨#[]⟩) W:=fun W=>run_slice_string_h W 9 ⟨#[]⟩ Tryz.underlying9 .i64 0 (by decide) (by decide);clear h hl;go_enter Tryz.func24,Tryz.ntmps24;go_wp2_with fail;refine(aU.out _).mono ?_;rintro e w1 ⟨rfl,rfl⟩;go_wp2_with fail;refine(gD.out _).mono ?_;rintro e w1 ⟨rfl,rfl⟩;go_wp2_with fail;go_ret;exact⟨rfl,qaa _ _⟩
theorem qqz(s t:BA)(neg F:Bool)(K:Nat)(ta tb:BA)(w:World)(hK:K=sl t.data.toList)(hta:ta=t.extract 0 K)(Il:tb=t.extract (K+1) t.size)(h:qhk s t neg ta.toList tb.toList F)(dG:s.size≤5000)(hG:0<s.size):
  Calls Tryz.prog 24 #[.string s] w fun e w'=>e = .returned (.int .i64 (qah s.data.toList:Nat))∧Below w.heap.size w w':=by
 have pZ:t.data.toList.length=t.size:=by simp
 have dS:=q5p t.data.toList;have Iq:=h.found;have iW:=h.top;have Cn:=h.bot;rw[pZ,←hK] at dS Iq;rw[←hK] at iW Cn;have Qx:=h.whole
 have jG:t.size≤s.size:=by
  have h1:=congrArg List.length Qx;have h2:s.data.toList.length=s.size:=by simp
  rw[h2,List.length_append,pZ] at h1;omega
 have kS:Hid (neg=false→s=t∧∃ch:Int,(∀h':0<s.size,((s[0]'h').toNat:Int)=ch)∧(ch==45)=false):=hid fun hn=>by
  subst hn;refine⟨qb5 (by rw[Qx];rfl),((s[0]'hG).toNat:Int),fun _=>rfl,qan fun e => ?_⟩;have h1:=h.plus rfl;have h3:s.data.toList[0]'(by simpa using hG)=s[0]'hG:=qdt s 0 hG;have h4:s[0]'hG=45:=UInt8.toNat_inj.1 (by show(s[0]'hG).toNat=45;omega);rw[h4] at h3;cases hl:s.data.toList with
  | nil=>
   have h9:s.data.toList.length=s.size:=by simp
   rw[hl] at h9;simp only[List.length_nil] at h9;omega
  | cons x y=>
   rw[hl] at h1;simp only[hl,List.getElem_cons_zero] at h3;rw[h3] at h1;cases h1
 have jJ:Hid (neg=true→(∀h':0<s.size,((s[0]'h').toNat:Int)=45)∧∀W:World,(Instr.slice 9 (.string s) (some (.int .i64 1)) none none).run Tryz.prog W = .ok (.string t) W):=hid fun hn=>by
  subst hn;refine⟨fun h' => ?_,fun W => ?_⟩
  ·have h1:s.data.toList[0]'(by simpa using h')=s[0]'h':=qdt s 0 h'
   rw[←h1];simp only[Qx];rfl
  ·have h1:=run_slice_string_l W 9 s Tryz.underlying9 .i64 1 (by omega) (by omega)
   have h2:s.extract 1 s.size=t:=qb5 (by
    rw[Lib.extract_data,List.take_of_length_le (by simp),Qx];rfl)
   rw[show(1:Int).toNat=1 from rfl,h2] at h1;exact h1
 have aU:Hid (∀W,Calls Tryz.prog 62 #[.string t] W fun e w'=>e = .returned (.int .i64 (K:Nat))∧w'=W):=hid fun W=>by rw[hK];exact qqr t W (by omega)
 have Qy:ta.toList.length=K:=by rw[←iW,List.length_take,pZ];omega
 have hsa:∀W:World,(Instr.slice 9 (.string t) none (some (.int .i64 (K:Int))) none).run Tryz.prog W = .ok (.string ta) W:=fun W=>by rw[hta];exact run_slice_string_h W 9 t Tryz.underlying9 .i64 (K:Int) (by omega) (by omega)
 have gD:Hid (∀W,Calls Tryz.prog 63 #[.string ta] W fun e w'=>e = .returned (.bool (qbo ta.toList))∧w'=W):=hid fun W=>by
  rw[ByteArray.toList_eq];exact qi8 ta W (by rw[hta,ByteArray.size_extract];omega)
 have hKi:(K:Int)≤(t.size:Int):=by omega
 have hKb:(K:Int)≤5000:=by omega
 have cU:IntKind.i64.wrap ((t.size:Int)-(K:Int))=(t.size:Int)-(K:Int):=by rw[IntKind.wrap_i64];omega
 have kZ:IntKind.i64.wrap ((t.size:Int)-(K:Int)-1)=(t.size:Int)-(K:Int)-1:=by rw[IntKind.wrap_i64];omega
 have hK0:(0:Int)≤(K:Int)+1:=by omega
 have hKw:IntKind.i64.wrap ((K:Int)+1)=(K:Int)+1:=by rw[IntKind.wrap_i64];omega
 have hKt:((K:Int)+1).toNat=K+1:=by omega
 have HFN:Hid (F=false→¬K<t.size∧¬(600:Int)<(t.size:Int)-(K:Int)-1):=hid fun e=>by
  subst e;have:=of_decide_eq_false Iq;exact⟨this,by omega⟩
 have HFT:Hid (F=true→K<t.size∧K+1≤t.size∧(K:Int)+1≤(t.size:Int)):=hid fun e=>by
  subst e;have:=of_decide_eq_true Iq;exact⟨this,this,by omega⟩
 have iQ:Hid (K<t.size→(600<tb.toList.length↔(600:Int)<(t.size:Int)-(K:Int)-1)):=hid fun _=>by
  have:tb.toList.length=t.size-K-1:=by rw[←Cn,List.length_drop,pZ];omega
  omega
 have cL:Hid (K<t.size→∀W:World,(Instr.slice 9 (.string t) (some (.int .i64 ((K:Int)+1))) none none).run Tryz.prog W = .ok (.string tb) W):=hid fun bC W=>by
  have h:=run_slice_string_l W 9 t Tryz.underlying9 .i64 ((K:Int)+1) (by omega) (by omega);rw[hKt,←Il] at h;exact h
 have fQ:Hid (∀W,Calls Tryz.prog 63 #[.string tb] W fun e w'=>e = .returned (.bool (qbo tb.toList))∧w'=W):=hid fun W=>by
  rw[ByteArray.toList_eq];exact qi8 tb W (by rw[Il,ByteArray.size_extract];omega)
 have An:Hid (qbo ta.toList=true→qbo tb.toList=true→tb.toList≠[49]→K<t.size→∀W,Calls Tryz.prog 64 #[.string t] W fun e w'=>(∃n1 p1 k1 c1 n2 p2 k2 c2,e = .returned (.tuple #[.agg #[.bool n1,.slice p1 k1 c1],.agg #[.bool n2,.slice p2 k2 c2]])∧DN w' (.slice p1 k1 c1) (qbb 0 ta.toList)∧DN w' (.slice p2 k2 c2) (qbb 0 tb.toList))∧Below W.heap.size W w'):=hid fun qL pV aY bC W=>by
  refine(q15 t (qbb 0 ta.toList:Nat) (qbb 0 tb.toList) W ?_ (by omega)).mono fun _ _ ⟨⟨v1,v2,he,h1,h2⟩,hb⟩ => ?_
  ·have e1:=qe6 pV
   have e2:sl t.data.toList<t.data.toList.length:=by rw[pZ,←hK];exact bC
   rw[qcc,qe6 qL,e1,if_neg (fun e=>aY (by rw[←e1,e,qja]))];have e3:=qxh e2;rw[←hK,iW,Cn] at e3;exact e3
  ·obtain⟨p1,k1,c1,rfl,_,h3⟩:=h1.parts
   obtain⟨p2,k2,c2,rfl,_,h4⟩:=h2.parts;rw[Int.natAbs_natCast] at h3 h4;exact⟨⟨_,_,_,_,_,_,_,_,he,h3,h4⟩,hb⟩
 have tV:Hid (qbo ta.toList=true→qbo tb.toList=true→ta.toList.length≤600→tb.toList.length≤600→∀W va vb,DN W va (qbb 0 ta.toList)→DN W vb (qbb 0 tb.toList)→Calls Tryz.prog 65 #[va,vb] W fun e w'=>(∃p k c,e = .returned (.slice p k c)∧DN w' (.slice p k c) (Nat.gcd (qbb 0 ta.toList) (qbb 0 tb.toList)))∧Below W.heap.size W w'):=hid fun qL pV hl hl9 W va vb h1 h2=>by
  have hbA:=Nat.lt_of_lt_of_le (qxs _ (qt2 qL)) (Nat.pow_le_pow_right (n:=10) (by decide) hl);have xV:=Nat.lt_of_lt_of_le (qxs _ (qt2 pV)) (Nat.pow_le_pow_right (n:=10) (by decide) hl9);refine(q1y va vb _ _ W h1 h2 (qf4 hbA (by decide)) (qf4 xV (by decide))).mono fun _ _ ⟨⟨v,he,h3⟩,hb⟩ => ?_;obtain⟨p,k,c,rfl,_⟩:=qgw h3;exact⟨⟨p,k,c,he,h3⟩,hb⟩
 have qA:=hid h.lowest;have eY:=hid h.check;have kL:=hid Qy;obtain⟨F',hF'⟩:∃F',F'=F:=⟨_,rfl⟩;have Qi:=hid hF';have aV:=hid (qaa w.heap.size w);clear h pZ dS Iq iW Cn Qx hK hta Il Qy hF' jG;cases neg
 all_goals
  first
   | obtain⟨rfl,ch,oG,mQ⟩:=kS.out rfl
   | obtain⟨oG,eQ⟩:=jJ.out rfl
  clear kS jJ;go_enter Tryz.func24,Tryz.ntmps24;go_wp2_with fail;refine(aU.out _).mono ?_;rintro e w1 ⟨rfl,rfl⟩;go_wp2_with fail;refine(gD.out _).mono ?_;rintro e w1 ⟨rfl,rfl⟩;clear aU gD;cases qL:qbo ta.toList<;>cases hz:(ta.toList==[48])
 all_goals try(
  refine qd7 (P:=qah s.data.toList=1) ?_ ?_
  ·(rw[eY.out];simp[qL,hz])
  intro hk;have HK:=hid hk;clear hk;go_wp2_with fail;go_ret
  exact⟨qa6 (by rw[HK.out];rfl),aV.out⟩)
 all_goals cases F
 all_goals try obtain⟨hf,oL⟩:=HFN.out rfl
 all_goals try(
  obtain⟨hf,hKn,hKi2⟩:=HFT.out rfl;have hsb:=cL.out hf;go_wp2_with fail;refine(fQ.out _).mono ?_;rintro e w1 ⟨rfl,rfl⟩;clear fQ
  cases pV:qbo tb.toList<;>cases eE:(tb.toList==[48])<;>cases aY:(tb.toList==[49]))
 all_goals try(
  refine qd7 (P:=qah s.data.toList=1) ?_ ?_
  ·(rw[eY.out];simp[qL,hz,pV,eE,aY])
  intro hk;have HK:=hid hk;clear hk;go_wp2_with fail;go_ret
  exact⟨qa6 (by rw[HK.out];rfl),aV.out⟩)
 all_goals by_cases cX:600<K
 all_goals try(
  refine qd7 (P:=qah s.data.toList=4) ?_ ?_
  ·(rw[eY.out];simp[qL,hz,kL.out,cX])
  intro hk;have HK:=hid hk;clear hk;go_wp2_with fail;go_ret
  exact⟨qa6 (by rw[HK.out];rfl),aV.out⟩)
 all_goals try(
  refine qd7 (P:=qah s.data.toList=4) ?_ ?_
  ·(rw[eY.out];simp[qL,hz,pV,eE,aY,kL.out,cX])
  intro hk;have HK:=hid hk;clear hk;go_wp2_with fail;go_ret
  exact⟨qa6 (by rw[HK.out];rfl),aV.out⟩)
 all_goals try(
  refine qd7 (P:=qah s.data.toList=0) ?_ ?_
  ·(rw[eY.out,(qA.out qL (by first|trivial|exact fun _=>beq_eq_false_iff_ne.1 hz|(intro e;cases e)) (by first|trivial|(intro e;cases e)) (by have:=kL.out;omega) (by first|trivial|(intro e;cases e))).2 (by first|trivial|(intro e;cases e))];simp[qL,hz,kL.out,cX])
  intro hk;have HK:=hid hk;clear hk;go_wp2_with fail;go_ret
  exact⟨qa6 (by rw[HK.out];rfl),aV.out⟩)
 all_goals by_cases cS:600<tb.toList.length
 all_goals first
  | have oL:=(iQ.out hf).1 cS
  | have oL:=mt (iQ.out hf).2 cS
 all_goals try(
  refine qd7 (P:=qah s.data.toList=4) ?_ ?_
  ·(rw[eY.out];simp[qL,hz,pV,eE,aY,kL.out,cX,cS])
  intro hk;have HK:=hid hk;clear hk;go_wp2_with fail;go_ret
  exact⟨qa6 (by rw[HK.out];rfl),aV.out⟩)
 all_goals
  have rJ:=hid (An.out qL pV (beq_eq_false_iff_ne.1 aY) hf);have Qz:=hid (tV.out qL pV (by have:=kL.out;omega) (by omega));have HL:=hid (qA.out qL (by first|trivial|exact fun _=>beq_eq_false_iff_ne.1 hz|(intro e;cases e)) (fun _=>⟨pV,beq_eq_false_iff_ne.1 eE,beq_eq_false_iff_ne.1 aY⟩) (by have:=kL.out;omega) (fun _=>by omega));have uM:Hid (qah s.data.toList=if qj6 s.data.toList=s.data.toList then 0 else 1):=hid (by rw[eY.out];simp[qL,hz,pV,eE,aY,kL.out,cX,cS]);clear An tV qA eY;generalize Nat.gcd (qbb 0 ta.toList) (qbb 0 tb.toList)=G at *;generalize qbb 0 ta.toList=NA at *;generalize qbb 0 tb.toList=NB at *;go_wp2_with fail;refine(rJ.out _).mono ?_;rintro e w1 ⟨⟨n1,p1,k1,c1,n2,p2,k2,c2,rfl,h1,h2⟩,hb⟩;have dI:=hid (qex w1 n1 n2 (.slice p1 k1 c1) (.slice p2 k2 c2));have hcl:=qb7 dI.out;have mX:=hid (h1.dnLater dI.out.1);have kO:=hid (h2.dnLater dI.out.1);have aP:=hid (hb.trans (dI.out.1.mono hb.size));clear h1 h2 hb rJ aV;go_wp2_with fail;clear hcl;refine(Qz.out _ _ _ mX.out kO.out).mono ?_;rintro e w3 ⟨⟨p3,k3,c3,rfl,hg⟩,hb⟩;have bR:=hid (aP.out.trans (hb.mono aP.out.size));have sD:=zaa hg;clear hb hg Qz mX kO aP dI;rcases sD with⟨jO,rfl,b,o,rfl,aC⟩|⟨jO,hk|⟨rfl,b,o,d,rfl,aC,hd⟩⟩
  ·have HK:Hid (qah s.data.toList=0):=hid (by rw[uM.out,if_pos (HL.out.2 fun _=>jO)])
   have g1:(((1:Nat):Int)==1)=true:=rfl;clear jO HL uM;go_wp2_with fail;go_ret;exact⟨qa6 (by rw[HK.out];rfl),bR.out⟩
  ·have HK:Hid (qah s.data.toList=1):=hid (by rw[uM.out,if_neg fun e=>jO (HL.out.1 e (by first|trivial|rfl))])
   have g1:((k3:Int)==1)=false:=qan (by omega);clear jO HL uM;go_wp2_with fail;go_ret;exact⟨qa6 (by rw[HK.out];rfl),bR.out⟩
  ·have HK:Hid (qah s.data.toList=1):=hid (by rw[uM.out,if_neg fun e=>jO (HL.out.1 e (by first|trivial|rfl))])
   have g1:(((1:Nat):Int)==1)=true:=rfl;have g2:((d:Int)==1)=false:=qan (by omega);clear jO HL uM;go_wp2_with fail;go_ret;exact⟨qa6 (by rw[HK.out];rfl),bR.out⟩
theorem q29(s t:BA)(neg:Bool)(h1:s.data.toList=(if neg then[45] else[])++t.data.toList)(h2:neg=false→Lib.hasPrefix s.data.toList [45]=false):
  qhk s t neg (t.extract 0 (sl t.data.toList)).toList (t.extract (sl t.data.toList+1) t.size).toList (decide (sl t.data.toList<t.data.toList.length)):=
 ⟨h1,h2,by rw[ByteArray.toList_eq,Lib.extract_from_zero],by rw[ByteArray.toList_eq,Lib.extract_data,List.take_of_length_le (by simp)],rfl⟩
theorem q7c(s:BA)(w:World)(dG:s.size≤5000):Calls Tryz.prog 24 #[.string s] w fun e w'=>e = .returned (.int .i64 (qah s.data.toList:Nat))∧Below w.heap.size w w':=by
 by_cases h0:s.size=0
 ·have hl:s.data.toList=[]:=by
   have h2:s.data.toList.length=s.size:=by simp
   exact List.eq_nil_of_length_eq_zero (by omega)
  have hr:qah s.data.toList=1:=by rw[hl];rfl
  rw[hr];exact qwa s w h0
 ·by_cases hp:Lib.hasPrefix s.data.toList [45]=true
  ·obtain⟨l,hl⟩:∃l,s.data.toList=[45]++l:=by
    cases hq:s.data.toList with
    | nil=>rw[hq] at hp;cases hp
    | cons x y=>
     rw[hq] at hp;unfold Lib.hasPrefix at hp;simp[List.isPrefixOf] at hp;exact⟨y,by rw[←hp];rfl⟩
   exact qqz s ⟨l.toArray⟩ true _ _ _ _ w rfl rfl rfl (q29 s _ true (by simpa using hl) (by intro e;cases e)) dG (by omega)
  ·exact qqz s s false _ _ _ _ w rfl rfl rfl (q29 s s false (by simp) (fun _=>by simpa using hp)) dG (by omega)
theorem qif(z:Int):(rt (z:Rat)).data.toList=qbh z:=by
 rw[q7b]
theorem zab(q:Rat)(w:World)(hs:(rt q).size≤5000):
  Calls Tryz.prog 26 #[.string (rt q)] w fun e w'=>e = .returned (.string (rt (q.num:Rat)))∧w'=w:=by
 have aU:=hid (fun W=>qqr (rt q) W (by omega));have dS:=q5p (rt q).data.toList;have pZ:(rt q).data.toList.length=(rt q).size:=by simp
 rw[pZ] at dS
 have hx:(rt q).extract 0 (sl (rt q).data.toList)=rt (q.num:Rat):=by
  refine qb5 ?_;rw[qif];obtain⟨h1,h2⟩:=qjx (rt q) q.num q.den (by rw[qc9,qf8]);by_cases hd:q.den=1
  ·rw[Lib.extract_from_zero,(h1 hd).1,List.take_of_length_le (by simp),(h1 hd).2]
  ·exact(h2 hd).2.1
 generalize sl (rt q).data.toList=K at *;have hsa:∀W:World,(Instr.slice 30 (.string (rt q)) none (some (.int .i64 (K:Int))) none).run Tryz.prog W = .ok (.string (rt (q.num:Rat))) W:=fun W=>by rw[←hx];exact run_slice_string_h W 30 (rt q) Tryz.underlying30 .i64 (K:Int) (by omega) (by omega)
 clear hx pZ dS;generalize rt (q.num:Rat)=tn at *;generalize rt q=tq at *;go_enter Tryz.func26,Tryz.ntmps26;go_wp2_with fail;refine(aU.out _).mono ?_;rintro e w1 ⟨rfl,rfl⟩;go_wp2_with fail;go_ret;exact⟨rfl,rfl⟩
theorem zac(q:Rat)(w:World)(hs:(rt q).size≤5000):
  Calls Tryz.prog 27 #[.string (rt q)] w fun e w'=>e = .returned (.string (rt ((q.den:Int):Rat)))∧w'=w:=by
 have aU:=hid (fun W=>qqr (rt q) W (by omega));obtain⟨h1,h2⟩:=qjx (rt q) q.num q.den (by rw[qc9,qf8]);generalize hK:sl (rt q).data.toList=K at *;clear hK;by_cases hd:q.den=1
 ·obtain⟨h3,_⟩:=h1 hd
  have hb:((K:Int)==((rt q).size:Int))=true:=beq_iff_eq.2 (by omega);have HE:Hid ((⟨#[49]⟩:BA)=rt ((q.den:Int):Rat)):=hid (qb5 (by rw[qif,hd,qcc,qja]));clear h1 h2 hd h3;generalize rt ((q.den:Int):Rat)=td at *;generalize rt q=tq at *;go_enter Tryz.func27,Tryz.ntmps27;go_wp2_with fail;refine(aU.out _).mono ?_;rintro e w1 ⟨rfl,rfl⟩;go_wp2_with fail;go_ret;exact⟨congrArg (fun x=>Ending.returned (Value.string x)) HE.out,rfl⟩
 ·obtain⟨h3,_,h4⟩:=h2 hd
  have hb:((K:Int)==((rt q).size:Int))=false:=qan (by omega);have HE:(rt q).extract (K+1) (rt q).size=rt ((q.den:Int):Rat):=qb5 (by rw[qif];exact h4);have hKi2:(K:Int)+1≤((rt q).size:Int):=by omega
  have hK0:(0:Int)≤(K:Int)+1:=by omega
  have hKw:IntKind.i64.wrap ((K:Int)+1)=(K:Int)+1:=by rw[IntKind.wrap_i64];omega
  have hKt:((K:Int)+1).toNat=K+1:=by omega
  have hsb:∀W:World,(Instr.slice 30 (.string (rt q)) (some (.int .i64 ((K:Int)+1))) none none).run Tryz.prog W = .ok (.string (rt ((q.den:Int):Rat))) W:=fun W=>by
   have h:=run_slice_string_l W 30 (rt q) Tryz.underlying30 .i64 ((K:Int)+1) (by omega) (by omega);rw[hKt,HE] at h;exact h
  clear h1 h2 hd h4 HE;generalize rt ((q.den:Int):Rat)=td at *;generalize rt q=tq at *;go_enter Tryz.func27,Tryz.ntmps27;go_wp2_with fail;refine(aU.out _).mono ?_;rintro e w1 ⟨rfl,rfl⟩;go_wp2_with fail;go_ret;exact⟨rfl,rfl⟩
theorem q8n(z:Int):zar (z:Rat)=((z.natAbs:Int):Rat):=by
 unfold zar;have h:((z:Rat)).num=z:=rfl;rw[h];by_cases hz:z<0
 ·rw[if_pos hz,show(z.natAbs:Int) = -z by omega]
  exact(Rat.intCast_neg z).symm
 ·rw[if_neg hz,show(z.natAbs:Int)=z by omega]
theorem qpc(n:Nat):(rt ((n:Int):Rat)).size=(qav n).length:=by
 have h1:=congrArg List.length (qif (n:Int));have h2:(rt ((n:Int):Rat)).data.toList.length=(rt ((n:Int):Rat)).size:=by simp
 rw[h2,qcc] at h1;exact h1
theorem q54(q:Rat):qbr q 600=(decide ((qav q.num.natAbs).length≤600)&&decide ((qav q.den).length≤600)):=by
 unfold qbr;by_cases h:q.den=1
 ·rw[qag h,h,qja];rfl
 ·rw[qae h];rfl
def qwb(W:World)(v:Value)(l:List BA):Prop:=∃b o c,v = .slice (some ⟨b,o,none⟩) l.length c∧l.length≤c∧c≤maxLen∧∀j s,l[j]? = some s→W.cell? ⟨b,o+j,none⟩=some (.string s)
theorem qwb.later{W W':World}{v:Value}{l:List BA}(h:qwb W v l)(hb:Below W.heap.size W W'):qwb W' v l:=by
 obtain⟨b,o,c,h1,h2,h3,h4⟩:=h;refine⟨b,o,c,h1,h2,h3,fun j s hj => ?_⟩;rw[hb.cell (qaf W _ (h4 j s hj))];exact h4 j s hj
end Go.Proofs.YtmcfcpgglfimjaaGreatDoor
