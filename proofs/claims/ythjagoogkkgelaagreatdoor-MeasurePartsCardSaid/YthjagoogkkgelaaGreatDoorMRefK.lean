/- The reference's Check of a text. -/
import Derived.Test.YthjagoogkkgelaaGreatDoorMRefE
import Derived.Test.YthjagoogkkgelaaGreatDoorMRefC
import Derived.Test.YthjagoogkkgelaaGreatDoorMNumWalk
import Derived.Test.YthjagoogkkgelaaGreatDoorMRules
import Derived.Test.YthjagoogkkgelaaGreatDoorMRounded
set_option linter.all false
namespace Go.Proofs.YthjagoogkkgelaaGreatDoor
open Go.RowKit
set_option maxRecDepth 100000
set_option maxHeartbeats 16000000
theorem zbp{w:World}{p:Option Addr}{k c g:Nat}(h:DN w (.slice p k c) g):(g=1∧k=1∧∃b o,p=some ⟨b,o,none⟩∧w.cell? ⟨b,o,none⟩=some (.int .i64 1))∨(g≠1∧((¬k=1)∨(k=1∧∃b o d,p=some ⟨b,o,none⟩∧w.cell? ⟨b,o,none⟩=some (.int .i64 ((d:Nat):Int))∧d≠1))):=by
 obtain⟨p',k',c',he,hk⟩:=qgf h;cases he
 by_cases h1:k=1
 ·have hd1:dl g=1:=by rw[←hk];exact h1
  obtain⟨h0,h9⟩:=ql9 hd1;have hdn:qaf D9 g=[g]:=qdo h0 (by rw[qbp];exact h9);obtain⟨_,p',c',he,_,_,hc⟩:=h;rw[hdn] at he hc;cases he
  rcases hc with h0'|⟨b,o,u1,u2⟩
  ·cases h0'
  ·have hcell:w.cell? ⟨b,o,none⟩=some (.int .i64 ((g:Nat):Int)):=by have:=u2 0 (by simp);unfold dv at this;simpa using this
   by_cases hg:g=1
   ·subst hg
    exact .inl ⟨rfl,rfl,b,o,u1,hcell⟩
   ·exact .inr ⟨hg,.inr ⟨rfl,b,o,g,u1,hcell,hg⟩⟩
 ·refine .inr ⟨fun hg=>h1 ?_,.inl h1⟩
  rw[hk,hg];unfold dl;rw[qdo (by omega) (by decide)];rfl
theorem DN.dnLater{w w':World}{v:Value}{n:Nat}(h:DN w v n)(hb:Below w.heap.size w w'):DN w' v n:=h.later hb
theorem qu1{l:List UInt8}(h:qbe l=true):∀c ∈ l,isD c=true:=((qez l).1 (qeg h)).2
theorem qyl(l:List UInt8)(h:∀c ∈ l,isD c=true):qa0 0 l<10^l.length:=qfz l h
theorem qw1(s:ByteArray)(w:World)(h:s.size=0):Calls Tryz.prog 82 #[.string s] w fun e w'=>e = .returned (.int .i64 1)∧Below w.heap.size w w':=by
 have hl:s.data.toList=[]:=by
  have h2:s.data.toList.length=s.size:=by simp
  exact List.eq_nil_of_length_eq_zero (by omega)
 have he:s=⟨#[]⟩:=qcb (by rw[hl]);subst he;have HSL:Hid (∀W,Calls Tryz.prog 128 #[.string ⟨#[]⟩] W fun e w'=>e = .returned (.int .i64 0)∧w'=W):=hid fun W=>qrg ⟨#[]⟩ W (by decide);have HDA:Hid (∀W,Calls Tryz.prog 129 #[.string ⟨#[]⟩] W fun e w'=>e = .returned (.bool false)∧w'=W):=hid fun W=>qjm ⟨#[]⟩ W (by decide);have hsa:∀W:World,(Instr.slice 9 (.string ⟨#[]⟩) none (some (.int .i64 0)) none).run Tryz.prog W = .ok (.string ⟨#[]⟩) W:=fun W=>run_slice_string_h W 9 ⟨#[]⟩ Tryz.underlying9 .i64 0 (by decide) (by decide);clear h hl;go_enter Tryz.func82,Tryz.ntmps82;go_wp2_with fail;refine(HSL.out _).mono ?_;rintro e w1 ⟨rfl,rfl⟩;go_wp2_with fail;refine(HDA.out _).mono ?_;rintro e w1 ⟨rfl,rfl⟩;go_wp2_with fail;go_ret;exact⟨rfl,Below.refl _ _⟩
theorem qrl(s t:ByteArray)(neg F:Bool)(K:Nat)(ta tb:ByteArray)(w:World)(hK:K=sl t.data.toList)(hta:ta=t.extract 0 K)(htb:tb=t.extract (K+1) t.size)(h:qiv s t neg ta.toList tb.toList F)(hsz:s.size≤5000)(hs0:0<s.size):
  Calls Tryz.prog 82 #[.string s] w fun e w'=>e = .returned (.int .i64 (qaa s.data.toList:Nat))∧Below w.heap.size w w':=by
 have hts:t.data.toList.length=t.size:=by simp
 have hle:=q7a t.data.toList;have hfd:=h.found;have htop:=h.top;have hbot:=h.bot;rw[hts,←hK] at hle hfd;rw[←hK] at htop hbot;have hwh:=h.whole
 have hst:t.size≤s.size:=by
  have h1:=congrArg List.length hwh;have h2:s.data.toList.length=s.size:=by simp
  rw[h2,List.length_append,hts] at h1;omega
 have HC0:Hid (neg=false→s=t∧∃ch:Int,(∀h':0<s.size,((s[0]'h').toNat:Int)=ch)∧(ch==45)=false):=hid fun hn=>by
  subst hn;refine⟨qcb (by rw[hwh];rfl),((s[0]'hs0).toNat:Int),fun _=>rfl,beq_eq_false_iff_ne.2 fun e => ?_⟩;have h1:=h.plus rfl;have h3:s.data.toList[0]'(by simpa using hs0)=s[0]'hs0:=qdr s 0 hs0;have h4:s[0]'hs0=45:=UInt8.toNat_inj.1 (by show(s[0]'hs0).toNat=45;omega);rw[h4] at h3;cases hl:s.data.toList with
  | nil=>
   have h9:s.data.toList.length=s.size:=by simp
   rw[hl] at h9;simp only[List.length_nil] at h9;omega
  | cons x y=>
   rw[hl] at h1;simp only[hl,List.getElem_cons_zero] at h3;rw[h3] at h1;cases h1
 have HC1:Hid (neg=true→(∀h':0<s.size,((s[0]'h').toNat:Int)=45)∧∀W:World,(Instr.slice 9 (.string s) (some (.int .i64 1)) none none).run Tryz.prog W = .ok (.string t) W):=hid fun hn=>by
  subst hn;refine⟨fun h' => ?_,fun W => ?_⟩
  ·have h1:s.data.toList[0]'(by simpa using h')=s[0]'h':=qdr s 0 h'
   rw[←h1];simp only[hwh];rfl
  ·have h1:=run_slice_string_l W 9 s Tryz.underlying9 .i64 1 (by omega) (by omega)
   have h2:s.extract 1 s.size=t:=qcb (by
    rw[Lib.extract_data,List.take_of_length_le (by simp),hwh];rfl)
   rw[show(1:Int).toNat=1 from rfl,h2] at h1;exact h1
 have HSL:Hid (∀W,Calls Tryz.prog 128 #[.string t] W fun e w'=>e = .returned (.int .i64 (K:Nat))∧w'=W):=hid fun W=>by rw[hK];exact qrg t W (by omega)
 have hla9:ta.toList.length=K:=by rw[←htop,List.length_take,hts];omega
 have hsa:∀W:World,(Instr.slice 9 (.string t) none (some (.int .i64 (K:Int))) none).run Tryz.prog W = .ok (.string ta) W:=fun W=>by rw[hta];exact run_slice_string_h W 9 t Tryz.underlying9 .i64 (K:Int) (by omega) (by omega)
 have HDA:Hid (∀W,Calls Tryz.prog 129 #[.string ta] W fun e w'=>e = .returned (.bool (qbe ta.toList))∧w'=W):=hid fun W=>by
  rw[ByteArray.toList_eq];exact qjm ta W (by rw[hta,ByteArray.size_extract];omega)
 have hKi:(K:Int)≤(t.size:Int):=by omega
 have hKb:(K:Int)≤5000:=by omega
 have hw1:IntKind.i64.wrap ((t.size:Int)-(K:Int))=(t.size:Int)-(K:Int):=by rw[IntKind.wrap_i64];omega
 have hw2:IntKind.i64.wrap ((t.size:Int)-(K:Int)-1)=(t.size:Int)-(K:Int)-1:=by rw[IntKind.wrap_i64];omega
 have hK0:(0:Int)≤(K:Int)+1:=by omega
 have hKw:IntKind.i64.wrap ((K:Int)+1)=(K:Int)+1:=by rw[IntKind.wrap_i64];omega
 have hKt:((K:Int)+1).toNat=K+1:=by omega
 have HFN:Hid (F=false→¬K<t.size∧¬(600:Int)<(t.size:Int)-(K:Int)-1):=hid fun e=>by
  subst e;have:=of_decide_eq_false hfd;exact⟨this,by omega⟩
 have HFT:Hid (F=true→K<t.size∧K+1≤t.size∧(K:Int)+1≤(t.size:Int)):=hid fun e=>by
  subst e;have:=of_decide_eq_true hfd;exact⟨this,this,by omega⟩
 have HLB:Hid (K<t.size→(600<tb.toList.length↔(600:Int)<(t.size:Int)-(K:Int)-1)):=hid fun _=>by
  have:tb.toList.length=t.size-K-1:=by rw[←hbot,List.length_drop,hts];omega
  omega
 have HSB:Hid (K<t.size→∀W:World,(Instr.slice 9 (.string t) (some (.int .i64 ((K:Int)+1))) none none).run Tryz.prog W = .ok (.string tb) W):=hid fun hlt W=>by
  have h:=run_slice_string_l W 9 t Tryz.underlying9 .i64 ((K:Int)+1) (by omega) (by omega);rw[hKt,←htb] at h;exact h
 have HDB:Hid (∀W,Calls Tryz.prog 129 #[.string tb] W fun e w'=>e = .returned (.bool (qbe tb.toList))∧w'=W):=hid fun W=>by
  rw[ByteArray.toList_eq];exact qjm tb W (by rw[htb,ByteArray.size_extract];omega)
 have HPA:Hid (qbe ta.toList=true→qbe tb.toList=true→tb.toList≠[49]→K<t.size→∀W,Calls Tryz.prog 130 #[.string t] W fun e w'=>(∃n1 p1 k1 c1 n2 p2 k2 c2,e = .returned (.tuple #[.agg #[.bool n1,.slice p1 k1 c1],.agg #[.bool n2,.slice p2 k2 c2]])∧DN w' (.slice p1 k1 c1) (qa0 0 ta.toList)∧DN w' (.slice p2 k2 c2) (qa0 0 tb.toList))∧Below W.heap.size W w'):=hid fun hpa hpb hb1 hlt W=>by
  refine(q32 t (qa0 0 ta.toList:Nat) (qa0 0 tb.toList) W ?_ (by omega)).mono fun _ _ ⟨⟨v1,v2,he,h1,h2⟩,hb⟩ => ?_
  ·have e1:=qff hpb
   have e2:sl t.data.toList<t.data.toList.length:=by rw[hts,←hK];exact hlt
   rw[qbt,qff hpa,e1,if_neg (fun e=>hb1 (by rw[←e1,e,qmf]))];have e3:=qyk e2;rw[←hK,htop,hbot] at e3;exact e3
  ·obtain⟨p1,k1,c1,rfl,_,h3⟩:=h1.parts
   obtain⟨p2,k2,c2,rfl,_,h4⟩:=h2.parts;rw[Int.natAbs_natCast] at h3 h4;exact⟨⟨_,_,_,_,_,_,_,_,he,h3,h4⟩,hb⟩
 have HCM:Hid (qbe ta.toList=true→qbe tb.toList=true→ta.toList.length≤600→tb.toList.length≤600→∀W va vb,DN W va (qa0 0 ta.toList)→DN W vb (qa0 0 tb.toList)→Calls Tryz.prog 131 #[va,vb] W fun e w'=>(∃p k c,e = .returned (.slice p k c)∧DN w' (.slice p k c) (Nat.gcd (qa0 0 ta.toList) (qa0 0 tb.toList)))∧Below W.heap.size W w'):=hid fun hpa hpb hl hl9 W va vb h1 h2=>by
  have hbA:=Nat.lt_of_lt_of_le (qyl _ (qu1 hpa)) (Nat.pow_le_pow_right (n:=10) (by decide) hl);have hbB:=Nat.lt_of_lt_of_le (qyl _ (qu1 hpb)) (Nat.pow_le_pow_right (n:=10) (by decide) hl9);refine(qwv va vb _ _ W h1 h2 (qdx hbA (by decide)) (qdx hbB (by decide))).mono fun _ _ ⟨⟨v,he,h3⟩,hb⟩ => ?_;obtain⟨p,k,c,rfl,_⟩:=qgf h3;exact⟨⟨p,k,c,he,h3⟩,hb⟩
 have HLO:=hid h.lowest;have HCK:=hid h.check;have HLA:=hid hla9;obtain⟨F',hF'⟩:∃F',F'=F:=⟨_,rfl⟩;have HFF:=hid hF';have HBB:=hid (Below.refl w.heap.size w);clear h hts hle hfd htop hbot hwh hK hta htb hla9 hF' hst;cases neg
 all_goals
  first
   | obtain⟨rfl,ch,hci,hch⟩:=HC0.out rfl
   | obtain⟨hci,hsl⟩:=HC1.out rfl
  clear HC0 HC1;go_enter Tryz.func82,Tryz.ntmps82;go_wp2_with fail;refine(HSL.out _).mono ?_;rintro e w1 ⟨rfl,rfl⟩;go_wp2_with fail;refine(HDA.out _).mono ?_;rintro e w1 ⟨rfl,rfl⟩;clear HSL HDA;cases hpa:qbe ta.toList<;>cases hz:(ta.toList==[48])
 all_goals try(
  refine qd5 (P:=qaa s.data.toList=1) ?_ ?_
  ·(rw[HCK.out];simp[hpa,hz])
  intro hk;have HK:=hid hk;clear hk;go_wp2_with fail;go_ret
  exact⟨qa1 (by rw[HK.out];rfl),HBB.out⟩)
 all_goals cases F
 all_goals try obtain⟨hf,hl2⟩:=HFN.out rfl
 all_goals try(
  obtain⟨hf,hKn,hKi2⟩:=HFT.out rfl;have hsb:=HSB.out hf;go_wp2_with fail;refine(HDB.out _).mono ?_;rintro e w1 ⟨rfl,rfl⟩;clear HDB
  cases hpb:qbe tb.toList<;>cases hb0:(tb.toList==[48])<;>cases hb1:(tb.toList==[49]))
 all_goals try(
  refine qd5 (P:=qaa s.data.toList=1) ?_ ?_
  ·(rw[HCK.out];simp[hpa,hz,hpb,hb0,hb1])
  intro hk;have HK:=hid hk;clear hk;go_wp2_with fail;go_ret
  exact⟨qa1 (by rw[HK.out];rfl),HBB.out⟩)
 all_goals by_cases hla:600<K
 all_goals try(
  refine qd5 (P:=qaa s.data.toList=4) ?_ ?_
  ·(rw[HCK.out];simp[hpa,hz,HLA.out,hla])
  intro hk;have HK:=hid hk;clear hk;go_wp2_with fail;go_ret
  exact⟨qa1 (by rw[HK.out];rfl),HBB.out⟩)
 all_goals try(
  refine qd5 (P:=qaa s.data.toList=4) ?_ ?_
  ·(rw[HCK.out];simp[hpa,hz,hpb,hb0,hb1,HLA.out,hla])
  intro hk;have HK:=hid hk;clear hk;go_wp2_with fail;go_ret
  exact⟨qa1 (by rw[HK.out];rfl),HBB.out⟩)
 all_goals try(
  refine qd5 (P:=qaa s.data.toList=0) ?_ ?_
  ·(rw[HCK.out,(HLO.out hpa (by first|trivial|exact fun _=>beq_eq_false_iff_ne.1 hz|(intro e;cases e)) (by first|trivial|(intro e;cases e)) (by have:=HLA.out;omega) (by first|trivial|(intro e;cases e))).2 (by first|trivial|(intro e;cases e))];simp[hpa,hz,HLA.out,hla])
  intro hk;have HK:=hid hk;clear hk;go_wp2_with fail;go_ret
  exact⟨qa1 (by rw[HK.out];rfl),HBB.out⟩)
 all_goals by_cases hlb:600<tb.toList.length
 all_goals first
  | have hl2:=(HLB.out hf).1 hlb
  | have hl2:=mt (HLB.out hf).2 hlb
 all_goals try(
  refine qd5 (P:=qaa s.data.toList=4) ?_ ?_
  ·(rw[HCK.out];simp[hpa,hz,hpb,hb0,hb1,HLA.out,hla,hlb])
  intro hk;have HK:=hid hk;clear hk;go_wp2_with fail;go_ret
  exact⟨qa1 (by rw[HK.out];rfl),HBB.out⟩)
 all_goals
  have HPA2:=hid (HPA.out hpa hpb (beq_eq_false_iff_ne.1 hb1) hf);have HCM2:=hid (HCM.out hpa hpb (by have:=HLA.out;omega) (by omega));have HL:=hid (HLO.out hpa (by first|trivial|exact fun _=>beq_eq_false_iff_ne.1 hz|(intro e;cases e)) (fun _=>⟨hpb,beq_eq_false_iff_ne.1 hb0,beq_eq_false_iff_ne.1 hb1⟩) (by have:=HLA.out;omega) (fun _=>by omega));have HKK:Hid (qaa s.data.toList=if qlu s.data.toList=s.data.toList then 0 else 1):=hid (by rw[HCK.out];simp[hpa,hz,hpb,hb0,hb1,HLA.out,hla,hlb]);clear HPA HCM HLO HCK;generalize Nat.gcd (qa0 0 ta.toList) (qa0 0 tb.toList)=G at *;generalize qa0 0 ta.toList=NA at *;generalize qa0 0 tb.toList=NB at *;go_wp2_with fail;refine(HPA2.out _).mono ?_;rintro e w1 ⟨⟨n1,p1,k1,c1,n2,p2,k2,c2,rfl,h1,h2⟩,hb⟩;have HN1:=hid (qd8 w1 n1 n2 (.slice p1 k1 c1) (.slice p2 k2 c2));have hcl:=qay HN1.out;have HX1:=hid (h1.dnLater HN1.out.1);have HX2:=hid (h2.dnLater HN1.out.1);have HB1:=hid (hb.trans (HN1.out.1.mono hb.size));clear h1 h2 hb HPA2 HBB;go_wp2_with fail;clear hcl;refine(HCM2.out _ _ _ HX1.out HX2.out).mono ?_;rintro e w3 ⟨⟨p3,k3,c3,rfl,hg⟩,hb⟩;have HB3:=hid (HB1.out.trans (hb.mono HB1.out.size));have hg2:=zbp hg;clear hb hg HCM2 HX1 HX2 HB1 HN1;rcases hg2 with⟨hg1,rfl,b,o,rfl,hcell⟩|⟨hg1,hk|⟨rfl,b,o,d,rfl,hcell,hd⟩⟩
  ·have HK:Hid (qaa s.data.toList=0):=hid (by rw[HKK.out,if_pos (HL.out.2 fun _=>hg1)])
   have g1:(((1:Nat):Int)==1)=true:=rfl;clear hg1 HL HKK;go_wp2_with fail;go_ret;exact⟨qa1 (by rw[HK.out];rfl),HB3.out⟩
  ·have HK:Hid (qaa s.data.toList=1):=hid (by rw[HKK.out,if_neg fun e=>hg1 (HL.out.1 e (by first|trivial|rfl))])
   have g1:((k3:Int)==1)=false:=beq_eq_false_iff_ne.2 (by omega);clear hg1 HL HKK;go_wp2_with fail;go_ret;exact⟨qa1 (by rw[HK.out];rfl),HB3.out⟩
  ·have HK:Hid (qaa s.data.toList=1):=hid (by rw[HKK.out,if_neg fun e=>hg1 (HL.out.1 e (by first|trivial|rfl))])
   have g1:(((1:Nat):Int)==1)=true:=rfl;have g2:((d:Int)==1)=false:=beq_eq_false_iff_ne.2 (by omega);clear hg1 HL HKK;go_wp2_with fail;go_ret;exact⟨qa1 (by rw[HK.out];rfl),HB3.out⟩
theorem q4l(s t:ByteArray)(neg:Bool)(h1:s.data.toList=(if neg then[45] else[])++t.data.toList)(h2:neg=false→Lib.hasPrefix s.data.toList [45]=false):
  qiv s t neg (t.extract 0 (sl t.data.toList)).toList (t.extract (sl t.data.toList+1) t.size).toList (decide (sl t.data.toList<t.data.toList.length)):=
 ⟨h1,h2,by rw[ByteArray.toList_eq,Lib.extract_from_zero],by rw[ByteArray.toList_eq,Lib.extract_data,List.take_of_length_le (by simp)],rfl⟩
theorem zbq(s:ByteArray)(w:World)(hsz:s.size≤5000):Calls Tryz.prog 82 #[.string s] w fun e w'=>e = .returned (.int .i64 (qaa s.data.toList:Nat))∧Below w.heap.size w w':=by
 by_cases h0:s.size=0
 ·have hl:s.data.toList=[]:=by
   have h2:s.data.toList.length=s.size:=by simp
   exact List.eq_nil_of_length_eq_zero (by omega)
  have hr:qaa s.data.toList=1:=by rw[hl];rfl
  rw[hr];exact qw1 s w h0
 ·by_cases hp:Lib.hasPrefix s.data.toList [45]=true
  ·obtain⟨l,hl⟩:∃l,s.data.toList=[45]++l:=by
    cases hq:s.data.toList with
    | nil=>rw[hq] at hp;cases hp
    | cons x y=>
     rw[hq] at hp;unfold Lib.hasPrefix at hp;simp[List.isPrefixOf] at hp;exact⟨y,by rw[←hp];rfl⟩
   exact qrl s ⟨l.toArray⟩ true _ _ _ _ w rfl rfl rfl (q4l s _ true (by simpa using hl) (by intro e;cases e)) hsz (by omega)
  ·exact qrl s s false _ _ _ _ w rfl rfl rfl (q4l s s false (by simp) (fun _=>by simpa using hp)) hsz (by omega)
theorem qir(z:Int):(rt (z:Rat)).data.toList=qa2 z:=by
 rw[q8h]
theorem zbr(q:Rat)(w:World)(hs:(rt q).size≤5000):
  Calls Tryz.prog 179 #[.string (rt q)] w fun e w'=>e = .returned (.string (rt (q.num:Rat)))∧w'=w:=by
 have HSL:=hid (fun W=>qrg (rt q) W (by omega));have hle:=q7a (rt q).data.toList;have hts:(rt q).data.toList.length=(rt q).size:=by simp
 rw[hts] at hle
 have hx:(rt q).extract 0 (sl (rt q).data.toList)=rt (q.num:Rat):=by
  refine qcb ?_;rw[qir];obtain⟨h1,h2⟩:=qkc (rt q) q.num q.den (by rw[qd2,qep]);by_cases hd:q.den=1
  ·rw[Lib.extract_from_zero,(h1 hd).1,List.take_of_length_le (by simp),(h1 hd).2]
  ·exact(h2 hd).2.1
 generalize sl (rt q).data.toList=K at *;have hsa:∀W:World,(Instr.slice 26 (.string (rt q)) none (some (.int .i64 (K:Int))) none).run Tryz.prog W = .ok (.string (rt (q.num:Rat))) W:=fun W=>by rw[←hx];exact run_slice_string_h W 26 (rt q) Tryz.underlying26 .i64 (K:Int) (by omega) (by omega)
 clear hx hts hle;generalize rt (q.num:Rat)=tn at *;generalize rt q=tq at *;go_enter Tryz.func179,Tryz.ntmps179;go_wp2_with fail;refine(HSL.out _).mono ?_;rintro e w1 ⟨rfl,rfl⟩;go_wp2_with fail;go_ret;exact⟨rfl,rfl⟩
theorem zbs(q:Rat)(w:World)(hs:(rt q).size≤5000):
  Calls Tryz.prog 180 #[.string (rt q)] w fun e w'=>e = .returned (.string (rt ((q.den:Int):Rat)))∧w'=w:=by
 have HSL:=hid (fun W=>qrg (rt q) W (by omega));obtain⟨h1,h2⟩:=qkc (rt q) q.num q.den (by rw[qd2,qep]);generalize hK:sl (rt q).data.toList=K at *;clear hK;by_cases hd:q.den=1
 ·obtain⟨h3,_⟩:=h1 hd
  have hb:((K:Int)==((rt q).size:Int))=true:=beq_iff_eq.2 (by omega);have HE:Hid ((⟨#[49]⟩:ByteArray)=rt ((q.den:Int):Rat)):=hid (qcb (by rw[qir,hd,qbt,qmf]));clear h1 h2 hd h3;generalize rt ((q.den:Int):Rat)=td at *;generalize rt q=tq at *;go_enter Tryz.func180,Tryz.ntmps180;go_wp2_with fail;refine(HSL.out _).mono ?_;rintro e w1 ⟨rfl,rfl⟩;go_wp2_with fail;go_ret;exact⟨congrArg (fun x=>Ending.returned (Value.string x)) HE.out,rfl⟩
 ·obtain⟨h3,_,h4⟩:=h2 hd
  have hb:((K:Int)==((rt q).size:Int))=false:=beq_eq_false_iff_ne.2 (by omega);have HE:(rt q).extract (K+1) (rt q).size=rt ((q.den:Int):Rat):=qcb (by rw[qir];exact h4);have hKi2:(K:Int)+1≤((rt q).size:Int):=by omega
  have hK0:(0:Int)≤(K:Int)+1:=by omega
  have hKw:IntKind.i64.wrap ((K:Int)+1)=(K:Int)+1:=by rw[IntKind.wrap_i64];omega
  have hKt:((K:Int)+1).toNat=K+1:=by omega
  have hsb:∀W:World,(Instr.slice 26 (.string (rt q)) (some (.int .i64 ((K:Int)+1))) none none).run Tryz.prog W = .ok (.string (rt ((q.den:Int):Rat))) W:=fun W=>by
   have h:=run_slice_string_l W 26 (rt q) Tryz.underlying26 .i64 ((K:Int)+1) (by omega) (by omega);rw[hKt,HE] at h;exact h
  clear h1 h2 hd h4 HE;generalize rt ((q.den:Int):Rat)=td at *;generalize rt q=tq at *;go_enter Tryz.func180,Tryz.ntmps180;go_wp2_with fail;refine(HSL.out _).mono ?_;rintro e w1 ⟨rfl,rfl⟩;go_wp2_with fail;go_ret;exact⟨rfl,rfl⟩
theorem q99(z:Int):zb6 (z:Rat)=((z.natAbs:Int):Rat):=by
 unfold zb6;have h:((z:Rat)).num=z:=rfl;rw[h];by_cases hz:z<0
 ·rw[if_pos hz,show(z.natAbs:Int) = -z by omega]
  exact(Rat.intCast_neg z).symm
 ·rw[if_neg hz,show(z.natAbs:Int)=z by omega]
theorem qp7(n:Nat):(rt ((n:Int):Rat)).size=(qaw n).length:=by
 have h1:=congrArg List.length (qir (n:Int));have h2:(rt ((n:Int):Rat)).data.toList.length=(rt ((n:Int):Rat)).size:=by simp
 rw[h2,qbt] at h1;exact h1
def qjo(q:Rat):Nat:=if qa4 q 600 then 0 else 4
theorem q7e(q:Rat):qa4 q 600=(decide ((qaw q.num.natAbs).length≤600)&&decide ((qaw q.den).length≤600)):=by
 unfold qa4;by_cases h:q.den=1
 ·rw[decide_eq_true h,h,qmf];rfl
 ·rw[decide_eq_false h];rfl
theorem q7f(q:Rat)(w:World)(hs:(rt q).size≤5000):
  Calls Tryz.prog 132 #[.string (rt q)] w fun e w'=>e = .returned (.int .i64 (qjo q:Nat))∧w'=w:=by
 have HN:=hid (fun W=>zbr q W hs);have HD:=hid (fun W=>zbs q W hs)
 have HA:Hid (∀W:World,Calls Tryz.prog 178 #[.string (rt (q.num:Rat))] W fun e w'=>e = .returned (.string (rt ((q.num.natAbs:Int):Rat)))∧w'=W):=hid fun W=>by
  have h:=zbk (q.num:Rat) W;rw[q99] at h;exact h
 have h1:=qp7 q.num.natAbs;have h2:=qp7 q.den;have hF:=q7e q;generalize rt ((q.num.natAbs:Int):Rat)=ta at *;generalize rt ((q.den:Int):Rat)=td at *;generalize rt (q.num:Rat)=tn at *;generalize rt q=tq at *;by_cases ha:ta.size≤600
 ·have g1:¬600<ta.size:=by omega
  by_cases hd:td.size≤600
  ·have g2:¬600<td.size:=by omega
   have HR:Hid (qjo q=0):=hid (by unfold qjo;rw[hF,decide_eq_true (by omega),decide_eq_true (by omega)];rfl);clear h1 h2 hF ha hd;go_enter Tryz.func132,Tryz.ntmps132;go_wp2_with fail;refine(HN.out _).mono ?_;rintro e w1 ⟨rfl,rfl⟩;go_wp2_with fail;refine(HA.out _).mono ?_;rintro e w1 ⟨rfl,rfl⟩;go_wp2_with fail;refine(HD.out _).mono ?_;rintro e w1 ⟨rfl,rfl⟩;go_wp2_with fail;go_ret;exact⟨qa1 (by rw[HR.out];rfl),rfl⟩
  ·have g2:600<td.size:=by omega
   have HR:Hid (qjo q=4):=hid (by unfold qjo;rw[hF,decide_eq_true (by omega),decide_eq_false (by omega)];rfl);clear h1 h2 hF ha hd;go_enter Tryz.func132,Tryz.ntmps132;go_wp2_with fail;refine(HN.out _).mono ?_;rintro e w1 ⟨rfl,rfl⟩;go_wp2_with fail;refine(HA.out _).mono ?_;rintro e w1 ⟨rfl,rfl⟩;go_wp2_with fail;refine(HD.out _).mono ?_;rintro e w1 ⟨rfl,rfl⟩;go_wp2_with fail;go_ret;exact⟨qa1 (by rw[HR.out];rfl),rfl⟩
 ·have g1:600<ta.size:=by omega
  have HR:Hid (qjo q=4):=hid (by unfold qjo;rw[hF,decide_eq_false (by omega)];rfl);clear h1 h2 hF ha;go_enter Tryz.func132,Tryz.ntmps132;go_wp2_with fail;refine(HN.out _).mono ?_;rintro e w1 ⟨rfl,rfl⟩;go_wp2_with fail;refine(HA.out _).mono ?_;rintro e w1 ⟨rfl,rfl⟩;go_wp2_with fail;go_ret;exact⟨qa1 (by rw[HR.out];rfl),rfl⟩
def qhl(W:World)(v:Value)(l:List ByteArray):Prop:=∃b o c,v = .slice (some ⟨b,o,none⟩) l.length c∧l.length≤c∧c≤maxLen∧∀j s,l[j]? = some s→W.cell? ⟨b,o+j,none⟩=some (.string s)
theorem qhl.later{W W':World}{v:Value}{l:List ByteArray}(h:qhl W v l)(hb:Below W.heap.size W W'):qhl W' v l:=by
 obtain⟨b,o,c,h1,h2,h3,h4⟩:=h;refine⟨b,o,c,h1,h2,h3,fun j s hj => ?_⟩;rw[hb.cell (World.block_lt_of_cell? W _ (h4 j s hj))];exact h4 j s hj
end Go.Proofs.YthjagoogkkgelaaGreatDoor
