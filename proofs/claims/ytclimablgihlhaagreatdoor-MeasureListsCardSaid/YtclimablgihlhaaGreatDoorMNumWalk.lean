/- measure.read: the walk. -/
import Derived.Test.YtclimablgihlhaaGreatDoorMNumRead
set_option linter.all false
namespace Go.Proofs.YtclimablgihlhaaGreatDoor
open Go.RowKit
set_option maxRecDepth 100000
set_option maxHeartbeats 16000000
theorem qdz{P Q:Prop}(h:P)(f:P→Q):Q:=f h
theorem qe1(s:BA)(w:World)(hg:GW w)(hs:s.size≤1073741824):
  Calls Tryz.prog 51 #[.string s] w (qkc s.data.toList w):=by
 obtain⟨a,b,neg,f,R⟩:=qx9 s w hg hs;have aO:=hid (qhc w false (.slice none 0 0) (.slice none 0 0));obtain⟨d,Sg,hcut⟩:=R.leadPart;have qQ:=hid Sg;have gM:=hid hcut;clear Sg hcut;have ha63:a.size≤1073741824:=R.short.1;have hb63:b.size≤1073741824:=R.short.2;have Dg:=hid (fun W hW=>qok (w:=w) a _ rfl W hW);have zR:=hid (fun W hW=>qok (w:=w) b _ rfl W hW);have gN:=hid (q4f R);have iW:=hid (fun(W:World) (v:Value) (hv:qaj W v (qav s.data.toList))=>qwq hv (q7b R))
 have HEMP:Hid (f=false→b.data.toList.length=0):=hid fun hf=>by
  have:=q4g (l:=Lib.trimPrefix s.data.toList [45]) (sep:=[47]) (by rw[R.found,hf]);rw[R.bottom] at this;rw[this];rfl
 have HRQ:Hid (qbd a.data.toList=true→(f=true→qbd b.data.toList=true∧b.data.toList≠[48])→∀W,qer w W→Calls Tryz.prog 49 #[.string s] W fun e w'=>(∃v',e = .returned (.tuple #[v',.bool true])∧qaj w' v' (qav s.data.toList))∧qer w w'):=hid fun h1 h2 W hW=>q4h (w:=w) s R.gw R.size (qya R h1 h2) W hW;have oU:=hid (qhg a);have cQ:=hid (qhg b);have BAD:∀(k:Nat) (w':World),qaa s.data.toList=k→k≠0→Below w.heap.size w w'→qkc s.data.toList w (.returned (.tuple #[.agg #[.bool false,.slice none 0 0,.slice none 0 0],.int .i64 (k:Int)])) w':=fun k w' h1 h2 hb=>q0m (by omega) (by rw[h1]) rfl hb;have nM:=hid BAD;clear BAD R hs;have Ar:=hid (show qk7 s.data.toList=(if qa3 (qav s.data.toList) 600 then(⟨(qat (qav s.data.toList)).toArray⟩:BA) else⟨#[]⟩).data.toList by unfold qk7;split<;>simp);obtain⟨tx,Hb⟩:∃tx:BA,tx=(if qa3 (qav s.data.toList) 600 then(⟨(qat (qav s.data.toList)).toArray⟩:BA) else⟨#[]⟩):=⟨_,rfl⟩;rw[←Hb] at Ar;have As:Hid ((if qa3 (qav s.data.toList) 600 then(⟨(qat (qav s.data.toList)).toArray⟩:BA) else⟨#[]⟩)=tx):=hid Hb.symm;obtain⟨fl,Dh⟩:∃fl,fl=qa3 (qav s.data.toList) 600:=⟨_,rfl⟩;have HFV:Hid (qa3 (qav s.data.toList) 600=fl):=hid Dh.symm;obtain⟨f',hf'⟩:∃f',f'=f:=⟨_,rfl⟩;have Sh:=hid hf';clear Hb Dh hf';go_enter Tryz.func51,Tryz.ntmps51;cases neg
 all_goals
  go_wp2_with fail;refine(qQ.out _).mono ?_;rintro e w1 ⟨rfl,dI⟩;rw[dI];clear dI qQ;cases f
 all_goals
  go_wp2_with fail;refine(gM.out _ aO.out).mono ?_;rintro e w2 ⟨rfl,hr⟩;have HR:=hid hr;clear hr gM aO;go_wp2_with fail;refine(Dg.out _ HR.out).mono ?_;rintro e w3 ⟨rfl,hr⟩;clear HR Dg;have HR:=hid hr;clear hr;cases h:qbd a.data.toList<;>cases hz:(a.data.toList==[48])
 all_goals first
  | (have eW:=qol hz;have hs5:=zat eW)
  | have eW:=qma hz
 all_goals try(
  refine qdz (P:=qaa s.data.toList=1) ?_ ?_
  ·(rw[gN.out];simp[h,hz])
  intro hk;have HK:=hid hk;clear hk;obtain⟨⟨r0,g0⟩,⟨r1,g1⟩,⟨r2,g2⟩⟩:=qcr HR.out;have aH:=hid (qai HR.out.1 (zap w.heap.size) (.bool false) (.slice none 0 0) (.slice none 0 0));clear HR;go_wp2_with fail;refine bodyPost_ret (v := .tuple #[.agg #[.bool false,.slice none 0 0,.slice none 0 0],.int .i64 1]) ?_ rfl ?_
  ·simp[results,Tryz.results51,go_sem,r0,r1,r2]
  ·exact nM.out 1 _ HK.out (by decide) aH.out)
 all_goals try(
  have hgf:f'=true:=Sh.out;clear hgf;go_wp2_with fail;refine(zR.out _ HR.out).mono ?_;rintro e w3 ⟨rfl,hr⟩;clear HR zR;have HR:=hid hr;clear hr;cases hp:qbd b.data.toList<;>cases dL:(b.data.toList==[48])<;>cases bB:(b.data.toList==[49])
  all_goals first
   | (have jF:=qol dL;have hs6:=zat jF)
   | have jF:=qma dL
  all_goals first
   | (have lH:=qol bB;have hs7:=zat lH)
   | have lH:=qma bB)
 all_goals try(
  refine qdz (P:=qaa s.data.toList=1) ?_ ?_
  ·(rw[gN.out];simp[h,hz,hp,dL,bB])
  intro hk;have HK:=hid hk;clear hk;obtain⟨⟨r0,g0⟩,⟨r1,g1⟩,⟨r2,g2⟩⟩:=qcr HR.out;have aH:=hid (qai HR.out.1 (zap w.heap.size) (.bool false) (.slice none 0 0) (.slice none 0 0));clear HR;go_wp2_with fail;refine bodyPost_ret (v := .tuple #[.agg #[.bool false,.slice none 0 0,.slice none 0 0],.int .i64 1]) ?_ rfl ?_
  ·simp[results,Tryz.results51,go_sem,r0,r1,r2]
  ·exact nM.out 1 _ HK.out (by decide) aH.out)
 all_goals
  by_cases dJ:600<a.size<;>by_cases dG:600<b.size
 all_goals try(exfalso;have:=HEMP.out (by first|rfl|trivial);have:=cQ.out;omega)
 all_goals
  have Aa:=dJ;clear Aa
 all_goals try(
  refine qdz (P:=qaa s.data.toList=4) ?_ ?_
  ·(rw[gN.out,oU.out,cQ.out];simp[h,hz,dJ,dG])
  intro hk;have HK:=hid hk;clear hk;obtain⟨⟨r0,g0⟩,⟨r1,g1⟩,⟨r2,g2⟩⟩:=qcr HR.out;have aH:=hid (qai HR.out.1 (zap w.heap.size) (.bool false) (.slice none 0 0) (.slice none 0 0));clear HR;go_wp2_with fail;refine bodyPost_ret (v := .tuple #[.agg #[.bool false,.slice none 0 0,.slice none 0 0],.int .i64 4]) ?_ rfl ?_
  ·simp[results,Tryz.results51,go_sem,r0,r1,r2]
  ·exact nM.out 4 _ HK.out (by decide) aH.out)
 all_goals try(
  refine qdz (P:=qaa s.data.toList=4) ?_ ?_
  ·(rw[gN.out,oU.out,cQ.out];simp[h,hz,hp,dL,bB,dJ,dG])
  intro hk;have HK:=hid hk;clear hk;obtain⟨⟨r0,g0⟩,⟨r1,g1⟩,⟨r2,g2⟩⟩:=qcr HR.out;have aH:=hid (qai HR.out.1 (zap w.heap.size) (.bool false) (.slice none 0 0) (.slice none 0 0));clear HR;go_wp2_with fail;refine bodyPost_ret (v := .tuple #[.agg #[.bool false,.slice none 0 0,.slice none 0 0],.int .i64 4]) ?_ rfl ?_
  ·simp[results,Tryz.results51,go_sem,r0,r1,r2]
  ·exact nM.out 4 _ HK.out (by decide) aH.out)
 all_goals
  have cM:Hid (∀W,qer w W→Calls Tryz.prog 49 #[.string s] W fun e w'=>(∃v',e = .returned (.tuple #[v',.bool true])∧qaj w' v' (qav s.data.toList))∧qer w w'):=hid (by
   first
    | exact HRQ.out h (fun _=>⟨hp,beq_eq_false_iff_ne.1 dL⟩)
    | exact HRQ.out h (by intro e;cases e)
    | exact HRQ.out h trivial)
  have yO:Hid (qaa s.data.toList=if qk7 s.data.toList=s.data.toList then 0 else 1):=hid (by
   rw[gN.out,oU.out,cQ.out]
   first
    | (simp[h,hz,dJ,dG];done)
    | (simp[h,hz,hp,dL,bB,dJ,dG];done))
  clear HRQ gN;go_wp2_with fail;refine(cM.out _ HR.out).mono ?_;rintro e w9 ⟨⟨v9,rfl,hv⟩,hr⟩;clear HR cM;have HR:=hid hr;have HV:=hid hv;obtain⟨pt,kt,ct,pf,kf,cf,rfl,eR,dZ⟩:=hv.parts;clear hr hv eR dZ;have bG:=qp7 w9 (decide ((qav s.data.toList).num<0)) (.slice pt kt ct) (.slice pf kf cf);have aD:Below w9.heap.size w9 (w9.alloc (.cells #[.bool (decide ((qav s.data.toList).num<0)),.slice pt kt ct,.slice pf kf cf] 74)):=zam _ _;have qT:=hid (iW.out (w9.alloc (.cells #[.bool (decide ((qav s.data.toList).num<0)),.slice pt kt ct,.slice pf kf cf] 74)) _ (HV.out.later aD));have eI:=hid aD;have bL:=hid bG;have hsz9:w.heap.size<w9.heap.size:=HR.out.2.1;rw[As.out,HFV.out] at qT;generalize decide ((qav s.data.toList).num<0)=sg at *;clear bG aD iW As;go_wp2_with fail;refine qT.out.mono ?_;rintro e w10 ⟨rfl,hb⟩;have qD:=hid ((HR.out.later eI.out).later hb);have Kq:Hid (Own w10 w9.heap.size 3 (qci sg (.slice pt kt ct) (.slice pf kf cf))):=hid (bL.out.later (hb.mono bL.out.1));have Kr:=hid ((HV.out.later eI.out).later hb);clear hb qT HR HV bL eI;obtain⟨⟨r0,g0⟩,⟨r1,g1⟩,⟨r2,g2⟩⟩:=qcr qD.out;by_cases he:qk7 s.data.toList=s.data.toList
  ·have rQ:tx=s:=q4e (Ar.out.symm.trans he)
   have gN:Hid (qaa s.data.toList=0):=hid (by rw[yO.out,if_pos he]);clear he Ar yO;subst rQ;obtain⟨x0,x1,x2⟩:=qbe Kq.out;have aG:=hid (qbc Kr.out r0 r1 r2);have aH:=hid (qai qD.out.1 (zap w.heap.size) (.bool sg) (.slice pt kt ct) (.slice pf kf cf));clear qD Kq Kr;go_wp2_with fail;refine bodyPost_ret (v := .tuple #[.agg #[.bool sg,.slice pt kt ct,.slice pf kf cf],.int .i64 0]) ?_ rfl ?_
   ·simp[results,Tryz.results51,go_sem,r0,r1,r2]
   ·exact q4d gN.out rfl aG.out aH.out
  ·have hs4:¬tx.toList=s.toList:=fun e=>he (by rw[ByteArray.toList_eq,ByteArray.toList_eq,←Ar.out] at e;exact e)
   have hs8:(!tx.toList==s.toList)=true:=by rw[zat hs4];rfl
   have gN:Hid (qaa s.data.toList=1):=hid (by rw[yO.out,if_neg he]);have aH:=hid (qai qD.out.1 (zap w.heap.size) (.bool false) (.slice none 0 0) (.slice none 0 0));clear he Ar yO qD Kq Kr;go_wp2_with fail;refine bodyPost_ret (v := .tuple #[.agg #[.bool false,.slice none 0 0,.slice none 0 0],.int .i64 1]) ?_ rfl ?_
   ·simp[results,Tryz.results51,go_sem,r0,r1,r2]
   ·exact nM.out 1 _ gN.out (by decide) aH.out
end Go.Proofs.YtclimablgihlhaaGreatDoor
