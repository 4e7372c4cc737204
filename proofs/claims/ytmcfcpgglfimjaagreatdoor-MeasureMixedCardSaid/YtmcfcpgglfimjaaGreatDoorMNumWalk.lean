/- measure.read: the walk. -/
import Derived.Test.YtmcfcpgglfimjaaGreatDoorMNumRead
set_option linter.all false
namespace Go.Proofs.YtmcfcpgglfimjaaGreatDoor
open Go.RowKit
set_option maxRecDepth 100000
set_option maxHeartbeats 16000000
theorem qd7{P Q:Prop}(h:P)(f:P→Q):Q:=f h
theorem qe7(s:BA)(w:World)(hg:GW w)(hs:s.size≤1073741824):
  Calls Tryz.prog 43 #[.string s] w (qkl s.data.toList w):=by
 obtain⟨a,b,neg,f,R⟩:=qy4 s w hg hs;have aO:=hid (qhe w false (.slice none 0 0) (.slice none 0 0));obtain⟨d,Ow,hcut⟩:=R.leadPart;have pL:=hid Ow;have fU:=hid hcut;clear Ow hcut;have ha63:a.size≤1073741824:=R.short.1;have hb63:b.size≤1073741824:=R.short.2;have An:=hid (fun W hW=>qop (w:=w) a _ rfl W hW);have xE:=hid (fun W hW=>qop (w:=w) b _ rfl W hW);have eY:=hid (q5f R);have iV:=hid (fun(W:World) (v:Value) (hv:qaw W v (qa9 s.data.toList))=>qxc hv (q7t R))
 have HEMP:Hid (f=false→b.data.toList.length=0):=hid fun hf=>by
  have:=q5g (l:=Lib.trimPrefix s.data.toList [45]) (sep:=[47]) (by rw[R.found,hf]);rw[R.bottom] at this;rw[this];rfl
 have HRQ:Hid (qbo a.data.toList=true→(f=true→qbo b.data.toList=true∧b.data.toList≠[48])→∀W,qeu w W→Calls Tryz.prog 41 #[.string s] W fun e w'=>(∃v',e = .returned (.tuple #[v',.bool true])∧qaw w' v' (qa9 s.data.toList))∧qeu w w'):=hid fun h1 h2 W hW=>q5h (w:=w) s R.gw R.size (qy5 R h1 h2) W hW;have nT:=hid (qhi a);have cL:=hid (qhi b);have BAD:∀(k:Nat) (w':World),qah s.data.toList=k→k≠0→Below w.heap.size w w'→qkl s.data.toList w (.returned (.tuple #[.agg #[.bool false,.slice none 0 0,.slice none 0 0],.int .i64 (k:Int)])) w':=fun k w' h1 h2 hb=>q1j (by omega) (by rw[h1]) rfl hb;have jV:=hid BAD;clear BAD R hs;have yH:=hid (show qj6 s.data.toList=(if qbr (qa9 s.data.toList) 600 then(⟨(qa7 (qa9 s.data.toList)).toArray⟩:BA) else⟨#[]⟩).data.toList by unfold qj6;split<;>simp);obtain⟨tx,Dh⟩:∃tx:BA,tx=(if qbr (qa9 s.data.toList) 600 then(⟨(qa7 (qa9 s.data.toList)).toArray⟩:BA) else⟨#[]⟩):=⟨_,rfl⟩;rw[←Dh] at yH;have yI:Hid ((if qbr (qa9 s.data.toList) 600 then(⟨(qa7 (qa9 s.data.toList)).toArray⟩:BA) else⟨#[]⟩)=tx):=hid Dh.symm;obtain⟨fl,Ao⟩:∃fl,fl=qbr (qa9 s.data.toList) 600:=⟨_,rfl⟩;have HFV:Hid (qbr (qa9 s.data.toList) 600=fl):=hid Ao.symm;obtain⟨f',hf'⟩:∃f',f'=f:=⟨_,rfl⟩;have Qi:=hid hf';clear Dh Ao hf';go_enter Tryz.func43,Tryz.ntmps43;cases neg
 all_goals
  go_wp2_with fail;refine(pL.out _).mono ?_;rintro e w1 ⟨rfl,cU⟩;rw[cU];clear cU pL;cases f
 all_goals
  go_wp2_with fail;refine(fU.out _ aO.out).mono ?_;rintro e w2 ⟨rfl,hr⟩;have HR:=hid hr;clear hr fU aO;go_wp2_with fail;refine(An.out _ HR.out).mono ?_;rintro e w3 ⟨rfl,hr⟩;clear HR An;have HR:=hid hr;clear hr;cases h:qbo a.data.toList<;>cases hz:(a.data.toList==[48])
 all_goals first
  | (have dL:=qoq hz;have hs5:=qan dL)
  | have dL:=qmi hz
 all_goals try(
  refine qd7 (P:=qah s.data.toList=1) ?_ ?_
  ·(rw[eY.out];simp[h,hz])
  intro hk;have HK:=hid hk;clear hk;obtain⟨⟨r0,g0⟩,⟨r1,g1⟩,⟨r2,g2⟩⟩:=qc8 HR.out;have aG:=hid (qax HR.out.1 (qac w.heap.size) (.bool false) (.slice none 0 0) (.slice none 0 0));clear HR;go_wp2_with fail;refine bodyPost_ret (v := .tuple #[.agg #[.bool false,.slice none 0 0,.slice none 0 0],.int .i64 1]) ?_ rfl ?_
  ·simp[results,Tryz.results43,go_sem,r0,r1,r2]
  ·exact jV.out 1 _ HK.out (by decide) aG.out)
 all_goals try(
  have hgf:f'=true:=Qi.out;clear hgf;go_wp2_with fail;refine(xE.out _ HR.out).mono ?_;rintro e w3 ⟨rfl,hr⟩;clear HR xE;have HR:=hid hr;clear hr;cases hp:qbo b.data.toList<;>cases eE:(b.data.toList==[48])<;>cases aY:(b.data.toList==[49])
  all_goals first
   | (have fN:=qoq eE;have hs6:=qan fN)
   | have fN:=qmi eE
  all_goals first
   | (have tN:=qoq aY;have hs7:=qan tN)
   | have tN:=qmi aY)
 all_goals try(
  refine qd7 (P:=qah s.data.toList=1) ?_ ?_
  ·(rw[eY.out];simp[h,hz,hp,eE,aY])
  intro hk;have HK:=hid hk;clear hk;obtain⟨⟨r0,g0⟩,⟨r1,g1⟩,⟨r2,g2⟩⟩:=qc8 HR.out;have aG:=hid (qax HR.out.1 (qac w.heap.size) (.bool false) (.slice none 0 0) (.slice none 0 0));clear HR;go_wp2_with fail;refine bodyPost_ret (v := .tuple #[.agg #[.bool false,.slice none 0 0,.slice none 0 0],.int .i64 1]) ?_ rfl ?_
  ·simp[results,Tryz.results43,go_sem,r0,r1,r2]
  ·exact jV.out 1 _ HK.out (by decide) aG.out)
 all_goals
  by_cases cX:600<a.size<;>by_cases cS:600<b.size
 all_goals try(exfalso;have:=HEMP.out (by first|rfl|trivial);have:=cL.out;omega)
 all_goals
  have xP:=cX;clear xP
 all_goals try(
  refine qd7 (P:=qah s.data.toList=4) ?_ ?_
  ·(rw[eY.out,nT.out,cL.out];simp[h,hz,cX,cS])
  intro hk;have HK:=hid hk;clear hk;obtain⟨⟨r0,g0⟩,⟨r1,g1⟩,⟨r2,g2⟩⟩:=qc8 HR.out;have aG:=hid (qax HR.out.1 (qac w.heap.size) (.bool false) (.slice none 0 0) (.slice none 0 0));clear HR;go_wp2_with fail;refine bodyPost_ret (v := .tuple #[.agg #[.bool false,.slice none 0 0,.slice none 0 0],.int .i64 4]) ?_ rfl ?_
  ·simp[results,Tryz.results43,go_sem,r0,r1,r2]
  ·exact jV.out 4 _ HK.out (by decide) aG.out)
 all_goals try(
  refine qd7 (P:=qah s.data.toList=4) ?_ ?_
  ·(rw[eY.out,nT.out,cL.out];simp[h,hz,hp,eE,aY,cX,cS])
  intro hk;have HK:=hid hk;clear hk;obtain⟨⟨r0,g0⟩,⟨r1,g1⟩,⟨r2,g2⟩⟩:=qc8 HR.out;have aG:=hid (qax HR.out.1 (qac w.heap.size) (.bool false) (.slice none 0 0) (.slice none 0 0));clear HR;go_wp2_with fail;refine bodyPost_ret (v := .tuple #[.agg #[.bool false,.slice none 0 0,.slice none 0 0],.int .i64 4]) ?_ rfl ?_
  ·simp[results,Tryz.results43,go_sem,r0,r1,r2]
  ·exact jV.out 4 _ HK.out (by decide) aG.out)
 all_goals
  have cH:Hid (∀W,qeu w W→Calls Tryz.prog 41 #[.string s] W fun e w'=>(∃v',e = .returned (.tuple #[v',.bool true])∧qaw w' v' (qa9 s.data.toList))∧qeu w w'):=hid (by
   first
    | exact HRQ.out h (fun _=>⟨hp,beq_eq_false_iff_ne.1 eE⟩)
    | exact HRQ.out h (by intro e;cases e)
    | exact HRQ.out h trivial)
  have uM:Hid (qah s.data.toList=if qj6 s.data.toList=s.data.toList then 0 else 1):=hid (by
   rw[eY.out,nT.out,cL.out]
   first
    | (simp[h,hz,cX,cS];done)
    | (simp[h,hz,hp,eE,aY,cX,cS];done))
  clear HRQ eY;go_wp2_with fail;refine(cH.out _ HR.out).mono ?_;rintro e w9 ⟨⟨v9,rfl,hv⟩,hr⟩;clear HR cH;have HR:=hid hr;have HV:=hid hv;obtain⟨pt,kt,ct,pf,kf,cf,rfl,eL,dO⟩:=hv.parts;clear hr hv eL dO;have aT:=qqm w9 (decide ((qa9 s.data.toList).num<0)) (.slice pt kt ct) (.slice pf kf cf);have aD:Below w9.heap.size w9 (w9.alloc (.cells #[.bool (decide ((qa9 s.data.toList).num<0)),.slice pt kt ct,.slice pf kf cf] 85)):=qad _ _;have pQ:=hid (iV.out (w9.alloc (.cells #[.bool (decide ((qa9 s.data.toList).num<0)),.slice pt kt ct,.slice pf kf cf] 85)) _ (HV.out.later aD));have dK:=hid aD;have bE:=hid aT;have hsz9:w.heap.size<w9.heap.size:=HR.out.2.1;rw[yI.out,HFV.out] at pQ;generalize decide ((qa9 s.data.toList).num<0)=sg at *;clear aT aD iV yI;go_wp2_with fail;refine pQ.out.mono ?_;rintro e w10 ⟨rfl,hb⟩;have oS:=hid ((HR.out.later dK.out).later hb);have It:Hid (Own w10 w9.heap.size 3 (qcr sg (.slice pt kt ct) (.slice pf kf cf))):=hid (bE.out.later (hb.mono bE.out.1));have Iu:=hid ((HV.out.later dK.out).later hb);clear hb pQ HR HV bE dK;obtain⟨⟨r0,g0⟩,⟨r1,g1⟩,⟨r2,g2⟩⟩:=qc8 oS.out;by_cases he:qj6 s.data.toList=s.data.toList
  ·have pZ:tx=s:=q5e (yH.out.symm.trans he)
   have eY:Hid (qah s.data.toList=0):=hid (by rw[uM.out,if_pos he]);clear he yH uM;subst pZ;obtain⟨x0,x1,x2⟩:=qbs It.out;have aF:=hid (qb6 Iu.out r0 r1 r2);have aG:=hid (qax oS.out.1 (qac w.heap.size) (.bool sg) (.slice pt kt ct) (.slice pf kf cf));clear oS It Iu;go_wp2_with fail;refine bodyPost_ret (v := .tuple #[.agg #[.bool sg,.slice pt kt ct,.slice pf kf cf],.int .i64 0]) ?_ rfl ?_
   ·simp[results,Tryz.results43,go_sem,r0,r1,r2]
   ·exact q5d eY.out rfl aF.out aG.out
  ·have hs4:¬tx.toList=s.toList:=fun e=>he (by rw[ByteArray.toList_eq,ByteArray.toList_eq,←yH.out] at e;exact e)
   have hs8:(!tx.toList==s.toList)=true:=by rw[qan hs4];rfl
   have eY:Hid (qah s.data.toList=1):=hid (by rw[uM.out,if_neg he]);have aG:=hid (qax oS.out.1 (qac w.heap.size) (.bool false) (.slice none 0 0) (.slice none 0 0));clear he yH uM oS It Iu;go_wp2_with fail;refine bodyPost_ret (v := .tuple #[.agg #[.bool false,.slice none 0 0,.slice none 0 0],.int .i64 1]) ?_ rfl ?_
   ·simp[results,Tryz.results43,go_sem,r0,r1,r2]
   ·exact jV.out 1 _ eY.out (by decide) aG.out
end Go.Proofs.YtmcfcpgglfimjaaGreatDoor
