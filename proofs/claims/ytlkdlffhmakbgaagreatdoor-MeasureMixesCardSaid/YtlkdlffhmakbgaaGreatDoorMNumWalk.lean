/- measure.read: the walk. -/
import Derived.Test.YtlkdlffhmakbgaaGreatDoorMNumRead
set_option linter.all false
namespace Go.Proofs.YtlkdlffhmakbgaaGreatDoor
open Go.RowKit
set_option maxRecDepth 100000
set_option maxHeartbeats 16000000
theorem qea{P Q:Prop}(h:P)(f:P→Q):Q:=f h
theorem qe8(s:BA)(w:World)(hg:GW w)(hs:s.size≤1073741824):
  Calls Tryz.prog 45 #[.string s] w (qkm s.data.toList w):=by
 obtain⟨a,b,neg,f,R⟩:=qy5 s w hg hs;have aM:=hid (qha w false (.slice none 0 0) (.slice none 0 0));obtain⟨d,Pz,hcut⟩:=R.leadPart;have qH:=hid Pz;have gC:=hid hcut;clear Pz hcut;have ha63:a.size≤1073741824:=R.short.1;have hb63:b.size≤1073741824:=R.short.2;have Bq:=hid (fun W hW=>qow (w:=w) a _ rfl W hW);have yC:=hid (fun W hW=>qow (w:=w) b _ rfl W hW);have eX:=hid (q46 R);have iI:=hid (fun(W:World) (v:Value) (hv:qau W v (qbc s.data.toList))=>qw9 hv (q7k R))
 have HEMP:Hid (f=false→b.data.toList.length=0):=hid fun hf=>by
  have:=q47 (l:=Lib.trimPrefix s.data.toList [45]) (sep:=[47]) (by rw[R.found,hf]);rw[R.bottom] at this;rw[this];rfl
 have HRQ:Hid (qbs a.data.toList=true→(f=true→qbs b.data.toList=true∧b.data.toList≠[48])→∀W,qe1 w W→Calls Tryz.prog 43 #[.string s] W fun e w'=>(∃v',e = .returned (.tuple #[v',.bool true])∧qau w' v' (qbc s.data.toList))∧qe1 w w'):=hid fun h1 h2 W hW=>q48 (w:=w) s R.gw R.size (qy6 R h1 h2) W hW;have oL:=hid (qhe a);have cP:=hid (qhe b);have BAD:∀(k:Nat) (w':World),qah s.data.toList=k→k≠0→Below w.heap.size w w'→qkm s.data.toList w (.returned (.tuple #[.agg #[.bool false,.slice none 0 0,.slice none 0 0],.int .i64 (k:Int)])) w':=fun k w' h1 h2 hb=>q1g (by omega) (by rw[h1]) rfl hb;have kP:=hid BAD;clear BAD R hs;have zF:=hid (show qlg s.data.toList=(if qby (qbc s.data.toList) 600 then(⟨(qa2 (qbc s.data.toList)).toArray⟩:BA) else⟨#[]⟩).data.toList by unfold qlg;split<;>simp);obtain⟨tx,Fr⟩:∃tx:BA,tx=(if qby (qbc s.data.toList) 600 then(⟨(qa2 (qbc s.data.toList)).toArray⟩:BA) else⟨#[]⟩):=⟨_,rfl⟩;rw[←Fr] at zF;have zG:Hid ((if qby (qbc s.data.toList) 600 then(⟨(qa2 (qbc s.data.toList)).toArray⟩:BA) else⟨#[]⟩)=tx):=hid Fr.symm;obtain⟨fl,Br⟩:∃fl,fl=qby (qbc s.data.toList) 600:=⟨_,rfl⟩;have HFV:Hid (qby (qbc s.data.toList) 600=fl):=hid Br.symm;obtain⟨f',hf'⟩:∃f',f'=f:=⟨_,rfl⟩;have Qa:=hid hf';clear Fr Br hf';go_enter Tryz.func45,Tryz.ntmps45;cases neg
 all_goals
  go_wp2_with fail;refine(qH.out _).mono ?_;rintro e w1 ⟨rfl,cY⟩;rw[cY];clear cY qH;cases f
 all_goals
  go_wp2_with fail;refine(gC.out _ aM.out).mono ?_;rintro e w2 ⟨rfl,hr⟩;have HR:=hid hr;clear hr gC aM;go_wp2_with fail;refine(Bq.out _ HR.out).mono ?_;rintro e w3 ⟨rfl,hr⟩;clear HR Bq;have HR:=hid hr;clear hr;cases h:qbs a.data.toList<;>cases hz:(a.data.toList==[48])
 all_goals first
  | (have dO:=qox hz;have hs5:=qam dO)
  | have dO:=qmp hz
 all_goals try(
  refine qea (P:=qah s.data.toList=1) ?_ ?_
  ·(rw[eX.out];simp[h,hz])
  intro hk;have HK:=hid hk;clear hk;obtain⟨⟨r0,g0⟩,⟨r1,g1⟩,⟨r2,g2⟩⟩:=qdd HR.out;have aG:=hid (qaw HR.out.1 (qac w.heap.size) (.bool false) (.slice none 0 0) (.slice none 0 0));clear HR;go_wp2_with fail;refine bodyPost_ret (v := .tuple #[.agg #[.bool false,.slice none 0 0,.slice none 0 0],.int .i64 1]) ?_ rfl ?_
  ·simp[results,Tryz.results45,go_sem,r0,r1,r2]
  ·exact kP.out 1 _ HK.out (by decide) aG.out)
 all_goals try(
  have hgf:f'=true:=Qa.out;clear hgf;go_wp2_with fail;refine(yC.out _ HR.out).mono ?_;rintro e w3 ⟨rfl,hr⟩;clear HR yC;have HR:=hid hr;clear hr;cases hp:qbs b.data.toList<;>cases dS:(b.data.toList==[48])<;>cases aZ:(b.data.toList==[49])
  all_goals first
   | (have fS:=qox dS;have hs6:=qam fS)
   | have fS:=qmp dS
  all_goals first
   | (have uF:=qox aZ;have hs7:=qam uF)
   | have uF:=qmp aZ)
 all_goals try(
  refine qea (P:=qah s.data.toList=1) ?_ ?_
  ·(rw[eX.out];simp[h,hz,hp,dS,aZ])
  intro hk;have HK:=hid hk;clear hk;obtain⟨⟨r0,g0⟩,⟨r1,g1⟩,⟨r2,g2⟩⟩:=qdd HR.out;have aG:=hid (qaw HR.out.1 (qac w.heap.size) (.bool false) (.slice none 0 0) (.slice none 0 0));clear HR;go_wp2_with fail;refine bodyPost_ret (v := .tuple #[.agg #[.bool false,.slice none 0 0,.slice none 0 0],.int .i64 1]) ?_ rfl ?_
  ·simp[results,Tryz.results45,go_sem,r0,r1,r2]
  ·exact kP.out 1 _ HK.out (by decide) aG.out)
 all_goals
  by_cases dF:600<a.size<;>by_cases cS:600<b.size
 all_goals try(exfalso;have:=HEMP.out (by first|rfl|trivial);have:=cP.out;omega)
 all_goals
  have vJ:=dF;clear vJ
 all_goals try(
  refine qea (P:=qah s.data.toList=4) ?_ ?_
  ·(rw[eX.out,oL.out,cP.out];simp[h,hz,dF,cS])
  intro hk;have HK:=hid hk;clear hk;obtain⟨⟨r0,g0⟩,⟨r1,g1⟩,⟨r2,g2⟩⟩:=qdd HR.out;have aG:=hid (qaw HR.out.1 (qac w.heap.size) (.bool false) (.slice none 0 0) (.slice none 0 0));clear HR;go_wp2_with fail;refine bodyPost_ret (v := .tuple #[.agg #[.bool false,.slice none 0 0,.slice none 0 0],.int .i64 4]) ?_ rfl ?_
  ·simp[results,Tryz.results45,go_sem,r0,r1,r2]
  ·exact kP.out 4 _ HK.out (by decide) aG.out)
 all_goals try(
  refine qea (P:=qah s.data.toList=4) ?_ ?_
  ·(rw[eX.out,oL.out,cP.out];simp[h,hz,hp,dS,aZ,dF,cS])
  intro hk;have HK:=hid hk;clear hk;obtain⟨⟨r0,g0⟩,⟨r1,g1⟩,⟨r2,g2⟩⟩:=qdd HR.out;have aG:=hid (qaw HR.out.1 (qac w.heap.size) (.bool false) (.slice none 0 0) (.slice none 0 0));clear HR;go_wp2_with fail;refine bodyPost_ret (v := .tuple #[.agg #[.bool false,.slice none 0 0,.slice none 0 0],.int .i64 4]) ?_ rfl ?_
  ·simp[results,Tryz.results45,go_sem,r0,r1,r2]
  ·exact kP.out 4 _ HK.out (by decide) aG.out)
 all_goals
  have cJ:Hid (∀W,qe1 w W→Calls Tryz.prog 43 #[.string s] W fun e w'=>(∃v',e = .returned (.tuple #[v',.bool true])∧qau w' v' (qbc s.data.toList))∧qe1 w w'):=hid (by
   first
    | exact HRQ.out h (fun _=>⟨hp,beq_eq_false_iff_ne.1 dS⟩)
    | exact HRQ.out h (by intro e;cases e)
    | exact HRQ.out h trivial)
  have xI:Hid (qah s.data.toList=if qlg s.data.toList=s.data.toList then 0 else 1):=hid (by
   rw[eX.out,oL.out,cP.out]
   first
    | (simp[h,hz,dF,cS];done)
    | (simp[h,hz,hp,dS,aZ,dF,cS];done))
  clear HRQ eX;go_wp2_with fail;refine(cJ.out _ HR.out).mono ?_;rintro e w9 ⟨⟨v9,rfl,hv⟩,hr⟩;clear HR cJ;have HR:=hid hr;have HV:=hid hv;obtain⟨pt,kt,ct,pf,kf,cf,rfl,dW,dP⟩:=hv.parts;clear hr hv dW dP;have aU:=qqk w9 (decide ((qbc s.data.toList).num<0)) (.slice pt kt ct) (.slice pf kf cf);have aD:Below w9.heap.size w9 (w9.alloc (.cells #[.bool (decide ((qbc s.data.toList).num<0)),.slice pt kt ct,.slice pf kf cf] 87)):=qad _ _;have qM:=hid (iI.out (w9.alloc (.cells #[.bool (decide ((qbc s.data.toList).num<0)),.slice pt kt ct,.slice pf kf cf] 87)) _ (HV.out.later aD));have cX:=hid aD;have bF:=hid aU;have hsz9:w.heap.size<w9.heap.size:=HR.out.2.1;rw[zG.out,HFV.out] at qM;generalize decide ((qbc s.data.toList).num<0)=sg at *;clear aU aD iI zG;go_wp2_with fail;refine qM.out.mono ?_;rintro e w10 ⟨rfl,hb⟩;have pU:=hid ((HR.out.later cX.out).later hb);have Ix:Hid (Own w10 w9.heap.size 3 (qcs sg (.slice pt kt ct) (.slice pf kf cf))):=hid (bF.out.later (hb.mono bF.out.1));have Iy:=hid ((HV.out.later cX.out).later hb);clear hb qM HR HV bF cX;obtain⟨⟨r0,g0⟩,⟨r1,g1⟩,⟨r2,g2⟩⟩:=qdd pU.out;by_cases he:qlg s.data.toList=s.data.toList
  ·have rB:tx=s:=q45 (zF.out.symm.trans he)
   have eX:Hid (qah s.data.toList=0):=hid (by rw[xI.out,if_pos he]);clear he zF xI;subst rB;obtain⟨x0,x1,x2⟩:=qbt Ix.out;have aF:=hid (qb5 Iy.out r0 r1 r2);have aG:=hid (qaw pU.out.1 (qac w.heap.size) (.bool sg) (.slice pt kt ct) (.slice pf kf cf));clear pU Ix Iy;go_wp2_with fail;refine bodyPost_ret (v := .tuple #[.agg #[.bool sg,.slice pt kt ct,.slice pf kf cf],.int .i64 0]) ?_ rfl ?_
   ·simp[results,Tryz.results45,go_sem,r0,r1,r2]
   ·exact q44 eX.out rfl aF.out aG.out
  ·have hs4:¬tx.toList=s.toList:=fun e=>he (by rw[ByteArray.toList_eq,ByteArray.toList_eq,←zF.out] at e;exact e)
   have hs8:(!tx.toList==s.toList)=true:=by rw[qam hs4];rfl
   have eX:Hid (qah s.data.toList=1):=hid (by rw[xI.out,if_neg he]);have aG:=hid (qaw pU.out.1 (qac w.heap.size) (.bool false) (.slice none 0 0) (.slice none 0 0));clear he zF xI pU Ix Iy;go_wp2_with fail;refine bodyPost_ret (v := .tuple #[.agg #[.bool false,.slice none 0 0,.slice none 0 0],.int .i64 1]) ?_ rfl ?_
   ·simp[results,Tryz.results45,go_sem,r0,r1,r2]
   ·exact kP.out 1 _ eX.out (by decide) aG.out
end Go.Proofs.YtlkdlffhmakbgaaGreatDoor
