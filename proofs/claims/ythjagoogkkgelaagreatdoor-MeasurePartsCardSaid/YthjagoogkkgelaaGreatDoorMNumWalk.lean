/- measure.read: the walk. -/
import Derived.Test.YthjagoogkkgelaaGreatDoorMNumRead
set_option linter.all false
namespace Go.Proofs.YthjagoogkkgelaaGreatDoor
open Go.RowKit
set_option maxRecDepth 100000
set_option maxHeartbeats 16000000
theorem qd5{P Q:Prop}(h:P)(f:P→Q):Q:=f h
theorem qfc(s:ByteArray)(w:World)(hg:GW w)(hs:s.size≤1073741824):
  Calls Tryz.prog 57 #[.string s] w (qky s.data.toList w):=by
 obtain⟨a,b,neg,f,R⟩:=qzo s w hg hs;have HW0:=hid (qht w false (.slice none 0 0) (.slice none 0 0));obtain⟨d,hcp,hcut⟩:=R.leadPart;have HCP:=hid hcp;have HCUT:=hid hcut;clear hcp hcut;have ha63:a.size≤1073741824:=R.short.1;have hb63:b.size≤1073741824:=R.short.2;have HPA:=hid (fun W hW=>qpc (w:=w) a _ rfl W hW);have HPB:=hid (fun W hW=>qpc (w:=w) b _ rfl W hW);have HCK:=hid (q52 R);have HTX:=hid (fun(W:World) (v:Value) (hv:qaj W v (qav s.data.toList))=>qx3 hv (q81 R))
 have HEMP:Hid (f=false→b.data.toList.length=0):=hid fun hf=>by
  have:=q53 (l:=Lib.trimPrefix s.data.toList [45]) (sep:=[47]) (by rw[R.found,hf]);rw[R.bottom] at this;rw[this];rfl
 have HRQ:Hid (qbe a.data.toList=true→(f=true→qbe b.data.toList=true∧b.data.toList≠[48])→∀W,qe1 w W→Calls Tryz.prog 55 #[.string s] W fun e w'=>(∃v',e = .returned (.tuple #[v',.bool true])∧qaj w' v' (qav s.data.toList))∧qe1 w w'):=hid fun h1 h2 W hW=>q54 (w:=w) s R.gw R.size (qzp R h1 h2) W hW;have HSA:=hid (qhx a);have HSB:=hid (qhx b);have BAD:∀(k:Nat) (w':World),qaa s.data.toList=k→k≠0→Below w.heap.size w w'→qky s.data.toList w (.returned (.tuple #[.agg #[.bool false,.slice none 0 0,.slice none 0 0],.int .i64 (k:Int)])) w':=fun k w' h1 h2 hb=>q19 (by omega) (by rw[h1]) rfl hb;have HBAD:=hid BAD;clear BAD R hs;have HTQ:=hid (show qlu s.data.toList=(if qa4 (qav s.data.toList) 600 then(⟨(qat (qav s.data.toList)).toArray⟩:ByteArray) else⟨#[]⟩).data.toList by unfold qlu;split<;>simp);obtain⟨tx,htx⟩:∃tx:ByteArray,tx=(if qa4 (qav s.data.toList) 600 then(⟨(qat (qav s.data.toList)).toArray⟩:ByteArray) else⟨#[]⟩):=⟨_,rfl⟩;rw[←htx] at HTQ;have HTV:Hid ((if qa4 (qav s.data.toList) 600 then(⟨(qat (qav s.data.toList)).toArray⟩:ByteArray) else⟨#[]⟩)=tx):=hid htx.symm;obtain⟨fl,hfl⟩:∃fl,fl=qa4 (qav s.data.toList) 600:=⟨_,rfl⟩;have HFV:Hid (qa4 (qav s.data.toList) 600=fl):=hid hfl.symm;obtain⟨f',hf'⟩:∃f',f'=f:=⟨_,rfl⟩;have HFF:=hid hf';clear htx hfl hf';go_enter Tryz.func57,Tryz.ntmps57;cases neg
 all_goals
  go_wp2_with fail;refine(HCP.out _).mono ?_;rintro e w1 ⟨rfl,hw1⟩;rw[hw1];clear hw1 HCP;cases f
 all_goals
  go_wp2_with fail;refine(HCUT.out _ HW0.out).mono ?_;rintro e w2 ⟨rfl,hr⟩;have HR:=hid hr;clear hr HCUT HW0;go_wp2_with fail;refine(HPA.out _ HR.out).mono ?_;rintro e w3 ⟨rfl,hr⟩;clear HR HPA;have HR:=hid hr;clear hr;cases h:qbe a.data.toList<;>cases hz:(a.data.toList==[48])
 all_goals first
  | (have hs1:=qpd hz;have hs5:=beq_eq_false_iff_ne.2 hs1)
  | have hs1:=qm1 hz
 all_goals try(
  refine qd5 (P:=qaa s.data.toList=1) ?_ ?_
  ·(rw[HCK.out];simp[h,hz])
  intro hk;have HK:=hid hk;clear hk;obtain⟨⟨r0,g0⟩,⟨r1,g1⟩,⟨r2,g2⟩⟩:=qcv HR.out;have HBEL:=hid (qai HR.out.1 (Nat.le_refl w.heap.size) (.bool false) (.slice none 0 0) (.slice none 0 0));clear HR;go_wp2_with fail;refine bodyPost_ret (v := .tuple #[.agg #[.bool false,.slice none 0 0,.slice none 0 0],.int .i64 1]) ?_ rfl ?_
  ·simp[results,Tryz.results57,go_sem,r0,r1,r2]
  ·exact HBAD.out 1 _ HK.out (by decide) HBEL.out)
 all_goals try(
  have hgf:f'=true:=HFF.out;clear hgf;go_wp2_with fail;refine(HPB.out _ HR.out).mono ?_;rintro e w3 ⟨rfl,hr⟩;clear HR HPB;have HR:=hid hr;clear hr;cases hp:qbe b.data.toList<;>cases hb0:(b.data.toList==[48])<;>cases hb1:(b.data.toList==[49])
  all_goals first
   | (have hs2:=qpd hb0;have hs6:=beq_eq_false_iff_ne.2 hs2)
   | have hs2:=qm1 hb0
  all_goals first
   | (have hs3:=qpd hb1;have hs7:=beq_eq_false_iff_ne.2 hs3)
   | have hs3:=qm1 hb1)
 all_goals try(
  refine qd5 (P:=qaa s.data.toList=1) ?_ ?_
  ·(rw[HCK.out];simp[h,hz,hp,hb0,hb1])
  intro hk;have HK:=hid hk;clear hk;obtain⟨⟨r0,g0⟩,⟨r1,g1⟩,⟨r2,g2⟩⟩:=qcv HR.out;have HBEL:=hid (qai HR.out.1 (Nat.le_refl w.heap.size) (.bool false) (.slice none 0 0) (.slice none 0 0));clear HR;go_wp2_with fail;refine bodyPost_ret (v := .tuple #[.agg #[.bool false,.slice none 0 0,.slice none 0 0],.int .i64 1]) ?_ rfl ?_
  ·simp[results,Tryz.results57,go_sem,r0,r1,r2]
  ·exact HBAD.out 1 _ HK.out (by decide) HBEL.out)
 all_goals
  by_cases hla:600<a.size<;>by_cases hlb:600<b.size
 all_goals try(exfalso;have:=HEMP.out (by first|rfl|trivial);have:=HSB.out;omega)
 all_goals
  have hgd:=hla;clear hgd
 all_goals try(
  refine qd5 (P:=qaa s.data.toList=4) ?_ ?_
  ·(rw[HCK.out,HSA.out,HSB.out];simp[h,hz,hla,hlb])
  intro hk;have HK:=hid hk;clear hk;obtain⟨⟨r0,g0⟩,⟨r1,g1⟩,⟨r2,g2⟩⟩:=qcv HR.out;have HBEL:=hid (qai HR.out.1 (Nat.le_refl w.heap.size) (.bool false) (.slice none 0 0) (.slice none 0 0));clear HR;go_wp2_with fail;refine bodyPost_ret (v := .tuple #[.agg #[.bool false,.slice none 0 0,.slice none 0 0],.int .i64 4]) ?_ rfl ?_
  ·simp[results,Tryz.results57,go_sem,r0,r1,r2]
  ·exact HBAD.out 4 _ HK.out (by decide) HBEL.out)
 all_goals try(
  refine qd5 (P:=qaa s.data.toList=4) ?_ ?_
  ·(rw[HCK.out,HSA.out,HSB.out];simp[h,hz,hp,hb0,hb1,hla,hlb])
  intro hk;have HK:=hid hk;clear hk;obtain⟨⟨r0,g0⟩,⟨r1,g1⟩,⟨r2,g2⟩⟩:=qcv HR.out;have HBEL:=hid (qai HR.out.1 (Nat.le_refl w.heap.size) (.bool false) (.slice none 0 0) (.slice none 0 0));clear HR;go_wp2_with fail;refine bodyPost_ret (v := .tuple #[.agg #[.bool false,.slice none 0 0,.slice none 0 0],.int .i64 4]) ?_ rfl ?_
  ·simp[results,Tryz.results57,go_sem,r0,r1,r2]
  ·exact HBAD.out 4 _ HK.out (by decide) HBEL.out)
 all_goals
  have HRD:Hid (∀W,qe1 w W→Calls Tryz.prog 55 #[.string s] W fun e w'=>(∃v',e = .returned (.tuple #[v',.bool true])∧qaj w' v' (qav s.data.toList))∧qe1 w w'):=hid (by
   first
    | exact HRQ.out h (fun _=>⟨hp,beq_eq_false_iff_ne.1 hb0⟩)
    | exact HRQ.out h (by intro e;cases e)
    | exact HRQ.out h trivial)
  have HKK:Hid (qaa s.data.toList=if qlu s.data.toList=s.data.toList then 0 else 1):=hid (by
   rw[HCK.out,HSA.out,HSB.out]
   first
    | (simp[h,hz,hla,hlb];done)
    | (simp[h,hz,hp,hb0,hb1,hla,hlb];done))
  clear HRQ HCK;go_wp2_with fail;refine(HRD.out _ HR.out).mono ?_;rintro e w9 ⟨⟨v9,rfl,hv⟩,hr⟩;clear HR HRD;have HR:=hid hr;have HV:=hid hv;obtain⟨pt,kt,ct,pf,kf,cf,rfl,hp1,hp2⟩:=hv.parts;clear hr hv hp1 hp2;have hown:=qq5 w9 (decide ((qav s.data.toList).num<0)) (.slice pt kt ct) (.slice pf kf cf);have hal:Below w9.heap.size w9 (w9.alloc (.cells #[.bool (decide ((qav s.data.toList).num<0)),.slice pt kt ct,.slice pf kf cf] 80)):=(Below.refl _ _).alloc (Nat.le_refl _) _;have HTX2:=hid (HTX.out (w9.alloc (.cells #[.bool (decide ((qav s.data.toList).num<0)),.slice pt kt ct,.slice pf kf cf] 80)) _ (HV.out.later hal));have HAL:=hid hal;have HOWN:=hid hown;have hsz9:w.heap.size<w9.heap.size:=HR.out.2.1;rw[HTV.out,HFV.out] at HTX2;generalize decide ((qav s.data.toList).num<0)=sg at *;clear hown hal HTX HTV;go_wp2_with fail;refine HTX2.out.mono ?_;rintro e w10 ⟨rfl,hb⟩;have HRT:=hid ((HR.out.later HAL.out).later hb);have HO10:Hid (Own w10 w9.heap.size 3 (qcm sg (.slice pt kt ct) (.slice pf kf cf))):=hid (HOWN.out.later (hb.mono HOWN.out.1));have HV10:=hid ((HV.out.later HAL.out).later hb);clear hb HTX2 HR HV HOWN HAL;obtain⟨⟨r0,g0⟩,⟨r1,g1⟩,⟨r2,g2⟩⟩:=qcv HRT.out;by_cases he:qlu s.data.toList=s.data.toList
  ·have hts:tx=s:=q51 (HTQ.out.symm.trans he)
   have HCK:Hid (qaa s.data.toList=0):=hid (by rw[HKK.out,if_pos he]);clear he HTQ HKK;subst hts;obtain⟨x0,x1,x2⟩:=qbf HO10.out;have HFIN:=hid (qbd HV10.out r0 r1 r2);have HBEL:=hid (qai HRT.out.1 (Nat.le_refl w.heap.size) (.bool sg) (.slice pt kt ct) (.slice pf kf cf));clear HRT HO10 HV10;go_wp2_with fail;refine bodyPost_ret (v := .tuple #[.agg #[.bool sg,.slice pt kt ct,.slice pf kf cf],.int .i64 0]) ?_ rfl ?_
   ·simp[results,Tryz.results57,go_sem,r0,r1,r2]
   ·exact q50 HCK.out rfl HFIN.out HBEL.out
  ·have hs4:¬tx.toList=s.toList:=fun e=>he (by rw[ByteArray.toList_eq,ByteArray.toList_eq,←HTQ.out] at e;exact e)
   have hs8:(!tx.toList==s.toList)=true:=by rw[beq_eq_false_iff_ne.2 hs4];rfl
   have HCK:Hid (qaa s.data.toList=1):=hid (by rw[HKK.out,if_neg he]);have HBEL:=hid (qai HRT.out.1 (Nat.le_refl w.heap.size) (.bool false) (.slice none 0 0) (.slice none 0 0));clear he HTQ HKK HRT HO10 HV10;go_wp2_with fail;refine bodyPost_ret (v := .tuple #[.agg #[.bool false,.slice none 0 0,.slice none 0 0],.int .i64 1]) ?_ rfl ?_
   ·simp[results,Tryz.results57,go_sem,r0,r1,r2]
   ·exact HBAD.out 1 _ HCK.out (by decide) HBEL.out
end Go.Proofs.YthjagoogkkgelaaGreatDoor
