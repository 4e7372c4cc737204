/- Read: the walk. -/
import Derived.Test.YtmcfcpgglfimjaaGreatDoorMRead
set_option linter.all false
namespace Go.Proofs.YtmcfcpgglfimjaaGreatDoor
open Go.RowKit
set_option maxRecDepth 100000
set_option maxHeartbeats 4000000
def qeu(w:World)(W:World):Prop:=qei w false (.slice none 0 0) (.slice none 0 0) W
theorem qeu.later{w W W':World}(h:qeu w W)(hb:Below W.heap.size W W'):qeu w W':=qei.later h hb
theorem qeu.gw{w W:World}(h:qeu w W)(hg:GW w):GW W:=hg.later h.1
theorem qcn{w:World}(s:BA)(b:Bool)(hb:qj8 s.data.toList=b)(W:World)(hW:qeu w W):
  Calls Tryz.prog 40 #[.string s] W fun e w'=>e = .returned (.bool b)∧qeu w w':=
 (qfz s W).mono fun e w' ⟨h1,h2⟩=>⟨by rw[h1,hb],hW.later h2⟩
theorem qfe{w:World}(s:BA)(hb:qj8 s.data.toList=true)(hc:s.size≤Cap)(W:World)(hW:qeu w W):
  Calls Tryz.prog 84 #[.string s] W fun e w'=>(∃v',e = .returned v'∧qa2 w' v' (qbb 0 s.data.toList))∧qeu w w'∧Below W.heap.size W w':=
 (qp2 s W ((qea _).1 hb).2 hc).mono fun _ _ ⟨h1,h2⟩=>⟨h1,hW.later h2,h2⟩
theorem qju{w:World}(neg:Bool)(vt:Value)(p:Nat)(W:World)(hW:qeu w W)(ht:qa2 W vt p):
  Calls Tryz.prog 85 #[.bool neg,vt,.slice none 0 0] W fun e w'=>(∃v',e = .returned v'∧qaw w' v' (((if neg then -(p:Int) else(p:Int)):Int):Rat))∧qeu w w'∧Below W.heap.size W w':=by
 refine(qe3 neg (neg&&decide (0<p)) vt (.slice none 0 0) p 0 0 W ht (qa2.nil W) rfl rfl).mono ?_;rintro e w' ⟨⟨vb',rfl,h1,h2⟩,hb⟩;refine⟨⟨_,rfl,qjt w' _ _ _ _ ?_ ?_ h2⟩,hW.later hb,hb⟩
 ·cases neg
  ·simp
  ·simp<;>omega
 ·cases neg
  ·simpa using h1
  ·simpa using h1
theorem qw9{w:World}(va vb:Value)(a b:Rat)(W:World)(hW:qeu w W)(ha:qaw W va a)(hb:qaw W vb b)(h0:b.num≠0)(aQ:rs a+rs b≤Cap):
  Calls Tryz.prog 55 #[va,vb] W fun e w'=>(∃v',e = .returned v'∧qaw w' v' (a/b))∧qeu w w':=
 (qfk va vb a b W ha hb h0 aQ).mono fun _ _ ⟨h1,h2⟩=>⟨h1,hW.later h2⟩
theorem qjv(z:Int):rs (z:Rat)=wl z.natAbs+1:=by
 unfold rs
 have:wl 1=1:=by
  unfold wl;rw[qnr];rfl
 simp[this]
theorem qxa(s:BA)(w:World)(hg:GW w)(hs:s.size≤1073741824):
  Calls Tryz.prog 41 #[.string s] w (q1h (qf1 s.data.toList) w):=by
 obtain⟨d,hd⟩:∃d:BA,d=⟨(Lib.trimPrefix s.data.toList [45]).toArray⟩:=⟨_,rfl⟩;obtain⟨neg,kC⟩:∃neg,neg=Lib.hasPrefix s.data.toList [45]:=⟨_,rfl⟩
 have pL:Hid (∀W,Calls Tryz.prog 83 #[.string s,.string ⟨#[45]⟩] W fun e w'=>e = .returned (.tuple #[.string d,.bool neg])∧w'=W):=hid fun W=>by
  rw[hd,kC];exact Tryz.strings_CutPrefix s ⟨#[45]⟩ W
 have tP:d.data.toList=Lib.trimPrefix s.data.toList [45]:=by rw[hd]
 have hds:d.size≤1073741824:=by
  have h1:=qhg s.data.toList [45];rw[←tP] at h1;simp at h1;omega
 obtain⟨a,ha⟩:∃a:BA,a=⟨(Lib.cut d.data.toList [47]).1.toArray⟩:=⟨_,rfl⟩;obtain⟨b,hb⟩:∃b:BA,b=⟨(Lib.cut d.data.toList [47]).2.1.toArray⟩:=⟨_,rfl⟩;obtain⟨f,hf⟩:∃f,f=(Lib.cut d.data.toList [47]).2.2:=⟨_,rfl⟩
 have fU:Hid (∀W,qeu w W→Calls Tryz.prog 38 #[.string d,.string ⟨#[47]⟩] W fun e w'=>e = .returned (.tuple #[.string a,.string b,.bool f])∧qeu w w'):=hid fun W hW=>by
  obtain⟨_,m,hm⟩:=hW.gw hg;refine(Tryz.strings_Cut d ⟨#[47]⟩ m W (by omega) hm).mono ?_;rintro e w' ⟨h1,k,h2⟩;refine⟨by rw[h1,ha,hb,hf], ?_⟩;rw[h2];exact hW.later (below_drewN (qaa _ _) k)
 have aD:a.data.toList=(Lib.cut d.data.toList [47]).1:=by rw[ha]
 have lK:b.data.toList=(Lib.cut d.data.toList [47]).2.1:=by rw[hb]
 have has:a.size≤1073741824:=by
  have h1:=(qmh d.data.toList [47]).1;rw[←aD] at h1;simp at h1;omega
 have kB:b.size≤1073741824:=by
  have h1:=(qmh d.data.toList [47]).2;rw[←lK] at h1;simp at h1;omega
 have pM:Hid (qcy s.data.toList=(neg,a.data.toList,if f then b.data.toList else[49])):=hid (by
  unfold qcy
  rw[←tP,←kC,←aD,←lK,←hf])
 have aO:=hid (qhe w false (.slice none 0 0) (.slice none 0 0));clear hd kC tP hds ha hb hf aD lK hg hs;cases f
 ·have HP:Hid (qcy s.data.toList=(neg,a.data.toList,(⟨#[49]⟩:BA).data.toList)):=hid (by rw[pM.out];rfl)
  clear pM;have pN:(⟨#[49]⟩:BA).size≤1073741824:=by show 1≤_;omega
  by_cases fZ:qj8 a.data.toList=true
  ·have pO:=hid (fun W hW=>qcn (w:=w) a true fZ W hW)
   by_cases gH:qj8 (⟨#[49]⟩:BA).data.toList=true
   ·have iS:=hid (fun W hW=>qcn (w:=w) (⟨#[49]⟩:BA) true gH W hW)
    have Oq:=hid (fun W hW=>qfe (w:=w) a fZ (by unfold Cap;omega) W hW);have pF:=hid (fun W hW=>qfe (w:=w) (⟨#[49]⟩:BA) gH (by unfold Cap;omega) W hW);have kJ:=qmg _ ((qea _).1 fZ).2;have hU:=qmg _ ((qea _).1 gH).2;have cX:a.data.toList.length=a.size:=by simp
    have cS:(⟨#[49]⟩:BA).data.toList.length=(⟨#[49]⟩:BA).size:=by first|rfl|simp
    by_cases hz:qbb 0 (⟨#[49]⟩:BA).data.toList=0
    ·have HR:Hid (qf1 s.data.toList=none):=hid (by unfold qf1;rw[HP.out];simp only[fZ,gH,hz];simp)
     rw[hz] at pF;clear fZ gH kJ hU cX cS hz HP pN;go_enter Tryz.func41,Tryz.ntmps41;go_wp2_with fail;refine(pL.out _).mono ?_;rintro e w1 ⟨rfl,cU⟩;rw[cU];clear cU pL;go_wp2_with fail;refine(fU.out _ aO.out).mono ?_;rintro e w2 ⟨rfl,hr⟩;have cN:=hid hr;clear hr fU aO;go_wp2_with fail;refine(pO.out _ cN.out).mono ?_;rintro e w3 ⟨rfl,hr⟩;have fJ:=hid hr;clear hr pO cN;go_wp2_with fail;refine(iS.out _ fJ.out).mono ?_;rintro e w4 ⟨rfl,hr⟩;have nY:=hid hr;clear hr iS fJ;go_wp2_with fail;refine(pF.out _ nY.out).mono ?_;rintro e w5 ⟨⟨v5,rfl,hn⟩,hr,hb⟩;obtain⟨p5,k5,c5,rfl,Bx⟩:=qa4 hn;obtain rfl:k5=0:=by rw[Bx];exact qcx
     obtain⟨⟨r0,g0⟩,⟨r1,g1⟩,⟨r2,g2⟩⟩:=qc8 hr;have nC:=hid hr.1;have aG:=hid (qax hr.1 (qac w.heap.size) (.bool false) (.slice none 0 0) (.slice none 0 0));clear hn hr hb Bx nY pF;go_wp2_with fail;refine bodyPost_ret (v := .tuple #[.agg #[.bool false,.slice none 0 0,.slice none 0 0],.bool false]) ?_ rfl ?_
     ·simp[results,Tryz.results41,go_sem,r0,r1,r2]
     ·exact qe4 HR.out rfl aG.out
    ·have HR:Hid (qf1 s.data.toList=some ((((if neg then -(qbb 0 a.data.toList:Int) else(qbb 0 a.data.toList:Int)):Int):Rat)/((qbb 0 (⟨#[49]⟩:BA).data.toList:Int):Rat))):=hid (by unfold qf1;rw[HP.out];simp only[fZ,gH];simp[hz])
     have Hm:Hid (wl (qbb 0 (⟨#[49]⟩:BA).data.toList)≠0):=hid (fun e=>hz (qen e))
     have uX:Hid (∀W va vb,qeu w W→qaw W va (((if neg then -(qbb 0 a.data.toList:Int) else(qbb 0 a.data.toList:Int)):Int):Rat)→qaw W vb ((((if false then -(qbb 0 (⟨#[49]⟩:BA).data.toList:Int) else(qbb 0 (⟨#[49]⟩:BA).data.toList:Int))):Int):Rat)→Calls Tryz.prog 55 #[va,vb] W fun e w'=>(∃v',e = .returned v'∧qaw w' v' ((((if neg then -(qbb 0 a.data.toList:Int) else(qbb 0 a.data.toList:Int)):Int):Rat)/((qbb 0 (⟨#[49]⟩:BA).data.toList:Int):Rat)))∧qeu w w'):=hid fun W va vb hW h1 h2=>by
      refine qw9 va vb _ _ W hW h1 h2 ?_ ?_
      ·simp;omega
      ·rw[qjv,qjv]
       have e1:(if neg then -(qbb 0 a.data.toList:Int) else(qbb 0 a.data.toList:Int)).natAbs=qbb 0 a.data.toList:=by cases neg<;>simp
       rw[e1];simp only[Int.natAbs_natCast];have hwb2:wl (qbb 0 (⟨#[49]⟩:BA).data.toList)≤1073741824:=by omega
       have hwa2:wl (qbb 0 a.data.toList)≤1073741824:=by omega
       show wl _+1+(wl (qbb 0 (⟨#[49]⟩:BA).data.toList)+1)≤_;generalize wl (qbb 0 (⟨#[49]⟩:BA).data.toList)=y at *;generalize wl (qbb 0 a.data.toList)=x at *;unfold Cap;omega
     clear fZ gH kJ hU cX cS hz HP pN;generalize qbb 0 a.data.toList=pa at *;generalize qbb 0 (⟨#[49]⟩:BA).data.toList=pb at *;generalize ((((if neg then -(pa:Int) else(pa:Int)):Int):Rat)/((pb:Int):Rat))=q at *;go_enter Tryz.func41,Tryz.ntmps41;go_wp2_with fail;refine(pL.out _).mono ?_;rintro e w1 ⟨rfl,cU⟩;rw[cU];clear cU pL;go_wp2_with fail;refine(fU.out _ aO.out).mono ?_;rintro e w2 ⟨rfl,hr⟩;have cN:=hid hr;clear hr fU aO;go_wp2_with fail;refine(pO.out _ cN.out).mono ?_;rintro e w3 ⟨rfl,hr⟩;have fJ:=hid hr;clear hr pO cN;go_wp2_with fail;refine(iS.out _ fJ.out).mono ?_;rintro e w4 ⟨rfl,hr⟩;have nY:=hid hr;clear hr iS fJ;go_wp2_with fail;refine(pF.out _ nY.out).mono ?_;rintro e w5 ⟨⟨v5,rfl,hn⟩,hr,hb⟩;have Bz:=hid hn;have pP:=hid hr;obtain⟨p5,k5,c5,rfl,Bx⟩:=qa4 hn;have kF:((k5:Int)==0)=false:=qan (by have:=Hm.out;omega);clear hn hr hb Bx nY pF;go_wp2_with fail;refine(Oq.out _ pP.out).mono ?_;rintro e w6 ⟨⟨v6,rfl,hn⟩,hr,hb⟩;have Ot:=hid hn;have El:=hid hr;have yW:=hid (Bz.out.later hb);clear hn hr hb pP Bz Oq;go_wp2_with fail;refine(qju neg v6 pa _ El.out Ot.out).mono ?_;rintro e w7 ⟨⟨v7,rfl,hn⟩,hr,hb⟩;have Dr:=hid hn;have xG:=hid hr;have yX:=hid (yW.out.later hb);clear hn hr hb El yW Ot;go_wp2_with fail;refine(qju false _ pb _ xG.out yX.out).mono ?_;rintro e w8 ⟨⟨v8,rfl,hn⟩,hr,hb⟩;have yK:=hid hn;have Ou:=hid hr;have yY:=hid (Dr.out.later hb);clear hn hr hb xG yX Dr;go_wp2_with fail;refine(uX.out _ _ _ Ou.out yY.out yK.out).mono ?_;rintro e w9 ⟨⟨v9,rfl,hn⟩,hr⟩;obtain⟨pt,kt,ct,pf,kf,cf,rfl,eL,dO⟩:=hn.parts;generalize decide (q.num<0)=sg at *;obtain⟨⟨r0,g0⟩,⟨r1,g1⟩,⟨r2,g2⟩⟩:=qc8 hr;have aF:=hid (qb6 hn r0 r1 r2);have aG:=hid (qax hr.1 (qac w.heap.size) (.bool sg) (.slice pt kt ct) (.slice pf kf cf));clear eL dO hn hr Ou yY yK uX;go_wp2_with fail
     refine bodyPost_ret (v := .tuple #[.agg #[.bool sg,.slice pt kt ct,.slice pf kf cf],.bool true]) ?_ rfl ?_
     ·simp[results,Tryz.results41,go_sem,r0,r1,r2]
     ·exact qoo HR.out rfl aF.out aG.out
   ·have hdb':qj8 (⟨#[49]⟩:BA).data.toList=false:=by simpa using gH
    have iS:=hid (fun W hW=>qcn (w:=w) (⟨#[49]⟩:BA) false hdb' W hW);have HR:Hid (qf1 s.data.toList=none):=hid (by unfold qf1;rw[HP.out];simp only[fZ,hdb'];simp);clear fZ gH hdb' HP pN;go_enter Tryz.func41,Tryz.ntmps41;go_wp2_with fail;refine(pL.out _).mono ?_;rintro e w1 ⟨rfl,cU⟩;rw[cU];clear cU pL;go_wp2_with fail;refine(fU.out _ aO.out).mono ?_;rintro e w2 ⟨rfl,hr⟩;have cN:=hid hr;clear hr fU aO;go_wp2_with fail;refine(pO.out _ cN.out).mono ?_;rintro e w3 ⟨rfl,hr⟩;have fJ:=hid hr;clear hr pO cN;go_wp2_with fail;refine(iS.out _ fJ.out).mono ?_;rintro e w4 ⟨rfl,hr⟩;obtain⟨⟨r0,g0⟩,⟨r1,g1⟩,⟨r2,g2⟩⟩:=qc8 hr;have aG:=hid (qax hr.1 (qac w.heap.size) (.bool false) (.slice none 0 0) (.slice none 0 0));clear hr iS fJ;go_wp2_with fail;refine bodyPost_ret (v := .tuple #[.agg #[.bool false,.slice none 0 0,.slice none 0 0],.bool false]) ?_ rfl ?_
    ·simp[results,Tryz.results41,go_sem,r0,r1,r2]
    ·exact qe4 HR.out rfl aG.out
  ·have hda':qj8 a.data.toList=false:=by simpa using fZ
   have pO:=hid (fun W hW=>qcn (w:=w) a false hda' W hW);have HR:Hid (qf1 s.data.toList=none):=hid (by unfold qf1;rw[HP.out];simp only[hda'];simp);clear fZ hda' HP pN;go_enter Tryz.func41,Tryz.ntmps41;go_wp2_with fail;refine(pL.out _).mono ?_;rintro e w1 ⟨rfl,cU⟩;rw[cU];clear cU pL;go_wp2_with fail;refine(fU.out _ aO.out).mono ?_;rintro e w2 ⟨rfl,hr⟩;have cN:=hid hr;clear hr fU aO;go_wp2_with fail;refine(pO.out _ cN.out).mono ?_;rintro e w3 ⟨rfl,hr⟩;obtain⟨⟨r0,g0⟩,⟨r1,g1⟩,⟨r2,g2⟩⟩:=qc8 hr;have aG:=hid (qax hr.1 (qac w.heap.size) (.bool false) (.slice none 0 0) (.slice none 0 0));clear hr pO cN;go_wp2_with fail;refine bodyPost_ret (v := .tuple #[.agg #[.bool false,.slice none 0 0,.slice none 0 0],.bool false]) ?_ rfl ?_
   ·simp[results,Tryz.results41,go_sem,r0,r1,r2]
   ·exact qe4 HR.out rfl aG.out
 ·have HP:Hid (qcy s.data.toList=(neg,a.data.toList,b.data.toList)):=hid (by rw[pM.out];rfl)
  clear pM;have pN:b.size≤1073741824:=kB;by_cases fZ:qj8 a.data.toList=true
  ·have pO:=hid (fun W hW=>qcn (w:=w) a true fZ W hW)
   by_cases gH:qj8 b.data.toList=true
   ·have iS:=hid (fun W hW=>qcn (w:=w) b true gH W hW)
    have Oq:=hid (fun W hW=>qfe (w:=w) a fZ (by unfold Cap;omega) W hW);have pF:=hid (fun W hW=>qfe (w:=w) b gH (by unfold Cap;omega) W hW);have kJ:=qmg _ ((qea _).1 fZ).2;have hU:=qmg _ ((qea _).1 gH).2;have cX:a.data.toList.length=a.size:=by simp
    have cS:b.data.toList.length=b.size:=by first|rfl|simp
    by_cases hz:qbb 0 b.data.toList=0
    ·have HR:Hid (qf1 s.data.toList=none):=hid (by unfold qf1;rw[HP.out];simp only[fZ,gH,hz];simp)
     rw[hz] at pF;clear fZ gH kJ hU cX cS hz HP pN;go_enter Tryz.func41,Tryz.ntmps41;go_wp2_with fail;refine(pL.out _).mono ?_;rintro e w1 ⟨rfl,cU⟩;rw[cU];clear cU pL;go_wp2_with fail;refine(fU.out _ aO.out).mono ?_;rintro e w2 ⟨rfl,hr⟩;have cN:=hid hr;clear hr fU aO;go_wp2_with fail;refine(pO.out _ cN.out).mono ?_;rintro e w3 ⟨rfl,hr⟩;have fJ:=hid hr;clear hr pO cN;go_wp2_with fail;refine(iS.out _ fJ.out).mono ?_;rintro e w4 ⟨rfl,hr⟩;have nY:=hid hr;clear hr iS fJ;go_wp2_with fail;refine(pF.out _ nY.out).mono ?_;rintro e w5 ⟨⟨v5,rfl,hn⟩,hr,hb⟩;obtain⟨p5,k5,c5,rfl,Bx⟩:=qa4 hn;obtain rfl:k5=0:=by rw[Bx];exact qcx
     obtain⟨⟨r0,g0⟩,⟨r1,g1⟩,⟨r2,g2⟩⟩:=qc8 hr;have nC:=hid hr.1;have aG:=hid (qax hr.1 (qac w.heap.size) (.bool false) (.slice none 0 0) (.slice none 0 0));clear hn hr hb Bx nY pF;go_wp2_with fail;refine bodyPost_ret (v := .tuple #[.agg #[.bool false,.slice none 0 0,.slice none 0 0],.bool false]) ?_ rfl ?_
     ·simp[results,Tryz.results41,go_sem,r0,r1,r2]
     ·exact qe4 HR.out rfl aG.out
    ·have HR:Hid (qf1 s.data.toList=some ((((if neg then -(qbb 0 a.data.toList:Int) else(qbb 0 a.data.toList:Int)):Int):Rat)/((qbb 0 b.data.toList:Int):Rat))):=hid (by unfold qf1;rw[HP.out];simp only[fZ,gH];simp[hz])
     have Hm:Hid (wl (qbb 0 b.data.toList)≠0):=hid (fun e=>hz (qen e))
     have uX:Hid (∀W va vb,qeu w W→qaw W va (((if neg then -(qbb 0 a.data.toList:Int) else(qbb 0 a.data.toList:Int)):Int):Rat)→qaw W vb ((((if false then -(qbb 0 b.data.toList:Int) else(qbb 0 b.data.toList:Int))):Int):Rat)→Calls Tryz.prog 55 #[va,vb] W fun e w'=>(∃v',e = .returned v'∧qaw w' v' ((((if neg then -(qbb 0 a.data.toList:Int) else(qbb 0 a.data.toList:Int)):Int):Rat)/((qbb 0 b.data.toList:Int):Rat)))∧qeu w w'):=hid fun W va vb hW h1 h2=>by
      refine qw9 va vb _ _ W hW h1 h2 ?_ ?_
      ·simp;omega
      ·rw[qjv,qjv]
       have e1:(if neg then -(qbb 0 a.data.toList:Int) else(qbb 0 a.data.toList:Int)).natAbs=qbb 0 a.data.toList:=by cases neg<;>simp
       rw[e1];simp only[Int.natAbs_natCast];have hwb2:wl (qbb 0 b.data.toList)≤1073741824:=by omega
       have hwa2:wl (qbb 0 a.data.toList)≤1073741824:=by omega
       show wl _+1+(wl (qbb 0 b.data.toList)+1)≤_;generalize wl (qbb 0 b.data.toList)=y at *;generalize wl (qbb 0 a.data.toList)=x at *;unfold Cap;omega
     clear fZ gH kJ hU cX cS hz HP pN;generalize qbb 0 a.data.toList=pa at *;generalize qbb 0 b.data.toList=pb at *;generalize ((((if neg then -(pa:Int) else(pa:Int)):Int):Rat)/((pb:Int):Rat))=q at *;go_enter Tryz.func41,Tryz.ntmps41;go_wp2_with fail;refine(pL.out _).mono ?_;rintro e w1 ⟨rfl,cU⟩;rw[cU];clear cU pL;go_wp2_with fail;refine(fU.out _ aO.out).mono ?_;rintro e w2 ⟨rfl,hr⟩;have cN:=hid hr;clear hr fU aO;go_wp2_with fail;refine(pO.out _ cN.out).mono ?_;rintro e w3 ⟨rfl,hr⟩;have fJ:=hid hr;clear hr pO cN;go_wp2_with fail;refine(iS.out _ fJ.out).mono ?_;rintro e w4 ⟨rfl,hr⟩;have nY:=hid hr;clear hr iS fJ;go_wp2_with fail;refine(pF.out _ nY.out).mono ?_;rintro e w5 ⟨⟨v5,rfl,hn⟩,hr,hb⟩;have Bz:=hid hn;have pP:=hid hr;obtain⟨p5,k5,c5,rfl,Bx⟩:=qa4 hn;have kF:((k5:Int)==0)=false:=qan (by have:=Hm.out;omega);clear hn hr hb Bx nY pF;go_wp2_with fail;refine(Oq.out _ pP.out).mono ?_;rintro e w6 ⟨⟨v6,rfl,hn⟩,hr,hb⟩;have Ot:=hid hn;have El:=hid hr;have yW:=hid (Bz.out.later hb);clear hn hr hb pP Bz Oq;go_wp2_with fail;refine(qju neg v6 pa _ El.out Ot.out).mono ?_;rintro e w7 ⟨⟨v7,rfl,hn⟩,hr,hb⟩;have Dr:=hid hn;have xG:=hid hr;have yX:=hid (yW.out.later hb);clear hn hr hb El yW Ot;go_wp2_with fail;refine(qju false _ pb _ xG.out yX.out).mono ?_;rintro e w8 ⟨⟨v8,rfl,hn⟩,hr,hb⟩;have yK:=hid hn;have Ou:=hid hr;have yY:=hid (Dr.out.later hb);clear hn hr hb xG yX Dr;go_wp2_with fail;refine(uX.out _ _ _ Ou.out yY.out yK.out).mono ?_;rintro e w9 ⟨⟨v9,rfl,hn⟩,hr⟩;obtain⟨pt,kt,ct,pf,kf,cf,rfl,eL,dO⟩:=hn.parts;generalize decide (q.num<0)=sg at *;obtain⟨⟨r0,g0⟩,⟨r1,g1⟩,⟨r2,g2⟩⟩:=qc8 hr;have aF:=hid (qb6 hn r0 r1 r2);have aG:=hid (qax hr.1 (qac w.heap.size) (.bool sg) (.slice pt kt ct) (.slice pf kf cf));clear eL dO hn hr Ou yY yK uX;go_wp2_with fail
     refine bodyPost_ret (v := .tuple #[.agg #[.bool sg,.slice pt kt ct,.slice pf kf cf],.bool true]) ?_ rfl ?_
     ·simp[results,Tryz.results41,go_sem,r0,r1,r2]
     ·exact qoo HR.out rfl aF.out aG.out
   ·have hdb':qj8 b.data.toList=false:=by simpa using gH
    have iS:=hid (fun W hW=>qcn (w:=w) b false hdb' W hW);have HR:Hid (qf1 s.data.toList=none):=hid (by unfold qf1;rw[HP.out];simp only[fZ,hdb'];simp);clear fZ gH hdb' HP pN;go_enter Tryz.func41,Tryz.ntmps41;go_wp2_with fail;refine(pL.out _).mono ?_;rintro e w1 ⟨rfl,cU⟩;rw[cU];clear cU pL;go_wp2_with fail;refine(fU.out _ aO.out).mono ?_;rintro e w2 ⟨rfl,hr⟩;have cN:=hid hr;clear hr fU aO;go_wp2_with fail;refine(pO.out _ cN.out).mono ?_;rintro e w3 ⟨rfl,hr⟩;have fJ:=hid hr;clear hr pO cN;go_wp2_with fail;refine(iS.out _ fJ.out).mono ?_;rintro e w4 ⟨rfl,hr⟩;obtain⟨⟨r0,g0⟩,⟨r1,g1⟩,⟨r2,g2⟩⟩:=qc8 hr;have aG:=hid (qax hr.1 (qac w.heap.size) (.bool false) (.slice none 0 0) (.slice none 0 0));clear hr iS fJ;go_wp2_with fail;refine bodyPost_ret (v := .tuple #[.agg #[.bool false,.slice none 0 0,.slice none 0 0],.bool false]) ?_ rfl ?_
    ·simp[results,Tryz.results41,go_sem,r0,r1,r2]
    ·exact qe4 HR.out rfl aG.out
  ·have hda':qj8 a.data.toList=false:=by simpa using fZ
   have pO:=hid (fun W hW=>qcn (w:=w) a false hda' W hW);have HR:Hid (qf1 s.data.toList=none):=hid (by unfold qf1;rw[HP.out];simp only[hda'];simp);clear fZ hda' HP pN;go_enter Tryz.func41,Tryz.ntmps41;go_wp2_with fail;refine(pL.out _).mono ?_;rintro e w1 ⟨rfl,cU⟩;rw[cU];clear cU pL;go_wp2_with fail;refine(fU.out _ aO.out).mono ?_;rintro e w2 ⟨rfl,hr⟩;have cN:=hid hr;clear hr fU aO;go_wp2_with fail;refine(pO.out _ cN.out).mono ?_;rintro e w3 ⟨rfl,hr⟩;obtain⟨⟨r0,g0⟩,⟨r1,g1⟩,⟨r2,g2⟩⟩:=qc8 hr;have aG:=hid (qax hr.1 (qac w.heap.size) (.bool false) (.slice none 0 0) (.slice none 0 0));clear hr pO cN;go_wp2_with fail;refine bodyPost_ret (v := .tuple #[.agg #[.bool false,.slice none 0 0,.slice none 0 0],.bool false]) ?_ rfl ?_
   ·simp[results,Tryz.results41,go_sem,r0,r1,r2]
   ·exact qe4 HR.out rfl aG.out
end Go.Proofs.YtmcfcpgglfimjaaGreatDoor
