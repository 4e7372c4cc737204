/- Read: the walk. -/
import Derived.Test.YtlkdlffhmakbgaaGreatDoorMRead
set_option linter.all false
namespace Go.Proofs.YtlkdlffhmakbgaaGreatDoor
open Go.RowKit
set_option maxRecDepth 100000
set_option maxHeartbeats 4000000
def qe1(w:World)(W:World):Prop:=qem w false (.slice none 0 0) (.slice none 0 0) W
theorem qe1.later{w W W':World}(h:qe1 w W)(hb:Below W.heap.size W W'):qe1 w W':=qem.later h hb
theorem qe1.gw{w W:World}(h:qe1 w W)(hg:GW w):GW W:=hg.later h.1
theorem qco{w:World}(s:BA)(b:Bool)(hb:qj7 s.data.toList=b)(W:World)(hW:qe1 w W):
  Calls Tryz.prog 42 #[.string s] W fun e w'=>e = .returned (.bool b)∧qe1 w w':=
 (qf0 s W).mono fun e w' ⟨h1,h2⟩=>⟨by rw[h1,hb],hW.later h2⟩
theorem qfg{w:World}(s:BA)(hb:qj7 s.data.toList=true)(hc:s.size≤Cap)(W:World)(hW:qe1 w W):
  Calls Tryz.prog 93 #[.string s] W fun e w'=>(∃v',e = .returned v'∧qa5 w' v' (qbd 0 s.data.toList))∧qe1 w w'∧Below W.heap.size W w':=
 (qp2 s W ((qef _).1 hb).2 hc).mono fun _ _ ⟨h1,h2⟩=>⟨h1,hW.later h2,h2⟩
theorem qjq{w:World}(neg:Bool)(vt:Value)(p:Nat)(W:World)(hW:qe1 w W)(ht:qa5 W vt p):
  Calls Tryz.prog 94 #[.bool neg,vt,.slice none 0 0] W fun e w'=>(∃v',e = .returned v'∧qau w' v' (((if neg then -(p:Int) else(p:Int)):Int):Rat))∧qe1 w w'∧Below W.heap.size W w':=by
 refine(qe5 neg (neg&&decide (0<p)) vt (.slice none 0 0) p 0 0 W ht (qa5.nil W) rfl rfl).mono ?_;rintro e w' ⟨⟨vb',rfl,h1,h2⟩,hb⟩;refine⟨⟨_,rfl,qjp w' _ _ _ _ ?_ ?_ h2⟩,hW.later hb,hb⟩
 ·cases neg
  ·simp
  ·simp<;>omega
 ·cases neg
  ·simpa using h1
  ·simpa using h1
theorem qw6{w:World}(va vb:Value)(a b:Rat)(W:World)(hW:qe1 w W)(ha:qau W va a)(hb:qau W vb b)(h0:b.num≠0)(aQ:rs a+rs b≤Cap):
  Calls Tryz.prog 57 #[va,vb] W fun e w'=>(∃v',e = .returned v'∧qau w' v' (a/b))∧qe1 w w':=
 (qfl va vb a b W ha hb h0 aQ).mono fun _ _ ⟨h1,h2⟩=>⟨h1,hW.later h2⟩
theorem qjr(z:Int):rs (z:Rat)=wl z.natAbs+1:=by
 unfold rs
 have:wl 1=1:=by
  unfold wl;rw[qnx];rfl
 simp[this]
theorem qw7(s:BA)(w:World)(hg:GW w)(hs:s.size≤1073741824):
  Calls Tryz.prog 43 #[.string s] w (q1e (qf1 s.data.toList) w):=by
 obtain⟨d,hd⟩:∃d:BA,d=⟨(Lib.trimPrefix s.data.toList [45]).toArray⟩:=⟨_,rfl⟩;obtain⟨neg,kS⟩:∃neg,neg=Lib.hasPrefix s.data.toList [45]:=⟨_,rfl⟩
 have qH:Hid (∀W,Calls Tryz.prog 92 #[.string s,.string ⟨#[45]⟩] W fun e w'=>e = .returned (.tuple #[.string d,.bool neg])∧w'=W):=hid fun W=>by
  rw[hd,kS];exact Tryz.strings_CutPrefix s ⟨#[45]⟩ W
 have uG:d.data.toList=Lib.trimPrefix s.data.toList [45]:=by rw[hd]
 have Iu:d.size≤1073741824:=by
  have h1:=qhc s.data.toList [45];rw[←uG] at h1;simp at h1;omega
 obtain⟨a,ha⟩:∃a:BA,a=⟨(Lib.cut d.data.toList [47]).1.toArray⟩:=⟨_,rfl⟩;obtain⟨b,hb⟩:∃b:BA,b=⟨(Lib.cut d.data.toList [47]).2.1.toArray⟩:=⟨_,rfl⟩;obtain⟨f,hf⟩:∃f,f=(Lib.cut d.data.toList [47]).2.2:=⟨_,rfl⟩
 have gC:Hid (∀W,qe1 w W→Calls Tryz.prog 40 #[.string d,.string ⟨#[47]⟩] W fun e w'=>e = .returned (.tuple #[.string a,.string b,.bool f])∧qe1 w w'):=hid fun W hW=>by
  obtain⟨_,m,hm⟩:=hW.gw hg;refine(Tryz.strings_Cut d ⟨#[47]⟩ m W (by omega) hm).mono ?_;rintro e w' ⟨h1,k,h2⟩;refine⟨by rw[h1,ha,hb,hf], ?_⟩;rw[h2];exact hW.later (below_drewN (qaa _ _) k)
 have aD:a.data.toList=(Lib.cut d.data.toList [47]).1:=by rw[ha]
 have mG:b.data.toList=(Lib.cut d.data.toList [47]).2.1:=by rw[hb]
 have has:a.size≤1073741824:=by
  have h1:=(qmo d.data.toList [47]).1;rw[←aD] at h1;simp at h1;omega
 have kM:b.size≤1073741824:=by
  have h1:=(qmo d.data.toList [47]).2;rw[←mG] at h1;simp at h1;omega
 have qI:Hid (qcz s.data.toList=(neg,a.data.toList,if f then b.data.toList else[49])):=hid (by
  unfold qcz
  rw[←uG,←kS,←aD,←mG,←hf])
 have aM:=hid (qha w false (.slice none 0 0) (.slice none 0 0));clear hd kS uG Iu ha hb hf aD mG hg hs;cases f
 ·have HP:Hid (qcz s.data.toList=(neg,a.data.toList,(⟨#[49]⟩:BA).data.toList)):=hid (by rw[qI.out];rfl)
  clear qI;have qJ:(⟨#[49]⟩:BA).size≤1073741824:=by show 1≤_;omega
  by_cases fN:qj7 a.data.toList=true
  ·have qK:=hid (fun W hW=>qco (w:=w) a true fN W hW)
   by_cases gL:qj7 (⟨#[49]⟩:BA).data.toList=true
   ·have jF:=hid (fun W hW=>qco (w:=w) (⟨#[49]⟩:BA) true gL W hW)
    have Pw:=hid (fun W hW=>qfg (w:=w) a fN (by unfold Cap;omega) W hW);have qG:=hid (fun W hW=>qfg (w:=w) (⟨#[49]⟩:BA) gL (by unfold Cap;omega) W hW);have kZ:=qmn _ ((qef _).1 fN).2;have iK:=qmn _ ((qef _).1 gL).2;have dF:a.data.toList.length=a.size:=by simp
    have cS:(⟨#[49]⟩:BA).data.toList.length=(⟨#[49]⟩:BA).size:=by first|rfl|simp
    by_cases hz:qbd 0 (⟨#[49]⟩:BA).data.toList=0
    ·have HR:Hid (qf1 s.data.toList=none):=hid (by unfold qf1;rw[HP.out];simp only[fN,gL,hz];simp)
     rw[hz] at qG;clear fN gL kZ iK dF cS hz HP qJ;go_enter Tryz.func43,Tryz.ntmps43;go_wp2_with fail;refine(qH.out _).mono ?_;rintro e w1 ⟨rfl,cY⟩;rw[cY];clear cY qH;go_wp2_with fail;refine(gC.out _ aM.out).mono ?_;rintro e w2 ⟨rfl,hr⟩;have cK:=hid hr;clear hr gC aM;go_wp2_with fail;refine(qK.out _ cK.out).mono ?_;rintro e w3 ⟨rfl,hr⟩;have fP:=hid hr;clear hr qK cK;go_wp2_with fail;refine(jF.out _ fP.out).mono ?_;rintro e w4 ⟨rfl,hr⟩;have oT:=hid hr;clear hr jF fP;go_wp2_with fail;refine(qG.out _ oT.out).mono ?_;rintro e w5 ⟨⟨v5,rfl,hn⟩,hr,hb⟩;obtain⟨p5,k5,c5,rfl,Dh⟩:=qa7 hn;obtain rfl:k5=0:=by rw[Dh];exact qcw
     obtain⟨⟨r0,g0⟩,⟨r1,g1⟩,⟨r2,g2⟩⟩:=qdd hr;have lG:=hid hr.1;have aG:=hid (qaw hr.1 (qac w.heap.size) (.bool false) (.slice none 0 0) (.slice none 0 0));clear hn hr hb Dh oT qG;go_wp2_with fail;refine bodyPost_ret (v := .tuple #[.agg #[.bool false,.slice none 0 0,.slice none 0 0],.bool false]) ?_ rfl ?_
     ·simp[results,Tryz.results43,go_sem,r0,r1,r2]
     ·exact qe7 HR.out rfl aG.out
    ·have HR:Hid (qf1 s.data.toList=some ((((if neg then -(qbd 0 a.data.toList:Int) else(qbd 0 a.data.toList:Int)):Int):Rat)/((qbd 0 (⟨#[49]⟩:BA).data.toList:Int):Rat))):=hid (by unfold qf1;rw[HP.out];simp only[fN,gL];simp[hz])
     have Iv:Hid (wl (qbd 0 (⟨#[49]⟩:BA).data.toList)≠0):=hid (fun e=>hz (qeu e))
     have xL:Hid (∀W va vb,qe1 w W→qau W va (((if neg then -(qbd 0 a.data.toList:Int) else(qbd 0 a.data.toList:Int)):Int):Rat)→qau W vb ((((if false then -(qbd 0 (⟨#[49]⟩:BA).data.toList:Int) else(qbd 0 (⟨#[49]⟩:BA).data.toList:Int))):Int):Rat)→Calls Tryz.prog 57 #[va,vb] W fun e w'=>(∃v',e = .returned v'∧qau w' v' ((((if neg then -(qbd 0 a.data.toList:Int) else(qbd 0 a.data.toList:Int)):Int):Rat)/((qbd 0 (⟨#[49]⟩:BA).data.toList:Int):Rat)))∧qe1 w w'):=hid fun W va vb hW h1 h2=>by
      refine qw6 va vb _ _ W hW h1 h2 ?_ ?_
      ·simp;omega
      ·rw[qjr,qjr]
       have e1:(if neg then -(qbd 0 a.data.toList:Int) else(qbd 0 a.data.toList:Int)).natAbs=qbd 0 a.data.toList:=by cases neg<;>simp
       rw[e1];simp only[Int.natAbs_natCast];have hwb2:wl (qbd 0 (⟨#[49]⟩:BA).data.toList)≤1073741824:=by omega
       have hwa2:wl (qbd 0 a.data.toList)≤1073741824:=by omega
       show wl _+1+(wl (qbd 0 (⟨#[49]⟩:BA).data.toList)+1)≤_;generalize wl (qbd 0 (⟨#[49]⟩:BA).data.toList)=y at *;generalize wl (qbd 0 a.data.toList)=x at *;unfold Cap;omega
     clear fN gL kZ iK dF cS hz HP qJ;generalize qbd 0 a.data.toList=pa at *;generalize qbd 0 (⟨#[49]⟩:BA).data.toList=pb at *;generalize ((((if neg then -(pa:Int) else(pa:Int)):Int):Rat)/((pb:Int):Rat))=q at *;go_enter Tryz.func43,Tryz.ntmps43;go_wp2_with fail;refine(qH.out _).mono ?_;rintro e w1 ⟨rfl,cY⟩;rw[cY];clear cY qH;go_wp2_with fail;refine(gC.out _ aM.out).mono ?_;rintro e w2 ⟨rfl,hr⟩;have cK:=hid hr;clear hr gC aM;go_wp2_with fail;refine(qK.out _ cK.out).mono ?_;rintro e w3 ⟨rfl,hr⟩;have fP:=hid hr;clear hr qK cK;go_wp2_with fail;refine(jF.out _ fP.out).mono ?_;rintro e w4 ⟨rfl,hr⟩;have oT:=hid hr;clear hr jF fP;go_wp2_with fail;refine(qG.out _ oT.out).mono ?_;rintro e w5 ⟨⟨v5,rfl,hn⟩,hr,hb⟩;have Di:=hid hn;have qL:=hid hr;obtain⟨p5,k5,c5,rfl,Dh⟩:=qa7 hn;have kV:((k5:Int)==0)=false:=qam (by have:=Iv.out;omega);clear hn hr hb Dh oT qG;go_wp2_with fail;refine(Pw.out _ qL.out).mono ?_;rintro e w6 ⟨⟨v6,rfl,hn⟩,hr,hb⟩;have Px:=hid hn;have Fw:=hid hr;have zV:=hid (Di.out.later hb);clear hn hr hb qL Di Pw;go_wp2_with fail;refine(qjq neg v6 pa _ Fw.out Px.out).mono ?_;rintro e w7 ⟨⟨v7,rfl,hn⟩,hr,hb⟩;have Ew:=hid hn;have yE:=hid hr;have zW:=hid (zV.out.later hb);clear hn hr hb Fw zV Px;go_wp2_with fail;refine(qjq false _ pb _ yE.out zW.out).mono ?_;rintro e w8 ⟨⟨v8,rfl,hn⟩,hr,hb⟩;have zI:=hid hn;have Py:=hid hr;have zX:=hid (Ew.out.later hb);clear hn hr hb yE zW Ew;go_wp2_with fail;refine(xL.out _ _ _ Py.out zX.out zI.out).mono ?_;rintro e w9 ⟨⟨v9,rfl,hn⟩,hr⟩;obtain⟨pt,kt,ct,pf,kf,cf,rfl,dW,dP⟩:=hn.parts;generalize decide (q.num<0)=sg at *;obtain⟨⟨r0,g0⟩,⟨r1,g1⟩,⟨r2,g2⟩⟩:=qdd hr;have aF:=hid (qb5 hn r0 r1 r2);have aG:=hid (qaw hr.1 (qac w.heap.size) (.bool sg) (.slice pt kt ct) (.slice pf kf cf));clear dW dP hn hr Py zX zI xL;go_wp2_with fail
     refine bodyPost_ret (v := .tuple #[.agg #[.bool sg,.slice pt kt ct,.slice pf kf cf],.bool true]) ?_ rfl ?_
     ·simp[results,Tryz.results43,go_sem,r0,r1,r2]
     ·exact qov HR.out rfl aF.out aG.out
   ·have hdb':qj7 (⟨#[49]⟩:BA).data.toList=false:=by simpa using gL
    have jF:=hid (fun W hW=>qco (w:=w) (⟨#[49]⟩:BA) false hdb' W hW);have HR:Hid (qf1 s.data.toList=none):=hid (by unfold qf1;rw[HP.out];simp only[fN,hdb'];simp);clear fN gL hdb' HP qJ;go_enter Tryz.func43,Tryz.ntmps43;go_wp2_with fail;refine(qH.out _).mono ?_;rintro e w1 ⟨rfl,cY⟩;rw[cY];clear cY qH;go_wp2_with fail;refine(gC.out _ aM.out).mono ?_;rintro e w2 ⟨rfl,hr⟩;have cK:=hid hr;clear hr gC aM;go_wp2_with fail;refine(qK.out _ cK.out).mono ?_;rintro e w3 ⟨rfl,hr⟩;have fP:=hid hr;clear hr qK cK;go_wp2_with fail;refine(jF.out _ fP.out).mono ?_;rintro e w4 ⟨rfl,hr⟩;obtain⟨⟨r0,g0⟩,⟨r1,g1⟩,⟨r2,g2⟩⟩:=qdd hr;have aG:=hid (qaw hr.1 (qac w.heap.size) (.bool false) (.slice none 0 0) (.slice none 0 0));clear hr jF fP;go_wp2_with fail;refine bodyPost_ret (v := .tuple #[.agg #[.bool false,.slice none 0 0,.slice none 0 0],.bool false]) ?_ rfl ?_
    ·simp[results,Tryz.results43,go_sem,r0,r1,r2]
    ·exact qe7 HR.out rfl aG.out
  ·have hda':qj7 a.data.toList=false:=by simpa using fN
   have qK:=hid (fun W hW=>qco (w:=w) a false hda' W hW);have HR:Hid (qf1 s.data.toList=none):=hid (by unfold qf1;rw[HP.out];simp only[hda'];simp);clear fN hda' HP qJ;go_enter Tryz.func43,Tryz.ntmps43;go_wp2_with fail;refine(qH.out _).mono ?_;rintro e w1 ⟨rfl,cY⟩;rw[cY];clear cY qH;go_wp2_with fail;refine(gC.out _ aM.out).mono ?_;rintro e w2 ⟨rfl,hr⟩;have cK:=hid hr;clear hr gC aM;go_wp2_with fail;refine(qK.out _ cK.out).mono ?_;rintro e w3 ⟨rfl,hr⟩;obtain⟨⟨r0,g0⟩,⟨r1,g1⟩,⟨r2,g2⟩⟩:=qdd hr;have aG:=hid (qaw hr.1 (qac w.heap.size) (.bool false) (.slice none 0 0) (.slice none 0 0));clear hr qK cK;go_wp2_with fail;refine bodyPost_ret (v := .tuple #[.agg #[.bool false,.slice none 0 0,.slice none 0 0],.bool false]) ?_ rfl ?_
   ·simp[results,Tryz.results43,go_sem,r0,r1,r2]
   ·exact qe7 HR.out rfl aG.out
 ·have HP:Hid (qcz s.data.toList=(neg,a.data.toList,b.data.toList)):=hid (by rw[qI.out];rfl)
  clear qI;have qJ:b.size≤1073741824:=kM;by_cases fN:qj7 a.data.toList=true
  ·have qK:=hid (fun W hW=>qco (w:=w) a true fN W hW)
   by_cases gL:qj7 b.data.toList=true
   ·have jF:=hid (fun W hW=>qco (w:=w) b true gL W hW)
    have Pw:=hid (fun W hW=>qfg (w:=w) a fN (by unfold Cap;omega) W hW);have qG:=hid (fun W hW=>qfg (w:=w) b gL (by unfold Cap;omega) W hW);have kZ:=qmn _ ((qef _).1 fN).2;have iK:=qmn _ ((qef _).1 gL).2;have dF:a.data.toList.length=a.size:=by simp
    have cS:b.data.toList.length=b.size:=by first|rfl|simp
    by_cases hz:qbd 0 b.data.toList=0
    ·have HR:Hid (qf1 s.data.toList=none):=hid (by unfold qf1;rw[HP.out];simp only[fN,gL,hz];simp)
     rw[hz] at qG;clear fN gL kZ iK dF cS hz HP qJ;go_enter Tryz.func43,Tryz.ntmps43;go_wp2_with fail;refine(qH.out _).mono ?_;rintro e w1 ⟨rfl,cY⟩;rw[cY];clear cY qH;go_wp2_with fail;refine(gC.out _ aM.out).mono ?_;rintro e w2 ⟨rfl,hr⟩;have cK:=hid hr;clear hr gC aM;go_wp2_with fail;refine(qK.out _ cK.out).mono ?_;rintro e w3 ⟨rfl,hr⟩;have fP:=hid hr;clear hr qK cK;go_wp2_with fail;refine(jF.out _ fP.out).mono ?_;rintro e w4 ⟨rfl,hr⟩;have oT:=hid hr;clear hr jF fP;go_wp2_with fail;refine(qG.out _ oT.out).mono ?_;rintro e w5 ⟨⟨v5,rfl,hn⟩,hr,hb⟩;obtain⟨p5,k5,c5,rfl,Dh⟩:=qa7 hn;obtain rfl:k5=0:=by rw[Dh];exact qcw
     obtain⟨⟨r0,g0⟩,⟨r1,g1⟩,⟨r2,g2⟩⟩:=qdd hr;have lG:=hid hr.1;have aG:=hid (qaw hr.1 (qac w.heap.size) (.bool false) (.slice none 0 0) (.slice none 0 0));clear hn hr hb Dh oT qG;go_wp2_with fail;refine bodyPost_ret (v := .tuple #[.agg #[.bool false,.slice none 0 0,.slice none 0 0],.bool false]) ?_ rfl ?_
     ·simp[results,Tryz.results43,go_sem,r0,r1,r2]
     ·exact qe7 HR.out rfl aG.out
    ·have HR:Hid (qf1 s.data.toList=some ((((if neg then -(qbd 0 a.data.toList:Int) else(qbd 0 a.data.toList:Int)):Int):Rat)/((qbd 0 b.data.toList:Int):Rat))):=hid (by unfold qf1;rw[HP.out];simp only[fN,gL];simp[hz])
     have Iv:Hid (wl (qbd 0 b.data.toList)≠0):=hid (fun e=>hz (qeu e))
     have xL:Hid (∀W va vb,qe1 w W→qau W va (((if neg then -(qbd 0 a.data.toList:Int) else(qbd 0 a.data.toList:Int)):Int):Rat)→qau W vb ((((if false then -(qbd 0 b.data.toList:Int) else(qbd 0 b.data.toList:Int))):Int):Rat)→Calls Tryz.prog 57 #[va,vb] W fun e w'=>(∃v',e = .returned v'∧qau w' v' ((((if neg then -(qbd 0 a.data.toList:Int) else(qbd 0 a.data.toList:Int)):Int):Rat)/((qbd 0 b.data.toList:Int):Rat)))∧qe1 w w'):=hid fun W va vb hW h1 h2=>by
      refine qw6 va vb _ _ W hW h1 h2 ?_ ?_
      ·simp;omega
      ·rw[qjr,qjr]
       have e1:(if neg then -(qbd 0 a.data.toList:Int) else(qbd 0 a.data.toList:Int)).natAbs=qbd 0 a.data.toList:=by cases neg<;>simp
       rw[e1];simp only[Int.natAbs_natCast];have hwb2:wl (qbd 0 b.data.toList)≤1073741824:=by omega
       have hwa2:wl (qbd 0 a.data.toList)≤1073741824:=by omega
       show wl _+1+(wl (qbd 0 b.data.toList)+1)≤_;generalize wl (qbd 0 b.data.toList)=y at *;generalize wl (qbd 0 a.data.toList)=x at *;unfold Cap;omega
     clear fN gL kZ iK dF cS hz HP qJ;generalize qbd 0 a.data.toList=pa at *;generalize qbd 0 b.data.toList=pb at *;generalize ((((if neg then -(pa:Int) else(pa:Int)):Int):Rat)/((pb:Int):Rat))=q at *;go_enter Tryz.func43,Tryz.ntmps43;go_wp2_with fail;refine(qH.out _).mono ?_;rintro e w1 ⟨rfl,cY⟩;rw[cY];clear cY qH;go_wp2_with fail;refine(gC.out _ aM.out).mono ?_;rintro e w2 ⟨rfl,hr⟩;have cK:=hid hr;clear hr gC aM;go_wp2_with fail;refine(qK.out _ cK.out).mono ?_;rintro e w3 ⟨rfl,hr⟩;have fP:=hid hr;clear hr qK cK;go_wp2_with fail;refine(jF.out _ fP.out).mono ?_;rintro e w4 ⟨rfl,hr⟩;have oT:=hid hr;clear hr jF fP;go_wp2_with fail;refine(qG.out _ oT.out).mono ?_;rintro e w5 ⟨⟨v5,rfl,hn⟩,hr,hb⟩;have Di:=hid hn;have qL:=hid hr;obtain⟨p5,k5,c5,rfl,Dh⟩:=qa7 hn;have kV:((k5:Int)==0)=false:=qam (by have:=Iv.out;omega);clear hn hr hb Dh oT qG;go_wp2_with fail;refine(Pw.out _ qL.out).mono ?_;rintro e w6 ⟨⟨v6,rfl,hn⟩,hr,hb⟩;have Px:=hid hn;have Fw:=hid hr;have zV:=hid (Di.out.later hb);clear hn hr hb qL Di Pw;go_wp2_with fail;refine(qjq neg v6 pa _ Fw.out Px.out).mono ?_;rintro e w7 ⟨⟨v7,rfl,hn⟩,hr,hb⟩;have Ew:=hid hn;have yE:=hid hr;have zW:=hid (zV.out.later hb);clear hn hr hb Fw zV Px;go_wp2_with fail;refine(qjq false _ pb _ yE.out zW.out).mono ?_;rintro e w8 ⟨⟨v8,rfl,hn⟩,hr,hb⟩;have zI:=hid hn;have Py:=hid hr;have zX:=hid (Ew.out.later hb);clear hn hr hb yE zW Ew;go_wp2_with fail;refine(xL.out _ _ _ Py.out zX.out zI.out).mono ?_;rintro e w9 ⟨⟨v9,rfl,hn⟩,hr⟩;obtain⟨pt,kt,ct,pf,kf,cf,rfl,dW,dP⟩:=hn.parts;generalize decide (q.num<0)=sg at *;obtain⟨⟨r0,g0⟩,⟨r1,g1⟩,⟨r2,g2⟩⟩:=qdd hr;have aF:=hid (qb5 hn r0 r1 r2);have aG:=hid (qaw hr.1 (qac w.heap.size) (.bool sg) (.slice pt kt ct) (.slice pf kf cf));clear dW dP hn hr Py zX zI xL;go_wp2_with fail
     refine bodyPost_ret (v := .tuple #[.agg #[.bool sg,.slice pt kt ct,.slice pf kf cf],.bool true]) ?_ rfl ?_
     ·simp[results,Tryz.results43,go_sem,r0,r1,r2]
     ·exact qov HR.out rfl aF.out aG.out
   ·have hdb':qj7 b.data.toList=false:=by simpa using gL
    have jF:=hid (fun W hW=>qco (w:=w) b false hdb' W hW);have HR:Hid (qf1 s.data.toList=none):=hid (by unfold qf1;rw[HP.out];simp only[fN,hdb'];simp);clear fN gL hdb' HP qJ;go_enter Tryz.func43,Tryz.ntmps43;go_wp2_with fail;refine(qH.out _).mono ?_;rintro e w1 ⟨rfl,cY⟩;rw[cY];clear cY qH;go_wp2_with fail;refine(gC.out _ aM.out).mono ?_;rintro e w2 ⟨rfl,hr⟩;have cK:=hid hr;clear hr gC aM;go_wp2_with fail;refine(qK.out _ cK.out).mono ?_;rintro e w3 ⟨rfl,hr⟩;have fP:=hid hr;clear hr qK cK;go_wp2_with fail;refine(jF.out _ fP.out).mono ?_;rintro e w4 ⟨rfl,hr⟩;obtain⟨⟨r0,g0⟩,⟨r1,g1⟩,⟨r2,g2⟩⟩:=qdd hr;have aG:=hid (qaw hr.1 (qac w.heap.size) (.bool false) (.slice none 0 0) (.slice none 0 0));clear hr jF fP;go_wp2_with fail;refine bodyPost_ret (v := .tuple #[.agg #[.bool false,.slice none 0 0,.slice none 0 0],.bool false]) ?_ rfl ?_
    ·simp[results,Tryz.results43,go_sem,r0,r1,r2]
    ·exact qe7 HR.out rfl aG.out
  ·have hda':qj7 a.data.toList=false:=by simpa using fN
   have qK:=hid (fun W hW=>qco (w:=w) a false hda' W hW);have HR:Hid (qf1 s.data.toList=none):=hid (by unfold qf1;rw[HP.out];simp only[hda'];simp);clear fN hda' HP qJ;go_enter Tryz.func43,Tryz.ntmps43;go_wp2_with fail;refine(qH.out _).mono ?_;rintro e w1 ⟨rfl,cY⟩;rw[cY];clear cY qH;go_wp2_with fail;refine(gC.out _ aM.out).mono ?_;rintro e w2 ⟨rfl,hr⟩;have cK:=hid hr;clear hr gC aM;go_wp2_with fail;refine(qK.out _ cK.out).mono ?_;rintro e w3 ⟨rfl,hr⟩;obtain⟨⟨r0,g0⟩,⟨r1,g1⟩,⟨r2,g2⟩⟩:=qdd hr;have aG:=hid (qaw hr.1 (qac w.heap.size) (.bool false) (.slice none 0 0) (.slice none 0 0));clear hr qK cK;go_wp2_with fail;refine bodyPost_ret (v := .tuple #[.agg #[.bool false,.slice none 0 0,.slice none 0 0],.bool false]) ?_ rfl ?_
   ·simp[results,Tryz.results43,go_sem,r0,r1,r2]
   ·exact qe7 HR.out rfl aG.out
end Go.Proofs.YtlkdlffhmakbgaaGreatDoor
