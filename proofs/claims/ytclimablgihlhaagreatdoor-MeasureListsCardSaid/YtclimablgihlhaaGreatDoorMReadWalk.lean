/- Read: the walk. -/
import Derived.Test.YtclimablgihlhaaGreatDoorMRead
set_option linter.all false
namespace Go.Proofs.YtclimablgihlhaaGreatDoor
open Go.RowKit
set_option maxRecDepth 100000
set_option maxHeartbeats 4000000
def qer(w:World)(W:World):Prop:=qeb w false (.slice none 0 0) (.slice none 0 0) W
theorem qer.later{w W W':World}(h:qer w W)(hb:Below W.heap.size W W'):qer w W':=qeb.later h hb
theorem qer.gw{w W:World}(h:qer w W)(hg:GW w):GW W:=hg.later h.1
theorem qcc{w:World}(s:BA)(b:Bool)(hb:qj9 s.data.toList=b)(W:World)(hW:qer w W):
  Calls Tryz.prog 48 #[.string s] W fun e w'=>e = .returned (.bool b)∧qer w w':=
 (qfv s W).mono fun e w' ⟨h1,h2⟩=>⟨by rw[h1,hb],hW.later h2⟩
theorem qe7{w:World}(s:BA)(hb:qj9 s.data.toList=true)(hc:s.size≤Cap)(W:World)(hW:qer w W):
  Calls Tryz.prog 91 #[.string s] W fun e w'=>(∃v',e = .returned v'∧qap w' v' (qaz 0 s.data.toList))∧qer w w'∧Below W.heap.size W w':=
 (qpp s W ((qep _).1 hb).2 hc).mono fun _ _ ⟨h1,h2⟩=>⟨h1,hW.later h2,h2⟩
theorem qjg{w:World}(neg:Bool)(vt:Value)(p:Nat)(W:World)(hW:qer w W)(ht:qap W vt p):
  Calls Tryz.prog 74 #[.bool neg,vt,.slice none 0 0] W fun e w'=>(∃v',e = .returned v'∧qaj w' v' (((if neg then -(p:Int) else(p:Int)):Int):Rat))∧qer w w'∧Below W.heap.size W w':=by
 refine(qez neg (neg&&decide (0<p)) vt (.slice none 0 0) p 0 0 W ht (qap.nil W) rfl rfl).mono ?_;rintro e w' ⟨⟨vb',rfl,h1,h2⟩,hb⟩;refine⟨⟨_,rfl,qjf w' _ _ _ _ ?_ ?_ h2⟩,hW.later hb,hb⟩
 ·cases neg
  ·simp
  ·simp<;>omega
 ·cases neg
  ·simpa using h1
  ·simpa using h1
theorem qwn{w:World}(va vb:Value)(a b:Rat)(W:World)(hW:qer w W)(ha:qaj W va a)(hb:qaj W vb b)(h0:b.num≠0)(aP:rs a+rs b≤Cap):
  Calls Tryz.prog 38 #[va,vb] W fun e w'=>(∃v',e = .returned v'∧qaj w' v' (a/b))∧qer w w':=
 (qff va vb a b W ha hb h0 aP).mono fun _ _ ⟨h1,h2⟩=>⟨h1,hW.later h2⟩
theorem qjh(z:Int):rs (z:Rat)=wl z.natAbs+1:=by
 unfold rs
 have:wl 1=1:=by
  unfold wl;rw[qni];rfl
 simp[this]
theorem qwo(s:BA)(w:World)(hg:GW w)(hs:s.size≤1073741824):
  Calls Tryz.prog 49 #[.string s] w (q0k (qfw s.data.toList) w):=by
 obtain⟨d,hd⟩:∃d:BA,d=⟨(Lib.trimPrefix s.data.toList [45]).toArray⟩:=⟨_,rfl⟩;obtain⟨neg,uN⟩:∃neg,neg=Lib.hasPrefix s.data.toList [45]:=⟨_,rfl⟩
 have qQ:Hid (∀W,Calls Tryz.prog 90 #[.string s,.string ⟨#[45]⟩] W fun e w'=>e = .returned (.tuple #[.string d,.bool neg])∧w'=W):=hid fun W=>by
  rw[hd,uN];exact Tryz.strings_CutPrefix s ⟨#[45]⟩ W
 have xD:d.data.toList=Lib.trimPrefix s.data.toList [45]:=by rw[hd]
 have hds:d.size≤1073741824:=by
  have h1:=qhe s.data.toList [45];rw[←xD] at h1;simp at h1;omega
 obtain⟨a,ha⟩:∃a:BA,a=⟨(Lib.cut d.data.toList [47]).1.toArray⟩:=⟨_,rfl⟩;obtain⟨b,hb⟩:∃b:BA,b=⟨(Lib.cut d.data.toList [47]).2.1.toArray⟩:=⟨_,rfl⟩;obtain⟨f,hf⟩:∃f,f=(Lib.cut d.data.toList [47]).2.2:=⟨_,rfl⟩
 have gM:Hid (∀W,qer w W→Calls Tryz.prog 46 #[.string d,.string ⟨#[47]⟩] W fun e w'=>e = .returned (.tuple #[.string a,.string b,.bool f])∧qer w w'):=hid fun W hW=>by
  obtain⟨_,m,hm⟩:=hW.gw hg;refine(Tryz.strings_Cut d ⟨#[47]⟩ m W (by omega) hm).mono ?_;rintro e w' ⟨h1,k,h2⟩;refine⟨by rw[h1,ha,hb,hf], ?_⟩;rw[h2];exact hW.later (below_drewN (zan _ _) k)
 have aD:a.data.toList=(Lib.cut d.data.toList [47]).1:=by rw[ha]
 have mR:b.data.toList=(Lib.cut d.data.toList [47]).2.1:=by rw[hb]
 have has:a.size≤1073741824:=by
  have h1:=(ql9 d.data.toList [47]).1;rw[←aD] at h1;simp at h1;omega
 have kJ:b.size≤1073741824:=by
  have h1:=(ql9 d.data.toList [47]).2;rw[←mR] at h1;simp at h1;omega
 have qR:Hid (qcl s.data.toList=(neg,a.data.toList,if f then b.data.toList else[49])):=hid (by
  unfold qcl
  rw[←xD,←uN,←aD,←mR,←hf])
 have aO:=hid (qhc w false (.slice none 0 0) (.slice none 0 0));clear hd uN xD hds ha hb hf aD mR hg hs;cases f
 ·have HP:Hid (qcl s.data.toList=(neg,a.data.toList,(⟨#[49]⟩:BA).data.toList)):=hid (by rw[qR.out];rfl)
  clear qR;have nN:(⟨#[49]⟩:BA).size≤1073741824:=by show 1≤_;omega
  by_cases fV:qj9 a.data.toList=true
  ·have qS:=hid (fun W hW=>qcc (w:=w) a true fV W hW)
   by_cases gV:qj9 (⟨#[49]⟩:BA).data.toList=true
   ·have fF:=hid (fun W hW=>qcc (w:=w) (⟨#[49]⟩:BA) true gV W hW)
    have Sd:=hid (fun W hW=>qe7 (w:=w) a fV (by unfold Cap;omega) W hW);have qP:=hid (fun W hW=>qe7 (w:=w) (⟨#[49]⟩:BA) gV (by unfold Cap;omega) W hW);have lF:=ql8 _ ((qep _).1 fV).2;have jD:=ql8 _ ((qep _).1 gV).2;have dJ:a.data.toList.length=a.size:=by simp
    have dG:(⟨#[49]⟩:BA).data.toList.length=(⟨#[49]⟩:BA).size:=by first|rfl|simp
    by_cases hz:qaz 0 (⟨#[49]⟩:BA).data.toList=0
    ·have HR:Hid (qfw s.data.toList=none):=hid (by unfold qfw;rw[HP.out];simp only[fV,gV,hz];simp)
     rw[hz] at qP;clear fV gV lF jD dJ dG hz HP nN;go_enter Tryz.func49,Tryz.ntmps49;go_wp2_with fail;refine(qQ.out _).mono ?_;rintro e w1 ⟨rfl,dI⟩;rw[dI];clear dI qQ;go_wp2_with fail;refine(gM.out _ aO.out).mono ?_;rintro e w2 ⟨rfl,hr⟩;have cY:=hid hr;clear hr gM aO;go_wp2_with fail;refine(qS.out _ cY.out).mono ?_;rintro e w3 ⟨rfl,hr⟩;have iI:=hid hr;clear hr qS cY;go_wp2_with fail;refine(fF.out _ iI.out).mono ?_;rintro e w4 ⟨rfl,hr⟩;have tP:=hid hr;clear hr fF iI;go_wp2_with fail;refine(qP.out _ tP.out).mono ?_;rintro e w5 ⟨⟨v5,rfl,hn⟩,hr,hb⟩;obtain⟨p5,k5,c5,rfl,Eu⟩:=qar hn;obtain rfl:k5=0:=by rw[Eu];exact qck
     obtain⟨⟨r0,g0⟩,⟨r1,g1⟩,⟨r2,g2⟩⟩:=qcr hr;have lJ:=hid hr.1;have aH:=hid (qai hr.1 (zap w.heap.size) (.bool false) (.slice none 0 0) (.slice none 0 0));clear hn hr hb Eu tP qP;go_wp2_with fail;refine bodyPost_ret (v := .tuple #[.agg #[.bool false,.slice none 0 0,.slice none 0 0],.bool false]) ?_ rfl ?_
     ·simp[results,Tryz.results49,go_sem,r0,r1,r2]
     ·exact qe0 HR.out rfl aH.out
    ·have HR:Hid (qfw s.data.toList=some ((((if neg then -(qaz 0 a.data.toList:Int) else(qaz 0 a.data.toList:Int)):Int):Rat)/((qaz 0 (⟨#[49]⟩:BA).data.toList:Int):Rat))):=hid (by unfold qfw;rw[HP.out];simp only[fV,gV];simp[hz])
     have Kp:Hid (wl (qaz 0 (⟨#[49]⟩:BA).data.toList)≠0):=hid (fun e=>hz (qek e))
     have yR:Hid (∀W va vb,qer w W→qaj W va (((if neg then -(qaz 0 a.data.toList:Int) else(qaz 0 a.data.toList:Int)):Int):Rat)→qaj W vb ((((if false then -(qaz 0 (⟨#[49]⟩:BA).data.toList:Int) else(qaz 0 (⟨#[49]⟩:BA).data.toList:Int))):Int):Rat)→Calls Tryz.prog 38 #[va,vb] W fun e w'=>(∃v',e = .returned v'∧qaj w' v' ((((if neg then -(qaz 0 a.data.toList:Int) else(qaz 0 a.data.toList:Int)):Int):Rat)/((qaz 0 (⟨#[49]⟩:BA).data.toList:Int):Rat)))∧qer w w'):=hid fun W va vb hW h1 h2=>by
      refine qwn va vb _ _ W hW h1 h2 ?_ ?_
      ·simp;omega
      ·rw[qjh,qjh]
       have e1:(if neg then -(qaz 0 a.data.toList:Int) else(qaz 0 a.data.toList:Int)).natAbs=qaz 0 a.data.toList:=by cases neg<;>simp
       rw[e1];simp only[Int.natAbs_natCast];have hwb2:wl (qaz 0 (⟨#[49]⟩:BA).data.toList)≤1073741824:=by omega
       have hwa2:wl (qaz 0 a.data.toList)≤1073741824:=by omega
       show wl _+1+(wl (qaz 0 (⟨#[49]⟩:BA).data.toList)+1)≤_;generalize wl (qaz 0 (⟨#[49]⟩:BA).data.toList)=y at *;generalize wl (qaz 0 a.data.toList)=x at *;unfold Cap;omega
     clear fV gV lF jD dJ dG hz HP nN;generalize qaz 0 a.data.toList=pa at *;generalize qaz 0 (⟨#[49]⟩:BA).data.toList=pb at *;generalize ((((if neg then -(pa:Int) else(pa:Int)):Int):Rat)/((pb:Int):Rat))=q at *;go_enter Tryz.func49,Tryz.ntmps49;go_wp2_with fail;refine(qQ.out _).mono ?_;rintro e w1 ⟨rfl,dI⟩;rw[dI];clear dI qQ;go_wp2_with fail;refine(gM.out _ aO.out).mono ?_;rintro e w2 ⟨rfl,hr⟩;have cY:=hid hr;clear hr gM aO;go_wp2_with fail;refine(qS.out _ cY.out).mono ?_;rintro e w3 ⟨rfl,hr⟩;have iI:=hid hr;clear hr qS cY;go_wp2_with fail;refine(fF.out _ iI.out).mono ?_;rintro e w4 ⟨rfl,hr⟩;have tP:=hid hr;clear hr fF iI;go_wp2_with fail;refine(qP.out _ tP.out).mono ?_;rintro e w5 ⟨⟨v5,rfl,hn⟩,hr,hb⟩;have Ev:=hid hn;have uO:=hid hr;obtain⟨p5,k5,c5,rfl,Eu⟩:=qar hn;have oG:((k5:Int)==0)=false:=zat (by have:=Kp.out;omega);clear hn hr hb Eu tP qP;go_wp2_with fail;refine(Sd.out _ uO.out).mono ?_;rintro e w6 ⟨⟨v6,rfl,hn⟩,hr,hb⟩;have Se:=hid hn;have Hf:=hid hr;have Bg:=hid (Ev.out.later hb);clear hn hr hb uO Ev Sd;go_wp2_with fail;refine(qjg neg v6 pa _ Hf.out Se.out).mono ?_;rintro e w7 ⟨⟨v7,rfl,hn⟩,hr,hb⟩;have Gi:=hid hn;have zS:=hid hr;have Bh:=hid (Bg.out.later hb);clear hn hr hb Hf Bg Se;go_wp2_with fail;refine(qjg false _ pb _ zS.out Bh.out).mono ?_;rintro e w8 ⟨⟨v8,rfl,hn⟩,hr,hb⟩;have Au:=hid hn;have Sf:=hid hr;have Bi:=hid (Gi.out.later hb);clear hn hr hb zS Bh Gi;go_wp2_with fail;refine(yR.out _ _ _ Sf.out Bi.out Au.out).mono ?_;rintro e w9 ⟨⟨v9,rfl,hn⟩,hr⟩;obtain⟨pt,kt,ct,pf,kf,cf,rfl,eR,dZ⟩:=hn.parts;generalize decide (q.num<0)=sg at *;obtain⟨⟨r0,g0⟩,⟨r1,g1⟩,⟨r2,g2⟩⟩:=qcr hr;have aG:=hid (qbc hn r0 r1 r2);have aH:=hid (qai hr.1 (zap w.heap.size) (.bool sg) (.slice pt kt ct) (.slice pf kf cf));clear eR dZ hn hr Sf Bi Au yR;go_wp2_with fail
     refine bodyPost_ret (v := .tuple #[.agg #[.bool sg,.slice pt kt ct,.slice pf kf cf],.bool true]) ?_ rfl ?_
     ·simp[results,Tryz.results49,go_sem,r0,r1,r2]
     ·exact qoj HR.out rfl aG.out aH.out
   ·have hdb':qj9 (⟨#[49]⟩:BA).data.toList=false:=by simpa using gV
    have fF:=hid (fun W hW=>qcc (w:=w) (⟨#[49]⟩:BA) false hdb' W hW);have HR:Hid (qfw s.data.toList=none):=hid (by unfold qfw;rw[HP.out];simp only[fV,hdb'];simp);clear fV gV hdb' HP nN;go_enter Tryz.func49,Tryz.ntmps49;go_wp2_with fail;refine(qQ.out _).mono ?_;rintro e w1 ⟨rfl,dI⟩;rw[dI];clear dI qQ;go_wp2_with fail;refine(gM.out _ aO.out).mono ?_;rintro e w2 ⟨rfl,hr⟩;have cY:=hid hr;clear hr gM aO;go_wp2_with fail;refine(qS.out _ cY.out).mono ?_;rintro e w3 ⟨rfl,hr⟩;have iI:=hid hr;clear hr qS cY;go_wp2_with fail;refine(fF.out _ iI.out).mono ?_;rintro e w4 ⟨rfl,hr⟩;obtain⟨⟨r0,g0⟩,⟨r1,g1⟩,⟨r2,g2⟩⟩:=qcr hr;have aH:=hid (qai hr.1 (zap w.heap.size) (.bool false) (.slice none 0 0) (.slice none 0 0));clear hr fF iI;go_wp2_with fail;refine bodyPost_ret (v := .tuple #[.agg #[.bool false,.slice none 0 0,.slice none 0 0],.bool false]) ?_ rfl ?_
    ·simp[results,Tryz.results49,go_sem,r0,r1,r2]
    ·exact qe0 HR.out rfl aH.out
  ·have hda':qj9 a.data.toList=false:=by simpa using fV
   have qS:=hid (fun W hW=>qcc (w:=w) a false hda' W hW);have HR:Hid (qfw s.data.toList=none):=hid (by unfold qfw;rw[HP.out];simp only[hda'];simp);clear fV hda' HP nN;go_enter Tryz.func49,Tryz.ntmps49;go_wp2_with fail;refine(qQ.out _).mono ?_;rintro e w1 ⟨rfl,dI⟩;rw[dI];clear dI qQ;go_wp2_with fail;refine(gM.out _ aO.out).mono ?_;rintro e w2 ⟨rfl,hr⟩;have cY:=hid hr;clear hr gM aO;go_wp2_with fail;refine(qS.out _ cY.out).mono ?_;rintro e w3 ⟨rfl,hr⟩;obtain⟨⟨r0,g0⟩,⟨r1,g1⟩,⟨r2,g2⟩⟩:=qcr hr;have aH:=hid (qai hr.1 (zap w.heap.size) (.bool false) (.slice none 0 0) (.slice none 0 0));clear hr qS cY;go_wp2_with fail;refine bodyPost_ret (v := .tuple #[.agg #[.bool false,.slice none 0 0,.slice none 0 0],.bool false]) ?_ rfl ?_
   ·simp[results,Tryz.results49,go_sem,r0,r1,r2]
   ·exact qe0 HR.out rfl aH.out
 ·have HP:Hid (qcl s.data.toList=(neg,a.data.toList,b.data.toList)):=hid (by rw[qR.out];rfl)
  clear qR;have nN:b.size≤1073741824:=kJ;by_cases fV:qj9 a.data.toList=true
  ·have qS:=hid (fun W hW=>qcc (w:=w) a true fV W hW)
   by_cases gV:qj9 b.data.toList=true
   ·have fF:=hid (fun W hW=>qcc (w:=w) b true gV W hW)
    have Sd:=hid (fun W hW=>qe7 (w:=w) a fV (by unfold Cap;omega) W hW);have qP:=hid (fun W hW=>qe7 (w:=w) b gV (by unfold Cap;omega) W hW);have lF:=ql8 _ ((qep _).1 fV).2;have jD:=ql8 _ ((qep _).1 gV).2;have dJ:a.data.toList.length=a.size:=by simp
    have dG:b.data.toList.length=b.size:=by first|rfl|simp
    by_cases hz:qaz 0 b.data.toList=0
    ·have HR:Hid (qfw s.data.toList=none):=hid (by unfold qfw;rw[HP.out];simp only[fV,gV,hz];simp)
     rw[hz] at qP;clear fV gV lF jD dJ dG hz HP nN;go_enter Tryz.func49,Tryz.ntmps49;go_wp2_with fail;refine(qQ.out _).mono ?_;rintro e w1 ⟨rfl,dI⟩;rw[dI];clear dI qQ;go_wp2_with fail;refine(gM.out _ aO.out).mono ?_;rintro e w2 ⟨rfl,hr⟩;have cY:=hid hr;clear hr gM aO;go_wp2_with fail;refine(qS.out _ cY.out).mono ?_;rintro e w3 ⟨rfl,hr⟩;have iI:=hid hr;clear hr qS cY;go_wp2_with fail;refine(fF.out _ iI.out).mono ?_;rintro e w4 ⟨rfl,hr⟩;have tP:=hid hr;clear hr fF iI;go_wp2_with fail;refine(qP.out _ tP.out).mono ?_;rintro e w5 ⟨⟨v5,rfl,hn⟩,hr,hb⟩;obtain⟨p5,k5,c5,rfl,Eu⟩:=qar hn;obtain rfl:k5=0:=by rw[Eu];exact qck
     obtain⟨⟨r0,g0⟩,⟨r1,g1⟩,⟨r2,g2⟩⟩:=qcr hr;have lJ:=hid hr.1;have aH:=hid (qai hr.1 (zap w.heap.size) (.bool false) (.slice none 0 0) (.slice none 0 0));clear hn hr hb Eu tP qP;go_wp2_with fail;refine bodyPost_ret (v := .tuple #[.agg #[.bool false,.slice none 0 0,.slice none 0 0],.bool false]) ?_ rfl ?_
     ·simp[results,Tryz.results49,go_sem,r0,r1,r2]
     ·exact qe0 HR.out rfl aH.out
    ·have HR:Hid (qfw s.data.toList=some ((((if neg then -(qaz 0 a.data.toList:Int) else(qaz 0 a.data.toList:Int)):Int):Rat)/((qaz 0 b.data.toList:Int):Rat))):=hid (by unfold qfw;rw[HP.out];simp only[fV,gV];simp[hz])
     have Kp:Hid (wl (qaz 0 b.data.toList)≠0):=hid (fun e=>hz (qek e))
     have yR:Hid (∀W va vb,qer w W→qaj W va (((if neg then -(qaz 0 a.data.toList:Int) else(qaz 0 a.data.toList:Int)):Int):Rat)→qaj W vb ((((if false then -(qaz 0 b.data.toList:Int) else(qaz 0 b.data.toList:Int))):Int):Rat)→Calls Tryz.prog 38 #[va,vb] W fun e w'=>(∃v',e = .returned v'∧qaj w' v' ((((if neg then -(qaz 0 a.data.toList:Int) else(qaz 0 a.data.toList:Int)):Int):Rat)/((qaz 0 b.data.toList:Int):Rat)))∧qer w w'):=hid fun W va vb hW h1 h2=>by
      refine qwn va vb _ _ W hW h1 h2 ?_ ?_
      ·simp;omega
      ·rw[qjh,qjh]
       have e1:(if neg then -(qaz 0 a.data.toList:Int) else(qaz 0 a.data.toList:Int)).natAbs=qaz 0 a.data.toList:=by cases neg<;>simp
       rw[e1];simp only[Int.natAbs_natCast];have hwb2:wl (qaz 0 b.data.toList)≤1073741824:=by omega
       have hwa2:wl (qaz 0 a.data.toList)≤1073741824:=by omega
       show wl _+1+(wl (qaz 0 b.data.toList)+1)≤_;generalize wl (qaz 0 b.data.toList)=y at *;generalize wl (qaz 0 a.data.toList)=x at *;unfold Cap;omega
     clear fV gV lF jD dJ dG hz HP nN;generalize qaz 0 a.data.toList=pa at *;generalize qaz 0 b.data.toList=pb at *;generalize ((((if neg then -(pa:Int) else(pa:Int)):Int):Rat)/((pb:Int):Rat))=q at *;go_enter Tryz.func49,Tryz.ntmps49;go_wp2_with fail;refine(qQ.out _).mono ?_;rintro e w1 ⟨rfl,dI⟩;rw[dI];clear dI qQ;go_wp2_with fail;refine(gM.out _ aO.out).mono ?_;rintro e w2 ⟨rfl,hr⟩;have cY:=hid hr;clear hr gM aO;go_wp2_with fail;refine(qS.out _ cY.out).mono ?_;rintro e w3 ⟨rfl,hr⟩;have iI:=hid hr;clear hr qS cY;go_wp2_with fail;refine(fF.out _ iI.out).mono ?_;rintro e w4 ⟨rfl,hr⟩;have tP:=hid hr;clear hr fF iI;go_wp2_with fail;refine(qP.out _ tP.out).mono ?_;rintro e w5 ⟨⟨v5,rfl,hn⟩,hr,hb⟩;have Ev:=hid hn;have uO:=hid hr;obtain⟨p5,k5,c5,rfl,Eu⟩:=qar hn;have oG:((k5:Int)==0)=false:=zat (by have:=Kp.out;omega);clear hn hr hb Eu tP qP;go_wp2_with fail;refine(Sd.out _ uO.out).mono ?_;rintro e w6 ⟨⟨v6,rfl,hn⟩,hr,hb⟩;have Se:=hid hn;have Hf:=hid hr;have Bg:=hid (Ev.out.later hb);clear hn hr hb uO Ev Sd;go_wp2_with fail;refine(qjg neg v6 pa _ Hf.out Se.out).mono ?_;rintro e w7 ⟨⟨v7,rfl,hn⟩,hr,hb⟩;have Gi:=hid hn;have zS:=hid hr;have Bh:=hid (Bg.out.later hb);clear hn hr hb Hf Bg Se;go_wp2_with fail;refine(qjg false _ pb _ zS.out Bh.out).mono ?_;rintro e w8 ⟨⟨v8,rfl,hn⟩,hr,hb⟩;have Au:=hid hn;have Sf:=hid hr;have Bi:=hid (Gi.out.later hb);clear hn hr hb zS Bh Gi;go_wp2_with fail;refine(yR.out _ _ _ Sf.out Bi.out Au.out).mono ?_;rintro e w9 ⟨⟨v9,rfl,hn⟩,hr⟩;obtain⟨pt,kt,ct,pf,kf,cf,rfl,eR,dZ⟩:=hn.parts;generalize decide (q.num<0)=sg at *;obtain⟨⟨r0,g0⟩,⟨r1,g1⟩,⟨r2,g2⟩⟩:=qcr hr;have aG:=hid (qbc hn r0 r1 r2);have aH:=hid (qai hr.1 (zap w.heap.size) (.bool sg) (.slice pt kt ct) (.slice pf kf cf));clear eR dZ hn hr Sf Bi Au yR;go_wp2_with fail
     refine bodyPost_ret (v := .tuple #[.agg #[.bool sg,.slice pt kt ct,.slice pf kf cf],.bool true]) ?_ rfl ?_
     ·simp[results,Tryz.results49,go_sem,r0,r1,r2]
     ·exact qoj HR.out rfl aG.out aH.out
   ·have hdb':qj9 b.data.toList=false:=by simpa using gV
    have fF:=hid (fun W hW=>qcc (w:=w) b false hdb' W hW);have HR:Hid (qfw s.data.toList=none):=hid (by unfold qfw;rw[HP.out];simp only[fV,hdb'];simp);clear fV gV hdb' HP nN;go_enter Tryz.func49,Tryz.ntmps49;go_wp2_with fail;refine(qQ.out _).mono ?_;rintro e w1 ⟨rfl,dI⟩;rw[dI];clear dI qQ;go_wp2_with fail;refine(gM.out _ aO.out).mono ?_;rintro e w2 ⟨rfl,hr⟩;have cY:=hid hr;clear hr gM aO;go_wp2_with fail;refine(qS.out _ cY.out).mono ?_;rintro e w3 ⟨rfl,hr⟩;have iI:=hid hr;clear hr qS cY;go_wp2_with fail;refine(fF.out _ iI.out).mono ?_;rintro e w4 ⟨rfl,hr⟩;obtain⟨⟨r0,g0⟩,⟨r1,g1⟩,⟨r2,g2⟩⟩:=qcr hr;have aH:=hid (qai hr.1 (zap w.heap.size) (.bool false) (.slice none 0 0) (.slice none 0 0));clear hr fF iI;go_wp2_with fail;refine bodyPost_ret (v := .tuple #[.agg #[.bool false,.slice none 0 0,.slice none 0 0],.bool false]) ?_ rfl ?_
    ·simp[results,Tryz.results49,go_sem,r0,r1,r2]
    ·exact qe0 HR.out rfl aH.out
  ·have hda':qj9 a.data.toList=false:=by simpa using fV
   have qS:=hid (fun W hW=>qcc (w:=w) a false hda' W hW);have HR:Hid (qfw s.data.toList=none):=hid (by unfold qfw;rw[HP.out];simp only[hda'];simp);clear fV hda' HP nN;go_enter Tryz.func49,Tryz.ntmps49;go_wp2_with fail;refine(qQ.out _).mono ?_;rintro e w1 ⟨rfl,dI⟩;rw[dI];clear dI qQ;go_wp2_with fail;refine(gM.out _ aO.out).mono ?_;rintro e w2 ⟨rfl,hr⟩;have cY:=hid hr;clear hr gM aO;go_wp2_with fail;refine(qS.out _ cY.out).mono ?_;rintro e w3 ⟨rfl,hr⟩;obtain⟨⟨r0,g0⟩,⟨r1,g1⟩,⟨r2,g2⟩⟩:=qcr hr;have aH:=hid (qai hr.1 (zap w.heap.size) (.bool false) (.slice none 0 0) (.slice none 0 0));clear hr qS cY;go_wp2_with fail;refine bodyPost_ret (v := .tuple #[.agg #[.bool false,.slice none 0 0,.slice none 0 0],.bool false]) ?_ rfl ?_
   ·simp[results,Tryz.results49,go_sem,r0,r1,r2]
   ·exact qe0 HR.out rfl aH.out
end Go.Proofs.YtclimablgihlhaaGreatDoor
