/- Read: the walk. -/
import Derived.Test.YthjagoogkkgelaaGreatDoorMRead
set_option linter.all false
namespace Go.Proofs.YthjagoogkkgelaaGreatDoor
open Go.RowKit
set_option maxRecDepth 100000
set_option maxHeartbeats 4000000
def qe1(w:World)(W:World):Prop:=qek w false (.slice none 0 0) (.slice none 0 0) W
theorem qe1.later{w W W':World}(h:qe1 w W)(hb:Below W.heap.size W W'):qe1 w W':=qek.later h hb
theorem qe1.gw{w W:World}(h:qe1 w W)(hg:GW w):GW W:=hg.later h.1
theorem qcg{w:World}(s:ByteArray)(b:Bool)(hb:qkv s.data.toList=b)(W:World)(hW:qe1 w W):
  Calls Tryz.prog 54 #[.string s] W fun e w'=>e = .returned (.bool b)∧qe1 w w':=
 (qf8 s W).mono fun e w' ⟨h1,h2⟩=>⟨by rw[h1,hb],hW.later h2⟩
theorem qfi{w:World}(s:ByteArray)(hb:qkv s.data.toList=true)(hc:s.size≤Cap)(W:World)(hW:qe1 w W):
  Calls Tryz.prog 96 #[.string s] W fun e w'=>(∃v',e = .returned v'∧qaq w' v' (qa0 0 s.data.toList))∧qe1 w w'∧Below W.heap.size W w':=
 (qqn s W ((qez _).1 hb).2 hc).mono fun _ _ ⟨h1,h2⟩=>⟨h1,hW.later h2,h2⟩
theorem qj1{w:World}(neg:Bool)(vt:Value)(p:Nat)(W:World)(hW:qe1 w W)(ht:qaq W vt p):
  Calls Tryz.prog 77 #[.bool neg,vt,.slice none 0 0] W fun e w'=>(∃v',e = .returned v'∧qaj w' v' (((if neg then -(p:Int) else(p:Int)):Int):Rat))∧qe1 w w'∧Below W.heap.size W w':=by
 refine(qfa neg (neg&&decide (0<p)) vt (.slice none 0 0) p 0 0 W ht (qaq.nil W) rfl rfl).mono ?_;rintro e w' ⟨⟨vb',rfl,h1,h2⟩,hb⟩;refine⟨⟨_,rfl,qj0 w' _ _ _ _ ?_ ?_ h2⟩,hW.later hb,hb⟩
 ·cases neg
  ·simp
  ·simp<;>omega
 ·cases neg
  ·simpa using h1
  ·simpa using h1
theorem qx0{w:World}(va vb:Value)(a b:Rat)(W:World)(hW:qe1 w W)(ha:qaj W va a)(hb:qaj W vb b)(h0:b.num≠0)(hcap:rs a+rs b≤Cap):
  Calls Tryz.prog 41 #[va,vb] W fun e w'=>(∃v',e = .returned v'∧qaj w' v' (a/b))∧qe1 w w':=
 (qfo va vb a b W ha hb h0 hcap).mono fun _ _ ⟨h1,h2⟩=>⟨h1,hW.later h2⟩
theorem qj2(z:Int):rs (z:Rat)=wl z.natAbs+1:=by
 unfold rs
 have:wl 1=1:=by
  unfold wl;rw[qoc];rfl
 simp[this]
theorem qx1(s:ByteArray)(w:World)(hg:GW w)(hs:s.size≤1073741824):
  Calls Tryz.prog 55 #[.string s] w (q17 (qf9 s.data.toList) w):=by
 obtain⟨d,hd⟩:∃d:ByteArray,d=⟨(Lib.trimPrefix s.data.toList [45]).toArray⟩:=⟨_,rfl⟩;obtain⟨neg,hneg⟩:∃neg,neg=Lib.hasPrefix s.data.toList [45]:=⟨_,rfl⟩
 have HCP:Hid (∀W,Calls Tryz.prog 95 #[.string s,.string ⟨#[45]⟩] W fun e w'=>e = .returned (.tuple #[.string d,.bool neg])∧w'=W):=hid fun W=>by
  rw[hd,hneg];exact Tryz.strings_CutPrefix s ⟨#[45]⟩ W
 have hdl:d.data.toList=Lib.trimPrefix s.data.toList [45]:=by rw[hd]
 have hds:d.size≤1073741824:=by
  have h1:=qhv s.data.toList [45];rw[←hdl] at h1;simp at h1;omega
 obtain⟨a,ha⟩:∃a:ByteArray,a=⟨(Lib.cut d.data.toList [47]).1.toArray⟩:=⟨_,rfl⟩;obtain⟨b,hb⟩:∃b:ByteArray,b=⟨(Lib.cut d.data.toList [47]).2.1.toArray⟩:=⟨_,rfl⟩;obtain⟨f,hf⟩:∃f,f=(Lib.cut d.data.toList [47]).2.2:=⟨_,rfl⟩
 have HCUT:Hid (∀W,qe1 w W→Calls Tryz.prog 52 #[.string d,.string ⟨#[47]⟩] W fun e w'=>e = .returned (.tuple #[.string a,.string b,.bool f])∧qe1 w w'):=hid fun W hW=>by
  obtain⟨_,m,hm⟩:=hW.gw hg;refine(Tryz.strings_Cut d ⟨#[47]⟩ m W (by omega) hm).mono ?_;rintro e w' ⟨h1,k,h2⟩;refine⟨by rw[h1,ha,hb,hf], ?_⟩;rw[h2];exact hW.later (below_drewN (Below.refl _ _) k)
 have hal:a.data.toList=(Lib.cut d.data.toList [47]).1:=by rw[ha]
 have hbl:b.data.toList=(Lib.cut d.data.toList [47]).2.1:=by rw[hb]
 have has:a.size≤1073741824:=by
  have h1:=(qm0 d.data.toList [47]).1;rw[←hal] at h1;simp at h1;omega
 have hbs:b.size≤1073741824:=by
  have h1:=(qm0 d.data.toList [47]).2;rw[←hbl] at h1;simp at h1;omega
 have HPARTS:Hid (qcq s.data.toList=(neg,a.data.toList,if f then b.data.toList else[49])):=hid (by
  unfold qcq
  rw[←hdl,←hneg,←hal,←hbl,←hf])
 have HW0:=hid (qht w false (.slice none 0 0) (.slice none 0 0));clear hd hneg hdl hds ha hb hf hal hbl hg hs;cases f
 ·have HP:Hid (qcq s.data.toList=(neg,a.data.toList,(⟨#[49]⟩:ByteArray).data.toList)):=hid (by rw[HPARTS.out];rfl)
  clear HPARTS;have hbs2:(⟨#[49]⟩:ByteArray).size≤1073741824:=by show 1≤_;omega
  by_cases hda:qkv a.data.toList=true
  ·have HAA:=hid (fun W hW=>qcg (w:=w) a true hda W hW)
   by_cases hdb:qkv (⟨#[49]⟩:ByteArray).data.toList=true
   ·have HAB:=hid (fun W hW=>qcg (w:=w) (⟨#[49]⟩:ByteArray) true hdb W hW)
    have HRA:=hid (fun W hW=>qfi (w:=w) a hda (by unfold Cap;omega) W hW);have HRB:=hid (fun W hW=>qfi (w:=w) (⟨#[49]⟩:ByteArray) hdb (by unfold Cap;omega) W hW);have hwa:=qmz _ ((qez _).1 hda).2;have hwb:=qmz _ ((qez _).1 hdb).2;have hla:a.data.toList.length=a.size:=by simp
    have hlb:(⟨#[49]⟩:ByteArray).data.toList.length=(⟨#[49]⟩:ByteArray).size:=by first|rfl|simp
    by_cases hz:qa0 0 (⟨#[49]⟩:ByteArray).data.toList=0
    ·have HR:Hid (qf9 s.data.toList=none):=hid (by unfold qf9;rw[HP.out];simp only[hda,hdb,hz];simp)
     rw[hz] at HRB;clear hda hdb hwa hwb hla hlb hz HP hbs2;go_enter Tryz.func55,Tryz.ntmps55;go_wp2_with fail;refine(HCP.out _).mono ?_;rintro e w1 ⟨rfl,hw1⟩;rw[hw1];clear hw1 HCP;go_wp2_with fail;refine(HCUT.out _ HW0.out).mono ?_;rintro e w2 ⟨rfl,hr⟩;have HR2:=hid hr;clear hr HCUT HW0;go_wp2_with fail;refine(HAA.out _ HR2.out).mono ?_;rintro e w3 ⟨rfl,hr⟩;have HR3:=hid hr;clear hr HAA HR2;go_wp2_with fail;refine(HAB.out _ HR3.out).mono ?_;rintro e w4 ⟨rfl,hr⟩;have HR4:=hid hr;clear hr HAB HR3;go_wp2_with fail;refine(HRB.out _ HR4.out).mono ?_;rintro e w5 ⟨⟨v5,rfl,hn⟩,hr,hb⟩;obtain⟨p5,k5,c5,rfl,hk5⟩:=qas hn;obtain rfl:k5=0:=by rw[hk5];exact qcp
     obtain⟨⟨r0,g0⟩,⟨r1,g1⟩,⟨r2,g2⟩⟩:=qcv hr;have HB5:=hid hr.1;have HBEL:=hid (qai hr.1 (Nat.le_refl w.heap.size) (.bool false) (.slice none 0 0) (.slice none 0 0));clear hn hr hb hk5 HR4 HRB;go_wp2_with fail;refine bodyPost_ret (v := .tuple #[.agg #[.bool false,.slice none 0 0,.slice none 0 0],.bool false]) ?_ rfl ?_
     ·simp[results,Tryz.results55,go_sem,r0,r1,r2]
     ·exact qfb HR.out rfl HBEL.out
    ·have HR:Hid (qf9 s.data.toList=some ((((if neg then -(qa0 0 a.data.toList:Int) else(qa0 0 a.data.toList:Int)):Int):Rat)/((qa0 0 (⟨#[49]⟩:ByteArray).data.toList:Int):Rat))):=hid (by unfold qf9;rw[HP.out];simp only[hda,hdb];simp[hz])
     have HNZ:Hid (wl (qa0 0 (⟨#[49]⟩:ByteArray).data.toList)≠0):=hid (fun e=>hz (qeu e))
     have HOV:Hid (∀W va vb,qe1 w W→qaj W va (((if neg then -(qa0 0 a.data.toList:Int) else(qa0 0 a.data.toList:Int)):Int):Rat)→qaj W vb ((((if false then -(qa0 0 (⟨#[49]⟩:ByteArray).data.toList:Int) else(qa0 0 (⟨#[49]⟩:ByteArray).data.toList:Int))):Int):Rat)→Calls Tryz.prog 41 #[va,vb] W fun e w'=>(∃v',e = .returned v'∧qaj w' v' ((((if neg then -(qa0 0 a.data.toList:Int) else(qa0 0 a.data.toList:Int)):Int):Rat)/((qa0 0 (⟨#[49]⟩:ByteArray).data.toList:Int):Rat)))∧qe1 w w'):=hid fun W va vb hW h1 h2=>by
      refine qx0 va vb _ _ W hW h1 h2 ?_ ?_
      ·simp;omega
      ·rw[qj2,qj2]
       have e1:(if neg then -(qa0 0 a.data.toList:Int) else(qa0 0 a.data.toList:Int)).natAbs=qa0 0 a.data.toList:=by cases neg<;>simp
       rw[e1];simp only[Int.natAbs_natCast];have hwb2:wl (qa0 0 (⟨#[49]⟩:ByteArray).data.toList)≤1073741824:=by omega
       have hwa2:wl (qa0 0 a.data.toList)≤1073741824:=by omega
       show wl _+1+(wl (qa0 0 (⟨#[49]⟩:ByteArray).data.toList)+1)≤_;generalize wl (qa0 0 (⟨#[49]⟩:ByteArray).data.toList)=y at *;generalize wl (qa0 0 a.data.toList)=x at *;unfold Cap;omega
     clear hda hdb hwa hwb hla hlb hz HP hbs2;generalize qa0 0 a.data.toList=pa at *;generalize qa0 0 (⟨#[49]⟩:ByteArray).data.toList=pb at *;generalize ((((if neg then -(pa:Int) else(pa:Int)):Int):Rat)/((pb:Int):Rat))=q at *;go_enter Tryz.func55,Tryz.ntmps55;go_wp2_with fail;refine(HCP.out _).mono ?_;rintro e w1 ⟨rfl,hw1⟩;rw[hw1];clear hw1 HCP;go_wp2_with fail;refine(HCUT.out _ HW0.out).mono ?_;rintro e w2 ⟨rfl,hr⟩;have HR2:=hid hr;clear hr HCUT HW0;go_wp2_with fail;refine(HAA.out _ HR2.out).mono ?_;rintro e w3 ⟨rfl,hr⟩;have HR3:=hid hr;clear hr HAA HR2;go_wp2_with fail;refine(HAB.out _ HR3.out).mono ?_;rintro e w4 ⟨rfl,hr⟩;have HR4:=hid hr;clear hr HAB HR3;go_wp2_with fail;refine(HRB.out _ HR4.out).mono ?_;rintro e w5 ⟨⟨v5,rfl,hn⟩,hr,hb⟩;have HV5:=hid hn;have HR5:=hid hr;obtain⟨p5,k5,c5,rfl,hk5⟩:=qas hn;have hk0:((k5:Int)==0)=false:=beq_eq_false_iff_ne.2 (by have:=HNZ.out;omega);clear hn hr hb hk5 HR4 HRB;go_wp2_with fail;refine(HRA.out _ HR5.out).mono ?_;rintro e w6 ⟨⟨v6,rfl,hn⟩,hr,hb⟩;have HV6:=hid hn;have HR6:=hid hr;have HV56:=hid (HV5.out.later hb);clear hn hr hb HR5 HV5 HRA;go_wp2_with fail;refine(qj1 neg v6 pa _ HR6.out HV6.out).mono ?_;rintro e w7 ⟨⟨v7,rfl,hn⟩,hr,hb⟩;have HV7:=hid hn;have HR7:=hid hr;have HV57:=hid (HV56.out.later hb);clear hn hr hb HR6 HV56 HV6;go_wp2_with fail;refine(qj1 false _ pb _ HR7.out HV57.out).mono ?_;rintro e w8 ⟨⟨v8,rfl,hn⟩,hr,hb⟩;have HV8:=hid hn;have HR8:=hid hr;have HV78:=hid (HV7.out.later hb);clear hn hr hb HR7 HV57 HV7;go_wp2_with fail;refine(HOV.out _ _ _ HR8.out HV78.out HV8.out).mono ?_;rintro e w9 ⟨⟨v9,rfl,hn⟩,hr⟩;obtain⟨pt,kt,ct,pf,kf,cf,rfl,hp1,hp2⟩:=hn.parts;generalize decide (q.num<0)=sg at *;obtain⟨⟨r0,g0⟩,⟨r1,g1⟩,⟨r2,g2⟩⟩:=qcv hr;have HFIN:=hid (qbd hn r0 r1 r2)
     have HBEL:=hid (qai hr.1 (Nat.le_refl w.heap.size) (.bool sg) (.slice pt kt ct) (.slice pf kf cf));clear hp1 hp2 hn hr HR8 HV78 HV8 HOV;go_wp2_with fail;refine bodyPost_ret (v := .tuple #[.agg #[.bool sg,.slice pt kt ct,.slice pf kf cf],.bool true]) ?_ rfl ?_
     ·simp[results,Tryz.results55,go_sem,r0,r1,r2]
     ·exact qpb HR.out rfl HFIN.out HBEL.out
   ·have hdb':qkv (⟨#[49]⟩:ByteArray).data.toList=false:=by simpa using hdb
    have HAB:=hid (fun W hW=>qcg (w:=w) (⟨#[49]⟩:ByteArray) false hdb' W hW);have HR:Hid (qf9 s.data.toList=none):=hid (by unfold qf9;rw[HP.out];simp only[hda,hdb'];simp);clear hda hdb hdb' HP hbs2;go_enter Tryz.func55,Tryz.ntmps55;go_wp2_with fail;refine(HCP.out _).mono ?_;rintro e w1 ⟨rfl,hw1⟩;rw[hw1];clear hw1 HCP;go_wp2_with fail;refine(HCUT.out _ HW0.out).mono ?_;rintro e w2 ⟨rfl,hr⟩;have HR2:=hid hr;clear hr HCUT HW0;go_wp2_with fail;refine(HAA.out _ HR2.out).mono ?_;rintro e w3 ⟨rfl,hr⟩;have HR3:=hid hr;clear hr HAA HR2;go_wp2_with fail;refine(HAB.out _ HR3.out).mono ?_;rintro e w4 ⟨rfl,hr⟩;obtain⟨⟨r0,g0⟩,⟨r1,g1⟩,⟨r2,g2⟩⟩:=qcv hr;have HBEL:=hid (qai hr.1 (Nat.le_refl w.heap.size) (.bool false) (.slice none 0 0) (.slice none 0 0));clear hr HAB HR3;go_wp2_with fail;refine bodyPost_ret (v := .tuple #[.agg #[.bool false,.slice none 0 0,.slice none 0 0],.bool false]) ?_ rfl ?_
    ·simp[results,Tryz.results55,go_sem,r0,r1,r2]
    ·exact qfb HR.out rfl HBEL.out
  ·have hda':qkv a.data.toList=false:=by simpa using hda
   have HAA:=hid (fun W hW=>qcg (w:=w) a false hda' W hW);have HR:Hid (qf9 s.data.toList=none):=hid (by unfold qf9;rw[HP.out];simp only[hda'];simp);clear hda hda' HP hbs2;go_enter Tryz.func55,Tryz.ntmps55;go_wp2_with fail;refine(HCP.out _).mono ?_;rintro e w1 ⟨rfl,hw1⟩;rw[hw1];clear hw1 HCP;go_wp2_with fail;refine(HCUT.out _ HW0.out).mono ?_;rintro e w2 ⟨rfl,hr⟩;have HR2:=hid hr;clear hr HCUT HW0;go_wp2_with fail;refine(HAA.out _ HR2.out).mono ?_;rintro e w3 ⟨rfl,hr⟩;obtain⟨⟨r0,g0⟩,⟨r1,g1⟩,⟨r2,g2⟩⟩:=qcv hr;have HBEL:=hid (qai hr.1 (Nat.le_refl w.heap.size) (.bool false) (.slice none 0 0) (.slice none 0 0));clear hr HAA HR2;go_wp2_with fail;refine bodyPost_ret (v := .tuple #[.agg #[.bool false,.slice none 0 0,.slice none 0 0],.bool false]) ?_ rfl ?_
   ·simp[results,Tryz.results55,go_sem,r0,r1,r2]
   ·exact qfb HR.out rfl HBEL.out
 ·have HP:Hid (qcq s.data.toList=(neg,a.data.toList,b.data.toList)):=hid (by rw[HPARTS.out];rfl)
  clear HPARTS;have hbs2:b.size≤1073741824:=hbs;by_cases hda:qkv a.data.toList=true
  ·have HAA:=hid (fun W hW=>qcg (w:=w) a true hda W hW)
   by_cases hdb:qkv b.data.toList=true
   ·have HAB:=hid (fun W hW=>qcg (w:=w) b true hdb W hW)
    have HRA:=hid (fun W hW=>qfi (w:=w) a hda (by unfold Cap;omega) W hW);have HRB:=hid (fun W hW=>qfi (w:=w) b hdb (by unfold Cap;omega) W hW);have hwa:=qmz _ ((qez _).1 hda).2;have hwb:=qmz _ ((qez _).1 hdb).2;have hla:a.data.toList.length=a.size:=by simp
    have hlb:b.data.toList.length=b.size:=by first|rfl|simp
    by_cases hz:qa0 0 b.data.toList=0
    ·have HR:Hid (qf9 s.data.toList=none):=hid (by unfold qf9;rw[HP.out];simp only[hda,hdb,hz];simp)
     rw[hz] at HRB;clear hda hdb hwa hwb hla hlb hz HP hbs2;go_enter Tryz.func55,Tryz.ntmps55;go_wp2_with fail;refine(HCP.out _).mono ?_;rintro e w1 ⟨rfl,hw1⟩;rw[hw1];clear hw1 HCP;go_wp2_with fail;refine(HCUT.out _ HW0.out).mono ?_;rintro e w2 ⟨rfl,hr⟩;have HR2:=hid hr;clear hr HCUT HW0;go_wp2_with fail;refine(HAA.out _ HR2.out).mono ?_;rintro e w3 ⟨rfl,hr⟩;have HR3:=hid hr;clear hr HAA HR2;go_wp2_with fail;refine(HAB.out _ HR3.out).mono ?_;rintro e w4 ⟨rfl,hr⟩;have HR4:=hid hr;clear hr HAB HR3;go_wp2_with fail;refine(HRB.out _ HR4.out).mono ?_;rintro e w5 ⟨⟨v5,rfl,hn⟩,hr,hb⟩;obtain⟨p5,k5,c5,rfl,hk5⟩:=qas hn;obtain rfl:k5=0:=by rw[hk5];exact qcp
     obtain⟨⟨r0,g0⟩,⟨r1,g1⟩,⟨r2,g2⟩⟩:=qcv hr;have HB5:=hid hr.1;have HBEL:=hid (qai hr.1 (Nat.le_refl w.heap.size) (.bool false) (.slice none 0 0) (.slice none 0 0));clear hn hr hb hk5 HR4 HRB;go_wp2_with fail;refine bodyPost_ret (v := .tuple #[.agg #[.bool false,.slice none 0 0,.slice none 0 0],.bool false]) ?_ rfl ?_
     ·simp[results,Tryz.results55,go_sem,r0,r1,r2]
     ·exact qfb HR.out rfl HBEL.out
    ·have HR:Hid (qf9 s.data.toList=some ((((if neg then -(qa0 0 a.data.toList:Int) else(qa0 0 a.data.toList:Int)):Int):Rat)/((qa0 0 b.data.toList:Int):Rat))):=hid (by unfold qf9;rw[HP.out];simp only[hda,hdb];simp[hz])
     have HNZ:Hid (wl (qa0 0 b.data.toList)≠0):=hid (fun e=>hz (qeu e))
     have HOV:Hid (∀W va vb,qe1 w W→qaj W va (((if neg then -(qa0 0 a.data.toList:Int) else(qa0 0 a.data.toList:Int)):Int):Rat)→qaj W vb ((((if false then -(qa0 0 b.data.toList:Int) else(qa0 0 b.data.toList:Int))):Int):Rat)→Calls Tryz.prog 41 #[va,vb] W fun e w'=>(∃v',e = .returned v'∧qaj w' v' ((((if neg then -(qa0 0 a.data.toList:Int) else(qa0 0 a.data.toList:Int)):Int):Rat)/((qa0 0 b.data.toList:Int):Rat)))∧qe1 w w'):=hid fun W va vb hW h1 h2=>by
      refine qx0 va vb _ _ W hW h1 h2 ?_ ?_
      ·simp;omega
      ·rw[qj2,qj2]
       have e1:(if neg then -(qa0 0 a.data.toList:Int) else(qa0 0 a.data.toList:Int)).natAbs=qa0 0 a.data.toList:=by cases neg<;>simp
       rw[e1];simp only[Int.natAbs_natCast];have hwb2:wl (qa0 0 b.data.toList)≤1073741824:=by omega
       have hwa2:wl (qa0 0 a.data.toList)≤1073741824:=by omega
       show wl _+1+(wl (qa0 0 b.data.toList)+1)≤_;generalize wl (qa0 0 b.data.toList)=y at *;generalize wl (qa0 0 a.data.toList)=x at *;unfold Cap;omega
     clear hda hdb hwa hwb hla hlb hz HP hbs2;generalize qa0 0 a.data.toList=pa at *;generalize qa0 0 b.data.toList=pb at *;generalize ((((if neg then -(pa:Int) else(pa:Int)):Int):Rat)/((pb:Int):Rat))=q at *;go_enter Tryz.func55,Tryz.ntmps55;go_wp2_with fail;refine(HCP.out _).mono ?_;rintro e w1 ⟨rfl,hw1⟩;rw[hw1];clear hw1 HCP;go_wp2_with fail;refine(HCUT.out _ HW0.out).mono ?_;rintro e w2 ⟨rfl,hr⟩;have HR2:=hid hr;clear hr HCUT HW0;go_wp2_with fail;refine(HAA.out _ HR2.out).mono ?_;rintro e w3 ⟨rfl,hr⟩;have HR3:=hid hr;clear hr HAA HR2;go_wp2_with fail;refine(HAB.out _ HR3.out).mono ?_;rintro e w4 ⟨rfl,hr⟩;have HR4:=hid hr;clear hr HAB HR3;go_wp2_with fail;refine(HRB.out _ HR4.out).mono ?_;rintro e w5 ⟨⟨v5,rfl,hn⟩,hr,hb⟩;have HV5:=hid hn;have HR5:=hid hr;obtain⟨p5,k5,c5,rfl,hk5⟩:=qas hn;have hk0:((k5:Int)==0)=false:=beq_eq_false_iff_ne.2 (by have:=HNZ.out;omega);clear hn hr hb hk5 HR4 HRB;go_wp2_with fail;refine(HRA.out _ HR5.out).mono ?_;rintro e w6 ⟨⟨v6,rfl,hn⟩,hr,hb⟩;have HV6:=hid hn;have HR6:=hid hr;have HV56:=hid (HV5.out.later hb);clear hn hr hb HR5 HV5 HRA;go_wp2_with fail;refine(qj1 neg v6 pa _ HR6.out HV6.out).mono ?_;rintro e w7 ⟨⟨v7,rfl,hn⟩,hr,hb⟩;have HV7:=hid hn;have HR7:=hid hr;have HV57:=hid (HV56.out.later hb);clear hn hr hb HR6 HV56 HV6;go_wp2_with fail;refine(qj1 false _ pb _ HR7.out HV57.out).mono ?_;rintro e w8 ⟨⟨v8,rfl,hn⟩,hr,hb⟩;have HV8:=hid hn;have HR8:=hid hr;have HV78:=hid (HV7.out.later hb);clear hn hr hb HR7 HV57 HV7;go_wp2_with fail;refine(HOV.out _ _ _ HR8.out HV78.out HV8.out).mono ?_;rintro e w9 ⟨⟨v9,rfl,hn⟩,hr⟩;obtain⟨pt,kt,ct,pf,kf,cf,rfl,hp1,hp2⟩:=hn.parts;generalize decide (q.num<0)=sg at *;obtain⟨⟨r0,g0⟩,⟨r1,g1⟩,⟨r2,g2⟩⟩:=qcv hr;have HFIN:=hid (qbd hn r0 r1 r2)
     have HBEL:=hid (qai hr.1 (Nat.le_refl w.heap.size) (.bool sg) (.slice pt kt ct) (.slice pf kf cf));clear hp1 hp2 hn hr HR8 HV78 HV8 HOV;go_wp2_with fail;refine bodyPost_ret (v := .tuple #[.agg #[.bool sg,.slice pt kt ct,.slice pf kf cf],.bool true]) ?_ rfl ?_
     ·simp[results,Tryz.results55,go_sem,r0,r1,r2]
     ·exact qpb HR.out rfl HFIN.out HBEL.out
   ·have hdb':qkv b.data.toList=false:=by simpa using hdb
    have HAB:=hid (fun W hW=>qcg (w:=w) b false hdb' W hW);have HR:Hid (qf9 s.data.toList=none):=hid (by unfold qf9;rw[HP.out];simp only[hda,hdb'];simp);clear hda hdb hdb' HP hbs2;go_enter Tryz.func55,Tryz.ntmps55;go_wp2_with fail;refine(HCP.out _).mono ?_;rintro e w1 ⟨rfl,hw1⟩;rw[hw1];clear hw1 HCP;go_wp2_with fail;refine(HCUT.out _ HW0.out).mono ?_;rintro e w2 ⟨rfl,hr⟩;have HR2:=hid hr;clear hr HCUT HW0;go_wp2_with fail;refine(HAA.out _ HR2.out).mono ?_;rintro e w3 ⟨rfl,hr⟩;have HR3:=hid hr;clear hr HAA HR2;go_wp2_with fail;refine(HAB.out _ HR3.out).mono ?_;rintro e w4 ⟨rfl,hr⟩;obtain⟨⟨r0,g0⟩,⟨r1,g1⟩,⟨r2,g2⟩⟩:=qcv hr;have HBEL:=hid (qai hr.1 (Nat.le_refl w.heap.size) (.bool false) (.slice none 0 0) (.slice none 0 0));clear hr HAB HR3;go_wp2_with fail;refine bodyPost_ret (v := .tuple #[.agg #[.bool false,.slice none 0 0,.slice none 0 0],.bool false]) ?_ rfl ?_
    ·simp[results,Tryz.results55,go_sem,r0,r1,r2]
    ·exact qfb HR.out rfl HBEL.out
  ·have hda':qkv a.data.toList=false:=by simpa using hda
   have HAA:=hid (fun W hW=>qcg (w:=w) a false hda' W hW);have HR:Hid (qf9 s.data.toList=none):=hid (by unfold qf9;rw[HP.out];simp only[hda'];simp);clear hda hda' HP hbs2;go_enter Tryz.func55,Tryz.ntmps55;go_wp2_with fail;refine(HCP.out _).mono ?_;rintro e w1 ⟨rfl,hw1⟩;rw[hw1];clear hw1 HCP;go_wp2_with fail;refine(HCUT.out _ HW0.out).mono ?_;rintro e w2 ⟨rfl,hr⟩;have HR2:=hid hr;clear hr HCUT HW0;go_wp2_with fail;refine(HAA.out _ HR2.out).mono ?_;rintro e w3 ⟨rfl,hr⟩;obtain⟨⟨r0,g0⟩,⟨r1,g1⟩,⟨r2,g2⟩⟩:=qcv hr;have HBEL:=hid (qai hr.1 (Nat.le_refl w.heap.size) (.bool false) (.slice none 0 0) (.slice none 0 0));clear hr HAA HR2;go_wp2_with fail;refine bodyPost_ret (v := .tuple #[.agg #[.bool false,.slice none 0 0,.slice none 0 0],.bool false]) ?_ rfl ?_
   ·simp[results,Tryz.results55,go_sem,r0,r1,r2]
   ·exact qfb HR.out rfl HBEL.out
end Go.Proofs.YthjagoogkkgelaaGreatDoor
