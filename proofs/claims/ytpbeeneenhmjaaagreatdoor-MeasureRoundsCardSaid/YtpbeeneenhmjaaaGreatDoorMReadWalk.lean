/- Read: the walk. -/
import Derived.Test.YtpbeeneenhmjaaaGreatDoorMRead
set_option linter.all false
namespace Go.Proofs.YtpbeeneenhmjaaaGreatDoor
open Go.RowKit
set_option maxRecDepth 100000
set_option maxHeartbeats 4000000
def qe8(w:World)(W:World):Prop:=qes w false (.slice none 0 0) (.slice none 0 0) W
theorem qe8.later{w W W':World}(h:qe8 w W)(hb:Below W.heap.size W W'):qe8 w W':=qes.later h hb
theorem qe8.gw{w W:World}(h:qe8 w W)(hg:GW w):GW W:=hg.later h.1
theorem qch{w:World}(s:ByteArray)(b:Bool)(hb:qkx s.data.toList=b)(W:World)(hW:qe8 w W):
  Calls Tryz.prog 64 #[.string s] W fun e w'=>e = .returned (.bool b)∧qe8 w w':=
 (qgh s W).mono fun e w' ⟨h1,h2⟩=>⟨by rw[h1,hb],hW.later h2⟩
theorem qfu{w:World}(s:ByteArray)(hb:qkx s.data.toList=true)(hc:s.size≤Cap)(W:World)(hW:qe8 w W):
  Calls Tryz.prog 117 #[.string s] W fun e w'=>(∃v',e = .returned v'∧qau w' v' (qa2 0 s.data.toList))∧qe8 w w'∧Below W.heap.size W w':=
 (qq4 s W ((qej _).1 hb).2 hc).mono fun _ _ ⟨h1,h2⟩=>⟨h1,hW.later h2,h2⟩
theorem qkd{w:World}(neg:Bool)(vt:Value)(p:Nat)(W:World)(hW:qe8 w W)(ht:qau W vt p):
  Calls Tryz.prog 118 #[.bool neg,vt,.slice none 0 0] W fun e w'=>(∃v',e = .returned v'∧qan w' v' (((if neg then -(p:Int) else(p:Int)):Int):Rat))∧qe8 w w'∧Below W.heap.size W w':=by
 refine(qfk neg (neg&&decide (0<p)) vt (.slice none 0 0) p 0 0 W ht (qau.nil W) rfl rfl).mono ?_;rintro e w' ⟨⟨vb',rfl,h1,h2⟩,hb⟩;refine⟨⟨_,rfl,qkc w' _ _ _ _ ?_ ?_ h2⟩,hW.later hb,hb⟩
 ·cases neg
  ·simp
  ·simp<;>omega
 ·cases neg
  ·simpa using h1
  ·simpa using h1
theorem qyg{w:World}(va vb:Value)(a b:Rat)(W:World)(hW:qe8 w W)(ha:qan W va a)(hb:qan W vb b)(h0:b.num≠0)(hcap:rs a+rs b≤Cap):
  Calls Tryz.prog 71 #[va,vb] W fun e w'=>(∃v',e = .returned v'∧qan w' v' (a/b))∧qe8 w w':=
 (qf2 va vb a b W ha hb h0 hcap).mono fun _ _ ⟨h1,h2⟩=>⟨h1,hW.later h2⟩
theorem qke(z:Int):rs (z:Rat)=wl z.natAbs+1:=by
 unfold rs
 have:wl 1=1:=by
  unfold wl;rw[qos];rfl
 simp[this]
theorem qyh(s:ByteArray)(w:World)(hg:GW w)(hs:s.size≤1073741824):
  Calls Tryz.prog 65 #[.string s] w (q2m (qgi s.data.toList) w):=by
 obtain⟨d,hd⟩:∃d:ByteArray,d=⟨(Lib.trimPrefix s.data.toList [45]).toArray⟩:=⟨_,rfl⟩;obtain⟨neg,hneg⟩:∃neg,neg=Lib.hasPrefix s.data.toList [45]:=⟨_,rfl⟩
 have HCP:Hid (∀W,Calls Tryz.prog 95 #[.string s,.string ⟨#[45]⟩] W fun e w'=>e = .returned (.tuple #[.string d,.bool neg])∧w'=W):=hid fun W=>by
  rw[hd,hneg];exact Tryz.strings_CutPrefix s ⟨#[45]⟩ W
 have hdl:d.data.toList=Lib.trimPrefix s.data.toList [45]:=by rw[hd]
 have hds:d.size≤1073741824:=by
  have h1:=qhv s.data.toList [45];rw[←hdl] at h1;simp at h1;omega
 obtain⟨a,ha⟩:∃a:ByteArray,a=⟨(Lib.cut d.data.toList [47]).1.toArray⟩:=⟨_,rfl⟩;obtain⟨b,hb⟩:∃b:ByteArray,b=⟨(Lib.cut d.data.toList [47]).2.1.toArray⟩:=⟨_,rfl⟩;obtain⟨f,hf⟩:∃f,f=(Lib.cut d.data.toList [47]).2.2:=⟨_,rfl⟩
 have HCUT:Hid (∀W,qe8 w W→Calls Tryz.prog 62 #[.string d,.string ⟨#[47]⟩] W fun e w'=>e = .returned (.tuple #[.string a,.string b,.bool f])∧qe8 w w'):=hid fun W hW=>by
  obtain⟨_,m,hm⟩:=hW.gw hg;refine(Tryz.strings_Cut d ⟨#[47]⟩ m W (by omega) hm).mono ?_;rintro e w' ⟨h1,k,h2⟩;refine⟨by rw[h1,ha,hb,hf], ?_⟩;rw[h2];exact hW.later (below_drewN (Below.refl _ _) k)
 have hal:a.data.toList=(Lib.cut d.data.toList [47]).1:=by rw[ha]
 have hbl:b.data.toList=(Lib.cut d.data.toList [47]).2.1:=by rw[hb]
 have has:a.size≤1073741824:=by
  have h1:=(qnd d.data.toList [47]).1;rw[←hal] at h1;simp at h1;omega
 have hbs:b.size≤1073741824:=by
  have h1:=(qnd d.data.toList [47]).2;rw[←hbl] at h1;simp at h1;omega
 have HPARTS:Hid (qct s.data.toList=(neg,a.data.toList,if f then b.data.toList else[49])):=hid (by
  unfold qct
  rw[←hdl,←hneg,←hal,←hbl,←hf])
 have HW0:=hid (qht w false (.slice none 0 0) (.slice none 0 0));clear hd hneg hdl hds ha hb hf hal hbl hg hs;cases f
 ·have HP:Hid (qct s.data.toList=(neg,a.data.toList,(⟨#[49]⟩:ByteArray).data.toList)):=hid (by rw[HPARTS.out];rfl)
  clear HPARTS;have hbs2:(⟨#[49]⟩:ByteArray).size≤1073741824:=by show 1≤_;omega
  by_cases hda:qkx a.data.toList=true
  ·have HAA:=hid (fun W hW=>qch (w:=w) a true hda W hW)
   by_cases hdb:qkx (⟨#[49]⟩:ByteArray).data.toList=true
   ·have HAB:=hid (fun W hW=>qch (w:=w) (⟨#[49]⟩:ByteArray) true hdb W hW)
    have HRA:=hid (fun W hW=>qfu (w:=w) a hda (by unfold Cap;omega) W hW);have HRB:=hid (fun W hW=>qfu (w:=w) (⟨#[49]⟩:ByteArray) hdb (by unfold Cap;omega) W hW);have hwa:=qnc _ ((qej _).1 hda).2;have hwb:=qnc _ ((qej _).1 hdb).2;have hla:a.data.toList.length=a.size:=by simp
    have hlb:(⟨#[49]⟩:ByteArray).data.toList.length=(⟨#[49]⟩:ByteArray).size:=by first|rfl|simp
    by_cases hz:qa2 0 (⟨#[49]⟩:ByteArray).data.toList=0
    ·have HR:Hid (qgi s.data.toList=none):=hid (by unfold qgi;rw[HP.out];simp only[hda,hdb,hz];simp)
     rw[hz] at HRB;clear hda hdb hwa hwb hla hlb hz HP hbs2;go_enter Tryz.func65,Tryz.ntmps65;go_wp2_with fail;refine(HCP.out _).mono ?_;rintro e w1 ⟨rfl,hw1⟩;rw[hw1];clear hw1 HCP;go_wp2_with fail;refine(HCUT.out _ HW0.out).mono ?_;rintro e w2 ⟨rfl,hr⟩;have HR2:=hid hr;clear hr HCUT HW0;go_wp2_with fail;refine(HAA.out _ HR2.out).mono ?_;rintro e w3 ⟨rfl,hr⟩;have HR3:=hid hr;clear hr HAA HR2;go_wp2_with fail;refine(HAB.out _ HR3.out).mono ?_;rintro e w4 ⟨rfl,hr⟩;have HR4:=hid hr;clear hr HAB HR3;go_wp2_with fail;refine(HRB.out _ HR4.out).mono ?_;rintro e w5 ⟨⟨v5,rfl,hn⟩,hr,hb⟩;obtain⟨p5,k5,c5,rfl,hk5⟩:=qaw hn;obtain rfl:k5=0:=by rw[hk5];exact qcq
     obtain⟨⟨r0,g0⟩,⟨r1,g1⟩,⟨r2,g2⟩⟩:=qcz hr;have HB5:=hid hr.1;have HBEL:=hid (qao hr.1 (Nat.le_refl w.heap.size) (.bool false) (.slice none 0 0) (.slice none 0 0));clear hn hr hb hk5 HR4 HRB;go_wp2_with fail;refine bodyPost_ret (v := .tuple #[.agg #[.bool false,.slice none 0 0,.slice none 0 0],.bool false]) ?_ rfl ?_
     ·simp[results,Tryz.results65,go_sem,r0,r1,r2]
     ·exact qfm HR.out rfl HBEL.out
    ·have HR:Hid (qgi s.data.toList=some ((((if neg then -(qa2 0 a.data.toList:Int) else(qa2 0 a.data.toList:Int)):Int):Rat)/((qa2 0 (⟨#[49]⟩:ByteArray).data.toList:Int):Rat))):=hid (by unfold qgi;rw[HP.out];simp only[hda,hdb];simp[hz])
     have HNZ:Hid (wl (qa2 0 (⟨#[49]⟩:ByteArray).data.toList)≠0):=hid (fun e=>hz (qe1 e))
     have HOV:Hid (∀W va vb,qe8 w W→qan W va (((if neg then -(qa2 0 a.data.toList:Int) else(qa2 0 a.data.toList:Int)):Int):Rat)→qan W vb ((((if false then -(qa2 0 (⟨#[49]⟩:ByteArray).data.toList:Int) else(qa2 0 (⟨#[49]⟩:ByteArray).data.toList:Int))):Int):Rat)→Calls Tryz.prog 71 #[va,vb] W fun e w'=>(∃v',e = .returned v'∧qan w' v' ((((if neg then -(qa2 0 a.data.toList:Int) else(qa2 0 a.data.toList:Int)):Int):Rat)/((qa2 0 (⟨#[49]⟩:ByteArray).data.toList:Int):Rat)))∧qe8 w w'):=hid fun W va vb hW h1 h2=>by
      refine qyg va vb _ _ W hW h1 h2 ?_ ?_
      ·simp;omega
      ·rw[qke,qke]
       have e1:(if neg then -(qa2 0 a.data.toList:Int) else(qa2 0 a.data.toList:Int)).natAbs=qa2 0 a.data.toList:=by cases neg<;>simp
       rw[e1];simp only[Int.natAbs_natCast];have hwb2:wl (qa2 0 (⟨#[49]⟩:ByteArray).data.toList)≤1073741824:=by omega
       have hwa2:wl (qa2 0 a.data.toList)≤1073741824:=by omega
       show wl _+1+(wl (qa2 0 (⟨#[49]⟩:ByteArray).data.toList)+1)≤_;generalize wl (qa2 0 (⟨#[49]⟩:ByteArray).data.toList)=y at *;generalize wl (qa2 0 a.data.toList)=x at *;unfold Cap;omega
     clear hda hdb hwa hwb hla hlb hz HP hbs2;generalize qa2 0 a.data.toList=pa at *;generalize qa2 0 (⟨#[49]⟩:ByteArray).data.toList=pb at *;generalize ((((if neg then -(pa:Int) else(pa:Int)):Int):Rat)/((pb:Int):Rat))=q at *;go_enter Tryz.func65,Tryz.ntmps65;go_wp2_with fail;refine(HCP.out _).mono ?_;rintro e w1 ⟨rfl,hw1⟩;rw[hw1];clear hw1 HCP;go_wp2_with fail;refine(HCUT.out _ HW0.out).mono ?_;rintro e w2 ⟨rfl,hr⟩;have HR2:=hid hr;clear hr HCUT HW0;go_wp2_with fail;refine(HAA.out _ HR2.out).mono ?_;rintro e w3 ⟨rfl,hr⟩;have HR3:=hid hr;clear hr HAA HR2;go_wp2_with fail;refine(HAB.out _ HR3.out).mono ?_;rintro e w4 ⟨rfl,hr⟩;have HR4:=hid hr;clear hr HAB HR3;go_wp2_with fail;refine(HRB.out _ HR4.out).mono ?_;rintro e w5 ⟨⟨v5,rfl,hn⟩,hr,hb⟩;have HV5:=hid hn;have HR5:=hid hr;obtain⟨p5,k5,c5,rfl,hk5⟩:=qaw hn;have hk0:((k5:Int)==0)=false:=beq_eq_false_iff_ne.2 (by have:=HNZ.out;omega);clear hn hr hb hk5 HR4 HRB;go_wp2_with fail;refine(HRA.out _ HR5.out).mono ?_;rintro e w6 ⟨⟨v6,rfl,hn⟩,hr,hb⟩;have HV6:=hid hn;have HR6:=hid hr;have HV56:=hid (HV5.out.later hb);clear hn hr hb HR5 HV5 HRA;go_wp2_with fail;refine(qkd neg v6 pa _ HR6.out HV6.out).mono ?_;rintro e w7 ⟨⟨v7,rfl,hn⟩,hr,hb⟩;have HV7:=hid hn;have HR7:=hid hr;have HV57:=hid (HV56.out.later hb);clear hn hr hb HR6 HV56 HV6;go_wp2_with fail;refine(qkd false _ pb _ HR7.out HV57.out).mono ?_;rintro e w8 ⟨⟨v8,rfl,hn⟩,hr,hb⟩;have HV8:=hid hn;have HR8:=hid hr;have HV78:=hid (HV7.out.later hb);clear hn hr hb HR7 HV57 HV7;go_wp2_with fail;refine(HOV.out _ _ _ HR8.out HV78.out HV8.out).mono ?_;rintro e w9 ⟨⟨v9,rfl,hn⟩,hr⟩;obtain⟨pt,kt,ct,pf,kf,cf,rfl,hp1,hp2⟩:=hn.parts;generalize decide (q.num<0)=sg at *;obtain⟨⟨r0,g0⟩,⟨r1,g1⟩,⟨r2,g2⟩⟩:=qcz hr;have HFIN:=hid (qbw hn r0 r1 r2)
     have HBEL:=hid (qao hr.1 (Nat.le_refl w.heap.size) (.bool sg) (.slice pt kt ct) (.slice pf kf cf));clear hp1 hp2 hn hr HR8 HV78 HV8 HOV;go_wp2_with fail;refine bodyPost_ret (v := .tuple #[.agg #[.bool sg,.slice pt kt ct,.slice pf kf cf],.bool true]) ?_ rfl ?_
     ·simp[results,Tryz.results65,go_sem,r0,r1,r2]
     ·exact qpq HR.out rfl HFIN.out HBEL.out
   ·have hdb':qkx (⟨#[49]⟩:ByteArray).data.toList=false:=by simpa using hdb
    have HAB:=hid (fun W hW=>qch (w:=w) (⟨#[49]⟩:ByteArray) false hdb' W hW);have HR:Hid (qgi s.data.toList=none):=hid (by unfold qgi;rw[HP.out];simp only[hda,hdb'];simp);clear hda hdb hdb' HP hbs2;go_enter Tryz.func65,Tryz.ntmps65;go_wp2_with fail;refine(HCP.out _).mono ?_;rintro e w1 ⟨rfl,hw1⟩;rw[hw1];clear hw1 HCP;go_wp2_with fail;refine(HCUT.out _ HW0.out).mono ?_;rintro e w2 ⟨rfl,hr⟩;have HR2:=hid hr;clear hr HCUT HW0;go_wp2_with fail;refine(HAA.out _ HR2.out).mono ?_;rintro e w3 ⟨rfl,hr⟩;have HR3:=hid hr;clear hr HAA HR2;go_wp2_with fail;refine(HAB.out _ HR3.out).mono ?_;rintro e w4 ⟨rfl,hr⟩;obtain⟨⟨r0,g0⟩,⟨r1,g1⟩,⟨r2,g2⟩⟩:=qcz hr;have HBEL:=hid (qao hr.1 (Nat.le_refl w.heap.size) (.bool false) (.slice none 0 0) (.slice none 0 0));clear hr HAB HR3;go_wp2_with fail;refine bodyPost_ret (v := .tuple #[.agg #[.bool false,.slice none 0 0,.slice none 0 0],.bool false]) ?_ rfl ?_
    ·simp[results,Tryz.results65,go_sem,r0,r1,r2]
    ·exact qfm HR.out rfl HBEL.out
  ·have hda':qkx a.data.toList=false:=by simpa using hda
   have HAA:=hid (fun W hW=>qch (w:=w) a false hda' W hW);have HR:Hid (qgi s.data.toList=none):=hid (by unfold qgi;rw[HP.out];simp only[hda'];simp);clear hda hda' HP hbs2;go_enter Tryz.func65,Tryz.ntmps65;go_wp2_with fail;refine(HCP.out _).mono ?_;rintro e w1 ⟨rfl,hw1⟩;rw[hw1];clear hw1 HCP;go_wp2_with fail;refine(HCUT.out _ HW0.out).mono ?_;rintro e w2 ⟨rfl,hr⟩;have HR2:=hid hr;clear hr HCUT HW0;go_wp2_with fail;refine(HAA.out _ HR2.out).mono ?_;rintro e w3 ⟨rfl,hr⟩;obtain⟨⟨r0,g0⟩,⟨r1,g1⟩,⟨r2,g2⟩⟩:=qcz hr;have HBEL:=hid (qao hr.1 (Nat.le_refl w.heap.size) (.bool false) (.slice none 0 0) (.slice none 0 0));clear hr HAA HR2;go_wp2_with fail;refine bodyPost_ret (v := .tuple #[.agg #[.bool false,.slice none 0 0,.slice none 0 0],.bool false]) ?_ rfl ?_
   ·simp[results,Tryz.results65,go_sem,r0,r1,r2]
   ·exact qfm HR.out rfl HBEL.out
 ·have HP:Hid (qct s.data.toList=(neg,a.data.toList,b.data.toList)):=hid (by rw[HPARTS.out];rfl)
  clear HPARTS;have hbs2:b.size≤1073741824:=hbs;by_cases hda:qkx a.data.toList=true
  ·have HAA:=hid (fun W hW=>qch (w:=w) a true hda W hW)
   by_cases hdb:qkx b.data.toList=true
   ·have HAB:=hid (fun W hW=>qch (w:=w) b true hdb W hW)
    have HRA:=hid (fun W hW=>qfu (w:=w) a hda (by unfold Cap;omega) W hW);have HRB:=hid (fun W hW=>qfu (w:=w) b hdb (by unfold Cap;omega) W hW);have hwa:=qnc _ ((qej _).1 hda).2;have hwb:=qnc _ ((qej _).1 hdb).2;have hla:a.data.toList.length=a.size:=by simp
    have hlb:b.data.toList.length=b.size:=by first|rfl|simp
    by_cases hz:qa2 0 b.data.toList=0
    ·have HR:Hid (qgi s.data.toList=none):=hid (by unfold qgi;rw[HP.out];simp only[hda,hdb,hz];simp)
     rw[hz] at HRB;clear hda hdb hwa hwb hla hlb hz HP hbs2;go_enter Tryz.func65,Tryz.ntmps65;go_wp2_with fail;refine(HCP.out _).mono ?_;rintro e w1 ⟨rfl,hw1⟩;rw[hw1];clear hw1 HCP;go_wp2_with fail;refine(HCUT.out _ HW0.out).mono ?_;rintro e w2 ⟨rfl,hr⟩;have HR2:=hid hr;clear hr HCUT HW0;go_wp2_with fail;refine(HAA.out _ HR2.out).mono ?_;rintro e w3 ⟨rfl,hr⟩;have HR3:=hid hr;clear hr HAA HR2;go_wp2_with fail;refine(HAB.out _ HR3.out).mono ?_;rintro e w4 ⟨rfl,hr⟩;have HR4:=hid hr;clear hr HAB HR3;go_wp2_with fail;refine(HRB.out _ HR4.out).mono ?_;rintro e w5 ⟨⟨v5,rfl,hn⟩,hr,hb⟩;obtain⟨p5,k5,c5,rfl,hk5⟩:=qaw hn;obtain rfl:k5=0:=by rw[hk5];exact qcq
     obtain⟨⟨r0,g0⟩,⟨r1,g1⟩,⟨r2,g2⟩⟩:=qcz hr;have HB5:=hid hr.1;have HBEL:=hid (qao hr.1 (Nat.le_refl w.heap.size) (.bool false) (.slice none 0 0) (.slice none 0 0));clear hn hr hb hk5 HR4 HRB;go_wp2_with fail;refine bodyPost_ret (v := .tuple #[.agg #[.bool false,.slice none 0 0,.slice none 0 0],.bool false]) ?_ rfl ?_
     ·simp[results,Tryz.results65,go_sem,r0,r1,r2]
     ·exact qfm HR.out rfl HBEL.out
    ·have HR:Hid (qgi s.data.toList=some ((((if neg then -(qa2 0 a.data.toList:Int) else(qa2 0 a.data.toList:Int)):Int):Rat)/((qa2 0 b.data.toList:Int):Rat))):=hid (by unfold qgi;rw[HP.out];simp only[hda,hdb];simp[hz])
     have HNZ:Hid (wl (qa2 0 b.data.toList)≠0):=hid (fun e=>hz (qe1 e))
     have HOV:Hid (∀W va vb,qe8 w W→qan W va (((if neg then -(qa2 0 a.data.toList:Int) else(qa2 0 a.data.toList:Int)):Int):Rat)→qan W vb ((((if false then -(qa2 0 b.data.toList:Int) else(qa2 0 b.data.toList:Int))):Int):Rat)→Calls Tryz.prog 71 #[va,vb] W fun e w'=>(∃v',e = .returned v'∧qan w' v' ((((if neg then -(qa2 0 a.data.toList:Int) else(qa2 0 a.data.toList:Int)):Int):Rat)/((qa2 0 b.data.toList:Int):Rat)))∧qe8 w w'):=hid fun W va vb hW h1 h2=>by
      refine qyg va vb _ _ W hW h1 h2 ?_ ?_
      ·simp;omega
      ·rw[qke,qke]
       have e1:(if neg then -(qa2 0 a.data.toList:Int) else(qa2 0 a.data.toList:Int)).natAbs=qa2 0 a.data.toList:=by cases neg<;>simp
       rw[e1];simp only[Int.natAbs_natCast];have hwb2:wl (qa2 0 b.data.toList)≤1073741824:=by omega
       have hwa2:wl (qa2 0 a.data.toList)≤1073741824:=by omega
       show wl _+1+(wl (qa2 0 b.data.toList)+1)≤_;generalize wl (qa2 0 b.data.toList)=y at *;generalize wl (qa2 0 a.data.toList)=x at *;unfold Cap;omega
     clear hda hdb hwa hwb hla hlb hz HP hbs2;generalize qa2 0 a.data.toList=pa at *;generalize qa2 0 b.data.toList=pb at *;generalize ((((if neg then -(pa:Int) else(pa:Int)):Int):Rat)/((pb:Int):Rat))=q at *;go_enter Tryz.func65,Tryz.ntmps65;go_wp2_with fail;refine(HCP.out _).mono ?_;rintro e w1 ⟨rfl,hw1⟩;rw[hw1];clear hw1 HCP;go_wp2_with fail;refine(HCUT.out _ HW0.out).mono ?_;rintro e w2 ⟨rfl,hr⟩;have HR2:=hid hr;clear hr HCUT HW0;go_wp2_with fail;refine(HAA.out _ HR2.out).mono ?_;rintro e w3 ⟨rfl,hr⟩;have HR3:=hid hr;clear hr HAA HR2;go_wp2_with fail;refine(HAB.out _ HR3.out).mono ?_;rintro e w4 ⟨rfl,hr⟩;have HR4:=hid hr;clear hr HAB HR3;go_wp2_with fail;refine(HRB.out _ HR4.out).mono ?_;rintro e w5 ⟨⟨v5,rfl,hn⟩,hr,hb⟩;have HV5:=hid hn;have HR5:=hid hr;obtain⟨p5,k5,c5,rfl,hk5⟩:=qaw hn;have hk0:((k5:Int)==0)=false:=beq_eq_false_iff_ne.2 (by have:=HNZ.out;omega);clear hn hr hb hk5 HR4 HRB;go_wp2_with fail;refine(HRA.out _ HR5.out).mono ?_;rintro e w6 ⟨⟨v6,rfl,hn⟩,hr,hb⟩;have HV6:=hid hn;have HR6:=hid hr;have HV56:=hid (HV5.out.later hb);clear hn hr hb HR5 HV5 HRA;go_wp2_with fail;refine(qkd neg v6 pa _ HR6.out HV6.out).mono ?_;rintro e w7 ⟨⟨v7,rfl,hn⟩,hr,hb⟩;have HV7:=hid hn;have HR7:=hid hr;have HV57:=hid (HV56.out.later hb);clear hn hr hb HR6 HV56 HV6;go_wp2_with fail;refine(qkd false _ pb _ HR7.out HV57.out).mono ?_;rintro e w8 ⟨⟨v8,rfl,hn⟩,hr,hb⟩;have HV8:=hid hn;have HR8:=hid hr;have HV78:=hid (HV7.out.later hb);clear hn hr hb HR7 HV57 HV7;go_wp2_with fail;refine(HOV.out _ _ _ HR8.out HV78.out HV8.out).mono ?_;rintro e w9 ⟨⟨v9,rfl,hn⟩,hr⟩;obtain⟨pt,kt,ct,pf,kf,cf,rfl,hp1,hp2⟩:=hn.parts;generalize decide (q.num<0)=sg at *;obtain⟨⟨r0,g0⟩,⟨r1,g1⟩,⟨r2,g2⟩⟩:=qcz hr;have HFIN:=hid (qbw hn r0 r1 r2)
     have HBEL:=hid (qao hr.1 (Nat.le_refl w.heap.size) (.bool sg) (.slice pt kt ct) (.slice pf kf cf));clear hp1 hp2 hn hr HR8 HV78 HV8 HOV;go_wp2_with fail;refine bodyPost_ret (v := .tuple #[.agg #[.bool sg,.slice pt kt ct,.slice pf kf cf],.bool true]) ?_ rfl ?_
     ·simp[results,Tryz.results65,go_sem,r0,r1,r2]
     ·exact qpq HR.out rfl HFIN.out HBEL.out
   ·have hdb':qkx b.data.toList=false:=by simpa using hdb
    have HAB:=hid (fun W hW=>qch (w:=w) b false hdb' W hW);have HR:Hid (qgi s.data.toList=none):=hid (by unfold qgi;rw[HP.out];simp only[hda,hdb'];simp);clear hda hdb hdb' HP hbs2;go_enter Tryz.func65,Tryz.ntmps65;go_wp2_with fail;refine(HCP.out _).mono ?_;rintro e w1 ⟨rfl,hw1⟩;rw[hw1];clear hw1 HCP;go_wp2_with fail;refine(HCUT.out _ HW0.out).mono ?_;rintro e w2 ⟨rfl,hr⟩;have HR2:=hid hr;clear hr HCUT HW0;go_wp2_with fail;refine(HAA.out _ HR2.out).mono ?_;rintro e w3 ⟨rfl,hr⟩;have HR3:=hid hr;clear hr HAA HR2;go_wp2_with fail;refine(HAB.out _ HR3.out).mono ?_;rintro e w4 ⟨rfl,hr⟩;obtain⟨⟨r0,g0⟩,⟨r1,g1⟩,⟨r2,g2⟩⟩:=qcz hr;have HBEL:=hid (qao hr.1 (Nat.le_refl w.heap.size) (.bool false) (.slice none 0 0) (.slice none 0 0));clear hr HAB HR3;go_wp2_with fail;refine bodyPost_ret (v := .tuple #[.agg #[.bool false,.slice none 0 0,.slice none 0 0],.bool false]) ?_ rfl ?_
    ·simp[results,Tryz.results65,go_sem,r0,r1,r2]
    ·exact qfm HR.out rfl HBEL.out
  ·have hda':qkx a.data.toList=false:=by simpa using hda
   have HAA:=hid (fun W hW=>qch (w:=w) a false hda' W hW);have HR:Hid (qgi s.data.toList=none):=hid (by unfold qgi;rw[HP.out];simp only[hda'];simp);clear hda hda' HP hbs2;go_enter Tryz.func65,Tryz.ntmps65;go_wp2_with fail;refine(HCP.out _).mono ?_;rintro e w1 ⟨rfl,hw1⟩;rw[hw1];clear hw1 HCP;go_wp2_with fail;refine(HCUT.out _ HW0.out).mono ?_;rintro e w2 ⟨rfl,hr⟩;have HR2:=hid hr;clear hr HCUT HW0;go_wp2_with fail;refine(HAA.out _ HR2.out).mono ?_;rintro e w3 ⟨rfl,hr⟩;obtain⟨⟨r0,g0⟩,⟨r1,g1⟩,⟨r2,g2⟩⟩:=qcz hr;have HBEL:=hid (qao hr.1 (Nat.le_refl w.heap.size) (.bool false) (.slice none 0 0) (.slice none 0 0));clear hr HAA HR2;go_wp2_with fail;refine bodyPost_ret (v := .tuple #[.agg #[.bool false,.slice none 0 0,.slice none 0 0],.bool false]) ?_ rfl ?_
   ·simp[results,Tryz.results65,go_sem,r0,r1,r2]
   ·exact qfm HR.out rfl HBEL.out
end Go.Proofs.YtpbeeneenhmjaaaGreatDoor
