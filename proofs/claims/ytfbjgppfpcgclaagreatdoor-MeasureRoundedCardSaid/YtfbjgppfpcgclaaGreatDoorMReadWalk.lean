/- Read: the walk. -/
import Derived.Test.YtfbjgppfpcgclaaGreatDoorMRead
set_option linter.all false
namespace Go.Proofs.YtfbjgppfpcgclaaGreatDoor
open Go.RowKit
set_option maxRecDepth 100000
set_option maxHeartbeats 4000000
def qe3(w:World)(W:World):Prop:=qen w false (.slice none 0 0) (.slice none 0 0) W
theorem qe3.later{w W W':World}(h:qe3 w W)(hb:Below W.heap.size W W'):qe3 w W':=qen.later h hb
theorem qe3.gw{w W:World}(h:qe3 w W)(hg:GW w):GW W:=hg.later h.1
theorem qci{w:World}(s:ByteArray)(b:Bool)(hb:qkc s.data.toList=b)(W:World)(hW:qe3 w W):
  Calls Tryz.prog 71 #[.string s] W fun e w'=>e = .returned (.bool b)∧qe3 w w':=
 (qgc s W).mono fun e w' ⟨h1,h2⟩=>⟨by rw[h1,hb],hW.later h2⟩
theorem qfn{w:World}(s:ByteArray)(hb:qkc s.data.toList=true)(hc:s.size≤Cap)(W:World)(hW:qe3 w W):
  Calls Tryz.prog 121 #[.string s] W fun e w'=>(∃v',e = .returned v'∧qav w' v' (qa1 0 s.data.toList))∧qe3 w w'∧Below W.heap.size W w':=
 (qqh s W ((qeg _).1 hb).2 hc).mono fun _ _ ⟨h1,h2⟩=>⟨h1,hW.later h2,h2⟩
theorem qju{w:World}(neg:Bool)(vt:Value)(p:Nat)(W:World)(hW:qe3 w W)(ht:qav W vt p):
  Calls Tryz.prog 95 #[.bool neg,vt,.slice none 0 0] W fun e w'=>(∃v',e = .returned v'∧qan w' v' (((if neg then -(p:Int) else(p:Int)):Int):Rat))∧qe3 w w'∧Below W.heap.size W w':=by
 refine(qfd neg (neg&&decide (0<p)) vt (.slice none 0 0) p 0 0 W ht (qav.nil W) rfl rfl).mono ?_
 rintro e w' ⟨⟨vb',rfl,h1,h2⟩,hb⟩
 refine⟨⟨_,rfl,qjt w' _ _ _ _ ?_ ?_ h2⟩,hW.later hb,hb⟩
 ·cases neg
  ·simp
  ·simp<;>omega
 ·cases neg
  ·simpa using h1
  ·simpa using h1
theorem qw0{w:World}(va vb:Value)(a b:Rat)(W:World)(hW:qe3 w W)(ha:qan W va a)(hb:qan W vb b)(h0:b.num≠0)(hcap:rs a+rs b≤Cap):
  Calls Tryz.prog 47 #[va,vb] W fun e w'=>(∃v',e = .returned v'∧qan w' v' (a/b))∧qe3 w w':=
 (qfu va vb a b W ha hb h0 hcap).mono fun _ _ ⟨h1,h2⟩=>⟨h1,hW.later h2⟩
theorem qjv(z:Int):rs (z:Rat)=wl z.natAbs+1:=by
 unfold rs
 have:wl 1=1:=by
  unfold wl
  rw[qoc];rfl
 simp[this]
theorem qw1(s:ByteArray)(w:World)(hg:GW w)(hs:s.size≤1073741824):
  Calls Tryz.prog 72 #[.string s] w (q00 (qge s.data.toList) w):=by
 obtain⟨d,hd⟩:∃d:ByteArray,d=⟨(Lib.trimPrefix s.data.toList [45]).toArray⟩:=⟨_,rfl⟩
 obtain⟨neg,hneg⟩:∃neg,neg=Lib.hasPrefix s.data.toList [45]:=⟨_,rfl⟩
 have HCP:Hid (∀W,Calls Tryz.prog 97 #[.string s,.string ⟨#[45]⟩] W fun e w'=>e = .returned (.tuple #[.string d,.bool neg])∧w'=W):=hid fun W=>by
  rw[hd,hneg]
  exact Tryz.strings_CutPrefix s ⟨#[45]⟩ W
 have hdl:d.data.toList=Lib.trimPrefix s.data.toList [45]:=by rw[hd]
 have hds:d.size≤1073741824:=by
  have h1:=qhq s.data.toList [45]
  rw[←hdl] at h1
  simp at h1
  omega
 obtain⟨a,ha⟩:∃a:ByteArray,a=⟨(Lib.cut d.data.toList [47]).1.toArray⟩:=⟨_,rfl⟩
 obtain⟨b,hb⟩:∃b:ByteArray,b=⟨(Lib.cut d.data.toList [47]).2.1.toArray⟩:=⟨_,rfl⟩
 obtain⟨f,hf⟩:∃f,f=(Lib.cut d.data.toList [47]).2.2:=⟨_,rfl⟩
 have HCUT:Hid (∀W,qe3 w W→Calls Tryz.prog 69 #[.string d,.string ⟨#[47]⟩] W fun e w'=>e = .returned (.tuple #[.string a,.string b,.bool f])∧qe3 w w'):=hid fun W hW=>by
  obtain⟨_,m,hm⟩:=hW.gw hg
  refine(Tryz.strings_Cut d ⟨#[47]⟩ m W (by omega) hm).mono ?_
  rintro e w' ⟨h1,k,h2⟩
  refine⟨by rw[h1,ha,hb,hf], ?_⟩
  rw[h2]
  exact hW.later (below_drewN (Below.refl _ _) k)
 have hal:a.data.toList=(Lib.cut d.data.toList [47]).1:=by rw[ha]
 have hbl:b.data.toList=(Lib.cut d.data.toList [47]).2.1:=by rw[hb]
 have has:a.size≤1073741824:=by
  have h1:=(qmx d.data.toList [47]).1
  rw[←hal] at h1
  simp at h1
  omega
 have hbs:b.size≤1073741824:=by
  have h1:=(qmx d.data.toList [47]).2
  rw[←hbl] at h1
  simp at h1
  omega
 have HPARTS:Hid (qcv s.data.toList=(neg,a.data.toList,if f then b.data.toList else[49])):=hid (by
  unfold qcv
  rw[←hdl,←hneg,←hal,←hbl,←hf])
 have HW0:=hid (qho w false (.slice none 0 0) (.slice none 0 0))
 clear hd hneg hdl hds ha hb hf hal hbl hg hs
 cases f
 ·have HP:Hid (qcv s.data.toList=(neg,a.data.toList,(⟨#[49]⟩:ByteArray).data.toList)):=hid (by rw[HPARTS.out];rfl)
  clear HPARTS
  have hbs2:(⟨#[49]⟩:ByteArray).size≤1073741824:=by show 1≤_;omega
  by_cases hda:qkc a.data.toList=true
  ·have HAA:=hid (fun W hW=>qci (w:=w) a true hda W hW)
   by_cases hdb:qkc (⟨#[49]⟩:ByteArray).data.toList=true
   ·have HAB:=hid (fun W hW=>qci (w:=w) (⟨#[49]⟩:ByteArray) true hdb W hW)
    have HRA:=hid (fun W hW=>qfn (w:=w) a hda (by unfold Cap;omega) W hW)
    have HRB:=hid (fun W hW=>qfn (w:=w) (⟨#[49]⟩:ByteArray) hdb (by unfold Cap;omega) W hW)
    have hwa:=qmw _ ((qeg _).1 hda).2
    have hwb:=qmw _ ((qeg _).1 hdb).2
    have hla:a.data.toList.length=a.size:=by simp
    have hlb:(⟨#[49]⟩:ByteArray).data.toList.length=(⟨#[49]⟩:ByteArray).size:=by first|rfl|simp
    by_cases hz:qa1 0 (⟨#[49]⟩:ByteArray).data.toList=0
    ·have HR:Hid (qge s.data.toList=none):=hid (by unfold qge;rw[HP.out];simp only[hda,hdb,hz];simp)
     rw[hz] at HRB
     clear hda hdb hwa hwb hla hlb hz HP hbs2
     go_enter Tryz.func72,Tryz.ntmps72
     go_wp2_with fail
     refine(HCP.out _).mono ?_
     rintro e w1 ⟨rfl,hw1⟩
     rw[hw1]
     clear hw1 HCP
     go_wp2_with fail
     refine(HCUT.out _ HW0.out).mono ?_
     rintro e w2 ⟨rfl,hr⟩
     have HR2:=hid hr
     clear hr HCUT HW0
     go_wp2_with fail
     refine(HAA.out _ HR2.out).mono ?_
     rintro e w3 ⟨rfl,hr⟩
     have HR3:=hid hr
     clear hr HAA HR2
     go_wp2_with fail
     refine(HAB.out _ HR3.out).mono ?_
     rintro e w4 ⟨rfl,hr⟩
     have HR4:=hid hr
     clear hr HAB HR3
     go_wp2_with fail
     refine(HRB.out _ HR4.out).mono ?_
     rintro e w5 ⟨⟨v5,rfl,hn⟩,hr,hb⟩
     obtain⟨p5,k5,c5,rfl,hk5⟩:=qax hn
     obtain rfl:k5=0:=by rw[hk5];exact qcu
     obtain⟨⟨r0,g0⟩,⟨r1,g1⟩,⟨r2,g2⟩⟩:=qcy hr
     have HB5:=hid hr.1
     have HBEL:=hid (qao hr.1 (Nat.le_refl w.heap.size) (.bool false) (.slice none 0 0) (.slice none 0 0))
     clear hn hr hb hk5 HR4 HRB
     go_wp2_with fail
     refine bodyPost_ret (v := .tuple #[.agg #[.bool false,.slice none 0 0,.slice none 0 0],.bool false]) ?_ rfl ?_
     ·simp[results,Tryz.results72,go_sem,r0,r1,r2]
     ·exact qfe HR.out rfl HBEL.out
    ·have HR:Hid (qge s.data.toList=some ((((if neg then -(qa1 0 a.data.toList:Int) else(qa1 0 a.data.toList:Int)):Int):Rat)/((qa1 0 (⟨#[49]⟩:ByteArray).data.toList:Int):Rat))):=hid (by unfold qge;rw[HP.out];simp only[hda,hdb];simp[hz])
     have HNZ:Hid (wl (qa1 0 (⟨#[49]⟩:ByteArray).data.toList)≠0):=hid (fun e=>hz (qew e))
     have HOV:Hid (∀W va vb,qe3 w W→qan W va (((if neg then -(qa1 0 a.data.toList:Int) else(qa1 0 a.data.toList:Int)):Int):Rat)→qan W vb ((((if false then -(qa1 0 (⟨#[49]⟩:ByteArray).data.toList:Int) else(qa1 0 (⟨#[49]⟩:ByteArray).data.toList:Int))):Int):Rat)→Calls Tryz.prog 47 #[va,vb] W fun e w'=>(∃v',e = .returned v'∧qan w' v' ((((if neg then -(qa1 0 a.data.toList:Int) else(qa1 0 a.data.toList:Int)):Int):Rat)/((qa1 0 (⟨#[49]⟩:ByteArray).data.toList:Int):Rat)))∧qe3 w w'):=hid fun W va vb hW h1 h2=>by
      refine qw0 va vb _ _ W hW h1 h2 ?_ ?_
      ·simp;omega
      ·rw[qjv,qjv]
       have e1:(if neg then -(qa1 0 a.data.toList:Int) else(qa1 0 a.data.toList:Int)).natAbs=qa1 0 a.data.toList:=by cases neg<;>simp
       rw[e1]
       simp only[Int.natAbs_natCast]
       have hwb2:wl (qa1 0 (⟨#[49]⟩:ByteArray).data.toList)≤1073741824:=by omega
       have hwa2:wl (qa1 0 a.data.toList)≤1073741824:=by omega
       show wl _+1+(wl (qa1 0 (⟨#[49]⟩:ByteArray).data.toList)+1)≤_
       generalize wl (qa1 0 (⟨#[49]⟩:ByteArray).data.toList)=y at *
       generalize wl (qa1 0 a.data.toList)=x at *
       unfold Cap
       omega
     clear hda hdb hwa hwb hla hlb hz HP hbs2
     generalize qa1 0 a.data.toList=pa at *
     generalize qa1 0 (⟨#[49]⟩:ByteArray).data.toList=pb at *
     generalize ((((if neg then -(pa:Int) else(pa:Int)):Int):Rat)/((pb:Int):Rat))=q at *
     go_enter Tryz.func72,Tryz.ntmps72
     go_wp2_with fail
     refine(HCP.out _).mono ?_
     rintro e w1 ⟨rfl,hw1⟩
     rw[hw1]
     clear hw1 HCP
     go_wp2_with fail
     refine(HCUT.out _ HW0.out).mono ?_
     rintro e w2 ⟨rfl,hr⟩
     have HR2:=hid hr
     clear hr HCUT HW0
     go_wp2_with fail
     refine(HAA.out _ HR2.out).mono ?_
     rintro e w3 ⟨rfl,hr⟩
     have HR3:=hid hr
     clear hr HAA HR2
     go_wp2_with fail
     refine(HAB.out _ HR3.out).mono ?_
     rintro e w4 ⟨rfl,hr⟩
     have HR4:=hid hr
     clear hr HAB HR3
     go_wp2_with fail
     refine(HRB.out _ HR4.out).mono ?_
     rintro e w5 ⟨⟨v5,rfl,hn⟩,hr,hb⟩
     have HV5:=hid hn
     have HR5:=hid hr
     obtain⟨p5,k5,c5,rfl,hk5⟩:=qax hn
     have hk0:((k5:Int)==0)=false:=beq_eq_false_iff_ne.2 (by have:=HNZ.out;omega)
     clear hn hr hb hk5 HR4 HRB
     go_wp2_with fail
     refine(HRA.out _ HR5.out).mono ?_
     rintro e w6 ⟨⟨v6,rfl,hn⟩,hr,hb⟩
     have HV6:=hid hn
     have HR6:=hid hr
     have HV56:=hid (HV5.out.later hb)
     clear hn hr hb HR5 HV5 HRA
     go_wp2_with fail
     refine(qju neg v6 pa _ HR6.out HV6.out).mono ?_
     rintro e w7 ⟨⟨v7,rfl,hn⟩,hr,hb⟩
     have HV7:=hid hn
     have HR7:=hid hr
     have HV57:=hid (HV56.out.later hb)
     clear hn hr hb HR6 HV56 HV6
     go_wp2_with fail
     refine(qju false _ pb _ HR7.out HV57.out).mono ?_
     rintro e w8 ⟨⟨v8,rfl,hn⟩,hr,hb⟩
     have HV8:=hid hn
     have HR8:=hid hr
     have HV78:=hid (HV7.out.later hb)
     clear hn hr hb HR7 HV57 HV7
     go_wp2_with fail
     refine(HOV.out _ _ _ HR8.out HV78.out HV8.out).mono ?_
     rintro e w9 ⟨⟨v9,rfl,hn⟩,hr⟩
     obtain⟨pt,kt,ct,pf,kf,cf,rfl,hp1,hp2⟩:=hn.parts
     generalize decide (q.num<0)=sg at *
     obtain⟨⟨r0,g0⟩,⟨r1,g1⟩,⟨r2,g2⟩⟩:=qcy hr
     have HFIN:=hid (qb0 hn r0 r1 r2)
     have HBEL:=hid (qao hr.1 (Nat.le_refl w.heap.size) (.bool sg) (.slice pt kt ct) (.slice pf kf cf))
     clear hp1 hp2 hn hr HR8 HV78 HV8 HOV
     go_wp2_with fail
     refine bodyPost_ret (v := .tuple #[.agg #[.bool sg,.slice pt kt ct,.slice pf kf cf],.bool true]) ?_ rfl ?_
     ·simp[results,Tryz.results72,go_sem,r0,r1,r2]
     ·exact qpb HR.out rfl HFIN.out HBEL.out
   ·have hdb':qkc (⟨#[49]⟩:ByteArray).data.toList=false:=by simpa using hdb
    have HAB:=hid (fun W hW=>qci (w:=w) (⟨#[49]⟩:ByteArray) false hdb' W hW)
    have HR:Hid (qge s.data.toList=none):=hid (by unfold qge;rw[HP.out];simp only[hda,hdb'];simp)
    clear hda hdb hdb' HP hbs2
    go_enter Tryz.func72,Tryz.ntmps72
    go_wp2_with fail
    refine(HCP.out _).mono ?_
    rintro e w1 ⟨rfl,hw1⟩
    rw[hw1]
    clear hw1 HCP
    go_wp2_with fail
    refine(HCUT.out _ HW0.out).mono ?_
    rintro e w2 ⟨rfl,hr⟩
    have HR2:=hid hr
    clear hr HCUT HW0
    go_wp2_with fail
    refine(HAA.out _ HR2.out).mono ?_
    rintro e w3 ⟨rfl,hr⟩
    have HR3:=hid hr
    clear hr HAA HR2
    go_wp2_with fail
    refine(HAB.out _ HR3.out).mono ?_
    rintro e w4 ⟨rfl,hr⟩
    obtain⟨⟨r0,g0⟩,⟨r1,g1⟩,⟨r2,g2⟩⟩:=qcy hr
    have HBEL:=hid (qao hr.1 (Nat.le_refl w.heap.size) (.bool false) (.slice none 0 0) (.slice none 0 0))
    clear hr HAB HR3
    go_wp2_with fail
    refine bodyPost_ret (v := .tuple #[.agg #[.bool false,.slice none 0 0,.slice none 0 0],.bool false]) ?_ rfl ?_
    ·simp[results,Tryz.results72,go_sem,r0,r1,r2]
    ·exact qfe HR.out rfl HBEL.out
  ·have hda':qkc a.data.toList=false:=by simpa using hda
   have HAA:=hid (fun W hW=>qci (w:=w) a false hda' W hW)
   have HR:Hid (qge s.data.toList=none):=hid (by unfold qge;rw[HP.out];simp only[hda'];simp)
   clear hda hda' HP hbs2
   go_enter Tryz.func72,Tryz.ntmps72
   go_wp2_with fail
   refine(HCP.out _).mono ?_
   rintro e w1 ⟨rfl,hw1⟩
   rw[hw1]
   clear hw1 HCP
   go_wp2_with fail
   refine(HCUT.out _ HW0.out).mono ?_
   rintro e w2 ⟨rfl,hr⟩
   have HR2:=hid hr
   clear hr HCUT HW0
   go_wp2_with fail
   refine(HAA.out _ HR2.out).mono ?_
   rintro e w3 ⟨rfl,hr⟩
   obtain⟨⟨r0,g0⟩,⟨r1,g1⟩,⟨r2,g2⟩⟩:=qcy hr
   have HBEL:=hid (qao hr.1 (Nat.le_refl w.heap.size) (.bool false) (.slice none 0 0) (.slice none 0 0))
   clear hr HAA HR2
   go_wp2_with fail
   refine bodyPost_ret (v := .tuple #[.agg #[.bool false,.slice none 0 0,.slice none 0 0],.bool false]) ?_ rfl ?_
   ·simp[results,Tryz.results72,go_sem,r0,r1,r2]
   ·exact qfe HR.out rfl HBEL.out
 ·have HP:Hid (qcv s.data.toList=(neg,a.data.toList,b.data.toList)):=hid (by rw[HPARTS.out];rfl)
  clear HPARTS
  have hbs2:b.size≤1073741824:=hbs
  by_cases hda:qkc a.data.toList=true
  ·have HAA:=hid (fun W hW=>qci (w:=w) a true hda W hW)
   by_cases hdb:qkc b.data.toList=true
   ·have HAB:=hid (fun W hW=>qci (w:=w) b true hdb W hW)
    have HRA:=hid (fun W hW=>qfn (w:=w) a hda (by unfold Cap;omega) W hW)
    have HRB:=hid (fun W hW=>qfn (w:=w) b hdb (by unfold Cap;omega) W hW)
    have hwa:=qmw _ ((qeg _).1 hda).2
    have hwb:=qmw _ ((qeg _).1 hdb).2
    have hla:a.data.toList.length=a.size:=by simp
    have hlb:b.data.toList.length=b.size:=by first|rfl|simp
    by_cases hz:qa1 0 b.data.toList=0
    ·have HR:Hid (qge s.data.toList=none):=hid (by unfold qge;rw[HP.out];simp only[hda,hdb,hz];simp)
     rw[hz] at HRB
     clear hda hdb hwa hwb hla hlb hz HP hbs2
     go_enter Tryz.func72,Tryz.ntmps72
     go_wp2_with fail
     refine(HCP.out _).mono ?_
     rintro e w1 ⟨rfl,hw1⟩
     rw[hw1]
     clear hw1 HCP
     go_wp2_with fail
     refine(HCUT.out _ HW0.out).mono ?_
     rintro e w2 ⟨rfl,hr⟩
     have HR2:=hid hr
     clear hr HCUT HW0
     go_wp2_with fail
     refine(HAA.out _ HR2.out).mono ?_
     rintro e w3 ⟨rfl,hr⟩
     have HR3:=hid hr
     clear hr HAA HR2
     go_wp2_with fail
     refine(HAB.out _ HR3.out).mono ?_
     rintro e w4 ⟨rfl,hr⟩
     have HR4:=hid hr
     clear hr HAB HR3
     go_wp2_with fail
     refine(HRB.out _ HR4.out).mono ?_
     rintro e w5 ⟨⟨v5,rfl,hn⟩,hr,hb⟩
     obtain⟨p5,k5,c5,rfl,hk5⟩:=qax hn
     obtain rfl:k5=0:=by rw[hk5];exact qcu
     obtain⟨⟨r0,g0⟩,⟨r1,g1⟩,⟨r2,g2⟩⟩:=qcy hr
     have HB5:=hid hr.1
     have HBEL:=hid (qao hr.1 (Nat.le_refl w.heap.size) (.bool false) (.slice none 0 0) (.slice none 0 0))
     clear hn hr hb hk5 HR4 HRB
     go_wp2_with fail
     refine bodyPost_ret (v := .tuple #[.agg #[.bool false,.slice none 0 0,.slice none 0 0],.bool false]) ?_ rfl ?_
     ·simp[results,Tryz.results72,go_sem,r0,r1,r2]
     ·exact qfe HR.out rfl HBEL.out
    ·have HR:Hid (qge s.data.toList=some ((((if neg then -(qa1 0 a.data.toList:Int) else(qa1 0 a.data.toList:Int)):Int):Rat)/((qa1 0 b.data.toList:Int):Rat))):=hid (by unfold qge;rw[HP.out];simp only[hda,hdb];simp[hz])
     have HNZ:Hid (wl (qa1 0 b.data.toList)≠0):=hid (fun e=>hz (qew e))
     have HOV:Hid (∀W va vb,qe3 w W→qan W va (((if neg then -(qa1 0 a.data.toList:Int) else(qa1 0 a.data.toList:Int)):Int):Rat)→qan W vb ((((if false then -(qa1 0 b.data.toList:Int) else(qa1 0 b.data.toList:Int))):Int):Rat)→Calls Tryz.prog 47 #[va,vb] W fun e w'=>(∃v',e = .returned v'∧qan w' v' ((((if neg then -(qa1 0 a.data.toList:Int) else(qa1 0 a.data.toList:Int)):Int):Rat)/((qa1 0 b.data.toList:Int):Rat)))∧qe3 w w'):=hid fun W va vb hW h1 h2=>by
      refine qw0 va vb _ _ W hW h1 h2 ?_ ?_
      ·simp;omega
      ·rw[qjv,qjv]
       have e1:(if neg then -(qa1 0 a.data.toList:Int) else(qa1 0 a.data.toList:Int)).natAbs=qa1 0 a.data.toList:=by cases neg<;>simp
       rw[e1]
       simp only[Int.natAbs_natCast]
       have hwb2:wl (qa1 0 b.data.toList)≤1073741824:=by omega
       have hwa2:wl (qa1 0 a.data.toList)≤1073741824:=by omega
       show wl _+1+(wl (qa1 0 b.data.toList)+1)≤_
       generalize wl (qa1 0 b.data.toList)=y at *
       generalize wl (qa1 0 a.data.toList)=x at *
       unfold Cap
       omega
     clear hda hdb hwa hwb hla hlb hz HP hbs2
     generalize qa1 0 a.data.toList=pa at *
     generalize qa1 0 b.data.toList=pb at *
     generalize ((((if neg then -(pa:Int) else(pa:Int)):Int):Rat)/((pb:Int):Rat))=q at *
     go_enter Tryz.func72,Tryz.ntmps72
     go_wp2_with fail
     refine(HCP.out _).mono ?_
     rintro e w1 ⟨rfl,hw1⟩
     rw[hw1]
     clear hw1 HCP
     go_wp2_with fail
     refine(HCUT.out _ HW0.out).mono ?_
     rintro e w2 ⟨rfl,hr⟩
     have HR2:=hid hr
     clear hr HCUT HW0
     go_wp2_with fail
     refine(HAA.out _ HR2.out).mono ?_
     rintro e w3 ⟨rfl,hr⟩
     have HR3:=hid hr
     clear hr HAA HR2
     go_wp2_with fail
     refine(HAB.out _ HR3.out).mono ?_
     rintro e w4 ⟨rfl,hr⟩
     have HR4:=hid hr
     clear hr HAB HR3
     go_wp2_with fail
     refine(HRB.out _ HR4.out).mono ?_
     rintro e w5 ⟨⟨v5,rfl,hn⟩,hr,hb⟩
     have HV5:=hid hn
     have HR5:=hid hr
     obtain⟨p5,k5,c5,rfl,hk5⟩:=qax hn
     have hk0:((k5:Int)==0)=false:=beq_eq_false_iff_ne.2 (by have:=HNZ.out;omega)
     clear hn hr hb hk5 HR4 HRB
     go_wp2_with fail
     refine(HRA.out _ HR5.out).mono ?_
     rintro e w6 ⟨⟨v6,rfl,hn⟩,hr,hb⟩
     have HV6:=hid hn
     have HR6:=hid hr
     have HV56:=hid (HV5.out.later hb)
     clear hn hr hb HR5 HV5 HRA
     go_wp2_with fail
     refine(qju neg v6 pa _ HR6.out HV6.out).mono ?_
     rintro e w7 ⟨⟨v7,rfl,hn⟩,hr,hb⟩
     have HV7:=hid hn
     have HR7:=hid hr
     have HV57:=hid (HV56.out.later hb)
     clear hn hr hb HR6 HV56 HV6
     go_wp2_with fail
     refine(qju false _ pb _ HR7.out HV57.out).mono ?_
     rintro e w8 ⟨⟨v8,rfl,hn⟩,hr,hb⟩
     have HV8:=hid hn
     have HR8:=hid hr
     have HV78:=hid (HV7.out.later hb)
     clear hn hr hb HR7 HV57 HV7
     go_wp2_with fail
     refine(HOV.out _ _ _ HR8.out HV78.out HV8.out).mono ?_
     rintro e w9 ⟨⟨v9,rfl,hn⟩,hr⟩
     obtain⟨pt,kt,ct,pf,kf,cf,rfl,hp1,hp2⟩:=hn.parts
     generalize decide (q.num<0)=sg at *
     obtain⟨⟨r0,g0⟩,⟨r1,g1⟩,⟨r2,g2⟩⟩:=qcy hr
     have HFIN:=hid (qb0 hn r0 r1 r2)
     have HBEL:=hid (qao hr.1 (Nat.le_refl w.heap.size) (.bool sg) (.slice pt kt ct) (.slice pf kf cf))
     clear hp1 hp2 hn hr HR8 HV78 HV8 HOV
     go_wp2_with fail
     refine bodyPost_ret (v := .tuple #[.agg #[.bool sg,.slice pt kt ct,.slice pf kf cf],.bool true]) ?_ rfl ?_
     ·simp[results,Tryz.results72,go_sem,r0,r1,r2]
     ·exact qpb HR.out rfl HFIN.out HBEL.out
   ·have hdb':qkc b.data.toList=false:=by simpa using hdb
    have HAB:=hid (fun W hW=>qci (w:=w) b false hdb' W hW)
    have HR:Hid (qge s.data.toList=none):=hid (by unfold qge;rw[HP.out];simp only[hda,hdb'];simp)
    clear hda hdb hdb' HP hbs2
    go_enter Tryz.func72,Tryz.ntmps72
    go_wp2_with fail
    refine(HCP.out _).mono ?_
    rintro e w1 ⟨rfl,hw1⟩
    rw[hw1]
    clear hw1 HCP
    go_wp2_with fail
    refine(HCUT.out _ HW0.out).mono ?_
    rintro e w2 ⟨rfl,hr⟩
    have HR2:=hid hr
    clear hr HCUT HW0
    go_wp2_with fail
    refine(HAA.out _ HR2.out).mono ?_
    rintro e w3 ⟨rfl,hr⟩
    have HR3:=hid hr
    clear hr HAA HR2
    go_wp2_with fail
    refine(HAB.out _ HR3.out).mono ?_
    rintro e w4 ⟨rfl,hr⟩
    obtain⟨⟨r0,g0⟩,⟨r1,g1⟩,⟨r2,g2⟩⟩:=qcy hr
    have HBEL:=hid (qao hr.1 (Nat.le_refl w.heap.size) (.bool false) (.slice none 0 0) (.slice none 0 0))
    clear hr HAB HR3
    go_wp2_with fail
    refine bodyPost_ret (v := .tuple #[.agg #[.bool false,.slice none 0 0,.slice none 0 0],.bool false]) ?_ rfl ?_
    ·simp[results,Tryz.results72,go_sem,r0,r1,r2]
    ·exact qfe HR.out rfl HBEL.out
  ·have hda':qkc a.data.toList=false:=by simpa using hda
   have HAA:=hid (fun W hW=>qci (w:=w) a false hda' W hW)
   have HR:Hid (qge s.data.toList=none):=hid (by unfold qge;rw[HP.out];simp only[hda'];simp)
   clear hda hda' HP hbs2
   go_enter Tryz.func72,Tryz.ntmps72
   go_wp2_with fail
   refine(HCP.out _).mono ?_
   rintro e w1 ⟨rfl,hw1⟩
   rw[hw1]
   clear hw1 HCP
   go_wp2_with fail
   refine(HCUT.out _ HW0.out).mono ?_
   rintro e w2 ⟨rfl,hr⟩
   have HR2:=hid hr
   clear hr HCUT HW0
   go_wp2_with fail
   refine(HAA.out _ HR2.out).mono ?_
   rintro e w3 ⟨rfl,hr⟩
   obtain⟨⟨r0,g0⟩,⟨r1,g1⟩,⟨r2,g2⟩⟩:=qcy hr
   have HBEL:=hid (qao hr.1 (Nat.le_refl w.heap.size) (.bool false) (.slice none 0 0) (.slice none 0 0))
   clear hr HAA HR2
   go_wp2_with fail
   refine bodyPost_ret (v := .tuple #[.agg #[.bool false,.slice none 0 0,.slice none 0 0],.bool false]) ?_ rfl ?_
   ·simp[results,Tryz.results72,go_sem,r0,r1,r2]
   ·exact qfe HR.out rfl HBEL.out
end Go.Proofs.YtfbjgppfpcgclaaGreatDoor
