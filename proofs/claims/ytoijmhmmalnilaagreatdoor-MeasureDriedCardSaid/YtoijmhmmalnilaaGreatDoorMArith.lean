/- The operations with two texts. -/
import Derived.Test.YtoijmhmmalnilaaGreatDoorMRounded
set_option linter.all false
namespace Go.Proofs.YtoijmhmmalnilaaGreatDoor
open Go.RowKit
set_option maxRecDepth 100000
set_option maxHeartbeats 2000000
theorem que(x y:ByteArray)(w:World)(hg:GW w)(hx:x.size≤1073741824)(hy:y.size≤1073741824):
  Calls Tryz.prog 38 #[.string x,.string y,.func (.func 39) #[] #[]] w (qcw (qac x.data.toList+qac y.data.toList) x y w):=by
 have HRE:=hid (qh8 x y w hg hx hy 22)
 by_cases h0:qab [qaa x.data.toList,qaa y.data.toList]=0
 ·obtain⟨hcx,hcy⟩:=qem h0
  have hbx:=qdc hcx
  have hby:=qdc hcy
  have HFIN:Hid (∀e w',qe1 (qac x.data.toList+qac y.data.toList) w e w'→qcw (qac x.data.toList+qac y.data.toList) x y w e w'):=hid fun e w' h=>by
   unfold qcw
   rw[if_neg (by omega)]
   exact h
  have HRG:=hid (qjz HRE.out h0)
  have HOP:Hid (∀W va vb,qaj W va (qac x.data.toList)→qaj W vb (qac y.data.toList)→Calls Tryz.prog 39 #[va,vb] W fun e w'=>(∃v',e = .returned v'∧qaj w' v' (qac x.data.toList+qac y.data.toList))∧Below W.heap.size W w'):=
   hid fun W va vb hva hvb=>qgq va vb _ _ W hva hvb (by have:=hbx.rs;have:=hby.rs;unfold Cap;omega)
  have HWT:Hid (∀W v,qaj W v (qac x.data.toList+qac y.data.toList)→Calls Tryz.prog 45 #[v] W (qe1 (qac x.data.toList+qac y.data.toList) W)):=hid fun W v hv=>qdn v _ W hv (by have:=(qlz hbx hby).rs;unfold Cap;omega)
  clear hg hx hy HRE h0 hcx hcy hbx hby
  generalize qac x.data.toList+qac y.data.toList=r at *
  generalize qac x.data.toList=qx at *
  generalize qac y.data.toList=qy at *
  go_enter Tryz.func38,Tryz.ntmps38
  go_wp2_with fail
  refine HRG.out.mono ?_
  rintro e w1 ⟨⟨g,rfl,hn⟩,hb1⟩
  obtain⟨b,p1,k1,c1,p2,k2,c2,b',p1',k1',c1',p2',k2',c2',hsx,hva,hvb⟩:=qgu hn
  have HSIX:=hid hsx
  have hsix:=hsx w1 (Below.refl _ _)
  have hdrew:Below w1.heap.size w1 w1.drew:=(Below.refl _ _).drew
  have HO1:=hid (HOP.out w1.drew _ _ (hva.later hdrew) (hvb.later hdrew))
  have HB1:=hid hb1
  clear hn hb1 hsx hva hvb hdrew HRG HOP
  obtain⟨r0,r1,r2,r3,r4,r5⟩:=id hsix
  go_wp2_with fail
  go_region_held3 (fun W=>W.cell? ⟨g,0,none⟩=some (.bool b)∧W.cell? ⟨g,1,none⟩=some (.slice p1 k1 c1)∧W.cell? ⟨g,2,none⟩=some (.slice p2 k2 c2)∧W.cell? ⟨g,3,none⟩=some (.bool b')∧W.cell? ⟨g,4,none⟩=some (.slice p1' k1' c1')∧W.cell? ⟨g,5,none⟩=some (.slice p2' k2' c2')) (first|with_reducible exact HSIX.out _ HBB3.out|with_reducible exact HSIX.out _ HBB2.out|exact hsix)
   (first|(go_at_call 39;refine HO1.out.mono ?_;rintro e w2 ⟨⟨v2,rfl,hv2⟩,hb2⟩;have HV2:=hid hv2;have HBB2:Hid (Below w1.heap.size w1 w2):=hid ((Below.refl _ _).drew.trans hb2);clear hv2 hb2)|(go_at_call 45;refine(HWT.out _ _ HV2.out).mono ?_;rintro e w3 h;obtain⟨tx,ec,rfl,h2⟩:=qf8 h;have HF3:=hid (qf7 (HB1.out.trans (HBB2.out.mono HB1.out.size)) h2);have HBB3:Hid (Below w1.heap.size w1 w3):=hid (HBB2.out.trans (h2.2.mono HBB2.out.size));clear h h2))
  all_goals
   go_wp2_with fail
   go_ret2
   exact HFIN.out _ _ HF3.out
 ·have HRB:=hid (qm5 HRE.out h0)
  have HFIN:Hid (∀w',Below w.heap.size w w'→qcw (qac x.data.toList+qac y.data.toList) x y w (.returned (.tuple #[.string ⟨#[]⟩,.int .i64 (qab [qaa x.data.toList,qaa y.data.toList]:Nat)])) w'):=hid fun w' h=>by
   unfold qcw
   rw[if_pos h0]
   exact⟨rfl,h⟩
  have hb0:((qab [qaa x.data.toList,qaa y.data.toList]:Int)==0)=false:=beq_eq_false_iff_ne.2 (by omega)
  clear hg hx hy HRE h0
  generalize qab [qaa x.data.toList,qaa y.data.toList]=c at *
  go_enter Tryz.func38,Tryz.ntmps38
  go_wp2_with fail
  refine HRB.out.mono ?_
  rintro e w1 ⟨rfl,hb1⟩
  have HB1:=hid hb1
  clear hb1 HRB
  go_wp2_with fail
  go_ret2
  exact HFIN.out _ HB1.out
theorem qsa(x y:ByteArray)(w:World)(hg:GW w)(hx:x.size≤1073741824)(hy:y.size≤1073741824):
  Calls Tryz.prog 38 #[.string x,.string y,.func (.func 40) #[] #[]] w (qcw (qac x.data.toList-qac y.data.toList) x y w):=by
 have HRE:=hid (qh8 x y w hg hx hy 22)
 by_cases h0:qab [qaa x.data.toList,qaa y.data.toList]=0
 ·obtain⟨hcx,hcy⟩:=qem h0
  have hbx:=qdc hcx
  have hby:=qdc hcy
  have HFIN:Hid (∀e w',qe1 (qac x.data.toList-qac y.data.toList) w e w'→qcw (qac x.data.toList-qac y.data.toList) x y w e w'):=hid fun e w' h=>by
   unfold qcw
   rw[if_neg (by omega)]
   exact h
  have HRG:=hid (qjz HRE.out h0)
  have HOP:Hid (∀W va vb,qaj W va (qac x.data.toList)→qaj W vb (qac y.data.toList)→Calls Tryz.prog 40 #[va,vb] W fun e w'=>(∃v',e = .returned v'∧qaj w' v' (qac x.data.toList-qac y.data.toList))∧Below W.heap.size W w'):=
   hid fun W va vb hva hvb=>qo2 va vb _ _ W hva hvb (by have:=hbx.rs;have:=hby.rs;unfold Cap;omega)
  have HWT:Hid (∀W v,qaj W v (qac x.data.toList-qac y.data.toList)→Calls Tryz.prog 45 #[v] W (qe1 (qac x.data.toList-qac y.data.toList) W)):=hid fun W v hv=>qdn v _ W hv (by have:=(qt7 hbx hby).rs;unfold Cap;omega)
  clear hg hx hy HRE h0 hcx hcy hbx hby
  generalize qac x.data.toList-qac y.data.toList=r at *
  generalize qac x.data.toList=qx at *
  generalize qac y.data.toList=qy at *
  go_enter Tryz.func38,Tryz.ntmps38
  go_wp2_with fail
  refine HRG.out.mono ?_
  rintro e w1 ⟨⟨g,rfl,hn⟩,hb1⟩
  obtain⟨b,p1,k1,c1,p2,k2,c2,b',p1',k1',c1',p2',k2',c2',hsx,hva,hvb⟩:=qgu hn
  have HSIX:=hid hsx
  have hsix:=hsx w1 (Below.refl _ _)
  have hdrew:Below w1.heap.size w1 w1.drew:=(Below.refl _ _).drew
  have HO1:=hid (HOP.out w1.drew _ _ (hva.later hdrew) (hvb.later hdrew))
  have HB1:=hid hb1
  clear hn hb1 hsx hva hvb hdrew HRG HOP
  obtain⟨r0,r1,r2,r3,r4,r5⟩:=id hsix
  go_wp2_with fail
  go_region_held3 (fun W=>W.cell? ⟨g,0,none⟩=some (.bool b)∧W.cell? ⟨g,1,none⟩=some (.slice p1 k1 c1)∧W.cell? ⟨g,2,none⟩=some (.slice p2 k2 c2)∧W.cell? ⟨g,3,none⟩=some (.bool b')∧W.cell? ⟨g,4,none⟩=some (.slice p1' k1' c1')∧W.cell? ⟨g,5,none⟩=some (.slice p2' k2' c2')) (first|with_reducible exact HSIX.out _ HBB3.out|with_reducible exact HSIX.out _ HBB2.out|exact hsix)
   (first|(go_at_call 40;refine HO1.out.mono ?_;rintro e w2 ⟨⟨v2,rfl,hv2⟩,hb2⟩;have HV2:=hid hv2;have HBB2:Hid (Below w1.heap.size w1 w2):=hid ((Below.refl _ _).drew.trans hb2);clear hv2 hb2)|(go_at_call 45;refine(HWT.out _ _ HV2.out).mono ?_;rintro e w3 h;obtain⟨tx,ec,rfl,h2⟩:=qf8 h;have HF3:=hid (qf7 (HB1.out.trans (HBB2.out.mono HB1.out.size)) h2);have HBB3:Hid (Below w1.heap.size w1 w3):=hid (HBB2.out.trans (h2.2.mono HBB2.out.size));clear h h2))
  all_goals
   go_wp2_with fail
   go_ret2
   exact HFIN.out _ _ HF3.out
 ·have HRB:=hid (qm5 HRE.out h0)
  have HFIN:Hid (∀w',Below w.heap.size w w'→qcw (qac x.data.toList-qac y.data.toList) x y w (.returned (.tuple #[.string ⟨#[]⟩,.int .i64 (qab [qaa x.data.toList,qaa y.data.toList]:Nat)])) w'):=hid fun w' h=>by
   unfold qcw
   rw[if_pos h0]
   exact⟨rfl,h⟩
  have hb0:((qab [qaa x.data.toList,qaa y.data.toList]:Int)==0)=false:=beq_eq_false_iff_ne.2 (by omega)
  clear hg hx hy HRE h0
  generalize qab [qaa x.data.toList,qaa y.data.toList]=c at *
  go_enter Tryz.func38,Tryz.ntmps38
  go_wp2_with fail
  refine HRB.out.mono ?_
  rintro e w1 ⟨rfl,hb1⟩
  have HB1:=hid hb1
  clear hb1 HRB
  go_wp2_with fail
  go_ret2
  exact HFIN.out _ HB1.out
theorem qsb(x y:ByteArray)(w:World)(hg:GW w)(hx:x.size≤1073741824)(hy:y.size≤1073741824):
  Calls Tryz.prog 38 #[.string x,.string y,.func (.func 41) #[] #[]] w (qcw (qac x.data.toList*qac y.data.toList) x y w):=by
 have HRE:=hid (qh8 x y w hg hx hy 22)
 by_cases h0:qab [qaa x.data.toList,qaa y.data.toList]=0
 ·obtain⟨hcx,hcy⟩:=qem h0
  have hbx:=qdc hcx
  have hby:=qdc hcy
  have HFIN:Hid (∀e w',qe1 (qac x.data.toList*qac y.data.toList) w e w'→qcw (qac x.data.toList*qac y.data.toList) x y w e w'):=hid fun e w' h=>by
   unfold qcw
   rw[if_neg (by omega)]
   exact h
  have HRG:=hid (qjz HRE.out h0)
  have HOP:Hid (∀W va vb,qaj W va (qac x.data.toList)→qaj W vb (qac y.data.toList)→Calls Tryz.prog 41 #[va,vb] W fun e w'=>(∃v',e = .returned v'∧qaj w' v' (qac x.data.toList*qac y.data.toList))∧Below W.heap.size W w'):=
   hid fun W va vb hva hvb=>qcu va vb _ _ W hva hvb (by have:=hbx.rs;have:=hby.rs;unfold Cap;omega)
  have HWT:Hid (∀W v,qaj W v (qac x.data.toList*qac y.data.toList)→Calls Tryz.prog 45 #[v] W (qe1 (qac x.data.toList*qac y.data.toList) W)):=hid fun W v hv=>qdn v _ W hv (by have:=(qd9 hbx hby).rs;unfold Cap;omega)
  clear hg hx hy HRE h0 hcx hcy hbx hby
  generalize qac x.data.toList*qac y.data.toList=r at *
  generalize qac x.data.toList=qx at *
  generalize qac y.data.toList=qy at *
  go_enter Tryz.func38,Tryz.ntmps38
  go_wp2_with fail
  refine HRG.out.mono ?_
  rintro e w1 ⟨⟨g,rfl,hn⟩,hb1⟩
  obtain⟨b,p1,k1,c1,p2,k2,c2,b',p1',k1',c1',p2',k2',c2',hsx,hva,hvb⟩:=qgu hn
  have HSIX:=hid hsx
  have hsix:=hsx w1 (Below.refl _ _)
  have hdrew:Below w1.heap.size w1 w1.drew:=(Below.refl _ _).drew
  have HO1:=hid (HOP.out w1.drew _ _ (hva.later hdrew) (hvb.later hdrew))
  have HB1:=hid hb1
  clear hn hb1 hsx hva hvb hdrew HRG HOP
  obtain⟨r0,r1,r2,r3,r4,r5⟩:=id hsix
  go_wp2_with fail
  go_region_held3 (fun W=>W.cell? ⟨g,0,none⟩=some (.bool b)∧W.cell? ⟨g,1,none⟩=some (.slice p1 k1 c1)∧W.cell? ⟨g,2,none⟩=some (.slice p2 k2 c2)∧W.cell? ⟨g,3,none⟩=some (.bool b')∧W.cell? ⟨g,4,none⟩=some (.slice p1' k1' c1')∧W.cell? ⟨g,5,none⟩=some (.slice p2' k2' c2')) (first|with_reducible exact HSIX.out _ HBB3.out|with_reducible exact HSIX.out _ HBB2.out|exact hsix)
   (first|(go_at_call 41;refine HO1.out.mono ?_;rintro e w2 ⟨⟨v2,rfl,hv2⟩,hb2⟩;have HV2:=hid hv2;have HBB2:Hid (Below w1.heap.size w1 w2):=hid ((Below.refl _ _).drew.trans hb2);clear hv2 hb2)|(go_at_call 45;refine(HWT.out _ _ HV2.out).mono ?_;rintro e w3 h;obtain⟨tx,ec,rfl,h2⟩:=qf8 h;have HF3:=hid (qf7 (HB1.out.trans (HBB2.out.mono HB1.out.size)) h2);have HBB3:Hid (Below w1.heap.size w1 w3):=hid (HBB2.out.trans (h2.2.mono HBB2.out.size));clear h h2))
  all_goals
   go_wp2_with fail
   go_ret2
   exact HFIN.out _ _ HF3.out
 ·have HRB:=hid (qm5 HRE.out h0)
  have HFIN:Hid (∀w',Below w.heap.size w w'→qcw (qac x.data.toList*qac y.data.toList) x y w (.returned (.tuple #[.string ⟨#[]⟩,.int .i64 (qab [qaa x.data.toList,qaa y.data.toList]:Nat)])) w'):=hid fun w' h=>by
   unfold qcw
   rw[if_pos h0]
   exact⟨rfl,h⟩
  have hb0:((qab [qaa x.data.toList,qaa y.data.toList]:Int)==0)=false:=beq_eq_false_iff_ne.2 (by omega)
  clear hg hx hy HRE h0
  generalize qab [qaa x.data.toList,qaa y.data.toList]=c at *
  go_enter Tryz.func38,Tryz.ntmps38
  go_wp2_with fail
  refine HRB.out.mono ?_
  rintro e w1 ⟨rfl,hb1⟩
  have HB1:=hid hb1
  clear hb1 HRB
  go_wp2_with fail
  go_ret2
  exact HFIN.out _ HB1.out
theorem qky{r:Rat}{x y:ByteArray}{w w':World}{e:Ending}(h:qcw r x y w e w'):∃(tx:ByteArray) (ec:Int),e = .returned (.tuple #[.string tx,.int .i64 ec])∧qcw r x y w (.returned (.tuple #[.string tx,.int .i64 ec])) w':=by
 have h0:=h
 unfold qcw at h
 split at h
 ·exact⟨_,_,h.1,by rw[←h.1];exact h0⟩
 ·have h1:=h.1
  exact⟨_,_,h1,by rw[←h1];exact h0⟩
theorem ql2(x y:ByteArray)(w:World)(hg:GW w)(hx:x.size≤1073741824)(hy:y.size≤1073741824):
  Calls Tryz.prog 6 #[.string x,.string y] w (qcw (qac x.data.toList+qac y.data.toList) x y w):=by
 have HOP:=hid (que x y w hg hx hy)
 clear hg hx hy
 go_enter Tryz.func6,Tryz.ntmps6
 go_wp2_with fail
 refine HOP.out.mono ?_
 rintro e w1 h
 obtain⟨tx,ec,rfl,h2⟩:=qky h
 have HF:=hid h2
 clear h h2 HOP
 go_wp2_with fail
 go_ret2
 exact HF.out
theorem ql3(x y:ByteArray)(w:World)(hg:GW w)(hx:x.size≤1073741824)(hy:y.size≤1073741824):
  Calls Tryz.prog 7 #[.string x,.string y] w (qcw (qac x.data.toList-qac y.data.toList) x y w):=by
 have HOP:=hid (qsa x y w hg hx hy)
 clear hg hx hy
 go_enter Tryz.func7,Tryz.ntmps7
 go_wp2_with fail
 refine HOP.out.mono ?_
 rintro e w1 h
 obtain⟨tx,ec,rfl,h2⟩:=qky h
 have HF:=hid h2
 clear h h2 HOP
 go_wp2_with fail
 go_ret2
 exact HF.out
theorem ql4(x y:ByteArray)(w:World)(hg:GW w)(hx:x.size≤1073741824)(hy:y.size≤1073741824):
  Calls Tryz.prog 8 #[.string x,.string y] w (qcw (qac x.data.toList*qac y.data.toList) x y w):=by
 have HOP:=hid (qsb x y w hg hx hy)
 clear hg hx hy
 go_enter Tryz.func8,Tryz.ntmps8
 go_wp2_with fail
 refine HOP.out.mono ?_
 rintro e w1 h
 obtain⟨tx,ec,rfl,h2⟩:=qky h
 have HF:=hid h2
 clear h h2 HOP
 go_wp2_with fail
 go_ret2
 exact HF.out
def qqb(x y:ByteArray)(w:World)(e:Ending)(w':World):Prop:=
 if qab [qaa x.data.toList,qaa y.data.toList]≠0 then e = .returned (.tuple #[.string ⟨#[]⟩,.int .i64 (qab [qaa x.data.toList,qaa y.data.toList])])∧Below w.heap.size w w'
 else if(qac y.data.toList).num=0 then e = .returned (.tuple #[.string ⟨#[]⟩,.int .i64 6])∧Below w.heap.size w w'
 else qe1 (qac x.data.toList/qac y.data.toList) w e w'
theorem qx0{q:Rat}:sgn q=0↔q.num=0:=by
 unfold sgn
 constructor
 ·intro h
  split at h
  ·cases h
  ·split at h
   ·assumption
   ·cases h
 ·intro h
  rw[if_neg (by omega),if_pos h]
theorem qph(x y:ByteArray)(w:World)(hg:GW w)(hx:x.size≤1073741824)(hy:y.size≤1073741824):
  Calls Tryz.prog 9 #[.string x,.string y] w (qqb x y w):=by
 have HRE:=hid (qh8 x y w hg hx hy 22)
 by_cases h0:qab [qaa x.data.toList,qaa y.data.toList]=0
 ·obtain⟨hcx,hcy⟩:=qem h0
  have hbx:=qdc hcx
  have hby:=qdc hcy
  have HRG:=hid (qjz HRE.out h0)
  have HSG:Hid (∀W vb,qaj W vb (qac y.data.toList)→Calls Tryz.prog 44 #[vb] W fun e w'=>e = .returned (.int .i64 (sgn (qac y.data.toList)))∧Below W.heap.size W w'):=
   hid fun W vb hvb=>qb1 vb _ W hvb
  by_cases hz:(qac y.data.toList).num=0
  ·have HFIN:Hid (∀w',Below w.heap.size w w'→qqb x y w (.returned (.tuple #[.string ⟨#[]⟩,.int .i64 6])) w'):=hid fun w' h=>by
    unfold qqb
    rw[if_neg (by omega),if_pos hz]
    exact⟨rfl,h⟩
   rw[qx0.2 hz] at HSG
   clear hg hx hy HRE h0 hcx hcy hbx hby hz
   generalize qac x.data.toList=qx at *
   generalize qac y.data.toList=qy at *
   go_enter Tryz.func9,Tryz.ntmps9
   go_wp2_with fail
   refine HRG.out.mono ?_
   rintro e w1 ⟨⟨g,rfl,hn⟩,hb1⟩
   obtain⟨b,p1,k1,c1,p2,k2,c2,b',p1',k1',c1',p2',k2',c2',hsx,hva,hvb⟩:=qgu hn
   obtain⟨r0,r1,r2,r3,r4,r5⟩:=hsx w1 (Below.refl _ _)
   have HS1:=hid (HSG.out w1 _ hvb)
   have HB1:=hid hb1
   clear hn hb1 hsx hva hvb HRG HSG
   go_wp2_with fail
   refine HS1.out.mono ?_
   rintro e w2 ⟨rfl,hb2⟩
   have HB2:=hid (HB1.out.trans (hb2.mono HB1.out.size))
   clear hb2 HS1 r0 r1 r2 r3 r4 r5
   go_wp2_with fail
   go_ret2
   exact HFIN.out _ HB2.out
  ·have HFIN:Hid (∀e w',qe1 (qac x.data.toList/qac y.data.toList) w e w'→qqb x y w e w'):=hid fun e w' h=>by
    unfold qqb
    rw[if_neg (by omega),if_neg hz]
    exact h
   have hb0:(sgn (qac y.data.toList)==0)=false:=beq_eq_false_iff_ne.2 (fun h=>hz (qx0.1 h))
   have HOP:Hid (∀W va vb,qaj W va (qac x.data.toList)→qaj W vb (qac y.data.toList)→Calls Tryz.prog 46 #[va,vb] W fun e w'=>(∃v',e = .returned v'∧qaj w' v' (qac x.data.toList/qac y.data.toList))∧Below W.heap.size W w'):=
    hid fun W va vb hva hvb=>qd5 va vb _ _ W hva hvb hz (by have:=hbx.rs;have:=hby.rs;unfold Cap;omega)
   have HWT:Hid (∀W v,qaj W v (qac x.data.toList/qac y.data.toList)→Calls Tryz.prog 45 #[v] W (qe1 (qac x.data.toList/qac y.data.toList) W)):=hid fun W v hv=>qdn v _ W hv (by have:=(qkc hbx hby).rs;unfold Cap;omega)
   clear hg hx hy HRE h0 hcx hcy hbx hby hz
   generalize sgn (qac y.data.toList)=sy at *
   generalize qac x.data.toList/qac y.data.toList=r at *
   generalize qac x.data.toList=qx at *
   generalize qac y.data.toList=qy at *
   go_enter Tryz.func9,Tryz.ntmps9
   go_wp2_with fail
   refine HRG.out.mono ?_
   rintro e w1 ⟨⟨g,rfl,hn⟩,hb1⟩
   obtain⟨b,p1,k1,c1,p2,k2,c2,b',p1',k1',c1',p2',k2',c2',hsx,hva,hvb⟩:=qgu hn
   have HSIX1:=hid hsx
   obtain⟨r0,r1,r2,r3,r4,r5⟩:=hsx w1 (Below.refl _ _)
   have HS1:=hid (HSG.out w1 _ hvb)
   have HVA1:=hid hva
   have HVB1:=hid hvb
   have HB1:=hid hb1
   clear hn hb1 hsx hva hvb HRG HSG
   go_wp2_with fail
   refine HS1.out.mono ?_
   rintro e w2 ⟨rfl,hb2⟩
   clear r0 r1 r2 r3 r4 r5
   have HSIX:Hid (∀W',Below w2.heap.size w2 W'→q87 g b p1 k1 c1 p2 k2 c2 b' p1' k1' c1' p2' k2' c2' W'):=hid fun W' hb'=>HSIX1.out W' (hb2.trans (hb'.mono hb2.size))
   have hsix:=HSIX.out w2 (Below.refl _ _)
   have hdrew:Below w2.heap.size w2 w2.drew:=(Below.refl _ _).drew
   have HO1:=hid (HOP.out w2.drew _ _ ((HVA1.out.later hb2).later hdrew) ((HVB1.out.later hb2).later hdrew))
   have HB2:=hid (HB1.out.trans (hb2.mono HB1.out.size))
   clear hb2 hdrew HS1 HVA1 HVB1 HB1 HSIX1 HOP
   obtain⟨r0,r1,r2,r3,r4,r5⟩:=id hsix
   go_wp2_with fail
   go_region_held3 (fun W=>W.cell? ⟨g,0,none⟩=some (.bool b)∧W.cell? ⟨g,1,none⟩=some (.slice p1 k1 c1)∧W.cell? ⟨g,2,none⟩=some (.slice p2 k2 c2)∧W.cell? ⟨g,3,none⟩=some (.bool b')∧W.cell? ⟨g,4,none⟩=some (.slice p1' k1' c1')∧W.cell? ⟨g,5,none⟩=some (.slice p2' k2' c2')) (first|with_reducible exact HSIX.out _ HBB4.out|with_reducible exact HSIX.out _ HBB3.out|exact hsix)
    (first|(go_at_call 46;refine HO1.out.mono ?_;rintro e w3 ⟨⟨v2,rfl,hv2⟩,hb2⟩;have HV2:=hid hv2;have HBB3:Hid (Below w2.heap.size w2 w3):=hid ((Below.refl _ _).drew.trans hb2);clear hv2 hb2)|(go_at_call 45;refine(HWT.out _ _ HV2.out).mono ?_;rintro e w4 h;obtain⟨tx,ec,rfl,h2⟩:=qf8 h;have HF3:=hid (qf7 (HB2.out.trans (HBB3.out.mono HB2.out.size)) h2);have HBB4:Hid (Below w2.heap.size w2 w4):=hid (HBB3.out.trans (h2.2.mono HBB3.out.size));clear h h2))
   all_goals
    go_wp2_with fail
    go_ret2
    exact HFIN.out _ _ HF3.out
 ·have HRB:=hid (qm5 HRE.out h0)
  have HFIN:Hid (∀w',Below w.heap.size w w'→qqb x y w (.returned (.tuple #[.string ⟨#[]⟩,.int .i64 (qab [qaa x.data.toList,qaa y.data.toList]:Nat)])) w'):=hid fun w' h=>by
   unfold qqb
   rw[if_pos h0]
   exact⟨rfl,h⟩
  have hb0:((qab [qaa x.data.toList,qaa y.data.toList]:Int)==0)=false:=beq_eq_false_iff_ne.2 (by omega)
  clear hg hx hy HRE h0
  generalize qab [qaa x.data.toList,qaa y.data.toList]=c at *
  go_enter Tryz.func9,Tryz.ntmps9
  go_wp2_with fail
  refine HRB.out.mono ?_
  rintro e w1 ⟨rfl,hb1⟩
  have HB1:=hid hb1
  clear hb1 HRB
  go_wp2_with fail
  go_ret2
  exact HFIN.out _ HB1.out
def qwe(x y:ByteArray)(w:World)(e:Ending)(w':World):Prop:=
 (if qab [qaa x.data.toList,qaa y.data.toList]≠0 then e = .returned (.tuple #[.int .i64 0,.int .i64 (qab [qaa x.data.toList,qaa y.data.toList])])
 else e = .returned (.tuple #[.int .i64 (qdb (qac x.data.toList) (qac y.data.toList)),.int .i64 0]))∧Below w.heap.size w w'
theorem ql5(x y:ByteArray)(w:World)(hg:GW w)(hx:x.size≤1073741824)(hy:y.size≤1073741824):
  Calls Tryz.prog 10 #[.string x,.string y] w (qwe x y w):=by
 have HRE:=hid (qh8 x y w hg hx hy 22)
 by_cases h0:qab [qaa x.data.toList,qaa y.data.toList]=0
 ·obtain⟨hcx,hcy⟩:=qem h0
  have hbx:=qdc hcx
  have hby:=qdc hcy
  have HFIN:Hid (∀w',Below w.heap.size w w'→qwe x y w (.returned (.tuple #[.int .i64 (qdb (qac x.data.toList) (qac y.data.toList)),.int .i64 0])) w'):=hid fun w' h=>by
   unfold qwe
   rw[if_neg (by omega)]
   exact⟨rfl,h⟩
  have HRG:=hid (qjz HRE.out h0)
  have HOP:Hid (∀W va vb,qaj W va (qac x.data.toList)→qaj W vb (qac y.data.toList)→Calls Tryz.prog 47 #[va,vb] W fun e w'=>e = .returned (.int .i64 (qdb (qac x.data.toList) (qac y.data.toList)))∧Below W.heap.size W w'):=
   hid fun W va vb hva hvb=>qco va vb _ _ W hva hvb (by have:=hbx.rs;have:=hby.rs;unfold Cap;omega)
  clear hg hx hy HRE h0 hcx hcy hbx hby
  generalize qdb (qac x.data.toList) (qac y.data.toList)=r at *
  generalize qac x.data.toList=qx at *
  generalize qac y.data.toList=qy at *
  go_enter Tryz.func10,Tryz.ntmps10
  go_wp2_with fail
  refine HRG.out.mono ?_
  rintro e w1 ⟨⟨g,rfl,hn⟩,hb1⟩
  obtain⟨b,p1,k1,c1,p2,k2,c2,b',p1',k1',c1',p2',k2',c2',hsx,hva,hvb⟩:=qgu hn
  have HSIX:=hid hsx
  have hsix:=hsx w1 (Below.refl _ _)
  have hdrew:Below w1.heap.size w1 w1.drew:=(Below.refl _ _).drew
  have HO1:=hid (HOP.out w1.drew _ _ (hva.later hdrew) (hvb.later hdrew))
  have HB1:=hid hb1
  clear hn hb1 hsx hva hvb hdrew HRG HOP
  obtain⟨r0,r1,r2,r3,r4,r5⟩:=id hsix
  go_wp2_with fail
  go_region_held3 (fun W=>W.cell? ⟨g,0,none⟩=some (.bool b)∧W.cell? ⟨g,1,none⟩=some (.slice p1 k1 c1)∧W.cell? ⟨g,2,none⟩=some (.slice p2 k2 c2)∧W.cell? ⟨g,3,none⟩=some (.bool b')∧W.cell? ⟨g,4,none⟩=some (.slice p1' k1' c1')∧W.cell? ⟨g,5,none⟩=some (.slice p2' k2' c2')) (first|with_reducible exact HSIX.out _ HBB2.out|exact hsix)
   (first|(go_at_call 47;refine HO1.out.mono ?_;rintro e w2 ⟨rfl,hb2⟩;have HBB2:Hid (Below w1.heap.size w1 w2):=hid ((Below.refl _ _).drew.trans hb2);clear hb2))
  all_goals
   have HF3:=hid (HB1.out.trans (HBB2.out.mono HB1.out.size))
   go_wp2_with fail
   go_ret2
   exact HFIN.out _ HF3.out
 ·have HRB:=hid (qm5 HRE.out h0)
  have HFIN:Hid (∀w',Below w.heap.size w w'→qwe x y w (.returned (.tuple #[.int .i64 0,.int .i64 (qab [qaa x.data.toList,qaa y.data.toList]:Nat)])) w'):=hid fun w' h=>by
   unfold qwe
   rw[if_pos h0]
   exact⟨rfl,h⟩
  have hb0:((qab [qaa x.data.toList,qaa y.data.toList]:Int)==0)=false:=beq_eq_false_iff_ne.2 (by omega)
  clear hg hx hy HRE h0
  generalize qab [qaa x.data.toList,qaa y.data.toList]=c at *
  go_enter Tryz.func10,Tryz.ntmps10
  go_wp2_with fail
  refine HRB.out.mono ?_
  rintro e w1 ⟨rfl,hb1⟩
  have HB1:=hid hb1
  clear hb1 HRB
  go_wp2_with fail
  go_ret2
  exact HFIN.out _ HB1.out
def qkz(x:ByteArray)(w:World)(e:Ending)(w':World):Prop:=
 if qaa x.data.toList≠0 then e = .returned (.tuple #[.string ⟨#[]⟩,.int .i64 (qaa x.data.toList)])∧Below w.heap.size w w'
 else qe1 ((qac x.data.toList).floor:Rat) w e w'
theorem qq6(x:ByteArray)(w:World)(hg:GW w)(hx:x.size≤1073741824):
  Calls Tryz.prog 11 #[.string x] w (qkz x w):=by
 by_cases h0:qaa x.data.toList=0
 ·have HRD:=hid (qjx x w hg hx h0)
  have hbx:=qdc h0
  have HFIN:Hid (∀e w',qe1 ((qac x.data.toList).floor:Rat) w e w'→qkz x w e w'):=hid fun e w' h=>by
   unfold qkz
   rw[if_neg (by omega)]
   exact h
  have HFL:Hid (∀W v,qaj W v (qac x.data.toList)→Calls Tryz.prog 48 #[v] W fun e w'=>(∃v',e = .returned v'∧qaj w' v' ((qac x.data.toList).floor:Rat))∧Below W.heap.size W w'):=hid fun W v hv=>qtl v _ W hv (by have:=hbx.rs;unfold Cap;omega)
  have HWT:Hid (∀W v,qaj W v ((qac x.data.toList).floor:Rat)→Calls Tryz.prog 45 #[v] W (qe1 ((qac x.data.toList).floor:Rat) W)):=hid fun W v hv=>qdn v _ W hv (by have:=(qr3 hbx (by omega)).rs;unfold Cap;omega)
  clear hg hx h0 hbx
  generalize ((qac x.data.toList).floor:Rat)=r at *
  generalize qac x.data.toList=qx at *
  go_enter Tryz.func11,Tryz.ntmps11
  go_wp2_with fail
  refine HRD.out.mono ?_
  rintro e w1 ⟨⟨v1,rfl,hv⟩,hb⟩
  obtain⟨p1,k1,l1,p2,k2,l2,rfl,hp1,hp2⟩:=hv.parts
  clear hp1 hp2
  obtain⟨hal,hbx⟩:=qm3 w1 (decide (qx.num<0)) (.slice p1 k1 l1) (.slice p2 k2 l2)
  have HV1:=hid (hv.later hal)
  have HB1:=hid (hb.trans (hal.mono hb.size))
  obtain⟨x0,x1,x2⟩:=qba hbx
  clear hv hb hal hbx HRD
  generalize decide (qx.num<0)=s1 at *
  go_wp2_with fail
  refine(HFL.out _ _ HV1.out).mono ?_
  clear x0 x1 x2
  rintro e w2 ⟨⟨v2,rfl,hv⟩,hb⟩
  have HV2:=hid hv
  have HB2:=hid (HB1.out.trans (hb.mono HB1.out.size))
  clear hv hb HV1 HB1 HFL
  go_wp2_with fail
  refine(HWT.out _ _ HV2.out).mono ?_
  rintro e w3 h
  obtain⟨tx,ec,rfl,h2⟩:=qf8 h
  have HF:=hid (qf7 HB2.out h2)
  clear h h2 HV2 HB2 HWT
  go_wp2_with fail
  go_ret2
  exact HFIN.out _ _ HF.out
 ·have HRD:=hid (qkx x w hg hx h0)
  have HFIN:Hid (∀w',Below w.heap.size w w'→qkz x w (.returned (.tuple #[.string ⟨#[]⟩,.int .i64 (qaa x.data.toList:Nat)])) w'):=hid fun w' h=>by
   unfold qkz
   rw[if_pos h0]
   exact⟨rfl,h⟩
  have hb0:((qaa x.data.toList:Int)==0)=false:=beq_eq_false_iff_ne.2 (by omega)
  clear hg hx h0
  generalize qaa x.data.toList=c at *
  go_enter Tryz.func11,Tryz.ntmps11
  go_wp2_with fail
  refine HRD.out.mono ?_
  rintro e w1 ⟨rfl,hb⟩
  have HB2:Hid (Below w.heap.size w (w1.alloc (.cells #[.bool false,.slice none 0 0,.slice none 0 0] 78))):=hid (hb.alloc hb.size _)
  clear hb HRD
  go_wp2_with fail
  go_ret2
  exact HFIN.out _ HB2.out
end Go.Proofs.YtoijmhmmalnilaaGreatDoor
