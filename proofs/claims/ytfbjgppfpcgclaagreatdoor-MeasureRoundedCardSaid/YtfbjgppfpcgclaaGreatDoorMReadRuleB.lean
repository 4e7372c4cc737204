/- readRule: the kinds that there are. -/
import Derived.Test.YtfbjgppfpcgclaaGreatDoorMReadRule
import Derived.Test.YtfbjgppfpcgclaaGreatDoorMRules
set_option linter.all false
namespace Go.Proofs.YtfbjgppfpcgclaaGreatDoor
open Go.RowKit
set_option maxRecDepth 100000
set_option maxHeartbeats 8000000
theorem qr3(k s:ByteArray)(f:Nat)(w:World)(hf:qa8 k=some f)(hg:GW w)(hs:s.size≤1073741824)(h0:qac s.data.toList≠0):
  Calls Tryz.prog 66 #[.agg #[.string k,.string s]] w (qjj k s.data.toList w):=by
 have HSF:Hid (ql1 qd5 k=some (.agg #[.func (.func f) #[] #[],.bool false,.slice none 0 0,.slice none 0 0])):=hid (by rw[qii,hf];rfl)
 have HW0:=hid (qj0 w k s)
 have hnk:qa8 k≠none:=by rw[hf];exact fun h=>by cases h
 have hck:qab k s.data.toList=qac s.data.toList:=by unfold qab;rw[if_neg hnk,if_pos h0]
 have HRD:Hid (∀W,qcj w k s W→Calls Tryz.prog 44 #[.string s] W fun e w'=>e = .returned (.tuple #[.agg #[.bool false,.slice none 0 0,.slice none 0 0],.int .i64 (qac s.data.toList:Nat)])∧qcj w k s w'):=hid fun W hW=>(qfh s W (hg.later hW.1) hs).mono fun e w' h=>by
  unfold qkt at h
  rw[if_neg h0] at h
  exact⟨h.1,hW.later h.2⟩
 have HNE:Hid (qab k s.data.toList≠0):=hid (by rw[hck];exact h0)
 have HCK:Hid ((qac s.data.toList:Int)=qab k s.data.toList):=hid (by rw[hck])
 have hb0:((qac s.data.toList:Int)==0)=false:=beq_eq_false_iff_ne.2 (by omega)
 clear hf hg hs hnk h0 hck
 generalize qac s.data.toList=c at *
 go_enter Tryz.func66,Tryz.ntmps66
 go_wp2_with fail
 generalize (w.alloc (.cells #[.string k,.string s] 40)).alloc (.cells #[.nilFunc,.bool false,.slice none 0 0,.slice none 0 0] 100)=w0 at *
 have HT0:=hid (HW0.out.later ((Below.refl _ _).drew))
 obtain⟨c0,c1⟩:=qai HT0.out.2.1
 have al:∀V:World,Below V.heap.size V (V.alloc (.cells #[.nilFunc,.bool false,.slice none 0 0,.slice none 0 0] 100)):=fun V=>(Below.refl _ _).alloc (Nat.le_refl _) _
 have AL:=hid al
 have hlt0:w.heap.size+1<w0.heap.size:=HW0.out.2.2.1
 have HRU1:Hid (Calls Tryz.prog 115 #[] w0.drew fun e w'=>e = .returned (.map (some w0.heap.size))∧qr1 w' w0.heap.size qd5∧qcj w k s w'):=hid ((qb4 w0.drew).mono fun e w' ⟨h1,h2,h3⟩=>⟨h1,h2,HT0.out.later h3⟩)
 have HRU2:Hid (Calls Tryz.prog 115 #[] (w0.alloc (.cells #[.nilFunc,.bool false,.slice none 0 0,.slice none 0 0] 100)).drew fun e w'=>e = .returned (.map (some (w0.heap.size+1)))∧qr1 w' (w0.heap.size+1) qd5∧qcj w k s w'∧Own w' w0.heap.size 4 (q3c .nilFunc (.bool false) (.slice none 0 0) (.slice none 0 0))):=hid (by
  have h:=qb4 (w0.alloc (.cells #[.nilFunc,.bool false,.slice none 0 0,.slice none 0 0] 100)).drew
  have e1:(w0.alloc (.cells #[.nilFunc,.bool false,.slice none 0 0,.slice none 0 0] 100)).drew.heap.size=w0.heap.size+1:=World.size_alloc _ _
  rw[e1] at h
  have h5:Below w0.heap.size w0 (w0.alloc (.cells #[.nilFunc,.bool false,.slice none 0 0,.slice none 0 0] 100)).drew:=(al w0).drew
  refine h.mono fun e w' ⟨h1,h2,h3⟩=>⟨h1,h2, ?_, ?_⟩
  ·exact(HW0.out.later h5).later (by rw[e1];exact h3)
  ·exact((qij w0 100 .nilFunc (.bool false) (.slice none 0 0) (.slice none 0 0)).later ((Below.refl _ _).drew)).later h3)
 have hne0:w0.heap.size≠w.heap.size:=by have:=HW0.out.2.2.1;omega
 have cz:(w0.alloc (.cells #[.nilFunc,.bool false,.slice none 0 0,.slice none 0 0] 100)).drew.cell? ⟨w.heap.size,0,none⟩=some (.string k):=(qai ((HW0.out.later (al w0)).later ((Below.refl _ _).drew)).2.1).1
 clear al
 go_region_held3 (fun W=>W.cell? ⟨w.heap.size,0,none⟩=some (.string k)) (first|with_reducible exact c0|with_reducible exact cz|with_reducible exact cm|with_reducible exact ca|with_reducible exact cv|with_reducible exact qgh cm hne0 _ _ _ _|fail)
  (first
   | (go_at_call 115;((with_reducible refine HRU1.out.mono ?_);rintro e w1 ⟨rfl,hm,hr⟩;have hlk:(Instr.lookup 154 (.map (some w0.heap.size)) (.string k) true).run Tryz.prog w1 = .ok (.tuple #[.agg #[.func (.func f) #[] #[],.bool false,.slice none 0 0,.slice none 0 0],.bool true]) w1:=(qco (P:=Tryz.prog) _ 154 9 100 Tryz.underlying154 Tryz.underlying9 _ _ hm k _ HSF.out).1;have hlk2:(Instr.lookup 154 (.map (some w0.heap.size)) (.string k) true).run Tryz.prog (w1.alloc (.cells #[.nilFunc,.bool false,.slice none 0 0,.slice none 0 0] 100)) = .ok (.tuple #[.agg #[.func (.func f) #[] #[],.bool false,.slice none 0 0,.slice none 0 0],.bool true]) (w1.alloc (.cells #[.nilFunc,.bool false,.slice none 0 0,.slice none 0 0] 100)):=(qco (P:=Tryz.prog) _ 154 9 100 Tryz.underlying154 Tryz.underlying9 _ _ (hm.later (AL.out _)) k _ HSF.out).1;have HTM:=hid hr;have cm:=(qai hr.2.1).1;have ca:=(qai (hr.later (AL.out _)).2.1).1;have cv:=(qai (qeq hr (.func (.func f) #[] #[]) (.bool false) (.slice none 0 0) (.slice none 0 0)).1.2.1).1;clear hm hr))
   | (go_at_call 115;((with_reducible refine HRU2.out.mono ?_);rintro e w1 ⟨rfl,hm,hr,ho⟩;have hlk:(Instr.lookup 154 (.map (some (w0.heap.size+1))) (.string k) true).run Tryz.prog w1 = .ok (.tuple #[.agg #[.func (.func f) #[] #[],.bool false,.slice none 0 0,.slice none 0 0],.bool true]) w1:=(qco (P:=Tryz.prog) _ 154 9 100 Tryz.underlying154 Tryz.underlying9 _ _ hm k _ HSF.out).1;have HTM:=hid hr;have cm:=(qai hr.2.1).1;have HOZ:=hid ho;obtain⟨⟨z0,z1,z2,z3⟩,y0,y1,y2,y3⟩:=qd0 ho;clear hm hr ho)))
 all_goals
  first
  | (obtain⟨hri,how,hb1⟩:=qol HTM.out hlt0 HOZ.out (.func (.func f) #[] #[]) (.bool false) (.slice none 0 0) (.slice none 0 0);clear z0 z1 z2 z3 y0 y1 y2 y3 hlk cm cz HOZ;generalize ((((w1.setCell ⟨w0.heap.size,0,none⟩ (.func (.func f) #[] #[])).setCell ⟨w0.heap.size,1,none⟩ (.bool false)).setCell ⟨w0.heap.size,2,none⟩ (.slice none 0 0)).setCell ⟨w0.heap.size,3,none⟩ (.slice none 0 0))=W2 at *;generalize w0.heap.size=B1 at *)
  | (obtain⟨hri,how,hb1⟩:=qeq HTM.out (.func (.func f) #[] #[]) (.bool false) (.slice none 0 0) (.slice none 0 0);clear hlk hlk2 cm ca cv cz;generalize (w1.alloc (.cells #[.func (.func f) #[] #[],.bool false,.slice none 0 0,.slice none 0 0] 100))=W2 at *;generalize w1.heap.size=B1 at *)
  have HRI:=hid hri
  have HOW:=hid how
  have HB1:=hid hb1
  clear hri how hb1 HTM HW0 HT0 c0 c1 HRU1 HRU2 AL hne0
  obtain⟨d0,d1⟩:=qai HRI.out.2.1
  go_wp2_with fail
  refine(HRD.out _ HRI.out).mono ?_
  clear d0 d1
  rintro e w3 ⟨rfl,hr⟩
  have HR3:=hid (hr.later ((Below.refl _ _).alloc (Nat.le_refl _) (.cells #[.bool false,.slice none 0 0,.slice none 0 0] 76)))
  clear hr HRI HRD HOW
  obtain⟨⟨r0,r1,r2,r3⟩,g0,g1,g2,g3⟩:=qd0 HR3.out.2.2
  have HBEL:Hid (Below w.heap.size w (((((w3.alloc (.cells #[.bool false,.slice none 0 0,.slice none 0 0] 76)).setCell ⟨w.heap.size+1,0,none⟩ .nilFunc).setCell ⟨w.heap.size+1,1,none⟩ (.bool false)).setCell ⟨w.heap.size+1,2,none⟩ (.slice none 0 0)).setCell ⟨w.heap.size+1,3,none⟩ (.slice none 0 0))):=hid ((((HR3.out.1.setCell (Nat.le_succ _) _).setCell (Nat.le_succ _) _).setCell (Nat.le_succ _) _).setCell (Nat.le_succ _) _)
  go_wp2_with fail
  refine bodyPost_ret (v := .tuple #[.agg #[.nilFunc,.bool false,.slice none 0 0,.slice none 0 0],.int .i64 c]) ?_ rfl ?_
  ·simp[results,Tryz.results66,go_sem,r0,r1,r2,r3]
  ·exact qm1 HNE.out HCK.out rfl HBEL.out
theorem qqj(k s:ByteArray)(f:Nat)(w:World)(hf:qa8 k=some f)(hg:GW w)(hs:s.size≤1073741824)(h0:qac s.data.toList=0)(h1:(qad s.data.toList).num≤0):
  Calls Tryz.prog 66 #[.agg #[.string k,.string s]] w (qjj k s.data.toList w):=by
 have HSF:Hid (ql1 qd5 k=some (.agg #[.func (.func f) #[] #[],.bool false,.slice none 0 0,.slice none 0 0])):=hid (by rw[qii,hf];rfl)
 have HW0:=hid (qj0 w k s)
 have hnk:qa8 k≠none:=by rw[hf];exact fun h=>by cases h
 have hck:qab k s.data.toList=3:=by unfold qab;rw[if_neg hnk,if_neg (by omega),if_pos h1]
 have HRD:Hid (∀W,qcj w k s W→Calls Tryz.prog 44 #[.string s] W fun e w'=>(∃v',e = .returned (.tuple #[v',.int .i64 0])∧qan w' v' (qad s.data.toList))∧qcj w k s w'∧Below W.heap.size W w'):=hid fun W hW=>(qfh s W (hg.later hW.1) hs).mono fun e w' h=>by
  unfold qkt at h
  rw[if_pos h0] at h
  exact⟨h.1,hW.later h.2,h.2⟩
 have HNE:Hid (qab k s.data.toList≠0):=hid (by rw[hck];omega)
 have HCK:Hid ((3:Int)=qab k s.data.toList):=hid (by rw[hck];rfl)
 have HSG:Hid (∀W v,qcj w k s W→qan W v (qad s.data.toList)→Calls Tryz.prog 45 #[v] W fun e w'=>e = .returned (.int .i64 (sgn (qad s.data.toList)))∧qcj w k s w'∧Below W.heap.size W w'):=hid fun W v hW hv=>(qch v _ W hv).mono fun e w' ⟨h1,h2⟩=>⟨h1,hW.later h2,h2⟩
 have hsc:=qe1 (qad s.data.toList)
 have hsg:sgn (qad s.data.toList)≤0:=by omega
 clear hf hg hs hnk h0 hck hsc h1
 generalize sgn (qad s.data.toList)=sq at *
 go_enter Tryz.func66,Tryz.ntmps66
 go_wp2_with fail
 generalize (w.alloc (.cells #[.string k,.string s] 40)).alloc (.cells #[.nilFunc,.bool false,.slice none 0 0,.slice none 0 0] 100)=w0 at *
 have HT0:=hid (HW0.out.later ((Below.refl _ _).drew))
 obtain⟨c0,c1⟩:=qai HT0.out.2.1
 have al:∀V:World,Below V.heap.size V (V.alloc (.cells #[.nilFunc,.bool false,.slice none 0 0,.slice none 0 0] 100)):=fun V=>(Below.refl _ _).alloc (Nat.le_refl _) _
 have AL:=hid al
 have hlt0:w.heap.size+1<w0.heap.size:=HW0.out.2.2.1
 have HRU1:Hid (Calls Tryz.prog 115 #[] w0.drew fun e w'=>e = .returned (.map (some w0.heap.size))∧qr1 w' w0.heap.size qd5∧qcj w k s w'):=hid ((qb4 w0.drew).mono fun e w' ⟨h1,h2,h3⟩=>⟨h1,h2,HT0.out.later h3⟩)
 have HRU2:Hid (Calls Tryz.prog 115 #[] (w0.alloc (.cells #[.nilFunc,.bool false,.slice none 0 0,.slice none 0 0] 100)).drew fun e w'=>e = .returned (.map (some (w0.heap.size+1)))∧qr1 w' (w0.heap.size+1) qd5∧qcj w k s w'∧Own w' w0.heap.size 4 (q3c .nilFunc (.bool false) (.slice none 0 0) (.slice none 0 0))):=hid (by
  have h:=qb4 (w0.alloc (.cells #[.nilFunc,.bool false,.slice none 0 0,.slice none 0 0] 100)).drew
  have e1:(w0.alloc (.cells #[.nilFunc,.bool false,.slice none 0 0,.slice none 0 0] 100)).drew.heap.size=w0.heap.size+1:=World.size_alloc _ _
  rw[e1] at h
  have h5:Below w0.heap.size w0 (w0.alloc (.cells #[.nilFunc,.bool false,.slice none 0 0,.slice none 0 0] 100)).drew:=(al w0).drew
  refine h.mono fun e w' ⟨h1,h2,h3⟩=>⟨h1,h2, ?_, ?_⟩
  ·exact(HW0.out.later h5).later (by rw[e1];exact h3)
  ·exact((qij w0 100 .nilFunc (.bool false) (.slice none 0 0) (.slice none 0 0)).later ((Below.refl _ _).drew)).later h3)
 have hne0:w0.heap.size≠w.heap.size:=by have:=HW0.out.2.2.1;omega
 have cz:(w0.alloc (.cells #[.nilFunc,.bool false,.slice none 0 0,.slice none 0 0] 100)).drew.cell? ⟨w.heap.size,0,none⟩=some (.string k):=(qai ((HW0.out.later (al w0)).later ((Below.refl _ _).drew)).2.1).1
 clear al
 go_region_held3 (fun W=>W.cell? ⟨w.heap.size,0,none⟩=some (.string k)) (first|with_reducible exact c0|with_reducible exact cz|with_reducible exact cm|with_reducible exact ca|with_reducible exact cv|with_reducible exact qgh cm hne0 _ _ _ _|fail)
  (first
   | (go_at_call 115;((with_reducible refine HRU1.out.mono ?_);rintro e w1 ⟨rfl,hm,hr⟩;have hlk:(Instr.lookup 154 (.map (some w0.heap.size)) (.string k) true).run Tryz.prog w1 = .ok (.tuple #[.agg #[.func (.func f) #[] #[],.bool false,.slice none 0 0,.slice none 0 0],.bool true]) w1:=(qco (P:=Tryz.prog) _ 154 9 100 Tryz.underlying154 Tryz.underlying9 _ _ hm k _ HSF.out).1;have hlk2:(Instr.lookup 154 (.map (some w0.heap.size)) (.string k) true).run Tryz.prog (w1.alloc (.cells #[.nilFunc,.bool false,.slice none 0 0,.slice none 0 0] 100)) = .ok (.tuple #[.agg #[.func (.func f) #[] #[],.bool false,.slice none 0 0,.slice none 0 0],.bool true]) (w1.alloc (.cells #[.nilFunc,.bool false,.slice none 0 0,.slice none 0 0] 100)):=(qco (P:=Tryz.prog) _ 154 9 100 Tryz.underlying154 Tryz.underlying9 _ _ (hm.later (AL.out _)) k _ HSF.out).1;have HTM:=hid hr;have cm:=(qai hr.2.1).1;have ca:=(qai (hr.later (AL.out _)).2.1).1;have cv:=(qai (qeq hr (.func (.func f) #[] #[]) (.bool false) (.slice none 0 0) (.slice none 0 0)).1.2.1).1;clear hm hr))
   | (go_at_call 115;((with_reducible refine HRU2.out.mono ?_);rintro e w1 ⟨rfl,hm,hr,ho⟩;have hlk:(Instr.lookup 154 (.map (some (w0.heap.size+1))) (.string k) true).run Tryz.prog w1 = .ok (.tuple #[.agg #[.func (.func f) #[] #[],.bool false,.slice none 0 0,.slice none 0 0],.bool true]) w1:=(qco (P:=Tryz.prog) _ 154 9 100 Tryz.underlying154 Tryz.underlying9 _ _ hm k _ HSF.out).1;have HTM:=hid hr;have cm:=(qai hr.2.1).1;have HOZ:=hid ho;obtain⟨⟨z0,z1,z2,z3⟩,y0,y1,y2,y3⟩:=qd0 ho;clear hm hr ho)))
 all_goals
  first
  | (obtain⟨hri,how,hb1⟩:=qol HTM.out hlt0 HOZ.out (.func (.func f) #[] #[]) (.bool false) (.slice none 0 0) (.slice none 0 0);clear z0 z1 z2 z3 y0 y1 y2 y3 hlk cm cz HOZ;generalize ((((w1.setCell ⟨w0.heap.size,0,none⟩ (.func (.func f) #[] #[])).setCell ⟨w0.heap.size,1,none⟩ (.bool false)).setCell ⟨w0.heap.size,2,none⟩ (.slice none 0 0)).setCell ⟨w0.heap.size,3,none⟩ (.slice none 0 0))=W2 at *;generalize w0.heap.size=B1 at *)
  | (obtain⟨hri,how,hb1⟩:=qeq HTM.out (.func (.func f) #[] #[]) (.bool false) (.slice none 0 0) (.slice none 0 0);clear hlk hlk2 cm ca cv cz;generalize (w1.alloc (.cells #[.func (.func f) #[] #[],.bool false,.slice none 0 0,.slice none 0 0] 100))=W2 at *;generalize w1.heap.size=B1 at *)
  have HRI:=hid hri
  have HOW:=hid how
  have HB1:=hid hb1
  clear hri how hb1 HTM HW0 HT0 c0 c1 HRU1 HRU2 AL hne0
  obtain⟨d0,d1⟩:=qai HRI.out.2.1
  go_wp2_with fail
  refine(HRD.out _ HRI.out).mono ?_
  clear d0 d1
  rintro e w3 ⟨⟨v3,rfl,hv⟩,hr,hb⟩
  obtain⟨pt,kt,ct,pf,kf,cf,rfl,hp1,hp2⟩:=hv.parts
  clear hp1 hp2
  have hal:Below w3.heap.size w3 (w3.alloc (.cells #[.bool (decide ((qad s.data.toList).num<0)),.slice pt kt ct,.slice pf kf cf] 76)):=(Below.refl _ _).alloc (Nat.le_refl _) _
  have hbx:=qq0 w3 (decide ((qad s.data.toList).num<0)) (.slice pt kt ct) (.slice pf kf cf)
  have HR3:=hid (hr.later hal)
  have HV3:=hid (hv.later hal)
  have HO3:=hid ((HOW.out.later (hb.mono HOW.out.1)).later (hal.mono (by have:=HOW.out.1;have:=hb.size;omega)))
  have HB1lt:Hid (B1<w3.heap.size):=hid (by have:=HOW.out.1;have:=hb.size;omega)
  have HBX:=hid hbx
  clear hr hv hb hal hbx HRI HRD HOW
  generalize decide ((qad s.data.toList).num<0)=sg at *
  go_wp2_with fail
  refine(HSG.out _ _ HR3.out HV3.out).mono ?_
  rintro e w5 ⟨rfl,hr,hb⟩
  clear HSG
  generalize w3.heap.size=B2 at *
  have HR5:=hid hr
  have HV5:=hid (HV3.out.later hb)
  have HO5:=hid (HO3.out.later (hb.mono HO3.out.1))
  have HX5:=hid (HBX.out.later (hb.mono HBX.out.1))
  clear hr hb HR3 HV3 HO3 HBX
  obtain⟨⟨r0,r1,r2,r3⟩,g0,g1,g2,g3⟩:=qd0 HR5.out.2.2
  have HBEL:Hid (Below w.heap.size w ((((w5.setCell ⟨w.heap.size+1,0,none⟩ .nilFunc).setCell ⟨w.heap.size+1,1,none⟩ (.bool false)).setCell ⟨w.heap.size+1,2,none⟩ (.slice none 0 0)).setCell ⟨w.heap.size+1,3,none⟩ (.slice none 0 0))):=hid ((((HR5.out.1.setCell (Nat.le_succ _) _).setCell (Nat.le_succ _) _).setCell (Nat.le_succ _) _).setCell (Nat.le_succ _) _)
  go_wp2_with fail
  refine bodyPost_ret (v := .tuple #[.agg #[.nilFunc,.bool false,.slice none 0 0,.slice none 0 0],.int .i64 3]) ?_ rfl ?_
  ·simp[results,Tryz.results66,go_sem,r0,r1,r2,r3]
  ·exact qm1 HNE.out HCK.out rfl HBEL.out
theorem qvq(k s:ByteArray)(f:Nat)(w:World)(hf:qa8 k=some f)(hg:GW w)(hs:s.size≤1073741824)(h0:qac s.data.toList=0)(h1:¬(qad s.data.toList).num≤0):
  Calls Tryz.prog 66 #[.agg #[.string k,.string s]] w (qjj k s.data.toList w):=by
 have HSF:Hid (ql1 qd5 k=some (.agg #[.func (.func f) #[] #[],.bool false,.slice none 0 0,.slice none 0 0])):=hid (by rw[qii,hf];rfl)
 have HW0:=hid (qj0 w k s)
 have hnk:qa8 k≠none:=by rw[hf];exact fun h=>by cases h
 have hck:qab k s.data.toList=0:=by unfold qab;rw[if_neg hnk,if_neg (by omega),if_neg h1]
 have HRD:Hid (∀W,qcj w k s W→Calls Tryz.prog 44 #[.string s] W fun e w'=>(∃v',e = .returned (.tuple #[v',.int .i64 0])∧qan w' v' (qad s.data.toList))∧qcj w k s w'∧Below W.heap.size W w'):=hid fun W hW=>(qfh s W (hg.later hW.1) hs).mono fun e w' h=>by
  unfold qkt at h
  rw[if_pos h0] at h
  exact⟨h.1,hW.later h.2,h.2⟩
 have HSG:Hid (∀W v,qcj w k s W→qan W v (qad s.data.toList)→Calls Tryz.prog 45 #[v] W fun e w'=>e = .returned (.int .i64 (sgn (qad s.data.toList)))∧qcj w k s w'∧Below W.heap.size W w'):=hid fun W v hW hv=>(qch v _ W hv).mono fun e w' ⟨h1,h2⟩=>⟨h1,hW.later h2,h2⟩
 have hsc:=qe1 (qad s.data.toList)
 have hsg:¬sgn (qad s.data.toList)≤0:=by omega
 have HCK:=hid hck
 have HF:=hid hf
 clear hf hg hs hnk h0 hck hsc h1
 generalize sgn (qad s.data.toList)=sq at *
 go_enter Tryz.func66,Tryz.ntmps66
 go_wp2_with fail
 generalize (w.alloc (.cells #[.string k,.string s] 40)).alloc (.cells #[.nilFunc,.bool false,.slice none 0 0,.slice none 0 0] 100)=w0 at *
 have HT0:=hid (HW0.out.later ((Below.refl _ _).drew))
 obtain⟨c0,c1⟩:=qai HT0.out.2.1
 have al:∀V:World,Below V.heap.size V (V.alloc (.cells #[.nilFunc,.bool false,.slice none 0 0,.slice none 0 0] 100)):=fun V=>(Below.refl _ _).alloc (Nat.le_refl _) _
 have AL:=hid al
 have hlt0:w.heap.size+1<w0.heap.size:=HW0.out.2.2.1
 have HRU1:Hid (Calls Tryz.prog 115 #[] w0.drew fun e w'=>e = .returned (.map (some w0.heap.size))∧qr1 w' w0.heap.size qd5∧qcj w k s w'):=hid ((qb4 w0.drew).mono fun e w' ⟨h1,h2,h3⟩=>⟨h1,h2,HT0.out.later h3⟩)
 have HRU2:Hid (Calls Tryz.prog 115 #[] (w0.alloc (.cells #[.nilFunc,.bool false,.slice none 0 0,.slice none 0 0] 100)).drew fun e w'=>e = .returned (.map (some (w0.heap.size+1)))∧qr1 w' (w0.heap.size+1) qd5∧qcj w k s w'∧Own w' w0.heap.size 4 (q3c .nilFunc (.bool false) (.slice none 0 0) (.slice none 0 0))):=hid (by
  have h:=qb4 (w0.alloc (.cells #[.nilFunc,.bool false,.slice none 0 0,.slice none 0 0] 100)).drew
  have e1:(w0.alloc (.cells #[.nilFunc,.bool false,.slice none 0 0,.slice none 0 0] 100)).drew.heap.size=w0.heap.size+1:=World.size_alloc _ _
  rw[e1] at h
  have h5:Below w0.heap.size w0 (w0.alloc (.cells #[.nilFunc,.bool false,.slice none 0 0,.slice none 0 0] 100)).drew:=(al w0).drew
  refine h.mono fun e w' ⟨h1,h2,h3⟩=>⟨h1,h2, ?_, ?_⟩
  ·exact(HW0.out.later h5).later (by rw[e1];exact h3)
  ·exact((qij w0 100 .nilFunc (.bool false) (.slice none 0 0) (.slice none 0 0)).later ((Below.refl _ _).drew)).later h3)
 have hne0:w0.heap.size≠w.heap.size:=by have:=HW0.out.2.2.1;omega
 have cz:(w0.alloc (.cells #[.nilFunc,.bool false,.slice none 0 0,.slice none 0 0] 100)).drew.cell? ⟨w.heap.size,0,none⟩=some (.string k):=(qai ((HW0.out.later (al w0)).later ((Below.refl _ _).drew)).2.1).1
 clear al
 go_region_held3 (fun W=>W.cell? ⟨w.heap.size,0,none⟩=some (.string k)) (first|with_reducible exact c0|with_reducible exact cz|with_reducible exact cm|with_reducible exact ca|with_reducible exact cv|with_reducible exact qgh cm hne0 _ _ _ _|fail)
  (first
   | (go_at_call 115;((with_reducible refine HRU1.out.mono ?_);rintro e w1 ⟨rfl,hm,hr⟩;have hlk:(Instr.lookup 154 (.map (some w0.heap.size)) (.string k) true).run Tryz.prog w1 = .ok (.tuple #[.agg #[.func (.func f) #[] #[],.bool false,.slice none 0 0,.slice none 0 0],.bool true]) w1:=(qco (P:=Tryz.prog) _ 154 9 100 Tryz.underlying154 Tryz.underlying9 _ _ hm k _ HSF.out).1;have hlk2:(Instr.lookup 154 (.map (some w0.heap.size)) (.string k) true).run Tryz.prog (w1.alloc (.cells #[.nilFunc,.bool false,.slice none 0 0,.slice none 0 0] 100)) = .ok (.tuple #[.agg #[.func (.func f) #[] #[],.bool false,.slice none 0 0,.slice none 0 0],.bool true]) (w1.alloc (.cells #[.nilFunc,.bool false,.slice none 0 0,.slice none 0 0] 100)):=(qco (P:=Tryz.prog) _ 154 9 100 Tryz.underlying154 Tryz.underlying9 _ _ (hm.later (AL.out _)) k _ HSF.out).1;have HTM:=hid hr;have cm:=(qai hr.2.1).1;have ca:=(qai (hr.later (AL.out _)).2.1).1;have cv:=(qai (qeq hr (.func (.func f) #[] #[]) (.bool false) (.slice none 0 0) (.slice none 0 0)).1.2.1).1;clear hm hr))
   | (go_at_call 115;((with_reducible refine HRU2.out.mono ?_);rintro e w1 ⟨rfl,hm,hr,ho⟩;have hlk:(Instr.lookup 154 (.map (some (w0.heap.size+1))) (.string k) true).run Tryz.prog w1 = .ok (.tuple #[.agg #[.func (.func f) #[] #[],.bool false,.slice none 0 0,.slice none 0 0],.bool true]) w1:=(qco (P:=Tryz.prog) _ 154 9 100 Tryz.underlying154 Tryz.underlying9 _ _ hm k _ HSF.out).1;have HTM:=hid hr;have cm:=(qai hr.2.1).1;have HOZ:=hid ho;obtain⟨⟨z0,z1,z2,z3⟩,y0,y1,y2,y3⟩:=qd0 ho;clear hm hr ho)))
 all_goals
  first
  | (obtain⟨hri,how,hb1⟩:=qol HTM.out hlt0 HOZ.out (.func (.func f) #[] #[]) (.bool false) (.slice none 0 0) (.slice none 0 0);clear z0 z1 z2 z3 y0 y1 y2 y3 hlk cm cz HOZ;generalize ((((w1.setCell ⟨w0.heap.size,0,none⟩ (.func (.func f) #[] #[])).setCell ⟨w0.heap.size,1,none⟩ (.bool false)).setCell ⟨w0.heap.size,2,none⟩ (.slice none 0 0)).setCell ⟨w0.heap.size,3,none⟩ (.slice none 0 0))=W2 at *;generalize w0.heap.size=B1 at *)
  | (obtain⟨hri,how,hb1⟩:=qeq HTM.out (.func (.func f) #[] #[]) (.bool false) (.slice none 0 0) (.slice none 0 0);clear hlk hlk2 cm ca cv cz;generalize (w1.alloc (.cells #[.func (.func f) #[] #[],.bool false,.slice none 0 0,.slice none 0 0] 100))=W2 at *;generalize w1.heap.size=B1 at *)
  have HRI:=hid hri
  have HOW:=hid how
  have HB1:=hid hb1
  clear hri how hb1 HTM HW0 HT0 c0 c1 HRU1 HRU2 AL hne0
  obtain⟨d0,d1⟩:=qai HRI.out.2.1
  go_wp2_with fail
  refine(HRD.out _ HRI.out).mono ?_
  clear d0 d1
  rintro e w3 ⟨⟨v3,rfl,hv⟩,hr,hb⟩
  obtain⟨pt,kt,ct,pf,kf,cf,rfl,hp1,hp2⟩:=hv.parts
  clear hp1 hp2
  have hal:Below w3.heap.size w3 (w3.alloc (.cells #[.bool (decide ((qad s.data.toList).num<0)),.slice pt kt ct,.slice pf kf cf] 76)):=(Below.refl _ _).alloc (Nat.le_refl _) _
  have hbx:=qq0 w3 (decide ((qad s.data.toList).num<0)) (.slice pt kt ct) (.slice pf kf cf)
  have HR3:=hid (hr.later hal)
  have HV3:=hid (hv.later hal)
  have HO3:=hid ((HOW.out.later (hb.mono HOW.out.1)).later (hal.mono (by have:=HOW.out.1;have:=hb.size;omega)))
  have HB1lt:Hid (B1<w3.heap.size):=hid (by have:=HOW.out.1;have:=hb.size;omega)
  have HBX:=hid hbx
  clear hr hv hb hal hbx HRI HRD HOW
  generalize decide ((qad s.data.toList).num<0)=sg at *
  go_wp2_with fail
  refine(HSG.out _ _ HR3.out HV3.out).mono ?_
  rintro e w5 ⟨rfl,hr,hb⟩
  clear HSG
  generalize w3.heap.size=B2 at *
  have HR5:=hid hr
  have HV5:=hid (HV3.out.later hb)
  have HO5:=hid (HO3.out.later (hb.mono HO3.out.1))
  have HX5:=hid (HBX.out.later (hb.mono HBX.out.1))
  clear hr hb HR3 HV3 HO3 HBX
  obtain⟨⟨r0,r1,r2,r3⟩,g0,g1,g2,g3⟩:=qd0 HR5.out.2.2
  obtain⟨x0,x1,x2⟩:=qbj HX5.out
  obtain⟨⟨y0,y1,y2,y3⟩,z0,z1,z2,z3⟩:=qd0 HO5.out
  have hne1:¬B1=w.heap.size+1:=by have:=HB1.out;omega
  have hne2:¬w.heap.size+1=B1:=by omega
  have h61:=qba HV5.out HO5.out 1 (by omega) (by intro k z h;cases h) (.bool sg)
  have h62:=qba h61 (HO5.out.set 1 (by omega) (.bool sg)) 2 (by omega) (by intro k z h;cases h) (.slice pt kt ct)
  have h63:=qba h62 ((HO5.out.set 1 (by omega) (.bool sg)).set 2 (by omega) (.slice pt kt ct)) 3 (by omega) (by intro k z h;cases h) (.slice pf kf cf)
  have hr6:=((HR5.out.set HB1.out 1 (.bool sg)).set HB1.out 2 (.slice pt kt ct)).set HB1.out 3 (.slice pf kf cf)
  have ho:=hr6.2.2
  have h71:=qba h63 ho 0 (by omega) (by intro k z h;cases h) (.func (.func f) #[] #[])
  have h72:=qba h71 (ho.set 0 (by omega) (.func (.func f) #[] #[])) 1 (by omega) (by intro k z h;cases h) (.bool sg)
  have h73:=qba h72 ((ho.set 0 (by omega) (.func (.func f) #[] #[])).set 1 (by omega) (.bool sg)) 2 (by omega) (by intro k z h;cases h) (.slice pt kt ct)
  have h74:=qba h73 (((ho.set 0 (by omega) (.func (.func f) #[] #[])).set 1 (by omega) (.bool sg)).set 2 (by omega) (.slice pt kt ct)) 3 (by omega) (by intro k z h;cases h) (.slice pf kf cf)
  have HFIN:=hid h74
  have HBEL:=hid ((((hr6.1.setCell (p:=⟨w.heap.size+1,0,none⟩) (Nat.le_succ _) (.func (.func f) #[] #[])).setCell (p:=⟨w.heap.size+1,1,none⟩) (Nat.le_succ _) (.bool sg)).setCell (p:=⟨w.heap.size+1,2,none⟩) (Nat.le_succ _) (.slice pt kt ct)).setCell (p:=⟨w.heap.size+1,3,none⟩) (Nat.le_succ _) (.slice pf kf cf))
  clear h61 h62 h63 hr6 ho h71 h72 h73 h74 HX5 HR5 HV5 HO5
  go_wp2_with fail
  refine bodyPost_ret (v := .tuple #[.agg #[.func (.func f) #[] #[],.bool sg,.slice pt kt ct,.slice pf kf cf],.int .i64 0]) ?_ rfl ?_
  ·simp[results,Tryz.results66,go_sem,r0,r1,r2,r3]
  ·exact q1v HCK.out rfl HF.out HFIN.out HBEL.out
theorem qnx(k s:ByteArray)(w:World)(hg:GW w)(hs:s.size≤1073741824):
  Calls Tryz.prog 66 #[.agg #[.string k,.string s]] w (qjj k s.data.toList w):=by
 cases hf:qa8 k
 ·exact qr2 k s w hf
 ·rename_i f
  by_cases h0:qac s.data.toList=0
  ·by_cases h1:(qad s.data.toList).num≤0
   ·exact qqj k s f w hf hg hs h0 h1
   ·exact qvq k s f w hf hg hs h0 h1
  ·exact qr3 k s f w hf hg hs h0
theorem q6r{W:World}{g1:Nat}{c0 c1 c2:Option Value}(h:W.cell? ⟨g1,0,none⟩=c0∧W.cell? ⟨g1,1,none⟩=c1∧W.cell? ⟨g1,2,none⟩=c2){g:Nat}(h1:g≠g1)(x y z:Value):
  (((W.setCell ⟨g,0,none⟩ x).setCell ⟨g,1,none⟩ y).setCell ⟨g,2,none⟩ z).cell? ⟨g1,0,none⟩=c0∧(((W.setCell ⟨g,0,none⟩ x).setCell ⟨g,1,none⟩ y).setCell ⟨g,2,none⟩ z).cell? ⟨g1,1,none⟩=c1∧(((W.setCell ⟨g,0,none⟩ x).setCell ⟨g,1,none⟩ y).setCell ⟨g,2,none⟩ z).cell? ⟨g1,2,none⟩=c2:=by
 have k:∀(V:World) (i o:Nat) (v:Value),(V.setCell ⟨g,i,none⟩ v).cell? ⟨g1,o,none⟩=V.cell? ⟨g1,o,none⟩:=fun V i o v=>World.cell?_setCell_other _ _ _ _ (by intro e;injection e with e;exact h1 e)
 simp only[k]
 exact h
theorem q8i:(2:Rat).num≠0:=by decide
theorem qw9(va:Value)(a:Rat)(w:World)(ha:qan w va a)(m:Nat)(hm:bd a m)(hc:m≤1073741824):
  Calls Tryz.prog 117 #[va] w fun e w'=>(∃v',e = .returned v'∧qan w' v' (a/2))∧Below w.heap.size w w':=by
 have HA:=hid ha
 obtain⟨pa1,ka1,ca1,pa2,ka2,ca2,rfl,ha1,ha2⟩:=ha.parts
 have HW0:=hid (qo9 w (decide (a.num<0)) (.slice pa1 ka1 ca1) (.slice pa2 ka2 ca2))
 have HWH:Hid (∀W,qhd w (decide (a.num<0)) (.slice pa1 ka1 ca1) (.slice pa2 ka2 ca2) W→Calls Tryz.prog 77 #[.int .i64 2] W fun e w'=>(∃v',e = .returned v'∧qan w' v' 2)∧qhd w (decide (a.num<0)) (.slice pa1 ka1 ca1) (.slice pa2 ka2 ca2) w'∧Below W.heap.size W w'):=hid fun W hW=>qjs hW (qe2 2 W (by omega) (by omega))
 have HOV:Hid (∀W v,qhd w (decide (a.num<0)) (.slice pa1 ka1 ca1) (.slice pa2 ka2 ca2) W→qan W v 2→Calls Tryz.prog 47 #[.agg #[.bool (decide (a.num<0)),.slice pa1 ka1 ca1,.slice pa2 ka2 ca2],v] W fun e w'=>(∃v',e = .returned v'∧qan w' v' (a/2))∧qhd w (decide (a.num<0)) (.slice pa1 ka1 ca1) (.slice pa2 ka2 ca2) w'∧Below W.heap.size W w'):=hid fun W v hW hv=>qjs hW (qfu _ v a 2 W (HA.out.later hW.1) hv q8i (by
  have h1:=hm.rs
  have h2:=(qe5 2 (by omega) (by omega)).rs
  have h3:rs (2:Rat)≤2:=h2
  unfold Cap
  omega))
 clear ha ha1 ha2 hm hc
 generalize decide (a.num<0)=na at *
 go_enter Tryz.func117,Tryz.ntmps117
 go_wp2_with fail
 generalize (w.alloc (.cells #[.bool na,.slice pa1 ka1 ca1,.slice pa2 ka2 ca2] 76)).alloc (.cells #[.bool false,.slice none 0 0,.slice none 0 0] 76)=w0 at *
 have HT0:=hid (HW0.out.later ((Below.refl _ _).drew))
 have c0:=qea HT0.out
 go_region_held3 (fun W=>W.cell? ⟨w.heap.size,0,none⟩=some (.bool na)∧W.cell? ⟨w.heap.size,1,none⟩=some (.slice pa1 ka1 ca1)∧W.cell? ⟨w.heap.size,2,none⟩=some (.slice pa2 ka2 ca2)) (first|with_reducible exact c0|with_reducible exact c1|with_reducible exact c2|with_reducible exact q6r c2 (by omega) _ _ _)
  (first
   | (go_at_call 77;((with_reducible refine(HWH.out _ HT0.out).mono ?_);rintro e wX ⟨⟨vX,rfl,hn⟩,ht,hb⟩;have HVX:=hid hn;have HTX:=hid ht;have c1:=qea ht;clear hn ht hb))
   | (go_at_call 47;((with_reducible refine(HOV.out _ _ HTX.out HVX.out).mono ?_);rintro e wZ ⟨⟨vZ,rfl,hn⟩,ht,hb⟩;have HVZ:=hid hn;have HTZ:=hid ht;have c2:=qea ht;obtain⟨pt,kt,ct,pf,kf,cf,rfl,hp1,hp2⟩:=hn.parts;clear hn ht hb hp1 hp2;generalize decide ((a/2).num<0)=sg at *;obtain⟨⟨r0,g0⟩,⟨r1,g1⟩,⟨r2,g2⟩⟩:=qrw HTZ.out)))
 have HFIN:=hid (qb0 HVZ.out r0 r1 r2)
 have HBEL:=hid (qao HTZ.out.1 (show w.heap.size≤w.heap.size+1 by omega) (.bool sg) (.slice pt kt ct) (.slice pf kf cf))
 clear c0 c1 c2
 go_wp2_with fail
 refine bodyPost_ret (v := .agg #[.bool sg,.slice pt kt ct,.slice pf kf cf]) ?_ rfl ?_
 ·simp[results,Tryz.results117,go_sem,r0,r1,r2]
 ·exact⟨⟨_,rfl,HFIN.out⟩,HBEL.out⟩
end Go.Proofs.YtfbjgppfpcgclaaGreatDoor
