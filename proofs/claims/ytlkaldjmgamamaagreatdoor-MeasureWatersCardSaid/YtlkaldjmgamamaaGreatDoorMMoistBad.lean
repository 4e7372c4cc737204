/- readMoisture, where it has an error. -/
import Derived.Test.YtlkaldjmgamamaaGreatDoorMMix
import Derived.Test.YtlkaldjmgamamaaGreatDoorMMatter
set_option linter.all false
namespace Go.Proofs.YtlkaldjmgamamaaGreatDoor
open Go.RowKit
set_option maxRecDepth 100000
set_option maxHeartbeats 16000000
theorem q35(s:ByteArray)(w:World)(hg:GW w)(hs:s.size≤1073741824)(hc:qaa s.data.toList=0)(h0:sgn (qak s.data.toList)<0):
  Calls Tryz.prog 32 #[.string s] w fun e w'=>e = .returned (.tuple #[.agg #[.bool false,.slice none 0 0,.slice none 0 0],.int .i64 3])∧Below w.heap.size w w':=by
 have hal:Below w.heap.size w (w.alloc (.cells #[.bool false,.slice none 0 0,.slice none 0 0] 72)):=(Below.refl _ _).alloc (Nat.le_refl _) _;have HAL:=hid hal;have HO0:=hid (qdm w ⟨false,none,0,0,none,0,0⟩);have HRD:=hid (qhq s _ (hg.later hal) hs hc);have bq:=(qgr hc).rs;have b1:=(qg4 100 (by omega) (by omega)).rs;have HCAP:Hid (rs ((100:Int):Rat)+rs (qak s.data.toList)+2≤Cap):=hid (by unfold Cap;omega);clear hal hc hg bq b1;generalize qak s.data.toList=q at *;go_enter Tryz.func32,Tryz.ntmps32;go_wp2_with fail;refine HRD.out.mono ?_;rintro e w1 ⟨⟨v,rfl,hv⟩,hb⟩;obtain⟨x,rfl⟩:=hv.nv;have hal2:Below w1.heap.size w1 (w1.alloc (.cells #[.bool x.b,.slice x.p x.k x.c,.slice x.q x.j x.d] 72)):=(Below.refl _ _).alloc (Nat.le_refl _) _;have hb2:=hb.trans (hal2.mono hb.size);have HB:=hid (HAL.out.trans (hb2.mono HAL.out.size));have HR:=hid (HO0.out.later (hb2.mono HO0.out.1));have HX:=hid (hv.later hal2);have HW:=hid (qdm w1 x);clear hv hb hal2 hb2 HRD;go_wp2_with fail;have HBX:Hid (Below (w1.alloc (.cells #[.bool x.b,.slice x.p x.k x.c,.slice x.q x.j x.d] 72)).heap.size (w1.alloc (.cells #[.bool x.b,.slice x.p x.k x.c,.slice x.q x.j x.d] 72)) (w1.alloc (.cells #[.bool x.b,.slice x.p x.k x.c,.slice x.q x.j x.d] 72)).drew):=hid ((Below.refl _ _).drew);have hsz:(w1.alloc (.cells #[.bool x.b,.slice x.p x.k x.c,.slice x.q x.j x.d] 72)).heap.size=w1.heap.size+1:=World.size_alloc _ _;have HSZ:=hid hsz;clear hsz;generalize w1.alloc (.cells #[.bool x.b,.slice x.p x.k x.c,.slice x.q x.j x.d] 72)=w2 at *;have e0:w2.cell? ⟨w1.heap.size,0,none⟩=some (.bool x.b)∧w2.cell? ⟨w1.heap.size,1,none⟩=some (.slice x.p x.k x.c)∧w2.cell? ⟨w1.heap.size,2,none⟩=some (.slice x.q x.j x.d):=(One.cells HW.out).1
 have e0d:(w2.alloc (.cells #[.bool false,.slice none 0 0,.slice none 0 0] 72)).drew.cell? ⟨w1.heap.size,0,none⟩=some (.bool x.b)∧(w2.alloc (.cells #[.bool false,.slice none 0 0,.slice none 0 0] 72)).drew.cell? ⟨w1.heap.size,1,none⟩=some (.slice x.p x.k x.c)∧(w2.alloc (.cells #[.bool false,.slice none 0 0,.slice none 0 0] 72)).drew.cell? ⟨w1.heap.size,2,none⟩=some (.slice x.q x.j x.d):=al3 _ e0
 go_region_held3 (fun W=>W.cell? ⟨w1.heap.size,0,none⟩=some (.bool x.b)∧W.cell? ⟨w1.heap.size,1,none⟩=some (.slice x.p x.k x.c)∧W.cell? ⟨w1.heap.size,2,none⟩=some (.slice x.q x.j x.d)) (first|with_reducible exact eA|with_reducible exact eB|with_reducible exact al3 _ eA|with_reducible exact al3 _ eB|with_reducible exact e0d|with_reducible exact al3 _ e0|with_reducible exact st3 eB hneq _ _ _|exact e0)
  (first
   | (go_at_call 73;((with_reducible refine(qbp (qll _ _ _ _ _ (qn7 HV1.out (by(first|exact Below.refl _ _|exact(Below.refl _ _).alloc (Nat.le_refl _) _))) (HX.out.later (by(first|exact HBA.out|exact HBA.out.alloc HBA.out.size _))) HCAP.out)).mono ?_);rintro e wB ⟨⟨t2,rfl,hn⟩,hb⟩;have HV2:Hid (qai wB (.agg #[.bool t2.b,.slice t2.p t2.k t2.c,.slice t2.q t2.j t2.d]) (qcq q)):=hid hn;have HBB:Hid (Below w2.heap.size w2 wB):=(by(first|exact hid (HBA.out.trans (hb.mono HBA.out.size))|exact hid (qgc HBA.out hb)|exact hid (qhx HBA.out hb)));have eB:wB.cell? ⟨w1.heap.size,0,none⟩=some (.bool x.b)∧wB.cell? ⟨w1.heap.size,1,none⟩=some (.slice x.p x.k x.c)∧wB.cell? ⟨w1.heap.size,2,none⟩=some (.slice x.q x.j x.d):=(One.cells (HW.out.later (HBB.out.mono HW.out.1))).1;(first|(have HNB:=hid (HNA.out.later (hb.mono HNA.out.1));have hneq:w2.heap.size≠w1.heap.size:=(by have:=HSZ.out;omega);obtain⟨⟨n0,n1,n2⟩,f0,f1,f2⟩:=One.cells HNB.out)|(have HNB:Hid (One wB wA.heap.size ⟨false,none,0,0,none,0,0⟩):=(by first|exact hid (qqx hb)|exact hid (qm1 hb));have hneq:wA.heap.size≠w1.heap.size:=(by have:=HSZ.out;have:=HBA.out.size;omega);obtain⟨⟨n0,n1,n2⟩,f0,f1,f2⟩:=One.cells HNB.out)|skip);clear hn hb))
   | (go_at_call 34;((with_reducible refine(qbp (qcm 100 _ (by omega) (by omega))).mono ?_);rintro e wA ⟨⟨t1,rfl,hn⟩,hb⟩;have HV1:=hid hn;have HBA:Hid (Below w2.heap.size w2 wA):=(by(first|exact hid (HBX.out.trans hb)|exact hid (qgc (Below.refl _ _) hb)|exact hid (qhx (Below.refl _ _) hb)|exact hid (qgc HBX.out hb)));have eA:wA.cell? ⟨w1.heap.size,0,none⟩=some (.bool x.b)∧wA.cell? ⟨w1.heap.size,1,none⟩=some (.slice x.p x.k x.c)∧wA.cell? ⟨w1.heap.size,2,none⟩=some (.slice x.q x.j x.d):=(One.cells (HW.out.later (HBA.out.mono HW.out.1))).1;(first|have HNA:Hid (One wA w2.heap.size ⟨false,none,0,0,none,0,0⟩):=hid (qqx hb)|have HNA:Hid (One wA w2.heap.size ⟨false,none,0,0,none,0,0⟩):=hid (qm1 hb)|skip);clear hn hb)))
 all_goals first
  | (have HM:=hid (qhy (n:=wA.heap.size) (z:=t2) (w:=w) HNB.out (HR.out.later (HBB.out.mono HR.out.1)) (HW.out.later (HBB.out.mono HW.out.1)) (HX.out.later HBB.out) HV2.out (HB.out.trans (HBB.out.mono HB.out.size)) (by have:=HR.out.1;have:=HBA.out.size;omega) (Ne.symm hneq) (by have:=HB.out.size;have:=HBA.out.size;omega));generalize ((wB.setCell ⟨wA.heap.size,0,none⟩ (.bool t2.b)).setCell ⟨wA.heap.size,1,none⟩ (.slice t2.p t2.k t2.c)).setCell ⟨wA.heap.size,2,none⟩ (.slice t2.q t2.j t2.d)=w5 at *;generalize wA.heap.size=n5 at *)
  | (have HM:=hid (qhy (n:=w2.heap.size) (m:=⟨false,none,0,0,none,0,0⟩) (z:=t2) (w:=w) HNB.out (HR.out.later (HBB.out.mono HR.out.1)) (HW.out.later (HBB.out.mono HW.out.1)) (HX.out.later HBB.out) HV2.out (HB.out.trans (HBB.out.mono HB.out.size)) (by have:=HR.out.1;omega) (Ne.symm hneq) (by have:=HB.out.size;omega));generalize ((wB.setCell ⟨w2.heap.size,0,none⟩ (.bool t2.b)).setCell ⟨w2.heap.size,1,none⟩ (.slice t2.p t2.k t2.c)).setCell ⟨w2.heap.size,2,none⟩ (.slice t2.q t2.j t2.d)=w5 at *;generalize w2.heap.size=n5 at *)
  | (have HM:=hid (qpg (w:=w) (HR.out.later (HBB.out.mono HR.out.1)) (HW.out.later (HBB.out.mono HW.out.1)) (HX.out.later HBB.out) HV2.out (HB.out.trans (HBB.out.mono HB.out.size)));generalize wB.alloc (.cells #[.bool t2.b,.slice t2.p t2.k t2.c,.slice t2.q t2.j t2.d] 72)=w5 at *;generalize wB.heap.size=n5 at *)
 all_goals
  clear e0 e0d eA eB HBX HX HW HR HAL HO0 HBA HBB HV1 HV2
  try clear HNA
  try clear HNB n0 n1 n2 f0 f1 f2 hneq
  obtain⟨⟨m0,m1,m2⟩,_⟩:=One.cells HM.out.1;obtain⟨⟨x0,x1,x2⟩,_⟩:=One.cells HM.out.2.2.1;have HS1:=hid (qcj _ _ _ HM.out.2.2.2.1);go_wp2_with fail;refine HS1.out.mono ?_;rintro e w6 ⟨rfl,hb⟩;have HM6:=hid (HM.out.later hb);clear m0 m1 m2 x0 x1 x2 hb HM HS1;obtain⟨⟨m0,m1,m2⟩,_⟩:=One.cells HM6.out.1;obtain⟨⟨r0,r1,r2⟩,g0,g1,g2⟩:=One.cells HM6.out.2.1;have HP:=hid (One.put (x:=⟨false,none,0,0,none,0,0⟩) HM6.out.2.1);go_wp2_with fail;refine bodyPost_ret (v := .tuple #[.agg #[.bool false,.slice none 0 0,.slice none 0 0],.int .i64 3]) ?_ rfl ?_
  ·simp[results,Tryz.results32,go_sem,r0,r1,r2]
  ·exact⟨rfl,HP.out.2.2.1 _ _ (Nat.le_refl _) HM6.out.2.2.2.2.2⟩
theorem q36(s:ByteArray)(w:World)(hg:GW w)(hs:s.size≤1073741824)(hc:qaa s.data.toList=0)(h0:0≤sgn (qak s.data.toList))(h1:sgn (qcq (qak s.data.toList))≤0):
  Calls Tryz.prog 32 #[.string s] w fun e w'=>e = .returned (.tuple #[.agg #[.bool false,.slice none 0 0,.slice none 0 0],.int .i64 3])∧Below w.heap.size w w':=by
 have hal:Below w.heap.size w (w.alloc (.cells #[.bool false,.slice none 0 0,.slice none 0 0] 72)):=(Below.refl _ _).alloc (Nat.le_refl _) _;have HAL:=hid hal;have HO0:=hid (qdm w ⟨false,none,0,0,none,0,0⟩);have HRD:=hid (qhq s _ (hg.later hal) hs hc);have bq:=(qgr hc).rs;have b1:=(qg4 100 (by omega) (by omega)).rs;have HCAP:Hid (rs ((100:Int):Rat)+rs (qak s.data.toList)+2≤Cap):=hid (by unfold Cap;omega);clear hal hc hg bq b1;have hn0:¬sgn (qak s.data.toList)<0:=by omega
 clear h0;generalize qak s.data.toList=q at *;go_enter Tryz.func32,Tryz.ntmps32;go_wp2_with fail;refine HRD.out.mono ?_;rintro e w1 ⟨⟨v,rfl,hv⟩,hb⟩;obtain⟨x,rfl⟩:=hv.nv;have hal2:Below w1.heap.size w1 (w1.alloc (.cells #[.bool x.b,.slice x.p x.k x.c,.slice x.q x.j x.d] 72)):=(Below.refl _ _).alloc (Nat.le_refl _) _;have hb2:=hb.trans (hal2.mono hb.size);have HB:=hid (HAL.out.trans (hb2.mono HAL.out.size));have HR:=hid (HO0.out.later (hb2.mono HO0.out.1));have HX:=hid (hv.later hal2);have HW:=hid (qdm w1 x);clear hv hb hal2 hb2 HRD;go_wp2_with fail;have HBX:Hid (Below (w1.alloc (.cells #[.bool x.b,.slice x.p x.k x.c,.slice x.q x.j x.d] 72)).heap.size (w1.alloc (.cells #[.bool x.b,.slice x.p x.k x.c,.slice x.q x.j x.d] 72)) (w1.alloc (.cells #[.bool x.b,.slice x.p x.k x.c,.slice x.q x.j x.d] 72)).drew):=hid ((Below.refl _ _).drew);have hsz:(w1.alloc (.cells #[.bool x.b,.slice x.p x.k x.c,.slice x.q x.j x.d] 72)).heap.size=w1.heap.size+1:=World.size_alloc _ _;have HSZ:=hid hsz;clear hsz;generalize w1.alloc (.cells #[.bool x.b,.slice x.p x.k x.c,.slice x.q x.j x.d] 72)=w2 at *;have e0:w2.cell? ⟨w1.heap.size,0,none⟩=some (.bool x.b)∧w2.cell? ⟨w1.heap.size,1,none⟩=some (.slice x.p x.k x.c)∧w2.cell? ⟨w1.heap.size,2,none⟩=some (.slice x.q x.j x.d):=(One.cells HW.out).1;have e0d:(w2.alloc (.cells #[.bool false,.slice none 0 0,.slice none 0 0] 72)).drew.cell? ⟨w1.heap.size,0,none⟩=some (.bool x.b)∧(w2.alloc (.cells #[.bool false,.slice none 0 0,.slice none 0 0] 72)).drew.cell? ⟨w1.heap.size,1,none⟩=some (.slice x.p x.k x.c)∧(w2.alloc (.cells #[.bool false,.slice none 0 0,.slice none 0 0] 72)).drew.cell? ⟨w1.heap.size,2,none⟩=some (.slice x.q x.j x.d):=al3 _ e0
 go_region_held3 (fun W=>W.cell? ⟨w1.heap.size,0,none⟩=some (.bool x.b)∧W.cell? ⟨w1.heap.size,1,none⟩=some (.slice x.p x.k x.c)∧W.cell? ⟨w1.heap.size,2,none⟩=some (.slice x.q x.j x.d)) (first|with_reducible exact eA|with_reducible exact eB|with_reducible exact al3 _ eA|with_reducible exact al3 _ eB|with_reducible exact e0d|with_reducible exact al3 _ e0|with_reducible exact st3 eB hneq _ _ _|exact e0)
  (first
   | (go_at_call 73;((with_reducible refine(qbp (qll _ _ _ _ _ (qn7 HV1.out (by(first|exact Below.refl _ _|exact(Below.refl _ _).alloc (Nat.le_refl _) _))) (HX.out.later (by(first|exact HBA.out|exact HBA.out.alloc HBA.out.size _))) HCAP.out)).mono ?_);rintro e wB ⟨⟨t2,rfl,hn⟩,hb⟩;have HV2:Hid (qai wB (.agg #[.bool t2.b,.slice t2.p t2.k t2.c,.slice t2.q t2.j t2.d]) (qcq q)):=hid hn;have HBB:Hid (Below w2.heap.size w2 wB):=(by(first|exact hid (HBA.out.trans (hb.mono HBA.out.size))|exact hid (qgc HBA.out hb)|exact hid (qhx HBA.out hb)));have eB:wB.cell? ⟨w1.heap.size,0,none⟩=some (.bool x.b)∧wB.cell? ⟨w1.heap.size,1,none⟩=some (.slice x.p x.k x.c)∧wB.cell? ⟨w1.heap.size,2,none⟩=some (.slice x.q x.j x.d):=(One.cells (HW.out.later (HBB.out.mono HW.out.1))).1;(first|(have HNB:=hid (HNA.out.later (hb.mono HNA.out.1));have hneq:w2.heap.size≠w1.heap.size:=(by have:=HSZ.out;omega);obtain⟨⟨n0,n1,n2⟩,f0,f1,f2⟩:=One.cells HNB.out)|(have HNB:Hid (One wB wA.heap.size ⟨false,none,0,0,none,0,0⟩):=(by first|exact hid (qqx hb)|exact hid (qm1 hb));have hneq:wA.heap.size≠w1.heap.size:=(by have:=HSZ.out;have:=HBA.out.size;omega);obtain⟨⟨n0,n1,n2⟩,f0,f1,f2⟩:=One.cells HNB.out)|skip);clear hn hb))
   | (go_at_call 34;((with_reducible refine(qbp (qcm 100 _ (by omega) (by omega))).mono ?_);rintro e wA ⟨⟨t1,rfl,hn⟩,hb⟩;have HV1:=hid hn;have HBA:Hid (Below w2.heap.size w2 wA):=(by(first|exact hid (HBX.out.trans hb)|exact hid (qgc (Below.refl _ _) hb)|exact hid (qhx (Below.refl _ _) hb)|exact hid (qgc HBX.out hb)));have eA:wA.cell? ⟨w1.heap.size,0,none⟩=some (.bool x.b)∧wA.cell? ⟨w1.heap.size,1,none⟩=some (.slice x.p x.k x.c)∧wA.cell? ⟨w1.heap.size,2,none⟩=some (.slice x.q x.j x.d):=(One.cells (HW.out.later (HBA.out.mono HW.out.1))).1;(first|have HNA:Hid (One wA w2.heap.size ⟨false,none,0,0,none,0,0⟩):=hid (qqx hb)|have HNA:Hid (One wA w2.heap.size ⟨false,none,0,0,none,0,0⟩):=hid (qm1 hb)|skip);clear hn hb)))
 all_goals first
  | (have HM:=hid (qhy (n:=wA.heap.size) (z:=t2) (w:=w) HNB.out (HR.out.later (HBB.out.mono HR.out.1)) (HW.out.later (HBB.out.mono HW.out.1)) (HX.out.later HBB.out) HV2.out (HB.out.trans (HBB.out.mono HB.out.size)) (by have:=HR.out.1;have:=HBA.out.size;omega) (Ne.symm hneq) (by have:=HB.out.size;have:=HBA.out.size;omega));generalize ((wB.setCell ⟨wA.heap.size,0,none⟩ (.bool t2.b)).setCell ⟨wA.heap.size,1,none⟩ (.slice t2.p t2.k t2.c)).setCell ⟨wA.heap.size,2,none⟩ (.slice t2.q t2.j t2.d)=w5 at *;generalize wA.heap.size=n5 at *)
  | (have HM:=hid (qhy (n:=w2.heap.size) (m:=⟨false,none,0,0,none,0,0⟩) (z:=t2) (w:=w) HNB.out (HR.out.later (HBB.out.mono HR.out.1)) (HW.out.later (HBB.out.mono HW.out.1)) (HX.out.later HBB.out) HV2.out (HB.out.trans (HBB.out.mono HB.out.size)) (by have:=HR.out.1;omega) (Ne.symm hneq) (by have:=HB.out.size;omega));generalize ((wB.setCell ⟨w2.heap.size,0,none⟩ (.bool t2.b)).setCell ⟨w2.heap.size,1,none⟩ (.slice t2.p t2.k t2.c)).setCell ⟨w2.heap.size,2,none⟩ (.slice t2.q t2.j t2.d)=w5 at *;generalize w2.heap.size=n5 at *)
  | (have HM:=hid (qpg (w:=w) (HR.out.later (HBB.out.mono HR.out.1)) (HW.out.later (HBB.out.mono HW.out.1)) (HX.out.later HBB.out) HV2.out (HB.out.trans (HBB.out.mono HB.out.size)));generalize wB.alloc (.cells #[.bool t2.b,.slice t2.p t2.k t2.c,.slice t2.q t2.j t2.d] 72)=w5 at *;generalize wB.heap.size=n5 at *)
 all_goals
  clear e0 e0d eA eB HBX HX HW HR HAL HO0 HBA HBB HV1 HV2
  try clear HNA
  try clear HNB n0 n1 n2 f0 f1 f2 hneq
  obtain⟨⟨m0,m1,m2⟩,_⟩:=One.cells HM.out.1;obtain⟨⟨x0,x1,x2⟩,_⟩:=One.cells HM.out.2.2.1;have HS1:=hid (qcj _ _ _ HM.out.2.2.2.1);go_wp2_with fail;refine HS1.out.mono ?_;rintro e w6 ⟨rfl,hb⟩;have HM6:=hid (HM.out.later hb);clear m0 m1 m2 x0 x1 x2 hb HM HS1;obtain⟨⟨m0,m1,m2⟩,_⟩:=One.cells HM6.out.1;have HS2:=hid (qcj _ _ _ HM6.out.2.2.2.2.1);go_wp2_with fail;refine HS2.out.mono ?_;rintro e w7 ⟨rfl,hb⟩;have HM7:=hid (HM6.out.later hb);clear m0 m1 m2 hb HM6 HS2;obtain⟨⟨m0,m1,m2⟩,_⟩:=One.cells HM7.out.1;obtain⟨⟨r0,r1,r2⟩,g0,g1,g2⟩:=One.cells HM7.out.2.1;have HP:=hid (One.put (x:=⟨false,none,0,0,none,0,0⟩) HM7.out.2.1);go_wp2_with fail;refine bodyPost_ret (v := .tuple #[.agg #[.bool false,.slice none 0 0,.slice none 0 0],.int .i64 3]) ?_ rfl ?_
  ·simp[results,Tryz.results32,go_sem,r0,r1,r2]
  ·exact⟨rfl,HP.out.2.2.1 _ _ (Nat.le_refl _) HM7.out.2.2.2.2.2⟩
theorem q0j(s:ByteArray)(w:World)(hg:GW w)(hs:s.size≤1073741824)(hc:qaa s.data.toList≠0):
  Calls Tryz.prog 32 #[.string s] w fun e w'=>e = .returned (.tuple #[.agg #[.bool false,.slice none 0 0,.slice none 0 0],.int .i64 (qaa s.data.toList:Nat)])∧Below w.heap.size w w':=by
 have hal:Below w.heap.size w (w.alloc (.cells #[.bool false,.slice none 0 0,.slice none 0 0] 72)):=(Below.refl _ _).alloc (Nat.le_refl _) _;have HAL:=hid hal;have HO0:=hid (qdm w ⟨false,none,0,0,none,0,0⟩);have HRD:=hid (qkr s _ (hg.later hal) hs hc);have hck:((qaa s.data.toList:Int)==0)=false:=beq_eq_false_iff_ne.2 (by omega);clear hal hc hg;generalize qaa s.data.toList=ck at *;go_enter Tryz.func32,Tryz.ntmps32;go_wp2_with fail;refine HRD.out.mono ?_;rintro e w1 ⟨rfl,hb⟩;have hal2:Below w1.heap.size w1 (w1.alloc (.cells #[.bool false,.slice none 0 0,.slice none 0 0] 72)):=(Below.refl _ _).alloc (Nat.le_refl _) _;have hb2:=hb.trans (hal2.mono hb.size);have HB:=hid (HAL.out.trans (hb2.mono HAL.out.size));have HR:=hid (HO0.out.later (hb2.mono HO0.out.1));clear hb hal2 hb2 HRD;obtain⟨⟨r0,r1,r2⟩,g0,g1,g2⟩:=One.cells HR.out;have HP:=hid (One.put (x:=⟨false,none,0,0,none,0,0⟩) HR.out);go_wp2_with fail;refine bodyPost_ret (v := .tuple #[.agg #[.bool false,.slice none 0 0,.slice none 0 0],.int .i64 ck]) ?_ rfl ?_
 ·simp[results,Tryz.results32,go_sem,r0,r1,r2]
 ·exact⟨rfl,HP.out.2.2.1 _ _ (Nat.le_refl _) HB.out⟩
def qm7(l:List UInt8)(w:World)(e:Ending)(w':World):Prop:=
 (if qbf l=0 then ∃v',e = .returned (.tuple #[v',.int .i64 0])∧qai w' v' (qcq (qak l))
  else e = .returned (.tuple #[.agg #[.bool false,.slice none 0 0,.slice none 0 0],.int .i64 (qbf l:Nat)]))∧Below w.heap.size w w'
theorem q85{q:Rat}(h:((100:Int):Rat)≤q):sgn (qcq q)≤0:=q84 (by unfold qcq;grind)
theorem qra(s:ByteArray)(w:World)(hg:GW w)(hs:s.size≤1073741824):Calls Tryz.prog 32 #[.string s] w (qm7 s.data.toList w):=by
 unfold qm7;by_cases hc:qaa s.data.toList=0
 ·by_cases h0:(qak s.data.toList).num<0
  ·have hE:qbf s.data.toList=3:=by unfold qbf;rw[if_neg (by omega),if_pos (.inl h0)]
   refine(q35 s w hg hs hc (by rw[qsh h0];decide)).mono fun e w' ⟨h1,h2⟩ => ?_;rw[if_neg (by omega),hE];exact⟨h1,h2⟩
  ·have hz:0≤sgn (qak s.data.toList):=q34 (Rat.num_nonneg.1 (by omega))
   by_cases h1:((100:Int):Rat)≤qak s.data.toList
   ·have hE:qbf s.data.toList=3:=by unfold qbf;rw[if_neg (by omega),if_pos (.inr h1)]
    refine(q36 s w hg hs hc hz (q85 h1)).mono fun e w' ⟨h1,h2⟩ => ?_;rw[if_neg (by omega),hE];exact⟨h1,h2⟩
   ·have hE:qbf s.data.toList=0:=by unfold qbf;rw[if_neg (by omega),if_neg (fun e=>e.elim h0 h1)]
    have hp:0<sgn (qcq (qak s.data.toList)):=by
     have h4:0<qcq (qak s.data.toList):=by unfold qcq;exact(Rat.lt_iff_sub_pos _ _).1 (Rat.not_le.1 h1)
     have h5:0<(qcq (qak s.data.toList)).num:=by
      rcases Int.lt_trichotomy (qcq (qak s.data.toList)).num 0 with e|e|e
      ·have:=Rat.num_nonneg.2 (Rat.le_of_lt h4);omega
      ·rw[qx7 e] at h4;exact absurd h4 Rat.lt_irrefl
      ·exact e
     rw[qwl h5];decide
    refine(qm2 s w hg hs hc hz hp).mono fun e w' ⟨⟨z,h1,h2⟩,h3⟩ => ?_;rw[if_pos hE];exact⟨⟨_,h1,h2⟩,h3⟩
 ·have hE:qbf s.data.toList=qaa s.data.toList:=by unfold qbf;rw[if_pos hc]
  refine(q0j s w hg hs hc).mono fun e w' ⟨h1,h2⟩ => ?_;rw[if_neg (by omega),hE];exact⟨h1,h2⟩
theorem qwp{s:ByteArray}{w:World}(h:Calls Tryz.prog 32 #[.string s] w (qm7 s.data.toList w))(hc:qbf s.data.toList=0):
  Calls Tryz.prog 32 #[.string s] w fun e w'=>(∃v',e = .returned (.tuple #[v',.int .i64 0])∧qai w' v' (qcq (qak s.data.toList)))∧Below w.heap.size w w':=by
 refine h.mono fun e w' h => ?_;unfold qm7 at h;rw[if_pos hc] at h;exact h
theorem qrb{s:ByteArray}{w:World}(h:Calls Tryz.prog 32 #[.string s] w (qm7 s.data.toList w))(hc:qbf s.data.toList≠0):
  Calls Tryz.prog 32 #[.string s] w fun e w'=>e = .returned (.tuple #[.agg #[.bool false,.slice none 0 0,.slice none 0 0],.int .i64 (qbf s.data.toList:Nat)])∧Below w.heap.size w w':=by
 refine h.mono fun e w' h => ?_;unfold qm7 at h;rw[if_neg hc] at h;exact h
theorem qwq(l:List ByteArray)(b o c:Nat)(w:World)(hg:GW w)(hrow:∀i s,l[i]? = some s→w.cell? ⟨b,o+i,none⟩=some (.string s))(hl:l.length≤1048576)(hs:∀s ∈ l,s.size≤1073741824):
  Calls Tryz.prog 37 #[.slice (some ⟨b,o,none⟩) l.length c,.func (.func 32) #[] #[]] w
   (qit (l.map fun s=>qbf s.data.toList) (l.map fun s=>qcq (qak s.data.toList)) w):=by
 have HG:=hid hg;have HROW:=hid hrow;have HS:=hid hs;have hmk:=qlt l.length hl;obtain⟨i0,hi,hz0,hz1,hz2⟩:=info_parts (show(Tryz.prog.info? 72).map (fun i=>(i.zero,i.size,i.bytes))=some (some (.agg #[.bool false,.slice none 0 0,.slice none 0 0]),3,56) by kernel_rfl);have HI:=hid hi;clear hg hrow hs hi hz0 hz2;go_enter Tryz.func37,Tryz.ntmps37;go_wp2_with fail;clear hmk;have HN0:=hid (qj0 w l.length);have HB0:Hid (Below w.heap.size w (w.alloc (.cells (madeCells #[.bool false,.slice none 0 0,.slice none 0 0] (l.length*3)) 72))):=hid ((Below.refl _ _).alloc (Nat.le_refl _) _);generalize w.alloc (.cells (madeCells #[.bool false,.slice none 0 0,.slice none 0 0] (l.length*3)) 72)=w0 at *
 go_loopw [6,16] (fun r i wr=>∃k:Nat,k≤l.length∧i = .int .i64 k∧r = .slice (some ⟨w.heap.size,0,none⟩) k l.length∧Hid (qje wr w.heap.size l.length ((l.take k).map fun s=>qcq (qak s.data.toList)))∧Hid (qac ((l.take k).map fun s=>qbf s.data.toList)=0)∧Hid (Below w.heap.size w wr)) (fun _ i _=>l.length-(intOf i).toNat)
 case atStart=>exact⟨0,Nat.zero_le _,rfl,rfl,HN0,hid rfl,HB0⟩
 case round=>
  obtain⟨k,hk,rfl,rfl,HN,HE,HB⟩:=hrel;clear HN0 HB0;by_cases hkl:k<l.length
  ·obtain⟨s,hsk⟩:∃s,l[k]? = some s:=⟨l[k],List.getElem?_eq_getElem hkl⟩
   have hcell0:=HROW.out k s hsk
   have hcell:wr.cell? ⟨b,o+k,none⟩=some (.string s):=by
    rw[HB.out.cell (World.block_lt_of_cell? w _ hcell0)];exact hcell0
   have HRD:=hid (qra s wr (HG.out.later HB.out) (HS.out s (List.mem_of_getElem? hsk)));have HSK:=hid hsk;clear hcell0 hsk;by_cases hc:qbf s.data.toList=0
   ·have HRD2:=hid (qwp HRD.out hc)
    have HE2:=hid (qgi (fun s:ByteArray=>qbf s.data.toList) HSK.out HE.out hc);clear HRD HE hc;go_wp2_with fail;refine HRD2.out.mono ?_;rintro e w1 ⟨⟨v',rfl,hv⟩,hb⟩;obtain⟨p1,k1,c1,p2,k2,c2,rfl,hp1,hp2⟩:=hv.parts
    have hqs:((l.take k).map fun s=>qcq (qak s.data.toList))++[qcq (qak s.data.toList)]=(l.take (k+1)).map fun s=>qcq (qak s.data.toList):=by
     rw[qca HSK.out,List.map_append];rfl
    have HQS:=hid hqs;have hql:((l.take k).map fun s=>qcq (qak s.data.toList)).length=k:=by rw[List.length_map,List.length_take];omega
    have HN1:=hid (HN.out.later hb);have HV1:=hid hv;have HB1:=hid (HB.out.trans (hb.mono HB.out.size));clear hp1 hp2 hqs hv hb HN HB HRD2 hcell;generalize decide ((qcq (qak s.data.toList)).num<0)=sg at *;generalize qcq (qak s.data.toList)=q at *;generalize ((l.take k).map fun s=>qcq (qak s.data.toList))=qs at *;obtain⟨hal,hbx⟩:=qrw w1 sg (.slice p1 k1 c1) (.slice p2 k2 c2);have HN2:=hid (HN1.out.later hal);have HV2:=hid (HV1.out.later hal);have hbs:w.heap.size≤w1.heap.size:=HB1.out.size;have HB2:=hid (HB1.out.trans (hal.mono hbs));obtain⟨x0,x1,x2⟩:=qa9 hbx;have hal2:Below (w1.alloc (.cells #[.bool sg,.slice p1 k1 c1,.slice p2 k2 c2] 72)).heap.size (w1.alloc (.cells #[.bool sg,.slice p1 k1 c1,.slice p2 k2 c2] 72)) ((w1.alloc (.cells #[.bool sg,.slice p1 k1 c1,.slice p2 k2 c2] 72)).alloc (.cells #[.bool sg,.slice p1 k1 c1,.slice p2 k2 c2] 72)):=(Below.refl _ _).alloc (Nat.le_refl _) _;obtain⟨cur,hcur,hfit,hnew,hbel⟩:=(HN2.out.later hal2).push (by rw[hql];exact hkl) (HV2.out.later hal2);have hnb:=heap_alloc_new (w1.alloc (.cells #[.bool sg,.slice p1 k1 c1,.slice p2 k2 c2] 72)) (.cells #[.bool sg,.slice p1 k1 c1,.slice p2 k2 c2] 72);rw[World.size_alloc] at hnb;rw[hql] at hfit hnew hbel;simp only[List.append_assoc,List.cons_append,List.nil_append] at hnew hbel;have HNEW:=hid hnew;have HBEL:=hid (HB2.out.trans ((hal2.mono (by rw[World.size_alloc];omega)).trans (hbel w.heap.size (Nat.le_refl _))));have HCUR:=hid hcur;have HNB:=hid hnb;have HFIT:=hid hfit;clear hal hbx hal2 hbs hcur hfit hnew hbel hnb HN1 HV1 HB1 HN2 HV2 HB2 hql
    go_wp2_with (at_builtin;refine qba _ rfl _ _ 78 rfl 72 i0 3 Tryz.underlying78 HI.out hz1 w.heap.size k l.length cur rfl HCUR.out ⟨w1.heap.size+1,0,none⟩ 1 1 [.bool sg,.slice p1 k1 c1,.slice p2 k2 c2] rfl rfl (World.news_of_block HNB.out) ?qc1 (by omega) HFIT.out ?_)
    case qc1=>
     intro u hu;simp only[List.mem_cons,List.not_mem_nil,or_false] at hu;rcases hu with rfl|rfl|rfl<;>rfl
    clear x0 x1 x2;go_wp2_with fail;go_roundw
    case rel=>exact⟨k+1,hkl,by go_num,rfl,hid (by rw[←HQS.out];exact HNEW.out),HE2,HBEL⟩
    case measure=>simp[intOf];omega
   ·have HRD2:=hid (qrb HRD.out hc)
    have HF:=hid (qhr (fun s:ByteArray=>qbf s.data.toList) HSK.out HE.out hc);clear HRD HE;generalize qbf s.data.toList=ck at *;have hck:((ck:Int)==0)=false:=beq_eq_false_iff_ne.2 (by omega);have HCK:=hid hc;clear hc;go_wp2_with fail;refine HRD2.out.mono ?_;rintro e w1 ⟨rfl,hb⟩;have HB1:=hid (HB.out.trans ((hb.mono HB.out.size).trans ((Below.refl w.heap.size w1).alloc (Nat.le_trans HB.out.size hb.size) (.cells #[.bool false,.slice none 0 0,.slice none 0 0] 72))));clear hb HB HRD2 hcell;go_wp2_with fail;go_ret2;exact qqt HF.out HCK.out rfl HB1.out
  ·obtain rfl:k=l.length:=by omega
   have hql:(l.map fun s=>qcq (qak s.data.toList)).length=l.length:=by rw[List.length_map]
   have HQL:=hid hql;have hE:=HE.out;have hN:=HN.out;rw[List.take_length] at hE hN;have HE':=hid hE;have HN':=hid hN;clear hE hN hql HE HN;go_wp2_with fail;go_ret2;exact qo3 HE'.out HQL.out (Nat.le_refl _) rfl HN'.out HB.out
theorem qsk{ms:Int}(h:ms<0∨999999999<ms):ms<0∨(¬ms<0∧999999999<ms):=by omega
theorem qwr(ms:Int)(a:ByteArray)(w:World)(h:ms<0∨999999999<ms):Calls Tryz.prog 6 #[.int .i64 ms,.string a] w fun e w'=>e = .returned (.tuple #[.string ⟨#[]⟩,.int .i64 3])∧Below w.heap.size w w':=by
 have HB:=hid (Below.refl w.heap.size w);rcases qsk h with h1|⟨h1,h2⟩
 all_goals
  clear h;go_enter Tryz.func6,Tryz.ntmps6;go_wp2_with fail;go_ret2;exact⟨rfl,HB.out⟩
theorem q6p(ms:Int)(a b:ByteArray)(w:World)(h:ms<0∨999999999<ms):Calls Tryz.prog 7 #[.int .i64 ms,.string a,.string b] w fun e w'=>e = .returned (.tuple #[.string ⟨#[]⟩,.int .i64 3])∧Below w.heap.size w w':=by
 have HB:=hid (Below.refl w.heap.size w);rcases qsk h with h1|⟨h1,h2⟩
 all_goals
  clear h;go_enter Tryz.func7,Tryz.ntmps7;go_wp2_with fail;go_ret2;exact⟨rfl,HB.out⟩
theorem qur(ms:Int)(a:ByteArray)(c:Nat)(w:World)(hg:GW w)(h0:0≤ms)(h1:ms≤999999999)(hs:a.size≤1073741824)(hc:qbf a.data.toList=c)(hn:c≠0):Calls Tryz.prog 6 #[.int .i64 ms,.string a] w fun e w'=>e = .returned (.tuple #[.string ⟨#[]⟩,.int .i64 (c:Nat)])∧Below w.heap.size w w':=by
 have HM:=hid (qrb (qra a w hg hs) (by omega));rw[hc] at HM;have hck:((c:Int)==0)=false:=beq_eq_false_iff_ne.2 (by omega);have hn0:¬ms<0:=by omega
 have hn1:¬999999999<ms:=by omega
 clear hg hs hc hn h0 h1;generalize (c:Int)=ci at *;go_enter Tryz.func6,Tryz.ntmps6;go_wp2_with fail;refine HM.out.mono ?_;rintro e w1 ⟨rfl,hb⟩;have HB:=hid (hb.alloc hb.size (.cells #[.bool false,.slice none 0 0,.slice none 0 0] 72));clear hb HM;go_wp2_with fail;go_ret2;exact⟨rfl,HB.out⟩
theorem qus(ms:Int)(a b:ByteArray)(c:Nat)(w:World)(hg:GW w)(h0:0≤ms)(h1:ms≤999999999)(ha:a.size≤1073741824)(hb:b.size≤1073741824)(hc:qac [qbf a.data.toList,qbf b.data.toList]=c)(hn:c≠0):Calls Tryz.prog 7 #[.int .i64 ms,.string a,.string b] w fun e w'=>e = .returned (.tuple #[.string ⟨#[]⟩,.int .i64 (c:Nat)])∧Below w.heap.size w w':=by
 have hal:Below w.heap.size w (w.alloc (.cells #[.string a,.string b] 22)):=(Below.refl _ _).alloc (Nat.le_refl _) _;have HAL:=hid hal
 have HEM:Hid (Calls Tryz.prog 37 #[.slice (some ⟨w.heap.size,0,none⟩) 2 2,.func (.func 32) #[] #[]] (w.alloc (.cells #[.string a,.string b] 22)) fun e w'=>e = .returned (.tuple #[.slice none 0 0,.int .i64 (c:Nat)])∧Below (w.alloc (.cells #[.string a,.string b] 22)).heap.size (w.alloc (.cells #[.string a,.string b] 22)) w'):=hid ((qwq [a,b] w.heap.size 0 2 (w.alloc (.cells #[.string a,.string b] 22)) (hg.later hal) (qxq w a b 22) (by show 2≤1048576;omega) (fun s hs=>by
  simp only[List.mem_cons,List.not_mem_nil,or_false] at hs
  rcases hs with rfl|rfl<;>assumption)).mono fun e w' h=>by
   unfold qit at h;simp only[List.map_cons,List.map_nil] at h;rw[hc,if_neg hn] at h
   exact h)
 have hck:((c:Int)==0)=false:=beq_eq_false_iff_ne.2 (by omega);have hn0:¬ms<0:=by omega
 have hn1:¬999999999<ms:=by omega
 clear hg ha hb hc hn h0 h1 hal;generalize (c:Int)=ci at *;go_enter Tryz.func7,Tryz.ntmps7;go_wp2_with fail;refine HEM.out.mono ?_;rintro e w1 ⟨rfl,hb⟩;have HB:=hid (HAL.out.trans (hb.mono HAL.out.size));clear hb HEM;go_wp2_with fail;go_ret2;exact⟨rfl,HB.out⟩
end Go.Proofs.YtlkaldjmgamamaaGreatDoor
