/- Matter where there is no error; the reference's FromInt and CheckMoisture. -/
import Derived.Test.YtlkaldjmgamamaaGreatDoorMKeeps
import Derived.Test.YtlkaldjmgamamaaGreatDoorMMix
import Derived.Deep.RegionHeld3
set_option linter.all false
namespace Go.Proofs.YtlkaldjmgamamaaGreatDoor
open Go.RowKit
set_option maxRecDepth 100000
set_option maxHeartbeats 4000000
def qbu(ms:Int)(a:ByteArray):Rat:=((ms:Int):Rat)*qcq (qak a.data.toList)/((100:Int):Rat)
theorem qpu(ms:Int)(a:ByteArray)(w:World)(hg:GW w)(h0:0≤ms)(h1:ms≤999999999)(ha:qky a):
  Calls Tryz.prog 6 #[.int .i64 ms,.string a] w fun e w'=>e = .returned (.tuple #[.string (qch (qbu ms a)),.int .i64 (qe5 (qbu ms a):Nat)])∧Below w.heap.size w w':=by
 have HM:=hid (qm2 a w hg ha.1 ha.2.1 ha.2.2.1 ha.2.2.2);have bm:=qg4 ms h0 h1;have ba:=qxn (qg4 100 (by omega) (by omega)) (qgr ha.2.1);have bb:=qg4 100 (by omega) (by omega)
 have HCAP:Hid (rs ((ms:Int):Rat)+rs (qcq (qak a.data.toList))≤Cap∧rs (((ms:Int):Rat)*qcq (qak a.data.toList))+rs ((100:Int):Rat)≤Cap∧rs (qbu ms a)≤Cap):=hid (by
  have a1:=bm.rs;have a2:=ba.rs;have a3:=bb.rs;have a4:=(qee bm ba).rs;have a5:=(qlq (qee bm ba) bb).rs
  unfold qbu qcq Cap;omega)
 have HNZ:Hid (((100:Int):Rat).num≠0):=hid (by decide);have hn0:¬ms<0:=by omega
 have hn1:¬999999999<ms:=by omega
 have HWQ:Hid (qbu ms a=((ms:Int):Rat)*qcq (qak a.data.toList)/((100:Int):Rat)):=hid rfl;have hm1 : -9223372036854775808≤ms∧ms≤9223372036854775807:=by omega
 have HM1:=hid hm1;clear hm1 ha hg bm ba bb;generalize qbu ms a=wq at *;generalize qcq (qak a.data.toList)=da at *;generalize hh:((100:Int):Rat)=hq at *;have HH:=hid hh;clear hh;go_enter Tryz.func6,Tryz.ntmps6;go_wp2_with fail;refine HM.out.mono ?_;rintro e w1 ⟨⟨x,rfl,hv⟩,hb⟩;have HX:=hid (qn7 hv ((Below.refl _ _).alloc (Nat.le_refl _) (.cells #[.bool x.b,.slice x.p x.k x.c,.slice x.q x.j x.d] 72)));have HO:=hid (qdm w1 x);have HB:Hid (Below w.heap.size w (w1.alloc (.cells #[.bool x.b,.slice x.p x.k x.c,.slice x.q x.j x.d] 72))):=hid (hb.alloc hb.size _);clear hv hb HM;go_wp2_with fail;generalize hw:w1.alloc (.cells #[.bool x.b,.slice x.p x.k x.c,.slice x.q x.j x.d] 72)=w2 at *;clear hw;generalize w1.heap.size=g at *;have eZ:=HO.out.cells.1;have HC:Hid (∀W,Below w2.heap.size w2 W→W.cell? ⟨g,0,none⟩=some (.bool x.b)∧W.cell? ⟨g,1,none⟩=some (.slice x.p x.k x.c)∧W.cell? ⟨g,2,none⟩=some (.slice x.q x.j x.d)):=hid fun W hW=>(One.cells (HO.out.later (hW.mono HO.out.1))).1;have HBX:Hid (Below w2.heap.size w2 w2.drew):=hid ((Below.refl _ _).drew);have eX:=HC.out _ HBX.out
 go_region_held3 (fun W=>W.cell? ⟨g,0,none⟩=some (.bool x.b)∧W.cell? ⟨g,1,none⟩=some (.slice x.p x.k x.c)∧W.cell? ⟨g,2,none⟩=some (.slice x.q x.j x.d)) (first|with_reducible exact eA|with_reducible exact eB|with_reducible exact eC|with_reducible exact eD|with_reducible exact eE|exact eX)
  (first
   | (go_at_call 34;first
     | ((with_reducible refine(qbp (qcm ms _ HM1.out.1 HM1.out.2)).mono ?_);rintro e wA ⟨⟨t1,rfl,hn⟩,hb⟩;have HV1:=hid hn;have HBA:Hid (Below w2.heap.size w2 wA):=hid (HBX.out.trans hb);have eA:=HC.out _ HBA.out;clear hn hb)
     | ((with_reducible refine(qbp (qcm 100 wB (by decide) (by decide))).mono ?_);rintro e wC ⟨⟨t3,rfl,hn⟩,hb⟩;rw[HH.out] at hn;have HV3:=hid hn;have HBC:=hid (HBB.out.trans (hb.mono HBB.out.size));have HBL:=hid hb;have eC:=HC.out _ HBC.out;clear hn hb))
   | (go_at_call 35;((with_reducible refine(qbp (qdj _ _ _ _ wA HV1.out (HX.out.later HBA.out) HCAP.out.1)).mono ?_);rintro e wB ⟨⟨t2,rfl,hn⟩,hb⟩;have HV2:=hid hn;have HBB:=hid (HBA.out.trans (hb.mono HBA.out.size));have eB:=HC.out _ HBB.out;clear hn hb))
   | (go_at_call 36;((with_reducible refine(qbp (qeu _ _ _ _ wC (HV2.out.later HBL.out) HV3.out HNZ.out HCAP.out.2.1)).mono ?_);rintro e wD ⟨⟨t4,rfl,hn⟩,hb⟩;rw[←HWQ.out] at hn;have HV4:=hid hn;have HBD:=hid (HBC.out.trans (hb.mono HBC.out.size));have eD:=HC.out _ HBD.out;clear hn hb))
   | (go_at_call 33;((with_reducible refine(qhp _ _ wD HV4.out HCAP.out.2.2).mono ?_);rintro e wE h;obtain⟨rfl,hb⟩:=qku h;have HBE:=hid (HBD.out.trans (hb.mono HBD.out.size));have eE:=HC.out _ HBE.out;clear hb h)))
 all_goals
  go_wp2_with fail;go_ret2;exact⟨rfl,HB.out.trans (HBE.out.mono HB.out.size)⟩
theorem qyc(n:Nat)(w:World)(hn:n<9223372036854775808):
  Calls Tryz.prog 12 #[.int .i64 (n:Int)] w (qqc ((n:Int):Rat) w):=by
 have HW:=hid (q65 n w hn)
 have HT:Hid (∀W v,qcv W v (n:Int)→Calls Tryz.prog 41 #[v] W fun e w'=>e = .returned (.string (rt ((n:Int):Rat)))∧Below W.heap.size W w'):=hid fun W v hv=>
  (q24 v _ W hv (by rw[Int.natAbs_natCast];have:=qdu (k:=19) (n:=n) (by omega) (by decide);omega)).mono fun _ _ ⟨⟨t,he,h1⟩,h2⟩=>by
   refine⟨?_,h2⟩;rw[he,q7e]
   congr 2
   exact qb2 (by rw[h1])
 clear hn;unfold qqc;generalize rt ((n:Int):Rat)=tr at *;go_enter Tryz.func12,Tryz.ntmps12;go_wp2_with fail;refine HW.out.mono ?_;rintro e w1 ⟨⟨v,rfl,hv⟩,hb⟩;have HV:=hid hv;have HB:=hid hb;clear hv hb HW;go_wp2_with fail;refine(HT.out _ _ HV.out).mono ?_;rintro e w2 ⟨rfl,hb⟩;have HB2:=hid (HB.out.trans (hb.mono HB.out.size));clear hb HT HV;go_wp2_with fail;go_ret;exact⟨rfl,HB2.out⟩
def qbf(l:List UInt8):Nat:=if qaa l≠0 then qaa l else if(qak l).num<0∨((100:Int):Rat)≤qak l then 3 else 0
theorem qen:sm ((100:Int):Rat) 3:=⟨by show 100<10^3;decide,by show 1<10^3;decide⟩
theorem qsj:(⟨#[49,48,48]⟩:ByteArray)=rt ((100:Int):Rat):=by kernel_rfl
theorem qqf(x:ByteArray)(w:World)(hs:x.size≤1000):
  Calls Tryz.prog 10 #[.string x] w fun e w'=>e = .returned (.int .i64 (qbf x.data.toList:Nat))∧Below w.heap.size w w':=by
 have HC:=hid (q3p x w (by omega));by_cases hc:qaa x.data.toList=0
 ·rw[hc] at HC
  have ex:=(qcy hc).1;have hE:qbf x.data.toList=if(qak x.data.toList).num<0∨((100:Int):Rat)≤qak x.data.toList then 3 else 0:=by unfold qbf;rw[if_neg (by omega)]
  rw[hE];generalize qak x.data.toList=q at *;subst ex;have sq:sm q 1000:=qel hs (by decide);have HS:=hid (fun W=>qk3 q _ rfl W)
  have HM:Hid (∀W,Calls Tryz.prog 21 #[.string (rt q),.string ⟨#[49,48,48]⟩] W fun e w'=>e = .returned (.int .i64 (qcc q ((100:Int):Rat)))∧Below W.heap.size W w'):=hid fun W=>by
   rw[qsj,←qk4];exact qpp q ((100:Int):Rat) 1000 W sq (qjl qen (by decide)) (by decide)
  have hge:=@qvk q ((100:Int):Rat);clear sq hs hc hE;by_cases hn:q.num<0
  ·rw[if_pos (.inl hn)]
   rw[qsh hn] at HS;clear hn hge HM;generalize rt q=tq at *;go_enter Tryz.func10,Tryz.ntmps10;go_wp2_with fail;refine HC.out.mono ?_;rintro e w1 ⟨rfl,hb⟩;have HB:=hid hb;clear hb HC;go_wp2_with fail;refine(HS.out _).mono ?_;rintro e w2 ⟨rfl,rfl⟩;go_wp2_with fail;go_ret;exact⟨rfl,HB.out⟩
  ·have hz:¬sgn q<0:=by unfold sgn;rw[if_neg hn];split<;>omega
   generalize sgn q=z1 at *;by_cases hb:((100:Int):Rat)≤q
   ·rw[if_pos (.inr hb)]
    have hz2:0≤qcc q ((100:Int):Rat):=hge.2 hb;clear hn hge hb;generalize qcc q ((100:Int):Rat)=z2 at *;generalize rt q=tq at *;go_enter Tryz.func10,Tryz.ntmps10;go_wp2_with fail;refine HC.out.mono ?_;rintro e w1 ⟨rfl,hb⟩;have HB:=hid hb;clear hb HC;go_wp2_with fail;refine(HS.out _).mono ?_;rintro e w2 ⟨rfl,rfl⟩;go_wp2_with fail;refine(HM.out _).mono ?_;rintro e w2 ⟨rfl,hb⟩;have HB2:=hid (HB.out.trans (hb.mono HB.out.size));clear hb HM;go_wp2_with fail;go_ret;exact⟨rfl,HB2.out⟩
   ·rw[if_neg (fun h=>h.elim hn hb)]
    have hz2:¬0≤qcc q ((100:Int):Rat):=fun h=>hb (hge.1 h);clear hn hge hb;generalize qcc q ((100:Int):Rat)=z2 at *;generalize rt q=tq at *;go_enter Tryz.func10,Tryz.ntmps10;go_wp2_with fail;refine HC.out.mono ?_;rintro e w1 ⟨rfl,hb⟩;have HB:=hid hb;clear hb HC;go_wp2_with fail;refine(HS.out _).mono ?_;rintro e w2 ⟨rfl,rfl⟩;go_wp2_with fail;refine(HM.out _).mono ?_;rintro e w2 ⟨rfl,hb⟩;have HB2:=hid (HB.out.trans (hb.mono HB.out.size));clear hb HM;go_wp2_with fail;go_ret;exact⟨rfl,HB2.out⟩
 ·have hE:qbf x.data.toList=qaa x.data.toList:=by unfold qbf;rw[if_pos hc]
  rw[hE];have hne:((qaa x.data.toList:Int)==0)=false:=beq_eq_false_iff_ne.2 (by omega);clear hE hc hs;generalize qaa x.data.toList=c at *;go_enter Tryz.func10,Tryz.ntmps10;go_wp2_with fail;refine HC.out.mono ?_;rintro e w1 ⟨rfl,hb⟩;have HB:=hid hb;clear hb HC;go_wp2_with fail;go_ret;exact⟨rfl,HB.out⟩
theorem qq9{x:ByteArray}(hs:x.size≤1000)(h:qbf x.data.toList=0):qky x∧0≤qak x.data.toList∧0<qcq (qak x.data.toList)∧(qcq (qak x.data.toList)).num≠0:=by
 unfold qbf at h;by_cases hc:qaa x.data.toList=0
 ·rw[if_neg (by omega)] at h
  by_cases hn:(qak x.data.toList).num<0∨((100:Int):Rat)≤qak x.data.toList
  ·rw[if_pos hn] at h;cases h
  ·have h1:¬(qak x.data.toList).num<0:=fun e=>hn (.inl e)
   have h2:qak x.data.toList<((100:Int):Rat):=Rat.not_le.1 fun e=>hn (.inr e);have h3:0≤qak x.data.toList:=Rat.num_nonneg.1 (by omega)
   have h4:0<qcq (qak x.data.toList):=by
    unfold qcq;exact(Rat.lt_iff_sub_pos _ _).1 h2
   have h5:0<(qcq (qak x.data.toList)).num:=by
    rcases Int.lt_trichotomy (qcq (qak x.data.toList)).num 0 with e|e|e
    ·have:=Rat.num_nonneg.2 (Rat.le_of_lt h4);omega
    ·rw[qx7 e] at h4;exact absurd h4 Rat.lt_irrefl
    ·exact e
   exact⟨⟨by omega,hc,q34 h3,by rw[qwl h5];decide⟩,h3,h4,by omega⟩
 ·rw[if_pos hc] at h
  exact absurd h hc
theorem qff{I:World→Prop}(J:Inv I)(x:ByteArray)(c:Nat)(hs:x.size≤1000)(h:qbf x.data.toList=c):qfe I 10 #[.string x] (.int .i64 (c:Nat)):=qbj J fun W _ _=>by
 rw[←h];exact qqf x W hs
end Go.Proofs.YtlkaldjmgamamaaGreatDoor
