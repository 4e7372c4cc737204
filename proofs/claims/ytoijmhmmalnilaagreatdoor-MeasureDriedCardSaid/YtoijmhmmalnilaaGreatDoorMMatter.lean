/- Matter where there is no error; the reference's FromInt and CheckMoisture. -/
import Derived.Test.YtoijmhmmalnilaaGreatDoorMKeeps
import Derived.Test.YtoijmhmmalnilaaGreatDoorMMix
import Derived.Deep.RegionHeld3
set_option linter.all false
namespace Go.Proofs.YtoijmhmmalnilaaGreatDoor
open Go.RowKit
set_option maxRecDepth 100000
set_option maxHeartbeats 4000000
def qbk(ms:Int)(a:ByteArray):Rat:=((ms:Int):Rat)*qee (qac a.data.toList)/((100:Int):Rat)
theorem qpz(ms:Int)(a:ByteArray)(w:World)(hg:GW w)(h0:0≤ms)(h1:ms≤999999999)(ha:qsm a):
  Calls Tryz.prog 25 #[.int .i64 ms,.string a] w fun e w'=>e = .returned (.tuple #[.string (qcm (qbk ms a)),.int .i64 (qf9 (qbk ms a):Nat)])∧Below w.heap.size w w':=by
 have HM:=hid (qra a w hg ha.1 ha.2.1 ha.2.2.1 ha.2.2.2)
 have bm:=qil ms h0 h1
 have ba:=qt7 (qil 100 (by omega) (by omega)) (qdc ha.2.1)
 have bb:=qil 100 (by omega) (by omega)
 have HCAP:Hid (rs ((ms:Int):Rat)+rs (qee (qac a.data.toList))≤Cap∧rs (((ms:Int):Rat)*qee (qac a.data.toList))+rs ((100:Int):Rat)≤Cap∧rs (qbk ms a)≤Cap):=hid (by
  have a1:=bm.rs;have a2:=ba.rs;have a3:=bb.rs;have a4:=(qd9 bm ba).rs;have a5:=(qkc (qd9 bm ba) bb).rs
  unfold qbk qee Cap;omega)
 have HNZ:Hid (((100:Int):Rat).num≠0):=hid (by decide)
 have hn0:¬ms<0:=by omega
 have hn1:¬999999999<ms:=by omega
 have HWQ:Hid (qbk ms a=((ms:Int):Rat)*qee (qac a.data.toList)/((100:Int):Rat)):=hid rfl
 have hm1 : -9223372036854775808≤ms∧ms≤9223372036854775807:=by omega
 have HM1:=hid hm1
 clear hm1 ha hg bm ba bb
 generalize qbk ms a=wq at *
 generalize qee (qac a.data.toList)=da at *
 generalize hh:((100:Int):Rat)=hq at *
 have HH:=hid hh
 clear hh
 go_enter Tryz.func25,Tryz.ntmps25
 go_wp2_with fail
 refine HM.out.mono ?_
 rintro e w1 ⟨⟨x,rfl,hv⟩,hb⟩
 have HX:=hid (qx8 hv ((Below.refl _ _).alloc (Nat.le_refl _) (.cells #[.bool x.b,.slice x.p x.k x.c,.slice x.q x.j x.d] 78)))
 have HO:=hid (qfv w1 x)
 have HB:Hid (Below w.heap.size w (w1.alloc (.cells #[.bool x.b,.slice x.p x.k x.c,.slice x.q x.j x.d] 78))):=hid (hb.alloc hb.size _)
 clear hv hb HM
 go_wp2_with fail
 generalize hw:w1.alloc (.cells #[.bool x.b,.slice x.p x.k x.c,.slice x.q x.j x.d] 78)=w2 at *
 clear hw
 generalize w1.heap.size=g at *
 have eZ:=HO.out.cells.1
 have HC:Hid (∀W,Below w2.heap.size w2 W→W.cell? ⟨g,0,none⟩=some (.bool x.b)∧W.cell? ⟨g,1,none⟩=some (.slice x.p x.k x.c)∧W.cell? ⟨g,2,none⟩=some (.slice x.q x.j x.d)):=hid fun W hW=>(One.cells (HO.out.later (hW.mono HO.out.1))).1
 have HBX:Hid (Below w2.heap.size w2 w2.drew):=hid ((Below.refl _ _).drew)
 have eX:=HC.out _ HBX.out
 go_region_held3 (fun W=>W.cell? ⟨g,0,none⟩=some (.bool x.b)∧W.cell? ⟨g,1,none⟩=some (.slice x.p x.k x.c)∧W.cell? ⟨g,2,none⟩=some (.slice x.q x.j x.d)) (first|with_reducible exact eA|with_reducible exact eB|with_reducible exact eC|with_reducible exact eD|with_reducible exact eE|exact eX)
  (first
   | (go_at_call 69;first
     | ((with_reducible refine(qck (qdk ms _ HM1.out.1 HM1.out.2)).mono ?_);rintro e wA ⟨⟨t1,rfl,hn⟩,hb⟩;have HV1:=hid hn;have HBA:Hid (Below w2.heap.size w2 wA):=hid (HBX.out.trans hb);have eA:=HC.out _ HBA.out;clear hn hb)
     | ((with_reducible refine(qck (qdk 100 wB (by decide) (by decide))).mono ?_);rintro e wC ⟨⟨t3,rfl,hn⟩,hb⟩;rw[HH.out] at hn;have HV3:=hid hn;have HBC:=hid (HBB.out.trans (hb.mono HBB.out.size));have HBL:=hid hb;have eC:=HC.out _ HBC.out;clear hn hb))
   | (go_at_call 41;((with_reducible refine(qck (qcu _ _ _ _ wA HV1.out (HX.out.later HBA.out) HCAP.out.1)).mono ?_);rintro e wB ⟨⟨t2,rfl,hn⟩,hb⟩;have HV2:=hid hn;have HBB:=hid (HBA.out.trans (hb.mono HBA.out.size));have eB:=HC.out _ HBB.out;clear hn hb))
   | (go_at_call 46;((with_reducible refine(qck (qd5 _ _ _ _ wC (HV2.out.later HBL.out) HV3.out HNZ.out HCAP.out.2.1)).mono ?_);rintro e wD ⟨⟨t4,rfl,hn⟩,hb⟩;rw[←HWQ.out] at hn;have HV4:=hid hn;have HBD:=hid (HBC.out.trans (hb.mono HBC.out.size));have eD:=HC.out _ HBD.out;clear hn hb))
   | (go_at_call 45;((with_reducible refine(qdn _ _ wD HV4.out HCAP.out.2.2).mono ?_);rintro e wE h;obtain⟨rfl,hb⟩:=qk2 h;have HBE:=hid (HBD.out.trans (hb.mono HBD.out.size));have eE:=HC.out _ HBE.out;clear hb h)))
 all_goals
  go_wp2_with fail
  go_ret2
  exact⟨rfl,HB.out.trans (HBE.out.mono HB.out.size)⟩
theorem qx9(n:Nat)(w:World)(hn:n<9223372036854775808):
  Calls Tryz.prog 26 #[.int .i64 (n:Int)] w (qq3 ((n:Int):Rat) w):=by
 have HW:=hid (q6d n w hn)
 have HT:Hid (∀W v,qb3 W v (n:Int)→Calls Tryz.prog 55 #[v] W fun e w'=>e = .returned (.string (rt ((n:Int):Rat)))∧Below W.heap.size W w'):=hid fun W v hv=>
  (qzj v _ W hv (by rw[Int.natAbs_natCast];have:=qct (k:=19) (n:=n) (by omega) (by decide);omega)).mono fun _ _ ⟨⟨t,he,h1⟩,h2⟩=>by
   refine⟨?_,h2⟩
   rw[he,q2k]
   congr 2
   exact qbs (by rw[h1])
 clear hn
 unfold qq3
 generalize rt ((n:Int):Rat)=tr at *
 go_enter Tryz.func26,Tryz.ntmps26
 go_wp2_with fail
 refine HW.out.mono ?_
 rintro e w1 ⟨⟨v,rfl,hv⟩,hb⟩
 have HV:=hid hv
 have HB:=hid hb
 clear hv hb HW
 go_wp2_with fail
 refine(HT.out _ _ HV.out).mono ?_
 rintro e w2 ⟨rfl,hb⟩
 have HB2:=hid (HB.out.trans (hb.mono HB.out.size))
 clear hb HT HV
 go_wp2_with fail
 go_ret
 exact⟨rfl,HB2.out⟩
def qfq(l:List UInt8):Nat:=if qaa l≠0 then qaa l else if(qac l).num<0∨((100:Int):Rat)≤qac l then 3 else 0
theorem q0d:sm ((100:Int):Rat) 3:=⟨by show 100<10^3;decide,by show 1<10^3;decide⟩
theorem qmg:(⟨#[49,48,48]⟩:ByteArray)=rt ((100:Int):Rat):=by kernel_rfl
theorem qqi(x:ByteArray)(w:World)(hs:x.size≤1000):
  Calls Tryz.prog 23 #[.string x] w fun e w'=>e = .returned (.int .i64 (qfq x.data.toList:Nat))∧Below w.heap.size w w':=by
 have HC:=hid (qxy x w (by omega))
 by_cases hc:qaa x.data.toList=0
 ·rw[hc] at HC
  have ex:=(qdt hc).1
  have hE:qfq x.data.toList=if(qac x.data.toList).num<0∨((100:Int):Rat)≤qac x.data.toList then 3 else 0:=by unfold qfq;rw[if_neg (by omega)]
  rw[hE]
  generalize qac x.data.toList=q at *
  subst ex
  have sq:sm q 1000:=qga hs (by decide)
  have HS:=hid (fun W=>qkw q _ rfl W)
  have HM:Hid (∀W,Calls Tryz.prog 19 #[.string (rt q),.string ⟨#[49,48,48]⟩] W fun e w'=>e = .returned (.int .i64 (qdb q ((100:Int):Rat)))∧Below W.heap.size W w'):=hid fun W=>by
   rw[qmg,←qws]
   exact qxv q ((100:Int):Rat) 1000 W sq (qey q0d (by decide)) (by decide)
  have hge:=@q2l q ((100:Int):Rat)
  clear sq hs hc hE
  by_cases hn:q.num<0
  ·rw[if_pos (.inl hn)]
   rw[qv2 hn] at HS
   clear hn hge HM
   generalize rt q=tq at *
   go_enter Tryz.func23,Tryz.ntmps23
   go_wp2_with fail
   refine HC.out.mono ?_
   rintro e w1 ⟨rfl,hb⟩
   have HB:=hid hb
   clear hb HC
   go_wp2_with fail
   refine(HS.out _).mono ?_
   rintro e w2 ⟨rfl,rfl⟩
   go_wp2_with fail
   go_ret
   exact⟨rfl,HB.out⟩
  ·have hz:¬sgn q<0:=by unfold sgn;rw[if_neg hn];split<;>omega
   generalize sgn q=z1 at *
   by_cases hb:((100:Int):Rat)≤q
   ·rw[if_pos (.inr hb)]
    have hz2:0≤qdb q ((100:Int):Rat):=hge.2 hb
    clear hn hge hb
    generalize qdb q ((100:Int):Rat)=z2 at *
    generalize rt q=tq at *
    go_enter Tryz.func23,Tryz.ntmps23
    go_wp2_with fail
    refine HC.out.mono ?_
    rintro e w1 ⟨rfl,hb⟩
    have HB:=hid hb
    clear hb HC
    go_wp2_with fail
    refine(HS.out _).mono ?_
    rintro e w2 ⟨rfl,rfl⟩
    go_wp2_with fail
    refine(HM.out _).mono ?_
    rintro e w2 ⟨rfl,hb⟩
    have HB2:=hid (HB.out.trans (hb.mono HB.out.size))
    clear hb HM
    go_wp2_with fail
    go_ret
    exact⟨rfl,HB2.out⟩
   ·rw[if_neg (fun h=>h.elim hn hb)]
    have hz2:¬0≤qdb q ((100:Int):Rat):=fun h=>hb (hge.1 h)
    clear hn hge hb
    generalize qdb q ((100:Int):Rat)=z2 at *
    generalize rt q=tq at *
    go_enter Tryz.func23,Tryz.ntmps23
    go_wp2_with fail
    refine HC.out.mono ?_
    rintro e w1 ⟨rfl,hb⟩
    have HB:=hid hb
    clear hb HC
    go_wp2_with fail
    refine(HS.out _).mono ?_
    rintro e w2 ⟨rfl,rfl⟩
    go_wp2_with fail
    refine(HM.out _).mono ?_
    rintro e w2 ⟨rfl,hb⟩
    have HB2:=hid (HB.out.trans (hb.mono HB.out.size))
    clear hb HM
    go_wp2_with fail
    go_ret
    exact⟨rfl,HB2.out⟩
 ·have hE:qfq x.data.toList=qaa x.data.toList:=by unfold qfq;rw[if_pos hc]
  rw[hE]
  have hne:((qaa x.data.toList:Int)==0)=false:=beq_eq_false_iff_ne.2 (by omega)
  clear hE hc hs
  generalize qaa x.data.toList=c at *
  go_enter Tryz.func23,Tryz.ntmps23
  go_wp2_with fail
  refine HC.out.mono ?_
  rintro e w1 ⟨rfl,hb⟩
  have HB:=hid hb
  clear hb HC
  go_wp2_with fail
  go_ret
  exact⟨rfl,HB.out⟩
end Go.Proofs.YtoijmhmmalnilaaGreatDoor
