/- MeasureDried. -/
import Derived.Test.YtoijmhmmalnilaaGreatDoorMMatter
import Derived.Test.YtoijmhmmalnilaaGreatDoorMKeeps
import Derived.WalkKit
set_option linter.all false
namespace Go.Proofs.YtoijmhmmalnilaaGreatDoor
open Go.RowKit
set_option maxRecDepth 100000
set_option maxHeartbeats 8000000
theorem qcl{I:World→Prop}(J:Inv I)(x:ByteArray)(v:Bool)(h:qn0 x 6=v):qds I 22 #[.string x,.int .i64 6] (.bool v):=qbo J fun W _ _=>by
 rw[←h]
 exact q90 x 6 W (by decide) (by decide)
theorem qej{I:World→Prop}(J:Inv I)(x:ByteArray)(c:Nat)(hs:x.size≤1000)(h:qfq x.data.toList=c):qds I 23 #[.string x] (.int .i64 (c:Nat)):=qbo J fun W _ _=>by
 rw[←h]
 exact qqi x W hs
theorem qii{x:ByteArray}(h:qn0 x 6=true):x.size≤14:=by
 unfold qn0 at h
 rw[Bool.and_eq_true] at h
 exact of_decide_eq_true h.1
theorem qj7{x:ByteArray}(hs:x.size≤1000)(h:qfq x.data.toList=0):qsm x∧0≤qac x.data.toList∧0<qee (qac x.data.toList)∧(qee (qac x.data.toList)).num≠0:=by
 unfold qfq at h
 by_cases hc:qaa x.data.toList=0
 ·rw[if_neg (by omega)] at h
  by_cases hn:(qac x.data.toList).num<0∨((100:Int):Rat)≤qac x.data.toList
  ·rw[if_pos hn] at h;cases h
  ·have h1:¬(qac x.data.toList).num<0:=fun e=>hn (.inl e)
   have h2:qac x.data.toList<((100:Int):Rat):=Rat.not_le.1 fun e=>hn (.inr e)
   have h3:0≤qac x.data.toList:=Rat.num_nonneg.1 (by omega)
   have h4:0<qee (qac x.data.toList):=by
    unfold qee
    exact(Rat.lt_iff_sub_pos _ _).1 h2
   have h5:0<(qee (qac x.data.toList)).num:=by
    rcases Int.lt_trichotomy (qee (qac x.data.toList)).num 0 with e|e|e
    ·have:=Rat.num_nonneg.2 (Rat.le_of_lt h4);omega
    ·rw[qxt e] at h4;exact absurd h4 Rat.lt_irrefl
    ·exact e
   exact⟨⟨by omega,hc,q8c h3,by rw[q16 h5];decide⟩,h3,h4,by omega⟩
 ·rw[if_pos hc] at h
  exact absurd h hc
theorem qwx(W:World)(x y z:ByteArray)(t:TypeId):qm6 (W.alloc (.cells #[.string x,.string y,.string z] t)) (.slice (some ⟨W.heap.size,0,none⟩) 3 3) [x,y,z]:=by
 refine⟨_,0,3,rfl,Nat.le_refl _,by decide,fun j s hj => ?_⟩
 rw[World.cell?_alloc_at _ _ _ _ rfl]
 match j,hj with
 | 0,hj=>cases hj;rfl
 | 1,hj=>cases hj;rfl
 | 2,hj=>cases hj;rfl
theorem qrb{I:World→Prop}(J:Inv I)(x y z:ByteArray)(t:TypeId)(hx:qaa x.data.toList=0)(hy:qaa y.data.toList=0)(hz:qaa z.data.toList=0)(sx:x.size≤5000)(sy:y.size≤5000)(sz:z.size≤5000)(W:World)(hW:I W):
  Calls Tryz.prog 12 #[.slice (some ⟨W.heap.size,0,none⟩) 3 3] (W.alloc (.cells #[.string x,.string y,.string z] t)) fun e w'=>e = .returned (.int .i64 0)∧I w':=
 (qud _ [x,y,z] _ (qwx W x y z t) (fun s hs=>by
  rcases List.mem_cons.1 hs with e|hs
  ·rw[e];exact sx
  ·rcases List.mem_cons.1 hs with e|hs
   ·rw[e];exact sy
   ·rw[List.mem_singleton.1 hs];exact sz) (by simp)).mono fun _ _ ⟨h1,h2⟩=>by
   refine⟨?_,J.later _ _ (J.later _ _ hW ((Below.refl _ _).alloc (Nat.le_refl _) (.cells #[.string x,.string y,.string z] t))) h2⟩
   rw[h1]
   show Ending.returned (.int .i64 (qab [qaa x.data.toList,qaa y.data.toList,qaa z.data.toList]:Nat))=_
   rw[hx,hy,hz];rfl
theorem qcy{q:Rat}(h:qa8 q 600=true):qcm q=rt q∧qf9 q=0:=by
 unfold qcm qf9
 rw[if_pos h,if_pos h]
 exact⟨rfl,rfl⟩
theorem qwy(M:Int)(a b:ByteArray)(w:World)(hg:GW w)(h1:qn0 a 6=false):Calls Tryz.prog 4 #[.int .u32 M,.string a,.string b] w fun e w'=>e = .returned (.bool true)∧Below w.heap.size w w':=by
 have J:=qdr hg
 have HAW:=hid (qb0 J)
 have HF1:=hid (qcl J a _ h1)
 clear J hg h1
 have HB:=hid (Below.refl w.heap.size w)
 go_enter Tryz.func4,Tryz.ntmps4
 go_wp2_with fail
 refine(HAW.out _ HB.out).mono ?_
 rintro e wN ⟨rfl,hb⟩
 clear HB
 have HB:=hid hb
 clear hb
 go_wp2_with fail
 refine(HF1.out _ HB.out).mono ?_
 rintro e wN ⟨rfl,hb⟩
 clear HB HF1
 have HB:=hid hb
 clear hb
 go_wp2_with fail
 refine(HAW.out _ HB.out).mono ?_
 rintro e wN ⟨rfl,hb⟩
 clear HB HAW
 have HB:=hid hb
 clear hb
 go_wp2_with fail
 go_ret
 exact⟨rfl,HB.out⟩
theorem qwz(M:Int)(a b:ByteArray)(w:World)(hg:GW w)(h1:qn0 a 6=true)(h2:qn0 b 6=false):Calls Tryz.prog 4 #[.int .u32 M,.string a,.string b] w fun e w'=>e = .returned (.bool true)∧Below w.heap.size w w':=by
 have J:=qdr hg
 have HAW:=hid (qb0 J)
 have HF1:=hid (qcl J a _ h1)
 have HF2:=hid (qcl J b _ h2)
 clear J hg h1 h2
 have HB:=hid (Below.refl w.heap.size w)
 go_enter Tryz.func4,Tryz.ntmps4
 go_wp2_with fail
 refine(HAW.out _ HB.out).mono ?_
 rintro e wN ⟨rfl,hb⟩
 clear HB
 have HB:=hid hb
 clear hb
 go_wp2_with fail
 refine(HF1.out _ HB.out).mono ?_
 rintro e wN ⟨rfl,hb⟩
 clear HB HF1
 have HB:=hid hb
 clear hb
 go_wp2_with fail
 refine(HF2.out _ HB.out).mono ?_
 rintro e wN ⟨rfl,hb⟩
 clear HB HF2
 have HB:=hid hb
 clear hb
 go_wp2_with fail
 refine(HAW.out _ HB.out).mono ?_
 rintro e wN ⟨rfl,hb⟩
 clear HB HAW
 have HB:=hid hb
 clear hb
 go_wp2_with fail
 go_ret
 exact⟨rfl,HB.out⟩
theorem qw0(M:Int)(a b:ByteArray)(w:World)(hg:GW w)(h1:qn0 a 6=true)(h2:qn0 b 6=true)(c:Nat)(h3:qfq a.data.toList=c)(h5:c≠0):Calls Tryz.prog 4 #[.int .u32 M,.string a,.string b] w fun e w'=>e = .returned (.bool true)∧Below w.heap.size w w':=by
 have J:=qdr hg
 have HAW:=hid (qb0 J)
 have HF1:=hid (qcl J a _ h1)
 have HF2:=hid (qcl J b _ h2)
 have z1:=qii h1
 have HM1:=hid (qej J a _ (by omega) h3)
 have hne:((c:Int) != 0)=true:=by simpa using h5
 clear J hg h1 h2 h3 h5 z1
 have HB:=hid (Below.refl w.heap.size w)
 go_enter Tryz.func4,Tryz.ntmps4
 go_wp2_with fail
 refine(HAW.out _ HB.out).mono ?_
 rintro e wN ⟨rfl,hb⟩
 clear HB
 have HB:=hid hb
 clear hb
 go_wp2_with fail
 refine(HF1.out _ HB.out).mono ?_
 rintro e wN ⟨rfl,hb⟩
 clear HB HF1
 have HB:=hid hb
 clear hb
 go_wp2_with fail
 refine(HF2.out _ HB.out).mono ?_
 rintro e wN ⟨rfl,hb⟩
 clear HB HF2
 have HB:=hid hb
 clear hb
 go_wp2_with fail
 refine(HM1.out _ HB.out).mono ?_
 rintro e wN ⟨rfl,hb⟩
 clear HB HM1
 have HB:=hid hb
 clear hb
 go_wp2_with fail
 refine(HAW.out _ HB.out).mono ?_
 rintro e wN ⟨rfl,hb⟩
 clear HB HAW
 have HB:=hid hb
 clear hb
 go_wp2_with fail
 go_ret
 exact⟨rfl,HB.out⟩
theorem qw1(M:Int)(a b:ByteArray)(w:World)(hg:GW w)(h1:qn0 a 6=true)(h2:qn0 b 6=true)(h3:qfq a.data.toList=0)(c:Nat)(h4:qfq b.data.toList=c)(h5:c≠0):Calls Tryz.prog 4 #[.int .u32 M,.string a,.string b] w fun e w'=>e = .returned (.bool true)∧Below w.heap.size w w':=by
 have J:=qdr hg
 have HAW:=hid (qb0 J)
 have HF1:=hid (qcl J a _ h1)
 have HF2:=hid (qcl J b _ h2)
 have z1:=qii h1
 have HM1:=hid (qej J a _ (by omega) h3)
 have z2:=qii h2
 have HM2:=hid (qej J b _ (by omega) h4)
 have hne:((c:Int) != 0)=true:=by simpa using h5
 clear J hg h1 h2 h3 h4 h5 z1 z2
 have HB:=hid (Below.refl w.heap.size w)
 go_enter Tryz.func4,Tryz.ntmps4
 go_wp2_with fail
 refine(HAW.out _ HB.out).mono ?_
 rintro e wN ⟨rfl,hb⟩
 clear HB
 have HB:=hid hb
 clear hb
 go_wp2_with fail
 refine(HF1.out _ HB.out).mono ?_
 rintro e wN ⟨rfl,hb⟩
 clear HB HF1
 have HB:=hid hb
 clear hb
 go_wp2_with fail
 refine(HF2.out _ HB.out).mono ?_
 rintro e wN ⟨rfl,hb⟩
 clear HB HF2
 have HB:=hid hb
 clear hb
 go_wp2_with fail
 refine(HM1.out _ HB.out).mono ?_
 rintro e wN ⟨rfl,hb⟩
 clear HB HM1
 have HB:=hid hb
 clear hb
 go_wp2_with fail
 refine(HM2.out _ HB.out).mono ?_
 rintro e wN ⟨rfl,hb⟩
 clear HB HM2
 have HB:=hid hb
 clear hb
 go_wp2_with fail
 refine(HAW.out _ HB.out).mono ?_
 rintro e wN ⟨rfl,hb⟩
 clear HB HAW
 have HB:=hid hb
 clear hb
 go_wp2_with fail
 go_ret
 exact⟨rfl,HB.out⟩
theorem q55(M:Int)(a b:ByteArray)(w:World)(hg:GW w)(hM:0≤M)(hM2:M≤4294967295)(h1:qn0 a 6=true)(h2:qn0 b 6=true)(h3:qfq a.data.toList=0)(h4:qfq b.data.toList=0)(hle:qac b.data.toList≤qac a.data.toList):Calls Tryz.prog 4 #[.int .u32 M,.string a,.string b] w fun e w'=>e = .returned (.bool true)∧Below w.heap.size w w':=by
 have J:=qdr hg
 have z1:=qii h1
 have z2:=qii h2
 have HAW:=hid (qb0 J)
 have HF1:=hid (qcl J a _ h1)
 have HF2:=hid (qcl J b _ h2)
 have HM1:=hid (qej J a _ (by omega) h3)
 have HM2:=hid (qej J b _ (by omega) h4)
 obtain⟨ca,ea,sa⟩:=qmf h1 (by decide)
 obtain⟨cb,eb,sb⟩:=qmf h2 (by decide)
 obtain⟨ma,_,pa,na⟩:=qj7 (by omega) h3
 obtain⟨mb,_,pb,nb⟩:=qj7 (by omega) h4
 have hmod:M.tmod 100000001=M % 100000001:=Int.tmod_eq_emod_of_nonneg hM
 obtain⟨N,hN⟩:=Int.eq_ofNat_of_zero_le (show(0:Int)≤M % 100000001 by omega)
 have hN1:N≤100000000:=by omega
 have hN2:(N:Int)≤100000000:=by omega
 have hNd:M.tmod 100000001=(N:Int):=by rw[hmod,hN]
 have hNe:M % 100000001=(N:Int):=hN
 have sN:sm ((N:Int):Rat) 9:=⟨by show N<10^9;omega,by show 1<10^9;omega⟩
 have s100:sm ((100:Int):Rat) 3:=⟨by decide,by decide⟩
 have sda:sm (qee (qac a.data.toList)) 10:=qq2 s100 sa
 have sdb:sm (qee (qac b.data.toList)) 10:=qq2 s100 sb
 have sA:sm (qmd N a b) 29:=qo9 (qlx sN sda) sdb nb
 have sB:sm (qmd N a a) 29:=qo9 (qlx sN sda) sda na
 have sD:sm (qbk N a) 22:=qo9 (qlx sN sda) s100 (by decide)
 have eB:qmd N a a=((N:Int):Rat):=by
  unfold qmd
  have h0:qee (qac a.data.toList)≠0:=fun e=>na (by rw[e];rfl)
  grind
 have eQ:qmd N a b*qee (qac b.data.toList)=qbk N a*((100:Int):Rat):=by
  unfold qmd qbk
  have h0:qee (qac b.data.toList)≠0:=fun e=>nb (by rw[e];rfl)
  have h1:((100:Int):Rat)≠0:=by decide
  grind
 have hAB:qmd N a b≤((N:Int):Rat):=by
  have h0:qee (qac b.data.toList)≠0:=fun e=>nb (by rw[e];rfl)
  have h1:qee (qac a.data.toList)≤qee (qac b.data.toList):=by unfold qee;grind
  have h2:(0:Rat)≤((N:Int):Rat):=Rat.num_nonneg.1 (by show(0:Int)≤(N:Int);omega)
  have h3:((N:Int):Rat)*qee (qac a.data.toList)≤((N:Int):Rat)*qee (qac b.data.toList):=Rat.mul_le_mul_of_nonneg_left h1 h2
  have h4:((N:Int):Rat)*qee (qac a.data.toList)*(qee (qac b.data.toList))⁻¹ ≤ ((N:Int):Rat)*qee (qac b.data.toList)*(qee (qac b.data.toList))⁻¹ := Rat.mul_le_mul_of_nonneg_right h3 (Rat.le_of_lt (Rat.inv_pos.2 pb))
  have h5:((N:Int):Rat)*qee (qac b.data.toList)*(qee (qac b.data.toList))⁻¹ = ((N:Int):Rat):=by grind
  rw[h5] at h4
  unfold qmd
  rw[Rat.div_def]
  exact h4
 have fA:=qgb sA (show 29+1≤600 by decide)
 have fB:=qgb sB (show 29+1≤600 by decide)
 have fD:=qgb sD (show 22+1≤600 by decide)
 have HW1:Hid (qds (Below w.heap.size w) 24 #[.int .i64 (N:Int),.string a,.string b] (.tuple #[.string (rt (qmd N a b)),.int .i64 0])):=hid (qbo J fun W _ hg=>by
  have h:=qme N a b W hg (by omega) (by omega) ma mb
  rw[(qcy fA).1,(qcy fA).2] at h
  exact h)
 have HW2:Hid (qds (Below w.heap.size w) 24 #[.int .i64 (N:Int),.string a,.string a] (.tuple #[.string (rt ((N:Int):Rat)),.int .i64 0])):=hid (qbo J fun W _ hg=>by
  have h:=qme N a a W hg (by omega) (by omega) ma ma
  rw[(qcy fB).1,(qcy fB).2,eB] at h
  exact h)
 have HMA:Hid (qds (Below w.heap.size w) 25 #[.int .i64 (N:Int),.string a] (.tuple #[.string (rt (qbk N a)),.int .i64 0])):=hid (qbo J fun W _ hg=>by
  have h:=qpz N a W hg (by omega) (by omega) ma
  rw[(qcy fD).1,(qcy fD).2] at h
  exact h)
 rw[eB] at fB
 have HROW:=hid (qrb J _ _ _ 22 (qj6 fA) (qj6 fB) (qj6 fD) (by have:=qcs sA;omega) (by have:=qcs sN;omega) (by have:=qcs sD;omega))
 have KFI:=hid (qb2 J fun W=>qx9 N W (by omega))
 have KSB:Hid (qds (Below w.heap.size w) 17 #[.string ⟨#[49,48,48]⟩,.string b] (.string (rt (qee (qac b.data.toList))))):=hid (by
  rw[qmg]
  conv=>rw[eb]
  rw[qwt]
  exact qb2 J fun W=>qt1 _ _ 10 W (qey s100 (by decide)) (qey sb (by decide)) (by decide))
 have KM1:=hid (qb2 J fun W=>qpc (qmd N a b) (qee (qac b.data.toList)) 30 W (qey sA (by decide)) (qey sdb (by decide)) (by decide))
 have KM2:Hid (qds (Below w.heap.size w) 18 #[.string (rt (qbk N a)),.string ⟨#[49,48,48]⟩] (.string (rt (qbk N a*((100:Int):Rat))))):=hid (by
  rw[qmg]
  exact qb2 J fun W=>qpc (qbk N a) ((100:Int):Rat) 30 W (qey sD (by decide)) (qey s100 (by decide)) (by decide))
 rw[eQ] at KM1
 have KTF:=hid (qpw J sb sa (by decide) eb ea (z:=qdb (qac b.data.toList) (qac a.data.toList)) rfl)
 have htf:¬0<qdb (qac b.data.toList) (qac a.data.toList):=by have:=qr2.2 hle;omega
 have KAB:=hid (qpw J sA (qey sN (by decide)) (by decide) rfl rfl (z:=qdb (qmd N a b) ((N:Int):Rat)) rfl)
 have hz2:qdb (qmd N a b) ((N:Int):Rat)≤0:=qr2.2 hAB
 have hNN:((rt ((N:Int):Rat)).toList != (rt ((N:Int):Rat)).toList)=false:=by simp
 have hMM:((rt (qbk N a*((100:Int):Rat))).toList != (rt (qbk N a*((100:Int):Rat))).toList)=false:=by simp
 clear J hg hle h1 h2 h3 h4 ca cb ea eb sa sb ma mb pa pb na nb sN s100 sda sdb sA sB sD eB eQ fA fB fD z1 z2 hmod hN hAB
 generalize qdb (qac b.data.toList) (qac a.data.toList)=z1 at *
 generalize qdb (qmd N a b) ((N:Int):Rat)=z2 at *
 generalize rt (qbk N a*((100:Int):Rat))=tM at *
 generalize rt (qbk N a)=tD at *
 generalize rt (qmd N a b)=tA at *
 generalize rt ((N:Int):Rat)=tN at *
 generalize rt (qee (qac b.data.toList))=tS at *
 have HB:=hid (Below.refl w.heap.size w)
 go_enter Tryz.func4,Tryz.ntmps4
 go_wp2_with fail
 refine(HAW.out _ HB.out).mono ?_
 rintro e wN ⟨rfl,hb⟩
 clear HB HAW
 have HB:=hid hb
 clear hb
 go_wp2_with fail
 refine(HF1.out _ HB.out).mono ?_
 rintro e wN ⟨rfl,hb⟩
 clear HB HF1
 have HB:=hid hb
 clear hb
 go_wp2_with fail
 refine(HF2.out _ HB.out).mono ?_
 rintro e wN ⟨rfl,hb⟩
 clear HB HF2
 have HB:=hid hb
 clear hb
 go_wp2_with fail
 refine(HM1.out _ HB.out).mono ?_
 rintro e wN ⟨rfl,hb⟩
 clear HB HM1
 have HB:=hid hb
 clear hb
 go_wp2_with fail
 refine(HM2.out _ HB.out).mono ?_
 rintro e wN ⟨rfl,hb⟩
 clear HB HM2
 have HB:=hid hb
 clear hb
 go_wp2_with fail
 refine(HW1.out _ HB.out).mono ?_
 rintro e wN ⟨rfl,hb⟩
 clear HB HW1
 have HB:=hid hb
 clear hb
 go_wp2_with fail
 refine(HW2.out _ HB.out).mono ?_
 rintro e wN ⟨rfl,hb⟩
 clear HB HW2
 have HB:=hid hb
 clear hb
 go_wp2_with fail
 refine(HMA.out _ HB.out).mono ?_
 rintro e wN ⟨rfl,hb⟩
 clear HB HMA
 have HB:=hid hb
 clear hb
 go_wp2_with fail
 refine(HROW.out _ HB.out).mono ?_
 rintro e wN ⟨rfl,hb⟩
 clear HB HROW
 have HB:=hid hb
 clear hb
 go_wp2_with fail
 refine(KFI.out _ HB.out).mono ?_
 rintro e wN ⟨rfl,hb⟩
 clear HB KFI
 have HB:=hid hb
 clear hb
 go_wp2_with fail
 refine(KSB.out _ HB.out).mono ?_
 rintro e wN ⟨rfl,hb⟩
 clear HB KSB
 have HB:=hid hb
 clear hb
 go_wp2_with fail
 refine(KM1.out _ HB.out).mono ?_
 rintro e wN ⟨rfl,hb⟩
 clear HB KM1
 have HB:=hid hb
 clear hb
 go_wp2_with fail
 refine(KM2.out _ HB.out).mono ?_
 rintro e wN ⟨rfl,hb⟩
 clear HB KM2
 have HB:=hid hb
 clear hb
 go_wp2_with fail
 refine(KTF.out _ HB.out).mono ?_
 rintro e wN ⟨rfl,hb⟩
 clear HB KTF
 have HB:=hid hb
 clear hb
 go_wp2_with fail
 refine(KAB.out _ HB.out).mono ?_
 rintro e wN ⟨rfl,hb⟩
 clear HB KAB
 have HB:=hid hb
 clear hb
 go_wp2_with fail
 go_ret
 exact⟨rfl,HB.out⟩
theorem q56(M:Int)(a b:ByteArray)(w:World)(hg:GW w)(hM:0≤M)(hM2:M≤4294967295)(h1:qn0 a 6=true)(h2:qn0 b 6=true)(h3:qfq a.data.toList=0)(h4:qfq b.data.toList=0)(hle:¬qac b.data.toList≤qac a.data.toList):Calls Tryz.prog 4 #[.int .u32 M,.string a,.string b] w fun e w'=>e = .returned (.bool true)∧Below w.heap.size w w':=by
 have J:=qdr hg
 have z1:=qii h1
 have z2:=qii h2
 have HAW:=hid (qb0 J)
 have HF1:=hid (qcl J a _ h1)
 have HF2:=hid (qcl J b _ h2)
 have HM1:=hid (qej J a _ (by omega) h3)
 have HM2:=hid (qej J b _ (by omega) h4)
 obtain⟨ca,ea,sa⟩:=qmf h1 (by decide)
 obtain⟨cb,eb,sb⟩:=qmf h2 (by decide)
 obtain⟨ma,_,pa,na⟩:=qj7 (by omega) h3
 obtain⟨mb,_,pb,nb⟩:=qj7 (by omega) h4
 have hmod:M.tmod 100000001=M % 100000001:=Int.tmod_eq_emod_of_nonneg hM
 obtain⟨N,hN⟩:=Int.eq_ofNat_of_zero_le (show(0:Int)≤M % 100000001 by omega)
 have hN1:N≤100000000:=by omega
 have hN2:(N:Int)≤100000000:=by omega
 have hNd:M.tmod 100000001=(N:Int):=by rw[hmod,hN]
 have hNe:M % 100000001=(N:Int):=hN
 have sN:sm ((N:Int):Rat) 9:=⟨by show N<10^9;omega,by show 1<10^9;omega⟩
 have s100:sm ((100:Int):Rat) 3:=⟨by decide,by decide⟩
 have sda:sm (qee (qac a.data.toList)) 10:=qq2 s100 sa
 have sdb:sm (qee (qac b.data.toList)) 10:=qq2 s100 sb
 have sA:sm (qmd N a b) 29:=qo9 (qlx sN sda) sdb nb
 have sB:sm (qmd N a a) 29:=qo9 (qlx sN sda) sda na
 have sD:sm (qbk N a) 22:=qo9 (qlx sN sda) s100 (by decide)
 have eB:qmd N a a=((N:Int):Rat):=by
  unfold qmd
  have h0:qee (qac a.data.toList)≠0:=fun e=>na (by rw[e];rfl)
  grind
 have eQ:qmd N a b*qee (qac b.data.toList)=qbk N a*((100:Int):Rat):=by
  unfold qmd qbk
  have h0:qee (qac b.data.toList)≠0:=fun e=>nb (by rw[e];rfl)
  have h1:((100:Int):Rat)≠0:=by decide
  grind
 have fA:=qgb sA (show 29+1≤600 by decide)
 have fB:=qgb sB (show 29+1≤600 by decide)
 have fD:=qgb sD (show 22+1≤600 by decide)
 have HW1:Hid (qds (Below w.heap.size w) 24 #[.int .i64 (N:Int),.string a,.string b] (.tuple #[.string (rt (qmd N a b)),.int .i64 0])):=hid (qbo J fun W _ hg=>by
  have h:=qme N a b W hg (by omega) (by omega) ma mb
  rw[(qcy fA).1,(qcy fA).2] at h
  exact h)
 have HW2:Hid (qds (Below w.heap.size w) 24 #[.int .i64 (N:Int),.string a,.string a] (.tuple #[.string (rt ((N:Int):Rat)),.int .i64 0])):=hid (qbo J fun W _ hg=>by
  have h:=qme N a a W hg (by omega) (by omega) ma ma
  rw[(qcy fB).1,(qcy fB).2,eB] at h
  exact h)
 have HMA:Hid (qds (Below w.heap.size w) 25 #[.int .i64 (N:Int),.string a] (.tuple #[.string (rt (qbk N a)),.int .i64 0])):=hid (qbo J fun W _ hg=>by
  have h:=qpz N a W hg (by omega) (by omega) ma
  rw[(qcy fD).1,(qcy fD).2] at h
  exact h)
 rw[eB] at fB
 have HROW:=hid (qrb J _ _ _ 22 (qj6 fA) (qj6 fB) (qj6 fD) (by have:=qcs sA;omega) (by have:=qcs sN;omega) (by have:=qcs sD;omega))
 have KFI:=hid (qb2 J fun W=>qx9 N W (by omega))
 have KSB:Hid (qds (Below w.heap.size w) 17 #[.string ⟨#[49,48,48]⟩,.string b] (.string (rt (qee (qac b.data.toList))))):=hid (by
  rw[qmg]
  conv=>rw[eb]
  rw[qwt]
  exact qb2 J fun W=>qt1 _ _ 10 W (qey s100 (by decide)) (qey sb (by decide)) (by decide))
 have KM1:=hid (qb2 J fun W=>qpc (qmd N a b) (qee (qac b.data.toList)) 30 W (qey sA (by decide)) (qey sdb (by decide)) (by decide))
 have KM2:Hid (qds (Below w.heap.size w) 18 #[.string (rt (qbk N a)),.string ⟨#[49,48,48]⟩] (.string (rt (qbk N a*((100:Int):Rat))))):=hid (by
  rw[qmg]
  exact qb2 J fun W=>qpc (qbk N a) ((100:Int):Rat) 30 W (qey sD (by decide)) (qey s100 (by decide)) (by decide))
 rw[eQ] at KM1
 have KTF:=hid (qpw J sb sa (by decide) eb ea (z:=qdb (qac b.data.toList) (qac a.data.toList)) rfl)
 have htf:0<qdb (qac b.data.toList) (qac a.data.toList):=qr1.2 (Rat.not_le.1 hle)
 have hNN:((rt ((N:Int):Rat)).toList != (rt ((N:Int):Rat)).toList)=false:=by simp
 have hMM:((rt (qbk N a*((100:Int):Rat))).toList != (rt (qbk N a*((100:Int):Rat))).toList)=false:=by simp
 clear J hg hle h1 h2 h3 h4 ca cb ea eb sa sb ma mb pa pb na nb sN s100 sda sdb sA sB sD eB eQ fA fB fD z1 z2 hmod hN
 generalize qdb (qac b.data.toList) (qac a.data.toList)=z1 at *
 generalize rt (qbk N a*((100:Int):Rat))=tM at *
 generalize rt (qbk N a)=tD at *
 generalize rt (qmd N a b)=tA at *
 generalize rt ((N:Int):Rat)=tN at *
 generalize rt (qee (qac b.data.toList))=tS at *
 have HB:=hid (Below.refl w.heap.size w)
 go_enter Tryz.func4,Tryz.ntmps4
 go_wp2_with fail
 refine(HAW.out _ HB.out).mono ?_
 rintro e wN ⟨rfl,hb⟩
 clear HB HAW
 have HB:=hid hb
 clear hb
 go_wp2_with fail
 refine(HF1.out _ HB.out).mono ?_
 rintro e wN ⟨rfl,hb⟩
 clear HB HF1
 have HB:=hid hb
 clear hb
 go_wp2_with fail
 refine(HF2.out _ HB.out).mono ?_
 rintro e wN ⟨rfl,hb⟩
 clear HB HF2
 have HB:=hid hb
 clear hb
 go_wp2_with fail
 refine(HM1.out _ HB.out).mono ?_
 rintro e wN ⟨rfl,hb⟩
 clear HB HM1
 have HB:=hid hb
 clear hb
 go_wp2_with fail
 refine(HM2.out _ HB.out).mono ?_
 rintro e wN ⟨rfl,hb⟩
 clear HB HM2
 have HB:=hid hb
 clear hb
 go_wp2_with fail
 refine(HW1.out _ HB.out).mono ?_
 rintro e wN ⟨rfl,hb⟩
 clear HB HW1
 have HB:=hid hb
 clear hb
 go_wp2_with fail
 refine(HW2.out _ HB.out).mono ?_
 rintro e wN ⟨rfl,hb⟩
 clear HB HW2
 have HB:=hid hb
 clear hb
 go_wp2_with fail
 refine(HMA.out _ HB.out).mono ?_
 rintro e wN ⟨rfl,hb⟩
 clear HB HMA
 have HB:=hid hb
 clear hb
 go_wp2_with fail
 refine(HROW.out _ HB.out).mono ?_
 rintro e wN ⟨rfl,hb⟩
 clear HB HROW
 have HB:=hid hb
 clear hb
 go_wp2_with fail
 refine(KFI.out _ HB.out).mono ?_
 rintro e wN ⟨rfl,hb⟩
 clear HB KFI
 have HB:=hid hb
 clear hb
 go_wp2_with fail
 refine(KSB.out _ HB.out).mono ?_
 rintro e wN ⟨rfl,hb⟩
 clear HB KSB
 have HB:=hid hb
 clear hb
 go_wp2_with fail
 refine(KM1.out _ HB.out).mono ?_
 rintro e wN ⟨rfl,hb⟩
 clear HB KM1
 have HB:=hid hb
 clear hb
 go_wp2_with fail
 refine(KM2.out _ HB.out).mono ?_
 rintro e wN ⟨rfl,hb⟩
 clear HB KM2
 have HB:=hid hb
 clear hb
 go_wp2_with fail
 refine(KTF.out _ HB.out).mono ?_
 rintro e wN ⟨rfl,hb⟩
 clear HB KTF
 have HB:=hid hb
 clear hb
 go_wp2_with fail
 go_ret
 exact⟨rfl,HB.out⟩
theorem q32(M:Int)(a b:ByteArray)(w:World)(hg:GW w)(hM:0≤M)(hM2:M≤4294967295):Calls Tryz.prog 4 #[.int .u32 M,.string a,.string b] w fun e w'=>e = .returned (.bool true)∧Below w.heap.size w w':=by
 by_cases h1:qn0 a 6=true
 ·by_cases h2:qn0 b 6=true
  ·by_cases h3:qfq a.data.toList=0
   ·by_cases h4:qfq b.data.toList=0
    ·by_cases hle:qac b.data.toList≤qac a.data.toList
     ·exact q55 M a b w hg hM hM2 h1 h2 h3 h4 hle
     ·exact q56 M a b w hg hM hM2 h1 h2 h3 h4 hle
    ·exact qw1 M a b w hg h1 h2 h3 _ rfl h4
   ·exact qw0 M a b w hg h1 h2 _ rfl h3
  ·exact qwz M a b w hg h1 (by simpa using h2)
 ·exact qwy M a b w hg (by simpa using h1)
end Go.Proofs.YtoijmhmmalnilaaGreatDoor
