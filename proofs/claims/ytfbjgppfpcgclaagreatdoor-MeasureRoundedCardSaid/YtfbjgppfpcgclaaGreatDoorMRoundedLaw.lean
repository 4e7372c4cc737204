/- MeasureRounded. -/
import Derived.Test.YtfbjgppfpcgclaaGreatDoorMKeeps
import Derived.Test.YtfbjgppfpcgclaaGreatDoorMRefRule
import Derived.WalkKit
import Derived.Deep.RegionHeld3
set_option linter.all false
namespace Go.Proofs.YtfbjgppfpcgclaaGreatDoor
open Go.RowKit
set_option maxRecDepth 100000
set_option maxHeartbeats 8000000
theorem qd3{w:World}(hg:GW w)(k s:ByteArray)(c:Nat)(hs:s.size≤5000)(h:qab k s.data.toList=c)(W:World)(hW:qe8 w k s W):Calls Tryz.prog 23 #[.agg #[.string k,.string s]] W fun e w'=>e = .returned (.int .i64 (c:Nat))∧qe8 w k s w':=
 (qwc k s W (hg.later hW.1) hs).mono fun _ _ ⟨h1,h2⟩=>⟨by rw[h1,h],hW.later h2.1⟩
theorem qsj(a b k s:ByteArray)(w:World)(hg:GW w)(h1:qgv a 8=false):Calls Tryz.prog 4 #[.string a,.string b,.agg #[.string k,.string s]] w fun e w'=>e = .returned (.bool true)∧Below w.heap.size w w':=by
 have J:=qdk hg k s
 have HAW:=hid (qb6 J)
 have HF1:=hid (qaz J a _ h1)
 clear J hg h1
 have HB:=hid (qbk w k s)
 obtain⟨c0,c1⟩:=qaa HB.out
 go_enter Tryz.func4,Tryz.ntmps4
 go_wp2_with fail
 refine(HAW.out _ HB.out).mono ?_
 rintro e wN ⟨rfl,hb⟩
 clear HB c0 c1
 have HB:=hid hb
 clear hb
 obtain⟨c0,c1⟩:=qaa HB.out
 go_wp2_with fail
 refine(HF1.out _ HB.out).mono ?_
 rintro e wN ⟨rfl,hb⟩
 clear HB c0 c1 HF1
 have HB:=hid hb
 clear hb
 obtain⟨c0,c1⟩:=qaa HB.out
 go_wp2_with fail
 refine(HAW.out _ HB.out).mono ?_
 rintro e wN ⟨rfl,hb⟩
 clear HB c0 c1 HAW
 have HB:=hid hb
 clear hb
 obtain⟨c0,c1⟩:=qaa HB.out
 go_wp2_with fail
 go_ret
 exact⟨rfl,HB.out.1⟩
theorem qsk(a b k s:ByteArray)(w:World)(hg:GW w)(h1:qgv a 8=true)(h2:qgv b 8=false):Calls Tryz.prog 4 #[.string a,.string b,.agg #[.string k,.string s]] w fun e w'=>e = .returned (.bool true)∧Below w.heap.size w w':=by
 have J:=qdk hg k s
 have HAW:=hid (qb6 J)
 have HF1:=hid (qaz J a _ h1)
 have HF2:=hid (qaz J b _ h2)
 clear J hg h1 h2
 have HB:=hid (qbk w k s)
 obtain⟨c0,c1⟩:=qaa HB.out
 go_enter Tryz.func4,Tryz.ntmps4
 go_wp2_with fail
 refine(HAW.out _ HB.out).mono ?_
 rintro e wN ⟨rfl,hb⟩
 clear HB c0 c1
 have HB:=hid hb
 clear hb
 obtain⟨c0,c1⟩:=qaa HB.out
 go_wp2_with fail
 refine(HF1.out _ HB.out).mono ?_
 rintro e wN ⟨rfl,hb⟩
 clear HB c0 c1 HF1
 have HB:=hid hb
 clear hb
 obtain⟨c0,c1⟩:=qaa HB.out
 go_wp2_with fail
 refine(HF2.out _ HB.out).mono ?_
 rintro e wN ⟨rfl,hb⟩
 clear HB c0 c1 HF2
 have HB:=hid hb
 clear hb
 obtain⟨c0,c1⟩:=qaa HB.out
 go_wp2_with fail
 refine(HAW.out _ HB.out).mono ?_
 rintro e wN ⟨rfl,hb⟩
 clear HB c0 c1 HAW
 have HB:=hid hb
 clear hb
 obtain⟨c0,c1⟩:=qaa HB.out
 go_wp2_with fail
 go_ret
 exact⟨rfl,HB.out.1⟩
theorem qsl(a b k s:ByteArray)(w:World)(hg:GW w)(h1:qgv a 8=true)(h2:qgv b 8=true)(h3:qgv s 8=false):Calls Tryz.prog 4 #[.string a,.string b,.agg #[.string k,.string s]] w fun e w'=>e = .returned (.bool true)∧Below w.heap.size w w':=by
 have J:=qdk hg k s
 have HAW:=hid (qb6 J)
 have HF1:=hid (qaz J a _ h1)
 have HF2:=hid (qaz J b _ h2)
 have HF3:=hid (qaz J s _ h3)
 clear J hg h1 h2 h3
 have HB:=hid (qbk w k s)
 obtain⟨c0,c1⟩:=qaa HB.out
 go_enter Tryz.func4,Tryz.ntmps4
 go_wp2_with fail
 refine(HAW.out _ HB.out).mono ?_
 rintro e wN ⟨rfl,hb⟩
 clear HB c0 c1
 have HB:=hid hb
 clear hb
 obtain⟨c0,c1⟩:=qaa HB.out
 go_wp2_with fail
 refine(HF1.out _ HB.out).mono ?_
 rintro e wN ⟨rfl,hb⟩
 clear HB c0 c1 HF1
 have HB:=hid hb
 clear hb
 obtain⟨c0,c1⟩:=qaa HB.out
 go_wp2_with fail
 refine(HF2.out _ HB.out).mono ?_
 rintro e wN ⟨rfl,hb⟩
 clear HB c0 c1 HF2
 have HB:=hid hb
 clear hb
 obtain⟨c0,c1⟩:=qaa HB.out
 go_wp2_with fail
 refine(HF3.out _ HB.out).mono ?_
 rintro e wN ⟨rfl,hb⟩
 clear HB c0 c1 HF3
 have HB:=hid hb
 clear hb
 obtain⟨c0,c1⟩:=qaa HB.out
 go_wp2_with fail
 refine(HAW.out _ HB.out).mono ?_
 rintro e wN ⟨rfl,hb⟩
 clear HB c0 c1 HAW
 have HB:=hid hb
 clear hb
 obtain⟨c0,c1⟩:=qaa HB.out
 go_wp2_with fail
 go_ret
 exact⟨rfl,HB.out.1⟩
theorem qsm(a b k s:ByteArray)(w:World)(hg:GW w)(h1:qgv a 8=true)(h2:qgv b 8=true)(h3:qgv s 8=true)(c:Nat)(h4:qab k s.data.toList=c)(h5:c≠0):Calls Tryz.prog 4 #[.string a,.string b,.agg #[.string k,.string s]] w fun e w'=>e = .returned (.bool true)∧Below w.heap.size w w':=by
 have J:=qdk hg k s
 have HAW:=hid (qb6 J)
 have HF1:=hid (qaz J a _ h1)
 have HF2:=hid (qaz J b _ h2)
 have HF3:=hid (qaz J s _ h3)
 have hs:s.size≤5000:=by
  unfold qgv at h3
  rw[Bool.and_eq_true] at h3
  have:=of_decide_eq_true h3.1
  omega
 have HR:=hid (qd3 hg k s c hs h4)
 have hne:((c:Int) != 0)=true:=by simpa using h5
 clear J hg h1 h2 h3 h4 h5 hs
 have HB:=hid (qbk w k s)
 obtain⟨c0,c1⟩:=qaa HB.out
 go_enter Tryz.func4,Tryz.ntmps4
 go_wp2_with fail
 refine(HAW.out _ HB.out).mono ?_
 rintro e wN ⟨rfl,hb⟩
 clear HB c0 c1
 have HB:=hid hb
 clear hb
 obtain⟨c0,c1⟩:=qaa HB.out
 go_wp2_with fail
 refine(HF1.out _ HB.out).mono ?_
 rintro e wN ⟨rfl,hb⟩
 clear HB c0 c1 HF1
 have HB:=hid hb
 clear hb
 obtain⟨c0,c1⟩:=qaa HB.out
 go_wp2_with fail
 refine(HF2.out _ HB.out).mono ?_
 rintro e wN ⟨rfl,hb⟩
 clear HB c0 c1 HF2
 have HB:=hid hb
 clear hb
 obtain⟨c0,c1⟩:=qaa HB.out
 go_wp2_with fail
 refine(HF3.out _ HB.out).mono ?_
 rintro e wN ⟨rfl,hb⟩
 clear HB c0 c1 HF3
 have HB:=hid hb
 clear hb
 obtain⟨c0,c1⟩:=qaa HB.out
 go_wp2_with fail
 refine(HR.out _ HB.out).mono ?_
 rintro e wN ⟨rfl,hb⟩
 clear HB c0 c1 HR
 have HB:=hid hb
 clear hb
 obtain⟨c0,c1⟩:=qaa HB.out
 go_wp2_with fail
 refine(HAW.out _ HB.out).mono ?_
 rintro e wN ⟨rfl,hb⟩
 clear HB c0 c1 HAW
 have HB:=hid hb
 clear hb
 obtain⟨c0,c1⟩:=qaa HB.out
 go_wp2_with fail
 go_ret
 exact⟨rfl,HB.out.1⟩
theorem q5d(f:Nat){q:Rat}{k:Nat}(h:sm q k):sm ((qdb f q:Int):Rat) (k+1):=by
 have h1:=floor_le q
 have h2:=h.1
 have h3:(10:Nat)^(k+1)=10^k*10:=Nat.pow_succ ..
 have h4:0<(10:Nat)^k:=Nat.pow_pos (by decide)
 refine⟨?_, ?_⟩
 ·show(qdb f q).natAbs<10^(k+1)
  rcases qp4 f q with e|e<;>rw[e]<;>omega
 ·show 1<10^(k+1)
  omega
theorem qcs(f:Nat){a s:Rat}(ha:sm a 8)(hs:sm s 8)(h0:s.num≠0):sm (qay f a s) 25:=by
 rw[qgx f (fun e=>h0 (by rw[e];rfl))]
 exact q5p (q5d f (qfy ha hs h0)) hs
theorem qa4{I:World→Prop}(J:Inv I){x k s:ByteArray}{f:Nat}(hx:qac x.data.toList=0)(hk:qab k s.data.toList=0)(hf:qa8 k=some f)(sx:x.size≤5000)(ss:s.size≤5000)(hfit:qbh (qay f (qad x.data.toList) (qad s.data.toList)) 600=true):
  qgj I 24 #[.string x,.agg #[.string k,.string s]] (.tuple #[.string (rt (qay f (qad x.data.toList) (qad s.data.toList))),.int .i64 0]):=
 qj5 J fun W _ hg=>(qpn x k s W hg (by omega) (by omega)).mono fun _ _ h=>by
  unfold qhf qik at h
  rw[hx,hk,hf] at h
  have h2:=q13 h
  unfold q86 q12 at h2
  simp only[Option.getD_some,hfit,if_true] at h2
  exact h2
theorem qp7(a b k s:ByteArray)(w:World)(hg:GW w)(h1:qgv a 8=true)(h2:qgv b 8=true)(h3:qgv s 8=true)(h4:qab k s.data.toList=0)(he:k.toList=[100,111,119,110])(hf:qa8 k=some 158)(hle:qad a.data.toList≤qad b.data.toList):Calls Tryz.prog 4 #[.string a,.string b,.agg #[.string k,.string s]] w fun e w'=>e = .returned (.bool true)∧Below w.heap.size w w':=by
 have J:=qdk hg k s
 obtain⟨ca,ea,sa⟩:=qbb h1 (by decide)
 obtain⟨cb,eb,sb⟩:=qbb h2 (by decide)
 obtain⟨cs,es,ss⟩:=qbb h3 (by decide)
 have za:a.size≤5000:=by rw[ea];have:=qap sa;omega
 have zb:b.size≤5000:=by rw[eb];have:=qap sb;omega
 have zs:s.size≤5000:=by rw[es];have:=qap ss;omega
 have HAW:=hid (qb6 J)
 have HF1:=hid (qaz J a _ h1)
 have HF2:=hid (qaz J b _ h2)
 have HF3:=hid (qaz J s _ h3)
 have HR:=hid (qd3 hg k s 0 zs h4)
 obtain⟨_,hpos,_⟩:=qbn h4
 have hn0:(qad s.data.toList).num≠0:=by omega
 have hs0:qad s.data.toList≠0:=fun e=>hn0 (by rw[e];rfl)
 have hsp:0<qad s.data.toList:=by
  rcases(Rat.le_total:qad s.data.toList≤0∨0≤qad s.data.toList) with h|h
  ·have h5:=qhh h
   rw[qff hpos] at h5
   omega
  ·exact Rat.lt_of_le_of_ne h (fun e=>hs0 e.symm)
 have sX:=qcs 158 sa ss hn0
 have sY:=qcs 158 sb ss hn0
 have fX:=qbw sX (show 25+1≤600 by decide)
 have fY:=qbw sY (show 25+1≤600 by decide)
 have RX:=hid (qa4 J ca h4 hf za zs fX)
 have RY:=hid (qa4 J cb h4 hf zb zs fY)
 have cX:=qcr fX
 have cY:=qcr fY
 have hag:=qdv 158 (a:=qad a.data.toList) hs0
 have zX:(rt (qay 158 (qad a.data.toList) (qad s.data.toList))).size≤5000:=by have:=qap sX;omega
 have zY:(rt (qay 158 (qad b.data.toList) (qad s.data.toList))).size≤5000:=by have:=qap sY;omega
 have HCX:=hid (qaq J _ 0 cX zX)
 have HCY:=hid (qaq J _ 0 cY zY)
 have RA:=hid (qa4 J (x:=rt (qay 158 (qad a.data.toList) (qad s.data.toList))) cX h4 hf zX zs (by rw[qc8,hag];exact fX))
 rw[qc8,hag] at RA
 have hden:=qe7 158 (a:=qad a.data.toList) hs0
 have hdist:=qet 158 (a:=qad a.data.toList) hs0
 have hb2:=quo (qad a.data.toList/qad s.data.toList)
 rw[←hdist] at hb2
 have hmono:=qj6 158 hsp hle
 clear h1 h2 h3 h4 cX cY fX fY hag hdist hf ca cb cs hs0 hsp hpos
 generalize qad a.data.toList=p at *
 generalize qad b.data.toList=q at *
 generalize qad s.data.toList=t at *
 subst ea
 subst eb
 subst es
 generalize qay 158 p t=X at *
 generalize qay 158 q t=Y at *
 have KDX:=hid (qbr J fun W=>qf7 X t 25 W sX (qbm ss (by decide)) (by decide) hn0)
 have sXt:sm (X/t) 33:=qfy sX ss hn0
 have KW:Hid (qgj (qe8 w k (rt t)) 25 #[.string (rt (X/t))] (.bool true)):=hid (qbv fun W=>by
  have h:=qep (X/t) W (by have:=qap sXt;omega)
  rw[decide_eq_true hden] at h
  exact h)
 have sXp:sm (X-p) 34:=qns sX sa
 have KSB:=hid (qbr J fun W=>qly X p 25 W sX (qbm sa (by decide)) (by decide))
 have sD:sm ((X-p)/t) 42:=qfy sXp ss hn0
 have KDD:=hid (qbr J fun W=>qf7 (X-p) t 34 W sXp (qbm ss (by decide)) (by decide) hn0)
 have KC1:=hid (qbq J sD (qbm (qg9 (-1) (by decide) (by decide)) (by decide)) (by decide) rfl q25 (z:=1) (by rcases qdz ((X-p)/t) (-1) with⟨h5,h6⟩|⟨h5,h6⟩|⟨h5,h6⟩<;>first|exact h5|(exfalso;grind)))
 have KC2:Hid (qgj (qe8 w k (rt t)) 26 #[.string (rt ((X-p)/t))] (.int .i64 (sgn ((X-p)/t)))):=hid (qbv fun W=>qde _ _ rfl W)
 have hz2:¬0<sgn ((X-p)/t):=by have:=qhh hb2.2;omega
 have KPQ:=hid (qbq J sa sb (by decide) rfl rfl (z:=qbz p q) rfl)
 have hpq:¬0<qbz p q:=by have:=qe4.2 hle;omega
 have KXY:=hid (qbq J sX sY (by decide) rfl rfl (z:=qbz X Y) rfl)
 have hxy:qbz X Y≤0:=qe4.2 hmono
 have hXX:((rt X).toList==(rt X).toList)=true:=beq_self_eq_true _
 have hXX2:((rt X).toList != (rt X).toList)=false:=by simp
 clear J hg hle hden hb2 sa sb ss sX sY sXt sXp sD hn0 za zb zs zX zY hmono
 generalize rt ((X-p)/t)=tD at *
 generalize rt (X-p)=tXp at *
 generalize rt (X/t)=tXt at *
 generalize sgn ((X-p)/t)=z2 at *
 generalize qbz p q=z3 at *
 generalize qbz X Y=z4 at *
 generalize rt X=tX at *
 generalize rt Y=tY at *
 generalize rt p=tp at *
 generalize rt q=tq at *
 generalize rt t=ts at *
 clear p q t X Y
 have HB:=hid (qbk w k ts)
 obtain⟨c0,c1⟩:=qaa HB.out
 go_enter Tryz.func4,Tryz.ntmps4
 go_wp2_with fail
 refine(HAW.out _ HB.out).mono ?_
 rintro e wN ⟨rfl,hb⟩
 clear HB c0 c1 HAW
 have HB:=hid hb
 clear hb
 obtain⟨c0,c1⟩:=qaa HB.out
 go_wp2_with fail
 refine(HF1.out _ HB.out).mono ?_
 rintro e wN ⟨rfl,hb⟩
 clear HB c0 c1 HF1
 have HB:=hid hb
 clear hb
 obtain⟨c0,c1⟩:=qaa HB.out
 go_wp2_with fail
 refine(HF2.out _ HB.out).mono ?_
 rintro e wN ⟨rfl,hb⟩
 clear HB c0 c1 HF2
 have HB:=hid hb
 clear hb
 obtain⟨c0,c1⟩:=qaa HB.out
 go_wp2_with fail
 refine(HF3.out _ HB.out).mono ?_
 rintro e wN ⟨rfl,hb⟩
 clear HB c0 c1 HF3
 have HB:=hid hb
 clear hb
 obtain⟨c0,c1⟩:=qaa HB.out
 go_wp2_with fail
 refine(HR.out _ HB.out).mono ?_
 rintro e wN ⟨rfl,hb⟩
 clear HB c0 c1 HR
 have HB:=hid hb
 clear hb
 obtain⟨c0,c1⟩:=qaa HB.out
 go_wp2_with fail
 refine(RX.out _ HB.out).mono ?_
 rintro e wN ⟨rfl,hb⟩
 clear HB c0 c1 RX
 have HB:=hid hb
 clear hb
 obtain⟨c0,c1⟩:=qaa HB.out
 go_wp2_with fail
 refine(RY.out _ HB.out).mono ?_
 rintro e wN ⟨rfl,hb⟩
 clear HB c0 c1 RY
 have HB:=hid hb
 clear hb
 obtain⟨c0,c1⟩:=qaa HB.out
 go_wp2_with fail
 refine(HCX.out _ HB.out).mono ?_
 rintro e wN ⟨rfl,hb⟩
 clear HB c0 c1 HCX
 have HB:=hid hb
 clear hb
 obtain⟨c0,c1⟩:=qaa HB.out
 go_wp2_with fail
 refine(HCY.out _ HB.out).mono ?_
 rintro e wN ⟨rfl,hb⟩
 clear HB c0 c1 HCY
 have HB:=hid hb
 clear hb
 obtain⟨c0,c1⟩:=qaa HB.out
 go_wp2_with fail
 refine(RA.out _ HB.out).mono ?_
 rintro e wN ⟨rfl,hb⟩
 clear HB c0 c1 RA
 have HB:=hid hb
 clear hb
 obtain⟨c0,c1⟩:=qaa HB.out
 go_wp2_with fail
 refine(KDX.out _ HB.out).mono ?_
 rintro e wN ⟨rfl,hb⟩
 clear HB c0 c1 KDX
 have HB:=hid hb
 clear hb
 obtain⟨c0,c1⟩:=qaa HB.out
 go_wp2_with fail
 refine(KW.out _ HB.out).mono ?_
 rintro e wN ⟨rfl,hb⟩
 clear HB c0 c1 KW
 have HB:=hid hb
 clear hb
 obtain⟨c0,c1⟩:=qaa HB.out
 go_wp2_with fail
 have HBD:Hid (qe8 w k ts wN.drew):=hid (HB.out.later (Below.refl _ _).drew)
 go_region_held3 (fun W=>W.cell? ⟨w.heap.size,0,none⟩=some (.string k)∧W.cell? ⟨w.heap.size,1,none⟩=some (.string ts)) (first|with_reducible exact qaa HBF.out|with_reducible exact qaa HBE.out|with_reducible exact qaa HBD.out)
  (first
   | (go_at_call 17;(refine(KSB.out _ HBD.out).mono ?_);rintro e wE ⟨rfl,hb⟩;have HBE:=hid hb;clear hb)
   | (go_at_call 21;(refine(KDD.out _ HBE.out).mono ?_);rintro e wF ⟨rfl,hb⟩;have HBF:=hid hb;clear hb))
 clear HB c0 c1
 have HB:=HBF
 obtain⟨c0,c1⟩:=qaa HB.out
 go_wp2_with fail
 refine(KC1.out _ HB.out).mono ?_
 rintro e wN ⟨rfl,hb⟩
 clear HB c0 c1 KC1
 have HB:=hid hb
 clear hb
 obtain⟨c0,c1⟩:=qaa HB.out
 go_wp2_with fail
 refine(KC2.out _ HB.out).mono ?_
 rintro e wN ⟨rfl,hb⟩
 clear HB c0 c1 KC2
 have HB:=hid hb
 clear hb
 obtain⟨c0,c1⟩:=qaa HB.out
 go_wp2_with fail
 refine(KPQ.out _ HB.out).mono ?_
 rintro e wN ⟨rfl,hb⟩
 clear HB c0 c1 KPQ
 have HB:=hid hb
 clear hb
 obtain⟨c0,c1⟩:=qaa HB.out
 go_wp2_with fail
 refine(KXY.out _ HB.out).mono ?_
 rintro e wN ⟨rfl,hb⟩
 clear HB c0 c1 KXY
 have HB:=hid hb
 clear hb
 obtain⟨c0,c1⟩:=qaa HB.out
 go_wp2_with fail
 go_ret
 exact⟨rfl,HB.out.1⟩
theorem qp8(a b k s:ByteArray)(w:World)(hg:GW w)(h1:qgv a 8=true)(h2:qgv b 8=true)(h3:qgv s 8=true)(h4:qab k s.data.toList=0)(he:k.toList=[100,111,119,110])(hf:qa8 k=some 158)(hle:¬qad a.data.toList≤qad b.data.toList):Calls Tryz.prog 4 #[.string a,.string b,.agg #[.string k,.string s]] w fun e w'=>e = .returned (.bool true)∧Below w.heap.size w w':=by
 have J:=qdk hg k s
 obtain⟨ca,ea,sa⟩:=qbb h1 (by decide)
 obtain⟨cb,eb,sb⟩:=qbb h2 (by decide)
 obtain⟨cs,es,ss⟩:=qbb h3 (by decide)
 have za:a.size≤5000:=by rw[ea];have:=qap sa;omega
 have zb:b.size≤5000:=by rw[eb];have:=qap sb;omega
 have zs:s.size≤5000:=by rw[es];have:=qap ss;omega
 have HAW:=hid (qb6 J)
 have HF1:=hid (qaz J a _ h1)
 have HF2:=hid (qaz J b _ h2)
 have HF3:=hid (qaz J s _ h3)
 have HR:=hid (qd3 hg k s 0 zs h4)
 obtain⟨_,hpos,_⟩:=qbn h4
 have hn0:(qad s.data.toList).num≠0:=by omega
 have hs0:qad s.data.toList≠0:=fun e=>hn0 (by rw[e];rfl)
 have hsp:0<qad s.data.toList:=by
  rcases(Rat.le_total:qad s.data.toList≤0∨0≤qad s.data.toList) with h|h
  ·have h5:=qhh h
   rw[qff hpos] at h5
   omega
  ·exact Rat.lt_of_le_of_ne h (fun e=>hs0 e.symm)
 have sX:=qcs 158 sa ss hn0
 have sY:=qcs 158 sb ss hn0
 have fX:=qbw sX (show 25+1≤600 by decide)
 have fY:=qbw sY (show 25+1≤600 by decide)
 have RX:=hid (qa4 J ca h4 hf za zs fX)
 have RY:=hid (qa4 J cb h4 hf zb zs fY)
 have cX:=qcr fX
 have cY:=qcr fY
 have hag:=qdv 158 (a:=qad a.data.toList) hs0
 have zX:(rt (qay 158 (qad a.data.toList) (qad s.data.toList))).size≤5000:=by have:=qap sX;omega
 have zY:(rt (qay 158 (qad b.data.toList) (qad s.data.toList))).size≤5000:=by have:=qap sY;omega
 have HCX:=hid (qaq J _ 0 cX zX)
 have HCY:=hid (qaq J _ 0 cY zY)
 have RA:=hid (qa4 J (x:=rt (qay 158 (qad a.data.toList) (qad s.data.toList))) cX h4 hf zX zs (by rw[qc8,hag];exact fX))
 rw[qc8,hag] at RA
 have hden:=qe7 158 (a:=qad a.data.toList) hs0
 have hdist:=qet 158 (a:=qad a.data.toList) hs0
 have hb2:=quo (qad a.data.toList/qad s.data.toList)
 rw[←hdist] at hb2
 clear h1 h2 h3 h4 cX cY fX fY hag hdist hf ca cb cs hs0 hsp hpos
 generalize qad a.data.toList=p at *
 generalize qad b.data.toList=q at *
 generalize qad s.data.toList=t at *
 subst ea
 subst eb
 subst es
 generalize qay 158 p t=X at *
 generalize qay 158 q t=Y at *
 have KDX:=hid (qbr J fun W=>qf7 X t 25 W sX (qbm ss (by decide)) (by decide) hn0)
 have sXt:sm (X/t) 33:=qfy sX ss hn0
 have KW:Hid (qgj (qe8 w k (rt t)) 25 #[.string (rt (X/t))] (.bool true)):=hid (qbv fun W=>by
  have h:=qep (X/t) W (by have:=qap sXt;omega)
  rw[decide_eq_true hden] at h
  exact h)
 have sXp:sm (X-p) 34:=qns sX sa
 have KSB:=hid (qbr J fun W=>qly X p 25 W sX (qbm sa (by decide)) (by decide))
 have sD:sm ((X-p)/t) 42:=qfy sXp ss hn0
 have KDD:=hid (qbr J fun W=>qf7 (X-p) t 34 W sXp (qbm ss (by decide)) (by decide) hn0)
 have KC1:=hid (qbq J sD (qbm (qg9 (-1) (by decide) (by decide)) (by decide)) (by decide) rfl q25 (z:=1) (by rcases qdz ((X-p)/t) (-1) with⟨h5,h6⟩|⟨h5,h6⟩|⟨h5,h6⟩<;>first|exact h5|(exfalso;grind)))
 have KC2:Hid (qgj (qe8 w k (rt t)) 26 #[.string (rt ((X-p)/t))] (.int .i64 (sgn ((X-p)/t)))):=hid (qbv fun W=>qde _ _ rfl W)
 have hz2:¬0<sgn ((X-p)/t):=by have:=qhh hb2.2;omega
 have KPQ:=hid (qbq J sa sb (by decide) rfl rfl (z:=qbz p q) rfl)
 have hpq:0<qbz p q:=qkv.2 (Rat.not_le.1 hle)
 have hXX:((rt X).toList==(rt X).toList)=true:=beq_self_eq_true _
 have hXX2:((rt X).toList != (rt X).toList)=false:=by simp
 clear J hg hle hden hb2 sa sb ss sX sY sXt sXp sD hn0 za zb zs zX zY
 generalize rt ((X-p)/t)=tD at *
 generalize rt (X-p)=tXp at *
 generalize rt (X/t)=tXt at *
 generalize sgn ((X-p)/t)=z2 at *
 generalize qbz p q=z3 at *
 generalize rt X=tX at *
 generalize rt Y=tY at *
 generalize rt p=tp at *
 generalize rt q=tq at *
 generalize rt t=ts at *
 clear p q t X Y
 have HB:=hid (qbk w k ts)
 obtain⟨c0,c1⟩:=qaa HB.out
 go_enter Tryz.func4,Tryz.ntmps4
 go_wp2_with fail
 refine(HAW.out _ HB.out).mono ?_
 rintro e wN ⟨rfl,hb⟩
 clear HB c0 c1 HAW
 have HB:=hid hb
 clear hb
 obtain⟨c0,c1⟩:=qaa HB.out
 go_wp2_with fail
 refine(HF1.out _ HB.out).mono ?_
 rintro e wN ⟨rfl,hb⟩
 clear HB c0 c1 HF1
 have HB:=hid hb
 clear hb
 obtain⟨c0,c1⟩:=qaa HB.out
 go_wp2_with fail
 refine(HF2.out _ HB.out).mono ?_
 rintro e wN ⟨rfl,hb⟩
 clear HB c0 c1 HF2
 have HB:=hid hb
 clear hb
 obtain⟨c0,c1⟩:=qaa HB.out
 go_wp2_with fail
 refine(HF3.out _ HB.out).mono ?_
 rintro e wN ⟨rfl,hb⟩
 clear HB c0 c1 HF3
 have HB:=hid hb
 clear hb
 obtain⟨c0,c1⟩:=qaa HB.out
 go_wp2_with fail
 refine(HR.out _ HB.out).mono ?_
 rintro e wN ⟨rfl,hb⟩
 clear HB c0 c1 HR
 have HB:=hid hb
 clear hb
 obtain⟨c0,c1⟩:=qaa HB.out
 go_wp2_with fail
 refine(RX.out _ HB.out).mono ?_
 rintro e wN ⟨rfl,hb⟩
 clear HB c0 c1 RX
 have HB:=hid hb
 clear hb
 obtain⟨c0,c1⟩:=qaa HB.out
 go_wp2_with fail
 refine(RY.out _ HB.out).mono ?_
 rintro e wN ⟨rfl,hb⟩
 clear HB c0 c1 RY
 have HB:=hid hb
 clear hb
 obtain⟨c0,c1⟩:=qaa HB.out
 go_wp2_with fail
 refine(HCX.out _ HB.out).mono ?_
 rintro e wN ⟨rfl,hb⟩
 clear HB c0 c1 HCX
 have HB:=hid hb
 clear hb
 obtain⟨c0,c1⟩:=qaa HB.out
 go_wp2_with fail
 refine(HCY.out _ HB.out).mono ?_
 rintro e wN ⟨rfl,hb⟩
 clear HB c0 c1 HCY
 have HB:=hid hb
 clear hb
 obtain⟨c0,c1⟩:=qaa HB.out
 go_wp2_with fail
 refine(RA.out _ HB.out).mono ?_
 rintro e wN ⟨rfl,hb⟩
 clear HB c0 c1 RA
 have HB:=hid hb
 clear hb
 obtain⟨c0,c1⟩:=qaa HB.out
 go_wp2_with fail
 refine(KDX.out _ HB.out).mono ?_
 rintro e wN ⟨rfl,hb⟩
 clear HB c0 c1 KDX
 have HB:=hid hb
 clear hb
 obtain⟨c0,c1⟩:=qaa HB.out
 go_wp2_with fail
 refine(KW.out _ HB.out).mono ?_
 rintro e wN ⟨rfl,hb⟩
 clear HB c0 c1 KW
 have HB:=hid hb
 clear hb
 obtain⟨c0,c1⟩:=qaa HB.out
 go_wp2_with fail
 have HBD:Hid (qe8 w k ts wN.drew):=hid (HB.out.later (Below.refl _ _).drew)
 go_region_held3 (fun W=>W.cell? ⟨w.heap.size,0,none⟩=some (.string k)∧W.cell? ⟨w.heap.size,1,none⟩=some (.string ts)) (first|with_reducible exact qaa HBF.out|with_reducible exact qaa HBE.out|with_reducible exact qaa HBD.out)
  (first
   | (go_at_call 17;(refine(KSB.out _ HBD.out).mono ?_);rintro e wE ⟨rfl,hb⟩;have HBE:=hid hb;clear hb)
   | (go_at_call 21;(refine(KDD.out _ HBE.out).mono ?_);rintro e wF ⟨rfl,hb⟩;have HBF:=hid hb;clear hb))
 clear HB c0 c1
 have HB:=HBF
 obtain⟨c0,c1⟩:=qaa HB.out
 go_wp2_with fail
 refine(KC1.out _ HB.out).mono ?_
 rintro e wN ⟨rfl,hb⟩
 clear HB c0 c1 KC1
 have HB:=hid hb
 clear hb
 obtain⟨c0,c1⟩:=qaa HB.out
 go_wp2_with fail
 refine(KC2.out _ HB.out).mono ?_
 rintro e wN ⟨rfl,hb⟩
 clear HB c0 c1 KC2
 have HB:=hid hb
 clear hb
 obtain⟨c0,c1⟩:=qaa HB.out
 go_wp2_with fail
 refine(KPQ.out _ HB.out).mono ?_
 rintro e wN ⟨rfl,hb⟩
 clear HB c0 c1 KPQ
 have HB:=hid hb
 clear hb
 obtain⟨c0,c1⟩:=qaa HB.out
 go_wp2_with fail
 go_ret
 exact⟨rfl,HB.out.1⟩
theorem qsn(a b k s:ByteArray)(w:World)(hg:GW w)(h1:qgv a 8=true)(h2:qgv b 8=true)(h3:qgv s 8=true)(h4:qab k s.data.toList=0)(he:k.toList=[117,112])(hf:qa8 k=some 159)(hle:qad a.data.toList≤qad b.data.toList):Calls Tryz.prog 4 #[.string a,.string b,.agg #[.string k,.string s]] w fun e w'=>e = .returned (.bool true)∧Below w.heap.size w w':=by
 have J:=qdk hg k s
 obtain⟨ca,ea,sa⟩:=qbb h1 (by decide)
 obtain⟨cb,eb,sb⟩:=qbb h2 (by decide)
 obtain⟨cs,es,ss⟩:=qbb h3 (by decide)
 have za:a.size≤5000:=by rw[ea];have:=qap sa;omega
 have zb:b.size≤5000:=by rw[eb];have:=qap sb;omega
 have zs:s.size≤5000:=by rw[es];have:=qap ss;omega
 have HAW:=hid (qb6 J)
 have HF1:=hid (qaz J a _ h1)
 have HF2:=hid (qaz J b _ h2)
 have HF3:=hid (qaz J s _ h3)
 have HR:=hid (qd3 hg k s 0 zs h4)
 obtain⟨_,hpos,_⟩:=qbn h4
 have hn0:(qad s.data.toList).num≠0:=by omega
 have hs0:qad s.data.toList≠0:=fun e=>hn0 (by rw[e];rfl)
 have hsp:0<qad s.data.toList:=by
  rcases(Rat.le_total:qad s.data.toList≤0∨0≤qad s.data.toList) with h|h
  ·have h5:=qhh h
   rw[qff hpos] at h5
   omega
  ·exact Rat.lt_of_le_of_ne h (fun e=>hs0 e.symm)
 have sX:=qcs 159 sa ss hn0
 have sY:=qcs 159 sb ss hn0
 have fX:=qbw sX (show 25+1≤600 by decide)
 have fY:=qbw sY (show 25+1≤600 by decide)
 have RX:=hid (qa4 J ca h4 hf za zs fX)
 have RY:=hid (qa4 J cb h4 hf zb zs fY)
 have cX:=qcr fX
 have cY:=qcr fY
 have hag:=qdv 159 (a:=qad a.data.toList) hs0
 have zX:(rt (qay 159 (qad a.data.toList) (qad s.data.toList))).size≤5000:=by have:=qap sX;omega
 have zY:(rt (qay 159 (qad b.data.toList) (qad s.data.toList))).size≤5000:=by have:=qap sY;omega
 have HCX:=hid (qaq J _ 0 cX zX)
 have HCY:=hid (qaq J _ 0 cY zY)
 have RA:=hid (qa4 J (x:=rt (qay 159 (qad a.data.toList) (qad s.data.toList))) cX h4 hf zX zs (by rw[qc8,hag];exact fX))
 rw[qc8,hag] at RA
 have hden:=qe7 159 (a:=qad a.data.toList) hs0
 have hdist:=qet 159 (a:=qad a.data.toList) hs0
 have hb2:=q29 (qad a.data.toList/qad s.data.toList)
 rw[←hdist] at hb2
 have hmono:=qj6 159 hsp hle
 clear h1 h2 h3 h4 cX cY fX fY hag hdist hf ca cb cs hs0 hsp hpos
 generalize qad a.data.toList=p at *
 generalize qad b.data.toList=q at *
 generalize qad s.data.toList=t at *
 subst ea
 subst eb
 subst es
 generalize qay 159 p t=X at *
 generalize qay 159 q t=Y at *
 have KDX:=hid (qbr J fun W=>qf7 X t 25 W sX (qbm ss (by decide)) (by decide) hn0)
 have sXt:sm (X/t) 33:=qfy sX ss hn0
 have KW:Hid (qgj (qe8 w k (rt t)) 25 #[.string (rt (X/t))] (.bool true)):=hid (qbv fun W=>by
  have h:=qep (X/t) W (by have:=qap sXt;omega)
  rw[decide_eq_true hden] at h
  exact h)
 have sXp:sm (X-p) 34:=qns sX sa
 have KSB:=hid (qbr J fun W=>qly X p 25 W sX (qbm sa (by decide)) (by decide))
 have sD:sm ((X-p)/t) 42:=qfy sXp ss hn0
 have KDD:=hid (qbr J fun W=>qf7 (X-p) t 34 W sXp (qbm ss (by decide)) (by decide) hn0)
 have KC1:=hid (qbq J sD (qbm (qg9 1 (by decide) (by decide)) (by decide)) (by decide) rfl q5x (z := -1) (by rcases qdz ((X-p)/t) 1 with⟨h5,h6⟩|⟨h5,h6⟩|⟨h5,h6⟩<;>first|exact h5|(exfalso;grind)))
 have KC2:Hid (qgj (qe8 w k (rt t)) 26 #[.string (rt ((X-p)/t))] (.int .i64 (sgn ((X-p)/t)))):=hid (qbv fun W=>qde _ _ rfl W)
 have hz2:¬sgn ((X-p)/t)<0:=by have:=q26 hb2.1;omega
 have KPQ:=hid (qbq J sa sb (by decide) rfl rfl (z:=qbz p q) rfl)
 have hpq:¬0<qbz p q:=by have:=qe4.2 hle;omega
 have KXY:=hid (qbq J sX sY (by decide) rfl rfl (z:=qbz X Y) rfl)
 have hxy:qbz X Y≤0:=qe4.2 hmono
 have hXX:((rt X).toList==(rt X).toList)=true:=beq_self_eq_true _
 have hXX2:((rt X).toList != (rt X).toList)=false:=by simp
 clear J hg hle hden hb2 sa sb ss sX sY sXt sXp sD hn0 za zb zs zX zY hmono
 generalize rt ((X-p)/t)=tD at *
 generalize rt (X-p)=tXp at *
 generalize rt (X/t)=tXt at *
 generalize sgn ((X-p)/t)=z2 at *
 generalize qbz p q=z3 at *
 generalize qbz X Y=z4 at *
 generalize rt X=tX at *
 generalize rt Y=tY at *
 generalize rt p=tp at *
 generalize rt q=tq at *
 generalize rt t=ts at *
 clear p q t X Y
 have HB:=hid (qbk w k ts)
 obtain⟨c0,c1⟩:=qaa HB.out
 go_enter Tryz.func4,Tryz.ntmps4
 go_wp2_with fail
 refine(HAW.out _ HB.out).mono ?_
 rintro e wN ⟨rfl,hb⟩
 clear HB c0 c1 HAW
 have HB:=hid hb
 clear hb
 obtain⟨c0,c1⟩:=qaa HB.out
 go_wp2_with fail
 refine(HF1.out _ HB.out).mono ?_
 rintro e wN ⟨rfl,hb⟩
 clear HB c0 c1 HF1
 have HB:=hid hb
 clear hb
 obtain⟨c0,c1⟩:=qaa HB.out
 go_wp2_with fail
 refine(HF2.out _ HB.out).mono ?_
 rintro e wN ⟨rfl,hb⟩
 clear HB c0 c1 HF2
 have HB:=hid hb
 clear hb
 obtain⟨c0,c1⟩:=qaa HB.out
 go_wp2_with fail
 refine(HF3.out _ HB.out).mono ?_
 rintro e wN ⟨rfl,hb⟩
 clear HB c0 c1 HF3
 have HB:=hid hb
 clear hb
 obtain⟨c0,c1⟩:=qaa HB.out
 go_wp2_with fail
 refine(HR.out _ HB.out).mono ?_
 rintro e wN ⟨rfl,hb⟩
 clear HB c0 c1 HR
 have HB:=hid hb
 clear hb
 obtain⟨c0,c1⟩:=qaa HB.out
 go_wp2_with fail
 refine(RX.out _ HB.out).mono ?_
 rintro e wN ⟨rfl,hb⟩
 clear HB c0 c1 RX
 have HB:=hid hb
 clear hb
 obtain⟨c0,c1⟩:=qaa HB.out
 go_wp2_with fail
 refine(RY.out _ HB.out).mono ?_
 rintro e wN ⟨rfl,hb⟩
 clear HB c0 c1 RY
 have HB:=hid hb
 clear hb
 obtain⟨c0,c1⟩:=qaa HB.out
 go_wp2_with fail
 refine(HCX.out _ HB.out).mono ?_
 rintro e wN ⟨rfl,hb⟩
 clear HB c0 c1 HCX
 have HB:=hid hb
 clear hb
 obtain⟨c0,c1⟩:=qaa HB.out
 go_wp2_with fail
 refine(HCY.out _ HB.out).mono ?_
 rintro e wN ⟨rfl,hb⟩
 clear HB c0 c1 HCY
 have HB:=hid hb
 clear hb
 obtain⟨c0,c1⟩:=qaa HB.out
 go_wp2_with fail
 refine(RA.out _ HB.out).mono ?_
 rintro e wN ⟨rfl,hb⟩
 clear HB c0 c1 RA
 have HB:=hid hb
 clear hb
 obtain⟨c0,c1⟩:=qaa HB.out
 go_wp2_with fail
 refine(KDX.out _ HB.out).mono ?_
 rintro e wN ⟨rfl,hb⟩
 clear HB c0 c1 KDX
 have HB:=hid hb
 clear hb
 obtain⟨c0,c1⟩:=qaa HB.out
 go_wp2_with fail
 refine(KW.out _ HB.out).mono ?_
 rintro e wN ⟨rfl,hb⟩
 clear HB c0 c1 KW
 have HB:=hid hb
 clear hb
 obtain⟨c0,c1⟩:=qaa HB.out
 go_wp2_with fail
 have HBD:Hid (qe8 w k ts wN.drew):=hid (HB.out.later (Below.refl _ _).drew)
 go_region_held3 (fun W=>W.cell? ⟨w.heap.size,0,none⟩=some (.string k)∧W.cell? ⟨w.heap.size,1,none⟩=some (.string ts)) (first|with_reducible exact qaa HBF.out|with_reducible exact qaa HBE.out|with_reducible exact qaa HBD.out)
  (first
   | (go_at_call 17;(refine(KSB.out _ HBD.out).mono ?_);rintro e wE ⟨rfl,hb⟩;have HBE:=hid hb;clear hb)
   | (go_at_call 21;(refine(KDD.out _ HBE.out).mono ?_);rintro e wF ⟨rfl,hb⟩;have HBF:=hid hb;clear hb))
 clear HB c0 c1
 have HB:=HBF
 obtain⟨c0,c1⟩:=qaa HB.out
 go_wp2_with fail
 refine(KC1.out _ HB.out).mono ?_
 rintro e wN ⟨rfl,hb⟩
 clear HB c0 c1 KC1
 have HB:=hid hb
 clear hb
 obtain⟨c0,c1⟩:=qaa HB.out
 go_wp2_with fail
 refine(KC2.out _ HB.out).mono ?_
 rintro e wN ⟨rfl,hb⟩
 clear HB c0 c1 KC2
 have HB:=hid hb
 clear hb
 obtain⟨c0,c1⟩:=qaa HB.out
 go_wp2_with fail
 refine(KPQ.out _ HB.out).mono ?_
 rintro e wN ⟨rfl,hb⟩
 clear HB c0 c1 KPQ
 have HB:=hid hb
 clear hb
 obtain⟨c0,c1⟩:=qaa HB.out
 go_wp2_with fail
 refine(KXY.out _ HB.out).mono ?_
 rintro e wN ⟨rfl,hb⟩
 clear HB c0 c1 KXY
 have HB:=hid hb
 clear hb
 obtain⟨c0,c1⟩:=qaa HB.out
 go_wp2_with fail
 go_ret
 exact⟨rfl,HB.out.1⟩
theorem qso(a b k s:ByteArray)(w:World)(hg:GW w)(h1:qgv a 8=true)(h2:qgv b 8=true)(h3:qgv s 8=true)(h4:qab k s.data.toList=0)(he:k.toList=[117,112])(hf:qa8 k=some 159)(hle:¬qad a.data.toList≤qad b.data.toList):Calls Tryz.prog 4 #[.string a,.string b,.agg #[.string k,.string s]] w fun e w'=>e = .returned (.bool true)∧Below w.heap.size w w':=by
 have J:=qdk hg k s
 obtain⟨ca,ea,sa⟩:=qbb h1 (by decide)
 obtain⟨cb,eb,sb⟩:=qbb h2 (by decide)
 obtain⟨cs,es,ss⟩:=qbb h3 (by decide)
 have za:a.size≤5000:=by rw[ea];have:=qap sa;omega
 have zb:b.size≤5000:=by rw[eb];have:=qap sb;omega
 have zs:s.size≤5000:=by rw[es];have:=qap ss;omega
 have HAW:=hid (qb6 J)
 have HF1:=hid (qaz J a _ h1)
 have HF2:=hid (qaz J b _ h2)
 have HF3:=hid (qaz J s _ h3)
 have HR:=hid (qd3 hg k s 0 zs h4)
 obtain⟨_,hpos,_⟩:=qbn h4
 have hn0:(qad s.data.toList).num≠0:=by omega
 have hs0:qad s.data.toList≠0:=fun e=>hn0 (by rw[e];rfl)
 have hsp:0<qad s.data.toList:=by
  rcases(Rat.le_total:qad s.data.toList≤0∨0≤qad s.data.toList) with h|h
  ·have h5:=qhh h
   rw[qff hpos] at h5
   omega
  ·exact Rat.lt_of_le_of_ne h (fun e=>hs0 e.symm)
 have sX:=qcs 159 sa ss hn0
 have sY:=qcs 159 sb ss hn0
 have fX:=qbw sX (show 25+1≤600 by decide)
 have fY:=qbw sY (show 25+1≤600 by decide)
 have RX:=hid (qa4 J ca h4 hf za zs fX)
 have RY:=hid (qa4 J cb h4 hf zb zs fY)
 have cX:=qcr fX
 have cY:=qcr fY
 have hag:=qdv 159 (a:=qad a.data.toList) hs0
 have zX:(rt (qay 159 (qad a.data.toList) (qad s.data.toList))).size≤5000:=by have:=qap sX;omega
 have zY:(rt (qay 159 (qad b.data.toList) (qad s.data.toList))).size≤5000:=by have:=qap sY;omega
 have HCX:=hid (qaq J _ 0 cX zX)
 have HCY:=hid (qaq J _ 0 cY zY)
 have RA:=hid (qa4 J (x:=rt (qay 159 (qad a.data.toList) (qad s.data.toList))) cX h4 hf zX zs (by rw[qc8,hag];exact fX))
 rw[qc8,hag] at RA
 have hden:=qe7 159 (a:=qad a.data.toList) hs0
 have hdist:=qet 159 (a:=qad a.data.toList) hs0
 have hb2:=q29 (qad a.data.toList/qad s.data.toList)
 rw[←hdist] at hb2
 clear h1 h2 h3 h4 cX cY fX fY hag hdist hf ca cb cs hs0 hsp hpos
 generalize qad a.data.toList=p at *
 generalize qad b.data.toList=q at *
 generalize qad s.data.toList=t at *
 subst ea
 subst eb
 subst es
 generalize qay 159 p t=X at *
 generalize qay 159 q t=Y at *
 have KDX:=hid (qbr J fun W=>qf7 X t 25 W sX (qbm ss (by decide)) (by decide) hn0)
 have sXt:sm (X/t) 33:=qfy sX ss hn0
 have KW:Hid (qgj (qe8 w k (rt t)) 25 #[.string (rt (X/t))] (.bool true)):=hid (qbv fun W=>by
  have h:=qep (X/t) W (by have:=qap sXt;omega)
  rw[decide_eq_true hden] at h
  exact h)
 have sXp:sm (X-p) 34:=qns sX sa
 have KSB:=hid (qbr J fun W=>qly X p 25 W sX (qbm sa (by decide)) (by decide))
 have sD:sm ((X-p)/t) 42:=qfy sXp ss hn0
 have KDD:=hid (qbr J fun W=>qf7 (X-p) t 34 W sXp (qbm ss (by decide)) (by decide) hn0)
 have KC1:=hid (qbq J sD (qbm (qg9 1 (by decide) (by decide)) (by decide)) (by decide) rfl q5x (z := -1) (by rcases qdz ((X-p)/t) 1 with⟨h5,h6⟩|⟨h5,h6⟩|⟨h5,h6⟩<;>first|exact h5|(exfalso;grind)))
 have KC2:Hid (qgj (qe8 w k (rt t)) 26 #[.string (rt ((X-p)/t))] (.int .i64 (sgn ((X-p)/t)))):=hid (qbv fun W=>qde _ _ rfl W)
 have hz2:¬sgn ((X-p)/t)<0:=by have:=q26 hb2.1;omega
 have KPQ:=hid (qbq J sa sb (by decide) rfl rfl (z:=qbz p q) rfl)
 have hpq:0<qbz p q:=qkv.2 (Rat.not_le.1 hle)
 have hXX:((rt X).toList==(rt X).toList)=true:=beq_self_eq_true _
 have hXX2:((rt X).toList != (rt X).toList)=false:=by simp
 clear J hg hle hden hb2 sa sb ss sX sY sXt sXp sD hn0 za zb zs zX zY
 generalize rt ((X-p)/t)=tD at *
 generalize rt (X-p)=tXp at *
 generalize rt (X/t)=tXt at *
 generalize sgn ((X-p)/t)=z2 at *
 generalize qbz p q=z3 at *
 generalize rt X=tX at *
 generalize rt Y=tY at *
 generalize rt p=tp at *
 generalize rt q=tq at *
 generalize rt t=ts at *
 clear p q t X Y
 have HB:=hid (qbk w k ts)
 obtain⟨c0,c1⟩:=qaa HB.out
 go_enter Tryz.func4,Tryz.ntmps4
 go_wp2_with fail
 refine(HAW.out _ HB.out).mono ?_
 rintro e wN ⟨rfl,hb⟩
 clear HB c0 c1 HAW
 have HB:=hid hb
 clear hb
 obtain⟨c0,c1⟩:=qaa HB.out
 go_wp2_with fail
 refine(HF1.out _ HB.out).mono ?_
 rintro e wN ⟨rfl,hb⟩
 clear HB c0 c1 HF1
 have HB:=hid hb
 clear hb
 obtain⟨c0,c1⟩:=qaa HB.out
 go_wp2_with fail
 refine(HF2.out _ HB.out).mono ?_
 rintro e wN ⟨rfl,hb⟩
 clear HB c0 c1 HF2
 have HB:=hid hb
 clear hb
 obtain⟨c0,c1⟩:=qaa HB.out
 go_wp2_with fail
 refine(HF3.out _ HB.out).mono ?_
 rintro e wN ⟨rfl,hb⟩
 clear HB c0 c1 HF3
 have HB:=hid hb
 clear hb
 obtain⟨c0,c1⟩:=qaa HB.out
 go_wp2_with fail
 refine(HR.out _ HB.out).mono ?_
 rintro e wN ⟨rfl,hb⟩
 clear HB c0 c1 HR
 have HB:=hid hb
 clear hb
 obtain⟨c0,c1⟩:=qaa HB.out
 go_wp2_with fail
 refine(RX.out _ HB.out).mono ?_
 rintro e wN ⟨rfl,hb⟩
 clear HB c0 c1 RX
 have HB:=hid hb
 clear hb
 obtain⟨c0,c1⟩:=qaa HB.out
 go_wp2_with fail
 refine(RY.out _ HB.out).mono ?_
 rintro e wN ⟨rfl,hb⟩
 clear HB c0 c1 RY
 have HB:=hid hb
 clear hb
 obtain⟨c0,c1⟩:=qaa HB.out
 go_wp2_with fail
 refine(HCX.out _ HB.out).mono ?_
 rintro e wN ⟨rfl,hb⟩
 clear HB c0 c1 HCX
 have HB:=hid hb
 clear hb
 obtain⟨c0,c1⟩:=qaa HB.out
 go_wp2_with fail
 refine(HCY.out _ HB.out).mono ?_
 rintro e wN ⟨rfl,hb⟩
 clear HB c0 c1 HCY
 have HB:=hid hb
 clear hb
 obtain⟨c0,c1⟩:=qaa HB.out
 go_wp2_with fail
 refine(RA.out _ HB.out).mono ?_
 rintro e wN ⟨rfl,hb⟩
 clear HB c0 c1 RA
 have HB:=hid hb
 clear hb
 obtain⟨c0,c1⟩:=qaa HB.out
 go_wp2_with fail
 refine(KDX.out _ HB.out).mono ?_
 rintro e wN ⟨rfl,hb⟩
 clear HB c0 c1 KDX
 have HB:=hid hb
 clear hb
 obtain⟨c0,c1⟩:=qaa HB.out
 go_wp2_with fail
 refine(KW.out _ HB.out).mono ?_
 rintro e wN ⟨rfl,hb⟩
 clear HB c0 c1 KW
 have HB:=hid hb
 clear hb
 obtain⟨c0,c1⟩:=qaa HB.out
 go_wp2_with fail
 have HBD:Hid (qe8 w k ts wN.drew):=hid (HB.out.later (Below.refl _ _).drew)
 go_region_held3 (fun W=>W.cell? ⟨w.heap.size,0,none⟩=some (.string k)∧W.cell? ⟨w.heap.size,1,none⟩=some (.string ts)) (first|with_reducible exact qaa HBF.out|with_reducible exact qaa HBE.out|with_reducible exact qaa HBD.out)
  (first
   | (go_at_call 17;(refine(KSB.out _ HBD.out).mono ?_);rintro e wE ⟨rfl,hb⟩;have HBE:=hid hb;clear hb)
   | (go_at_call 21;(refine(KDD.out _ HBE.out).mono ?_);rintro e wF ⟨rfl,hb⟩;have HBF:=hid hb;clear hb))
 clear HB c0 c1
 have HB:=HBF
 obtain⟨c0,c1⟩:=qaa HB.out
 go_wp2_with fail
 refine(KC1.out _ HB.out).mono ?_
 rintro e wN ⟨rfl,hb⟩
 clear HB c0 c1 KC1
 have HB:=hid hb
 clear hb
 obtain⟨c0,c1⟩:=qaa HB.out
 go_wp2_with fail
 refine(KC2.out _ HB.out).mono ?_
 rintro e wN ⟨rfl,hb⟩
 clear HB c0 c1 KC2
 have HB:=hid hb
 clear hb
 obtain⟨c0,c1⟩:=qaa HB.out
 go_wp2_with fail
 refine(KPQ.out _ HB.out).mono ?_
 rintro e wN ⟨rfl,hb⟩
 clear HB c0 c1 KPQ
 have HB:=hid hb
 clear hb
 obtain⟨c0,c1⟩:=qaa HB.out
 go_wp2_with fail
 go_ret
 exact⟨rfl,HB.out.1⟩
theorem qne(a b k s:ByteArray)(w:World)(hg:GW w)(h1:qgv a 8=true)(h2:qgv b 8=true)(h3:qgv s 8=true)(h4:qab k s.data.toList=0)(he:k.toList=[104,97,108,102,45,117,112])(hf:qa8 k=some 160)(hle:qad a.data.toList≤qad b.data.toList):Calls Tryz.prog 4 #[.string a,.string b,.agg #[.string k,.string s]] w fun e w'=>e = .returned (.bool true)∧Below w.heap.size w w':=by
 have J:=qdk hg k s
 obtain⟨ca,ea,sa⟩:=qbb h1 (by decide)
 obtain⟨cb,eb,sb⟩:=qbb h2 (by decide)
 obtain⟨cs,es,ss⟩:=qbb h3 (by decide)
 have za:a.size≤5000:=by rw[ea];have:=qap sa;omega
 have zb:b.size≤5000:=by rw[eb];have:=qap sb;omega
 have zs:s.size≤5000:=by rw[es];have:=qap ss;omega
 have HAW:=hid (qb6 J)
 have HF1:=hid (qaz J a _ h1)
 have HF2:=hid (qaz J b _ h2)
 have HF3:=hid (qaz J s _ h3)
 have HR:=hid (qd3 hg k s 0 zs h4)
 obtain⟨_,hpos,_⟩:=qbn h4
 have hn0:(qad s.data.toList).num≠0:=by omega
 have hs0:qad s.data.toList≠0:=fun e=>hn0 (by rw[e];rfl)
 have hsp:0<qad s.data.toList:=by
  rcases(Rat.le_total:qad s.data.toList≤0∨0≤qad s.data.toList) with h|h
  ·have h5:=qhh h
   rw[qff hpos] at h5
   omega
  ·exact Rat.lt_of_le_of_ne h (fun e=>hs0 e.symm)
 have sX:=qcs 160 sa ss hn0
 have sY:=qcs 160 sb ss hn0
 have fX:=qbw sX (show 25+1≤600 by decide)
 have fY:=qbw sY (show 25+1≤600 by decide)
 have RX:=hid (qa4 J ca h4 hf za zs fX)
 have RY:=hid (qa4 J cb h4 hf zb zs fY)
 have cX:=qcr fX
 have cY:=qcr fY
 have hag:=qdv 160 (a:=qad a.data.toList) hs0
 have zX:(rt (qay 160 (qad a.data.toList) (qad s.data.toList))).size≤5000:=by have:=qap sX;omega
 have zY:(rt (qay 160 (qad b.data.toList) (qad s.data.toList))).size≤5000:=by have:=qap sY;omega
 have HCX:=hid (qaq J _ 0 cX zX)
 have HCY:=hid (qaq J _ 0 cY zY)
 have RA:=hid (qa4 J (x:=rt (qay 160 (qad a.data.toList) (qad s.data.toList))) cX h4 hf zX zs (by rw[qc8,hag];exact fX))
 rw[qc8,hag] at RA
 have hden:=qe7 160 (a:=qad a.data.toList) hs0
 have hdist:=qet 160 (a:=qad a.data.toList) hs0
 have hb2:=qp5 (qad a.data.toList/qad s.data.toList)
 rw[←hdist] at hb2
 have hmono:=qj6 160 hsp hle
 clear h1 h2 h3 h4 cX cY fX fY hag hdist hf ca cb cs hs0 hsp hpos
 generalize qad a.data.toList=p at *
 generalize qad b.data.toList=q at *
 generalize qad s.data.toList=t at *
 subst ea
 subst eb
 subst es
 generalize qay 160 p t=X at *
 generalize qay 160 q t=Y at *
 have KDX:=hid (qbr J fun W=>qf7 X t 25 W sX (qbm ss (by decide)) (by decide) hn0)
 have sXt:sm (X/t) 33:=qfy sX ss hn0
 have KW:Hid (qgj (qe8 w k (rt t)) 25 #[.string (rt (X/t))] (.bool true)):=hid (qbv fun W=>by
  have h:=qep (X/t) W (by have:=qap sXt;omega)
  rw[decide_eq_true hden] at h
  exact h)
 have sXp:sm (X-p) 34:=qns sX sa
 have KSB:=hid (qbr J fun W=>qly X p 25 W sX (qbm sa (by decide)) (by decide))
 have sD:sm ((X-p)/t) 42:=qfy sXp ss hn0
 have KDD:=hid (qbr J fun W=>qf7 (X-p) t 34 W sXp (qbm ss (by decide)) (by decide) hn0)
 have KAB:Hid (qgj (qe8 w k (rt t)) 27 #[.string (rt ((X-p)/t))] (.string (rt (qmg ((X-p)/t))))):=hid (qbv fun W=>qty _ W)
 have KC1:=hid (qbq J (qxk sD) (qbm (qg9 (1/2) (by decide +kernel) (by decide +kernel)) (by decide)) (by decide) rfl qmb (z:=qbz (qmg ((X-p)/t)) (1/2)) rfl)
 have hz1:¬0<qbz (qmg ((X-p)/t)) (1/2):=by have:=qe4.2 (qsh (Rat.le_of_lt hb2.1) hb2.2);omega
 have hnm:((rt ((X-p)/t)).toList==[45,49,47,50])=false:=beq_eq_false_iff_ne.2 fun e=>by
  have e2:rt ((X-p)/t)=rt (-(1/2)):=by
   rw[←qrc]
   rw[ByteArray.toList_eq] at e
   exact qb7 e
  have h5:=hb2.1
  rw[q5w e2] at h5
  exact absurd h5 Rat.lt_irrefl
 have KPQ:=hid (qbq J sa sb (by decide) rfl rfl (z:=qbz p q) rfl)
 have hpq:¬0<qbz p q:=by have:=qe4.2 hle;omega
 have KXY:=hid (qbq J sX sY (by decide) rfl rfl (z:=qbz X Y) rfl)
 have hxy:qbz X Y≤0:=qe4.2 hmono
 have hXX:((rt X).toList==(rt X).toList)=true:=beq_self_eq_true _
 have hXX2:((rt X).toList != (rt X).toList)=false:=by simp
 clear J hg hle hden hb2 sa sb ss sX sY sXt sXp sD hn0 za zb zs zX zY hmono
 generalize rt ((X-p)/t)=tD at *
 generalize rt (X-p)=tXp at *
 generalize rt (X/t)=tXt at *
 generalize rt (qmg ((X-p)/t))=tA at *
 generalize qbz (qmg ((X-p)/t)) (1/2)=z1 at *
 generalize qbz p q=z3 at *
 generalize qbz X Y=z4 at *
 generalize rt X=tX at *
 generalize rt Y=tY at *
 generalize rt p=tp at *
 generalize rt q=tq at *
 generalize rt t=ts at *
 clear p q t X Y
 have HB:=hid (qbk w k ts)
 obtain⟨c0,c1⟩:=qaa HB.out
 go_enter Tryz.func4,Tryz.ntmps4
 go_wp2_with fail
 refine(HAW.out _ HB.out).mono ?_
 rintro e wN ⟨rfl,hb⟩
 clear HB c0 c1 HAW
 have HB:=hid hb
 clear hb
 obtain⟨c0,c1⟩:=qaa HB.out
 go_wp2_with fail
 refine(HF1.out _ HB.out).mono ?_
 rintro e wN ⟨rfl,hb⟩
 clear HB c0 c1 HF1
 have HB:=hid hb
 clear hb
 obtain⟨c0,c1⟩:=qaa HB.out
 go_wp2_with fail
 refine(HF2.out _ HB.out).mono ?_
 rintro e wN ⟨rfl,hb⟩
 clear HB c0 c1 HF2
 have HB:=hid hb
 clear hb
 obtain⟨c0,c1⟩:=qaa HB.out
 go_wp2_with fail
 refine(HF3.out _ HB.out).mono ?_
 rintro e wN ⟨rfl,hb⟩
 clear HB c0 c1 HF3
 have HB:=hid hb
 clear hb
 obtain⟨c0,c1⟩:=qaa HB.out
 go_wp2_with fail
 refine(HR.out _ HB.out).mono ?_
 rintro e wN ⟨rfl,hb⟩
 clear HB c0 c1 HR
 have HB:=hid hb
 clear hb
 obtain⟨c0,c1⟩:=qaa HB.out
 go_wp2_with fail
 refine(RX.out _ HB.out).mono ?_
 rintro e wN ⟨rfl,hb⟩
 clear HB c0 c1 RX
 have HB:=hid hb
 clear hb
 obtain⟨c0,c1⟩:=qaa HB.out
 go_wp2_with fail
 refine(RY.out _ HB.out).mono ?_
 rintro e wN ⟨rfl,hb⟩
 clear HB c0 c1 RY
 have HB:=hid hb
 clear hb
 obtain⟨c0,c1⟩:=qaa HB.out
 go_wp2_with fail
 refine(HCX.out _ HB.out).mono ?_
 rintro e wN ⟨rfl,hb⟩
 clear HB c0 c1 HCX
 have HB:=hid hb
 clear hb
 obtain⟨c0,c1⟩:=qaa HB.out
 go_wp2_with fail
 refine(HCY.out _ HB.out).mono ?_
 rintro e wN ⟨rfl,hb⟩
 clear HB c0 c1 HCY
 have HB:=hid hb
 clear hb
 obtain⟨c0,c1⟩:=qaa HB.out
 go_wp2_with fail
 refine(RA.out _ HB.out).mono ?_
 rintro e wN ⟨rfl,hb⟩
 clear HB c0 c1 RA
 have HB:=hid hb
 clear hb
 obtain⟨c0,c1⟩:=qaa HB.out
 go_wp2_with fail
 refine(KDX.out _ HB.out).mono ?_
 rintro e wN ⟨rfl,hb⟩
 clear HB c0 c1 KDX
 have HB:=hid hb
 clear hb
 obtain⟨c0,c1⟩:=qaa HB.out
 go_wp2_with fail
 refine(KW.out _ HB.out).mono ?_
 rintro e wN ⟨rfl,hb⟩
 clear HB c0 c1 KW
 have HB:=hid hb
 clear hb
 obtain⟨c0,c1⟩:=qaa HB.out
 go_wp2_with fail
 have HBD:Hid (qe8 w k ts wN.drew):=hid (HB.out.later (Below.refl _ _).drew)
 go_region_held3 (fun W=>W.cell? ⟨w.heap.size,0,none⟩=some (.string k)∧W.cell? ⟨w.heap.size,1,none⟩=some (.string ts)) (first|with_reducible exact qaa HBF.out|with_reducible exact qaa HBE.out|with_reducible exact qaa HBD.out)
  (first
   | (go_at_call 17;(refine(KSB.out _ HBD.out).mono ?_);rintro e wE ⟨rfl,hb⟩;have HBE:=hid hb;clear hb)
   | (go_at_call 21;(refine(KDD.out _ HBE.out).mono ?_);rintro e wF ⟨rfl,hb⟩;have HBF:=hid hb;clear hb))
 clear HB c0 c1
 have HB:=HBF
 obtain⟨c0,c1⟩:=qaa HB.out
 go_wp2_with fail
 refine(KAB.out _ HB.out).mono ?_
 rintro e wN ⟨rfl,hb⟩
 clear HB c0 c1 KAB
 have HB:=hid hb
 clear hb
 obtain⟨c0,c1⟩:=qaa HB.out
 go_wp2_with fail
 refine(KC1.out _ HB.out).mono ?_
 rintro e wN ⟨rfl,hb⟩
 clear HB c0 c1 KC1
 have HB:=hid hb
 clear hb
 obtain⟨c0,c1⟩:=qaa HB.out
 go_wp2_with fail
 refine(KPQ.out _ HB.out).mono ?_
 rintro e wN ⟨rfl,hb⟩
 clear HB c0 c1 KPQ
 have HB:=hid hb
 clear hb
 obtain⟨c0,c1⟩:=qaa HB.out
 go_wp2_with fail
 refine(KXY.out _ HB.out).mono ?_
 rintro e wN ⟨rfl,hb⟩
 clear HB c0 c1 KXY
 have HB:=hid hb
 clear hb
 obtain⟨c0,c1⟩:=qaa HB.out
 go_wp2_with fail
 go_ret
 exact⟨rfl,HB.out.1⟩
theorem qnf(a b k s:ByteArray)(w:World)(hg:GW w)(h1:qgv a 8=true)(h2:qgv b 8=true)(h3:qgv s 8=true)(h4:qab k s.data.toList=0)(he:k.toList=[104,97,108,102,45,117,112])(hf:qa8 k=some 160)(hle:¬qad a.data.toList≤qad b.data.toList):Calls Tryz.prog 4 #[.string a,.string b,.agg #[.string k,.string s]] w fun e w'=>e = .returned (.bool true)∧Below w.heap.size w w':=by
 have J:=qdk hg k s
 obtain⟨ca,ea,sa⟩:=qbb h1 (by decide)
 obtain⟨cb,eb,sb⟩:=qbb h2 (by decide)
 obtain⟨cs,es,ss⟩:=qbb h3 (by decide)
 have za:a.size≤5000:=by rw[ea];have:=qap sa;omega
 have zb:b.size≤5000:=by rw[eb];have:=qap sb;omega
 have zs:s.size≤5000:=by rw[es];have:=qap ss;omega
 have HAW:=hid (qb6 J)
 have HF1:=hid (qaz J a _ h1)
 have HF2:=hid (qaz J b _ h2)
 have HF3:=hid (qaz J s _ h3)
 have HR:=hid (qd3 hg k s 0 zs h4)
 obtain⟨_,hpos,_⟩:=qbn h4
 have hn0:(qad s.data.toList).num≠0:=by omega
 have hs0:qad s.data.toList≠0:=fun e=>hn0 (by rw[e];rfl)
 have hsp:0<qad s.data.toList:=by
  rcases(Rat.le_total:qad s.data.toList≤0∨0≤qad s.data.toList) with h|h
  ·have h5:=qhh h
   rw[qff hpos] at h5
   omega
  ·exact Rat.lt_of_le_of_ne h (fun e=>hs0 e.symm)
 have sX:=qcs 160 sa ss hn0
 have sY:=qcs 160 sb ss hn0
 have fX:=qbw sX (show 25+1≤600 by decide)
 have fY:=qbw sY (show 25+1≤600 by decide)
 have RX:=hid (qa4 J ca h4 hf za zs fX)
 have RY:=hid (qa4 J cb h4 hf zb zs fY)
 have cX:=qcr fX
 have cY:=qcr fY
 have hag:=qdv 160 (a:=qad a.data.toList) hs0
 have zX:(rt (qay 160 (qad a.data.toList) (qad s.data.toList))).size≤5000:=by have:=qap sX;omega
 have zY:(rt (qay 160 (qad b.data.toList) (qad s.data.toList))).size≤5000:=by have:=qap sY;omega
 have HCX:=hid (qaq J _ 0 cX zX)
 have HCY:=hid (qaq J _ 0 cY zY)
 have RA:=hid (qa4 J (x:=rt (qay 160 (qad a.data.toList) (qad s.data.toList))) cX h4 hf zX zs (by rw[qc8,hag];exact fX))
 rw[qc8,hag] at RA
 have hden:=qe7 160 (a:=qad a.data.toList) hs0
 have hdist:=qet 160 (a:=qad a.data.toList) hs0
 have hb2:=qp5 (qad a.data.toList/qad s.data.toList)
 rw[←hdist] at hb2
 clear h1 h2 h3 h4 cX cY fX fY hag hdist hf ca cb cs hs0 hsp hpos
 generalize qad a.data.toList=p at *
 generalize qad b.data.toList=q at *
 generalize qad s.data.toList=t at *
 subst ea
 subst eb
 subst es
 generalize qay 160 p t=X at *
 generalize qay 160 q t=Y at *
 have KDX:=hid (qbr J fun W=>qf7 X t 25 W sX (qbm ss (by decide)) (by decide) hn0)
 have sXt:sm (X/t) 33:=qfy sX ss hn0
 have KW:Hid (qgj (qe8 w k (rt t)) 25 #[.string (rt (X/t))] (.bool true)):=hid (qbv fun W=>by
  have h:=qep (X/t) W (by have:=qap sXt;omega)
  rw[decide_eq_true hden] at h
  exact h)
 have sXp:sm (X-p) 34:=qns sX sa
 have KSB:=hid (qbr J fun W=>qly X p 25 W sX (qbm sa (by decide)) (by decide))
 have sD:sm ((X-p)/t) 42:=qfy sXp ss hn0
 have KDD:=hid (qbr J fun W=>qf7 (X-p) t 34 W sXp (qbm ss (by decide)) (by decide) hn0)
 have KAB:Hid (qgj (qe8 w k (rt t)) 27 #[.string (rt ((X-p)/t))] (.string (rt (qmg ((X-p)/t))))):=hid (qbv fun W=>qty _ W)
 have KC1:=hid (qbq J (qxk sD) (qbm (qg9 (1/2) (by decide +kernel) (by decide +kernel)) (by decide)) (by decide) rfl qmb (z:=qbz (qmg ((X-p)/t)) (1/2)) rfl)
 have hz1:¬0<qbz (qmg ((X-p)/t)) (1/2):=by have:=qe4.2 (qsh (Rat.le_of_lt hb2.1) hb2.2);omega
 have hnm:((rt ((X-p)/t)).toList==[45,49,47,50])=false:=beq_eq_false_iff_ne.2 fun e=>by
  have e2:rt ((X-p)/t)=rt (-(1/2)):=by
   rw[←qrc]
   rw[ByteArray.toList_eq] at e
   exact qb7 e
  have h5:=hb2.1
  rw[q5w e2] at h5
  exact absurd h5 Rat.lt_irrefl
 have KPQ:=hid (qbq J sa sb (by decide) rfl rfl (z:=qbz p q) rfl)
 have hpq:0<qbz p q:=qkv.2 (Rat.not_le.1 hle)
 have hXX:((rt X).toList==(rt X).toList)=true:=beq_self_eq_true _
 have hXX2:((rt X).toList != (rt X).toList)=false:=by simp
 clear J hg hle hden hb2 sa sb ss sX sY sXt sXp sD hn0 za zb zs zX zY
 generalize rt ((X-p)/t)=tD at *
 generalize rt (X-p)=tXp at *
 generalize rt (X/t)=tXt at *
 generalize rt (qmg ((X-p)/t))=tA at *
 generalize qbz (qmg ((X-p)/t)) (1/2)=z1 at *
 generalize qbz p q=z3 at *
 generalize rt X=tX at *
 generalize rt Y=tY at *
 generalize rt p=tp at *
 generalize rt q=tq at *
 generalize rt t=ts at *
 clear p q t X Y
 have HB:=hid (qbk w k ts)
 obtain⟨c0,c1⟩:=qaa HB.out
 go_enter Tryz.func4,Tryz.ntmps4
 go_wp2_with fail
 refine(HAW.out _ HB.out).mono ?_
 rintro e wN ⟨rfl,hb⟩
 clear HB c0 c1 HAW
 have HB:=hid hb
 clear hb
 obtain⟨c0,c1⟩:=qaa HB.out
 go_wp2_with fail
 refine(HF1.out _ HB.out).mono ?_
 rintro e wN ⟨rfl,hb⟩
 clear HB c0 c1 HF1
 have HB:=hid hb
 clear hb
 obtain⟨c0,c1⟩:=qaa HB.out
 go_wp2_with fail
 refine(HF2.out _ HB.out).mono ?_
 rintro e wN ⟨rfl,hb⟩
 clear HB c0 c1 HF2
 have HB:=hid hb
 clear hb
 obtain⟨c0,c1⟩:=qaa HB.out
 go_wp2_with fail
 refine(HF3.out _ HB.out).mono ?_
 rintro e wN ⟨rfl,hb⟩
 clear HB c0 c1 HF3
 have HB:=hid hb
 clear hb
 obtain⟨c0,c1⟩:=qaa HB.out
 go_wp2_with fail
 refine(HR.out _ HB.out).mono ?_
 rintro e wN ⟨rfl,hb⟩
 clear HB c0 c1 HR
 have HB:=hid hb
 clear hb
 obtain⟨c0,c1⟩:=qaa HB.out
 go_wp2_with fail
 refine(RX.out _ HB.out).mono ?_
 rintro e wN ⟨rfl,hb⟩
 clear HB c0 c1 RX
 have HB:=hid hb
 clear hb
 obtain⟨c0,c1⟩:=qaa HB.out
 go_wp2_with fail
 refine(RY.out _ HB.out).mono ?_
 rintro e wN ⟨rfl,hb⟩
 clear HB c0 c1 RY
 have HB:=hid hb
 clear hb
 obtain⟨c0,c1⟩:=qaa HB.out
 go_wp2_with fail
 refine(HCX.out _ HB.out).mono ?_
 rintro e wN ⟨rfl,hb⟩
 clear HB c0 c1 HCX
 have HB:=hid hb
 clear hb
 obtain⟨c0,c1⟩:=qaa HB.out
 go_wp2_with fail
 refine(HCY.out _ HB.out).mono ?_
 rintro e wN ⟨rfl,hb⟩
 clear HB c0 c1 HCY
 have HB:=hid hb
 clear hb
 obtain⟨c0,c1⟩:=qaa HB.out
 go_wp2_with fail
 refine(RA.out _ HB.out).mono ?_
 rintro e wN ⟨rfl,hb⟩
 clear HB c0 c1 RA
 have HB:=hid hb
 clear hb
 obtain⟨c0,c1⟩:=qaa HB.out
 go_wp2_with fail
 refine(KDX.out _ HB.out).mono ?_
 rintro e wN ⟨rfl,hb⟩
 clear HB c0 c1 KDX
 have HB:=hid hb
 clear hb
 obtain⟨c0,c1⟩:=qaa HB.out
 go_wp2_with fail
 refine(KW.out _ HB.out).mono ?_
 rintro e wN ⟨rfl,hb⟩
 clear HB c0 c1 KW
 have HB:=hid hb
 clear hb
 obtain⟨c0,c1⟩:=qaa HB.out
 go_wp2_with fail
 have HBD:Hid (qe8 w k ts wN.drew):=hid (HB.out.later (Below.refl _ _).drew)
 go_region_held3 (fun W=>W.cell? ⟨w.heap.size,0,none⟩=some (.string k)∧W.cell? ⟨w.heap.size,1,none⟩=some (.string ts)) (first|with_reducible exact qaa HBF.out|with_reducible exact qaa HBE.out|with_reducible exact qaa HBD.out)
  (first
   | (go_at_call 17;(refine(KSB.out _ HBD.out).mono ?_);rintro e wE ⟨rfl,hb⟩;have HBE:=hid hb;clear hb)
   | (go_at_call 21;(refine(KDD.out _ HBE.out).mono ?_);rintro e wF ⟨rfl,hb⟩;have HBF:=hid hb;clear hb))
 clear HB c0 c1
 have HB:=HBF
 obtain⟨c0,c1⟩:=qaa HB.out
 go_wp2_with fail
 refine(KAB.out _ HB.out).mono ?_
 rintro e wN ⟨rfl,hb⟩
 clear HB c0 c1 KAB
 have HB:=hid hb
 clear hb
 obtain⟨c0,c1⟩:=qaa HB.out
 go_wp2_with fail
 refine(KC1.out _ HB.out).mono ?_
 rintro e wN ⟨rfl,hb⟩
 clear HB c0 c1 KC1
 have HB:=hid hb
 clear hb
 obtain⟨c0,c1⟩:=qaa HB.out
 go_wp2_with fail
 refine(KPQ.out _ HB.out).mono ?_
 rintro e wN ⟨rfl,hb⟩
 clear HB c0 c1 KPQ
 have HB:=hid hb
 clear hb
 obtain⟨c0,c1⟩:=qaa HB.out
 go_wp2_with fail
 go_ret
 exact⟨rfl,HB.out.1⟩
theorem qk3(a b k s:ByteArray)(w:World)(hg:GW w)(h1:qgv a 8=true)(h2:qgv b 8=true)(h3:qgv s 8=true)(h4:qab k s.data.toList=0)(he:k.toList=[104,97,108,102,45,101,118,101,110])(hf:qa8 k=some 161)(hle:qad a.data.toList≤qad b.data.toList):Calls Tryz.prog 4 #[.string a,.string b,.agg #[.string k,.string s]] w fun e w'=>e = .returned (.bool true)∧Below w.heap.size w w':=by
 have J:=qdk hg k s
 obtain⟨ca,ea,sa⟩:=qbb h1 (by decide)
 obtain⟨cb,eb,sb⟩:=qbb h2 (by decide)
 obtain⟨cs,es,ss⟩:=qbb h3 (by decide)
 have za:a.size≤5000:=by rw[ea];have:=qap sa;omega
 have zb:b.size≤5000:=by rw[eb];have:=qap sb;omega
 have zs:s.size≤5000:=by rw[es];have:=qap ss;omega
 have HAW:=hid (qb6 J)
 have HF1:=hid (qaz J a _ h1)
 have HF2:=hid (qaz J b _ h2)
 have HF3:=hid (qaz J s _ h3)
 have HR:=hid (qd3 hg k s 0 zs h4)
 obtain⟨_,hpos,_⟩:=qbn h4
 have hn0:(qad s.data.toList).num≠0:=by omega
 have hs0:qad s.data.toList≠0:=fun e=>hn0 (by rw[e];rfl)
 have hsp:0<qad s.data.toList:=by
  rcases(Rat.le_total:qad s.data.toList≤0∨0≤qad s.data.toList) with h|h
  ·have h5:=qhh h
   rw[qff hpos] at h5
   omega
  ·exact Rat.lt_of_le_of_ne h (fun e=>hs0 e.symm)
 have sX:=qcs 161 sa ss hn0
 have sY:=qcs 161 sb ss hn0
 have fX:=qbw sX (show 25+1≤600 by decide)
 have fY:=qbw sY (show 25+1≤600 by decide)
 have RX:=hid (qa4 J ca h4 hf za zs fX)
 have RY:=hid (qa4 J cb h4 hf zb zs fY)
 have cX:=qcr fX
 have cY:=qcr fY
 have hag:=qdv 161 (a:=qad a.data.toList) hs0
 have zX:(rt (qay 161 (qad a.data.toList) (qad s.data.toList))).size≤5000:=by have:=qap sX;omega
 have zY:(rt (qay 161 (qad b.data.toList) (qad s.data.toList))).size≤5000:=by have:=qap sY;omega
 have HCX:=hid (qaq J _ 0 cX zX)
 have HCY:=hid (qaq J _ 0 cY zY)
 have RA:=hid (qa4 J (x:=rt (qay 161 (qad a.data.toList) (qad s.data.toList))) cX h4 hf zX zs (by rw[qc8,hag];exact fX))
 rw[qc8,hag] at RA
 have hden:=qe7 161 (a:=qad a.data.toList) hs0
 have hdist:=qet 161 (a:=qad a.data.toList) hs0
 have hb2:=qmd (qad a.data.toList/qad s.data.toList)
 rw[←hdist] at hb2
 have hmono:=qj6 161 hsp hle
 clear h1 h2 h3 h4 cX cY fX fY hag hdist hf ca cb cs hs0 hsp hpos
 generalize qad a.data.toList=p at *
 generalize qad b.data.toList=q at *
 generalize qad s.data.toList=t at *
 subst ea
 subst eb
 subst es
 generalize qay 161 p t=X at *
 generalize qay 161 q t=Y at *
 have KDX:=hid (qbr J fun W=>qf7 X t 25 W sX (qbm ss (by decide)) (by decide) hn0)
 have sXt:sm (X/t) 33:=qfy sX ss hn0
 have KW:Hid (qgj (qe8 w k (rt t)) 25 #[.string (rt (X/t))] (.bool true)):=hid (qbv fun W=>by
  have h:=qep (X/t) W (by have:=qap sXt;omega)
  rw[decide_eq_true hden] at h
  exact h)
 have sXp:sm (X-p) 34:=qns sX sa
 have KSB:=hid (qbr J fun W=>qly X p 25 W sX (qbm sa (by decide)) (by decide))
 have sD:sm ((X-p)/t) 42:=qfy sXp ss hn0
 have KDD:=hid (qbr J fun W=>qf7 (X-p) t 34 W sXp (qbm ss (by decide)) (by decide) hn0)
 have KAB:Hid (qgj (qe8 w k (rt t)) 27 #[.string (rt ((X-p)/t))] (.string (rt (qmg ((X-p)/t))))):=hid (qbv fun W=>qty _ W)
 have KC1:=hid (qbq J (qxk sD) (qbm (qg9 (1/2) (by decide +kernel) (by decide +kernel)) (by decide)) (by decide) rfl qmb (z:=qbz (qmg ((X-p)/t)) (1/2)) rfl)
 have hz1:¬0<qbz (qmg ((X-p)/t)) (1/2):=by have:=qe4.2 (qsh hb2.1 hb2.2);omega
 have KPQ:=hid (qbq J sa sb (by decide) rfl rfl (z:=qbz p q) rfl)
 have hpq:¬0<qbz p q:=by have:=qe4.2 hle;omega
 have KXY:=hid (qbq J sX sY (by decide) rfl rfl (z:=qbz X Y) rfl)
 have hxy:qbz X Y≤0:=qe4.2 hmono
 have hXX:((rt X).toList==(rt X).toList)=true:=beq_self_eq_true _
 have hXX2:((rt X).toList != (rt X).toList)=false:=by simp
 clear J hg hle hden hb2 sa sb ss sX sY sXt sXp sD hn0 za zb zs zX zY hmono
 generalize rt ((X-p)/t)=tD at *
 generalize rt (X-p)=tXp at *
 generalize rt (X/t)=tXt at *
 generalize rt (qmg ((X-p)/t))=tA at *
 generalize qbz (qmg ((X-p)/t)) (1/2)=z1 at *
 generalize qbz p q=z3 at *
 generalize qbz X Y=z4 at *
 generalize rt X=tX at *
 generalize rt Y=tY at *
 generalize rt p=tp at *
 generalize rt q=tq at *
 generalize rt t=ts at *
 clear p q t X Y
 have HB:=hid (qbk w k ts)
 obtain⟨c0,c1⟩:=qaa HB.out
 go_enter Tryz.func4,Tryz.ntmps4
 go_wp2_with fail
 refine(HAW.out _ HB.out).mono ?_
 rintro e wN ⟨rfl,hb⟩
 clear HB c0 c1 HAW
 have HB:=hid hb
 clear hb
 obtain⟨c0,c1⟩:=qaa HB.out
 go_wp2_with fail
 refine(HF1.out _ HB.out).mono ?_
 rintro e wN ⟨rfl,hb⟩
 clear HB c0 c1 HF1
 have HB:=hid hb
 clear hb
 obtain⟨c0,c1⟩:=qaa HB.out
 go_wp2_with fail
 refine(HF2.out _ HB.out).mono ?_
 rintro e wN ⟨rfl,hb⟩
 clear HB c0 c1 HF2
 have HB:=hid hb
 clear hb
 obtain⟨c0,c1⟩:=qaa HB.out
 go_wp2_with fail
 refine(HF3.out _ HB.out).mono ?_
 rintro e wN ⟨rfl,hb⟩
 clear HB c0 c1 HF3
 have HB:=hid hb
 clear hb
 obtain⟨c0,c1⟩:=qaa HB.out
 go_wp2_with fail
 refine(HR.out _ HB.out).mono ?_
 rintro e wN ⟨rfl,hb⟩
 clear HB c0 c1 HR
 have HB:=hid hb
 clear hb
 obtain⟨c0,c1⟩:=qaa HB.out
 go_wp2_with fail
 refine(RX.out _ HB.out).mono ?_
 rintro e wN ⟨rfl,hb⟩
 clear HB c0 c1 RX
 have HB:=hid hb
 clear hb
 obtain⟨c0,c1⟩:=qaa HB.out
 go_wp2_with fail
 refine(RY.out _ HB.out).mono ?_
 rintro e wN ⟨rfl,hb⟩
 clear HB c0 c1 RY
 have HB:=hid hb
 clear hb
 obtain⟨c0,c1⟩:=qaa HB.out
 go_wp2_with fail
 refine(HCX.out _ HB.out).mono ?_
 rintro e wN ⟨rfl,hb⟩
 clear HB c0 c1 HCX
 have HB:=hid hb
 clear hb
 obtain⟨c0,c1⟩:=qaa HB.out
 go_wp2_with fail
 refine(HCY.out _ HB.out).mono ?_
 rintro e wN ⟨rfl,hb⟩
 clear HB c0 c1 HCY
 have HB:=hid hb
 clear hb
 obtain⟨c0,c1⟩:=qaa HB.out
 go_wp2_with fail
 refine(RA.out _ HB.out).mono ?_
 rintro e wN ⟨rfl,hb⟩
 clear HB c0 c1 RA
 have HB:=hid hb
 clear hb
 obtain⟨c0,c1⟩:=qaa HB.out
 go_wp2_with fail
 refine(KDX.out _ HB.out).mono ?_
 rintro e wN ⟨rfl,hb⟩
 clear HB c0 c1 KDX
 have HB:=hid hb
 clear hb
 obtain⟨c0,c1⟩:=qaa HB.out
 go_wp2_with fail
 refine(KW.out _ HB.out).mono ?_
 rintro e wN ⟨rfl,hb⟩
 clear HB c0 c1 KW
 have HB:=hid hb
 clear hb
 obtain⟨c0,c1⟩:=qaa HB.out
 go_wp2_with fail
 have HBD:Hid (qe8 w k ts wN.drew):=hid (HB.out.later (Below.refl _ _).drew)
 go_region_held3 (fun W=>W.cell? ⟨w.heap.size,0,none⟩=some (.string k)∧W.cell? ⟨w.heap.size,1,none⟩=some (.string ts)) (first|with_reducible exact qaa HBF.out|with_reducible exact qaa HBE.out|with_reducible exact qaa HBD.out)
  (first
   | (go_at_call 17;(refine(KSB.out _ HBD.out).mono ?_);rintro e wE ⟨rfl,hb⟩;have HBE:=hid hb;clear hb)
   | (go_at_call 21;(refine(KDD.out _ HBE.out).mono ?_);rintro e wF ⟨rfl,hb⟩;have HBF:=hid hb;clear hb))
 clear HB c0 c1
 have HB:=HBF
 obtain⟨c0,c1⟩:=qaa HB.out
 go_wp2_with fail
 refine(KAB.out _ HB.out).mono ?_
 rintro e wN ⟨rfl,hb⟩
 clear HB c0 c1 KAB
 have HB:=hid hb
 clear hb
 obtain⟨c0,c1⟩:=qaa HB.out
 go_wp2_with fail
 refine(KC1.out _ HB.out).mono ?_
 rintro e wN ⟨rfl,hb⟩
 clear HB c0 c1 KC1
 have HB:=hid hb
 clear hb
 obtain⟨c0,c1⟩:=qaa HB.out
 go_wp2_with fail
 refine(KPQ.out _ HB.out).mono ?_
 rintro e wN ⟨rfl,hb⟩
 clear HB c0 c1 KPQ
 have HB:=hid hb
 clear hb
 obtain⟨c0,c1⟩:=qaa HB.out
 go_wp2_with fail
 refine(KXY.out _ HB.out).mono ?_
 rintro e wN ⟨rfl,hb⟩
 clear HB c0 c1 KXY
 have HB:=hid hb
 clear hb
 obtain⟨c0,c1⟩:=qaa HB.out
 go_wp2_with fail
 go_ret
 exact⟨rfl,HB.out.1⟩
theorem qk4(a b k s:ByteArray)(w:World)(hg:GW w)(h1:qgv a 8=true)(h2:qgv b 8=true)(h3:qgv s 8=true)(h4:qab k s.data.toList=0)(he:k.toList=[104,97,108,102,45,101,118,101,110])(hf:qa8 k=some 161)(hle:¬qad a.data.toList≤qad b.data.toList):Calls Tryz.prog 4 #[.string a,.string b,.agg #[.string k,.string s]] w fun e w'=>e = .returned (.bool true)∧Below w.heap.size w w':=by
 have J:=qdk hg k s
 obtain⟨ca,ea,sa⟩:=qbb h1 (by decide)
 obtain⟨cb,eb,sb⟩:=qbb h2 (by decide)
 obtain⟨cs,es,ss⟩:=qbb h3 (by decide)
 have za:a.size≤5000:=by rw[ea];have:=qap sa;omega
 have zb:b.size≤5000:=by rw[eb];have:=qap sb;omega
 have zs:s.size≤5000:=by rw[es];have:=qap ss;omega
 have HAW:=hid (qb6 J)
 have HF1:=hid (qaz J a _ h1)
 have HF2:=hid (qaz J b _ h2)
 have HF3:=hid (qaz J s _ h3)
 have HR:=hid (qd3 hg k s 0 zs h4)
 obtain⟨_,hpos,_⟩:=qbn h4
 have hn0:(qad s.data.toList).num≠0:=by omega
 have hs0:qad s.data.toList≠0:=fun e=>hn0 (by rw[e];rfl)
 have hsp:0<qad s.data.toList:=by
  rcases(Rat.le_total:qad s.data.toList≤0∨0≤qad s.data.toList) with h|h
  ·have h5:=qhh h
   rw[qff hpos] at h5
   omega
  ·exact Rat.lt_of_le_of_ne h (fun e=>hs0 e.symm)
 have sX:=qcs 161 sa ss hn0
 have sY:=qcs 161 sb ss hn0
 have fX:=qbw sX (show 25+1≤600 by decide)
 have fY:=qbw sY (show 25+1≤600 by decide)
 have RX:=hid (qa4 J ca h4 hf za zs fX)
 have RY:=hid (qa4 J cb h4 hf zb zs fY)
 have cX:=qcr fX
 have cY:=qcr fY
 have hag:=qdv 161 (a:=qad a.data.toList) hs0
 have zX:(rt (qay 161 (qad a.data.toList) (qad s.data.toList))).size≤5000:=by have:=qap sX;omega
 have zY:(rt (qay 161 (qad b.data.toList) (qad s.data.toList))).size≤5000:=by have:=qap sY;omega
 have HCX:=hid (qaq J _ 0 cX zX)
 have HCY:=hid (qaq J _ 0 cY zY)
 have RA:=hid (qa4 J (x:=rt (qay 161 (qad a.data.toList) (qad s.data.toList))) cX h4 hf zX zs (by rw[qc8,hag];exact fX))
 rw[qc8,hag] at RA
 have hden:=qe7 161 (a:=qad a.data.toList) hs0
 have hdist:=qet 161 (a:=qad a.data.toList) hs0
 have hb2:=qmd (qad a.data.toList/qad s.data.toList)
 rw[←hdist] at hb2
 clear h1 h2 h3 h4 cX cY fX fY hag hdist hf ca cb cs hs0 hsp hpos
 generalize qad a.data.toList=p at *
 generalize qad b.data.toList=q at *
 generalize qad s.data.toList=t at *
 subst ea
 subst eb
 subst es
 generalize qay 161 p t=X at *
 generalize qay 161 q t=Y at *
 have KDX:=hid (qbr J fun W=>qf7 X t 25 W sX (qbm ss (by decide)) (by decide) hn0)
 have sXt:sm (X/t) 33:=qfy sX ss hn0
 have KW:Hid (qgj (qe8 w k (rt t)) 25 #[.string (rt (X/t))] (.bool true)):=hid (qbv fun W=>by
  have h:=qep (X/t) W (by have:=qap sXt;omega)
  rw[decide_eq_true hden] at h
  exact h)
 have sXp:sm (X-p) 34:=qns sX sa
 have KSB:=hid (qbr J fun W=>qly X p 25 W sX (qbm sa (by decide)) (by decide))
 have sD:sm ((X-p)/t) 42:=qfy sXp ss hn0
 have KDD:=hid (qbr J fun W=>qf7 (X-p) t 34 W sXp (qbm ss (by decide)) (by decide) hn0)
 have KAB:Hid (qgj (qe8 w k (rt t)) 27 #[.string (rt ((X-p)/t))] (.string (rt (qmg ((X-p)/t))))):=hid (qbv fun W=>qty _ W)
 have KC1:=hid (qbq J (qxk sD) (qbm (qg9 (1/2) (by decide +kernel) (by decide +kernel)) (by decide)) (by decide) rfl qmb (z:=qbz (qmg ((X-p)/t)) (1/2)) rfl)
 have hz1:¬0<qbz (qmg ((X-p)/t)) (1/2):=by have:=qe4.2 (qsh hb2.1 hb2.2);omega
 have KPQ:=hid (qbq J sa sb (by decide) rfl rfl (z:=qbz p q) rfl)
 have hpq:0<qbz p q:=qkv.2 (Rat.not_le.1 hle)
 have hXX:((rt X).toList==(rt X).toList)=true:=beq_self_eq_true _
 have hXX2:((rt X).toList != (rt X).toList)=false:=by simp
 clear J hg hle hden hb2 sa sb ss sX sY sXt sXp sD hn0 za zb zs zX zY
 generalize rt ((X-p)/t)=tD at *
 generalize rt (X-p)=tXp at *
 generalize rt (X/t)=tXt at *
 generalize rt (qmg ((X-p)/t))=tA at *
 generalize qbz (qmg ((X-p)/t)) (1/2)=z1 at *
 generalize qbz p q=z3 at *
 generalize rt X=tX at *
 generalize rt Y=tY at *
 generalize rt p=tp at *
 generalize rt q=tq at *
 generalize rt t=ts at *
 clear p q t X Y
 have HB:=hid (qbk w k ts)
 obtain⟨c0,c1⟩:=qaa HB.out
 go_enter Tryz.func4,Tryz.ntmps4
 go_wp2_with fail
 refine(HAW.out _ HB.out).mono ?_
 rintro e wN ⟨rfl,hb⟩
 clear HB c0 c1 HAW
 have HB:=hid hb
 clear hb
 obtain⟨c0,c1⟩:=qaa HB.out
 go_wp2_with fail
 refine(HF1.out _ HB.out).mono ?_
 rintro e wN ⟨rfl,hb⟩
 clear HB c0 c1 HF1
 have HB:=hid hb
 clear hb
 obtain⟨c0,c1⟩:=qaa HB.out
 go_wp2_with fail
 refine(HF2.out _ HB.out).mono ?_
 rintro e wN ⟨rfl,hb⟩
 clear HB c0 c1 HF2
 have HB:=hid hb
 clear hb
 obtain⟨c0,c1⟩:=qaa HB.out
 go_wp2_with fail
 refine(HF3.out _ HB.out).mono ?_
 rintro e wN ⟨rfl,hb⟩
 clear HB c0 c1 HF3
 have HB:=hid hb
 clear hb
 obtain⟨c0,c1⟩:=qaa HB.out
 go_wp2_with fail
 refine(HR.out _ HB.out).mono ?_
 rintro e wN ⟨rfl,hb⟩
 clear HB c0 c1 HR
 have HB:=hid hb
 clear hb
 obtain⟨c0,c1⟩:=qaa HB.out
 go_wp2_with fail
 refine(RX.out _ HB.out).mono ?_
 rintro e wN ⟨rfl,hb⟩
 clear HB c0 c1 RX
 have HB:=hid hb
 clear hb
 obtain⟨c0,c1⟩:=qaa HB.out
 go_wp2_with fail
 refine(RY.out _ HB.out).mono ?_
 rintro e wN ⟨rfl,hb⟩
 clear HB c0 c1 RY
 have HB:=hid hb
 clear hb
 obtain⟨c0,c1⟩:=qaa HB.out
 go_wp2_with fail
 refine(HCX.out _ HB.out).mono ?_
 rintro e wN ⟨rfl,hb⟩
 clear HB c0 c1 HCX
 have HB:=hid hb
 clear hb
 obtain⟨c0,c1⟩:=qaa HB.out
 go_wp2_with fail
 refine(HCY.out _ HB.out).mono ?_
 rintro e wN ⟨rfl,hb⟩
 clear HB c0 c1 HCY
 have HB:=hid hb
 clear hb
 obtain⟨c0,c1⟩:=qaa HB.out
 go_wp2_with fail
 refine(RA.out _ HB.out).mono ?_
 rintro e wN ⟨rfl,hb⟩
 clear HB c0 c1 RA
 have HB:=hid hb
 clear hb
 obtain⟨c0,c1⟩:=qaa HB.out
 go_wp2_with fail
 refine(KDX.out _ HB.out).mono ?_
 rintro e wN ⟨rfl,hb⟩
 clear HB c0 c1 KDX
 have HB:=hid hb
 clear hb
 obtain⟨c0,c1⟩:=qaa HB.out
 go_wp2_with fail
 refine(KW.out _ HB.out).mono ?_
 rintro e wN ⟨rfl,hb⟩
 clear HB c0 c1 KW
 have HB:=hid hb
 clear hb
 obtain⟨c0,c1⟩:=qaa HB.out
 go_wp2_with fail
 have HBD:Hid (qe8 w k ts wN.drew):=hid (HB.out.later (Below.refl _ _).drew)
 go_region_held3 (fun W=>W.cell? ⟨w.heap.size,0,none⟩=some (.string k)∧W.cell? ⟨w.heap.size,1,none⟩=some (.string ts)) (first|with_reducible exact qaa HBF.out|with_reducible exact qaa HBE.out|with_reducible exact qaa HBD.out)
  (first
   | (go_at_call 17;(refine(KSB.out _ HBD.out).mono ?_);rintro e wE ⟨rfl,hb⟩;have HBE:=hid hb;clear hb)
   | (go_at_call 21;(refine(KDD.out _ HBE.out).mono ?_);rintro e wF ⟨rfl,hb⟩;have HBF:=hid hb;clear hb))
 clear HB c0 c1
 have HB:=HBF
 obtain⟨c0,c1⟩:=qaa HB.out
 go_wp2_with fail
 refine(KAB.out _ HB.out).mono ?_
 rintro e wN ⟨rfl,hb⟩
 clear HB c0 c1 KAB
 have HB:=hid hb
 clear hb
 obtain⟨c0,c1⟩:=qaa HB.out
 go_wp2_with fail
 refine(KC1.out _ HB.out).mono ?_
 rintro e wN ⟨rfl,hb⟩
 clear HB c0 c1 KC1
 have HB:=hid hb
 clear hb
 obtain⟨c0,c1⟩:=qaa HB.out
 go_wp2_with fail
 refine(KPQ.out _ HB.out).mono ?_
 rintro e wN ⟨rfl,hb⟩
 clear HB c0 c1 KPQ
 have HB:=hid hb
 clear hb
 obtain⟨c0,c1⟩:=qaa HB.out
 go_wp2_with fail
 go_ret
 exact⟨rfl,HB.out.1⟩
theorem qwd(a b k s:ByteArray)(w:World)(hg:GW w):Calls Tryz.prog 4 #[.string a,.string b,.agg #[.string k,.string s]] w fun e w'=>e = .returned (.bool true)∧Below w.heap.size w w':=by
 by_cases h1:qgv a 8=true
 ·by_cases h2:qgv b 8=true
  ·by_cases h3:qgv s 8=true
   ·by_cases h4:qab k s.data.toList=0
    ·by_cases hle:qad a.data.toList≤qad b.data.toList
     ·rcases qnc k with⟨he,hf⟩|⟨he,hf⟩|⟨he,hf⟩|⟨he,hf⟩|⟨hn,_⟩
      ·exact qp7 a b k s w hg h1 h2 h3 h4 he hf hle
      ·exact qsn a b k s w hg h1 h2 h3 h4 he hf hle
      ·exact qne a b k s w hg h1 h2 h3 h4 he hf hle
      ·exact qk3 a b k s w hg h1 h2 h3 h4 he hf hle
      ·obtain⟨_,_,f,hf⟩:=qbn h4
       rw[hn] at hf
       cases hf
     ·rcases qnc k with⟨he,hf⟩|⟨he,hf⟩|⟨he,hf⟩|⟨he,hf⟩|⟨hn,_⟩
      ·exact qp8 a b k s w hg h1 h2 h3 h4 he hf hle
      ·exact qso a b k s w hg h1 h2 h3 h4 he hf hle
      ·exact qnf a b k s w hg h1 h2 h3 h4 he hf hle
      ·exact qk4 a b k s w hg h1 h2 h3 h4 he hf hle
      ·obtain⟨_,_,f,hf⟩:=qbn h4
       rw[hn] at hf
       cases hf
    ·exact qsm a b k s w hg h1 h2 h3 _ rfl h4
   ·exact qsl a b k s w hg h1 h2 (by simpa using h3)
  ·exact qsk a b k s w hg h1 (by simpa using h2)
 ·exact qsj a b k s w hg (by simpa using h1)
end Go.Proofs.YtfbjgppfpcgclaaGreatDoor
