/- MeasureNumbers. -/
import Derived.Test.YtoijmhmmalnilaaGreatDoorMKeeps
import Derived.WalkKit
set_option linter.all false
namespace Go.Proofs.YtoijmhmmalnilaaGreatDoor
open Go.RowKit
set_option maxRecDepth 100000
set_option maxHeartbeats 8000000
theorem quw(x y:ByteArray)(w:World)(hg:GW w)(h:60<x.size∨60<y.size):Calls Tryz.prog 3 #[.string x,.string y] w fun e w'=>e = .returned (.bool true)∧Below w.heap.size w w':=by
 have J:=qdr hg
 have HAW:=hid (qb0 J)
 have HB:=hid (Below.refl w.heap.size w)
 clear J hg
 by_cases hx:60<x.size
 ·clear h
  go_enter Tryz.func3,Tryz.ntmps3
  go_wp2_with fail
  refine(HAW.out _ HB.out).mono ?_
  rintro e wN ⟨rfl,hb⟩
  clear HB
  have HB:=hid hb
  clear hb
  go_wp2_with fail
  refine(HAW.out _ HB.out).mono ?_
  rintro e wN ⟨rfl,hb⟩
  clear HB HAW
  have HB:=hid hb
  clear hb
  go_wp2_with fail
  go_ret
  exact⟨rfl,HB.out⟩
 ·have hy:60<y.size:=h.resolve_left hx
  clear h
  go_enter Tryz.func3,Tryz.ntmps3
  go_wp2_with fail
  refine(HAW.out _ HB.out).mono ?_
  rintro e wN ⟨rfl,hb⟩
  clear HB
  have HB:=hid hb
  clear hb
  go_wp2_with fail
  refine(HAW.out _ HB.out).mono ?_
  rintro e wN ⟨rfl,hb⟩
  clear HB HAW
  have HB:=hid hb
  clear hb
  go_wp2_with fail
  go_ret
  exact⟨rfl,HB.out⟩
theorem q52{x y:ByteArray}{I:World→Prop}(J:Inv I)(hx:qaa x.data.toList=0)(hy:qaa y.data.toList=0)(sx:x.size≤60)(sy:y.size≤60)(h0:(qac y.data.toList).num≠0):qds I 9 #[.string x,.string y] (.tuple #[.string (qr9 (qac x.data.toList/qac y.data.toList)),.int .i64 (qcp (qac x.data.toList/qac y.data.toList):Nat)]):=
 qk6 J fun W hg=>(qph x y W hg (by omega) (by omega)).mono fun _ _ h=>by
  unfold qqb at h
  rw[hx,hy,if_neg h0] at h
  exact h
theorem q53{x y:ByteArray}{I:World→Prop}(J:Inv I)(hx:qaa x.data.toList=0)(hy:qaa y.data.toList=0)(sx:x.size≤60)(sy:y.size≤60)(h0:(qac y.data.toList).num=0):qds I 9 #[.string x,.string y] (.tuple #[.string ⟨#[]⟩,.int .i64 (6:Nat)]):=
 qbo J fun W _ hg=>(qph x y W hg (by omega) (by omega)).mono fun _ _ h=>by
  unfold qqb at h
  rw[hx,hy,if_pos h0] at h
  exact h
theorem q3y{x y:ByteArray}{I:World→Prop}{c:Nat}(J:Inv I)(hc:qab [qaa x.data.toList,qaa y.data.toList]=c)(h0:c≠0)(sx:x.size≤60)(sy:y.size≤60):qds I 9 #[.string x,.string y] (.tuple #[.string ⟨#[]⟩,.int .i64 (c:Nat)]):=
 qbo J fun W _ hg=>(qph x y W hg (by omega) (by omega)).mono fun _ _ h=>by
  unfold qqb at h
  rw[hc,if_pos h0] at h
  exact h
theorem qnv{x y:ByteArray}{I:World→Prop}(J:Inv I)(hx:qaa x.data.toList=0)(hy:qaa y.data.toList=0)(sx:x.size≤60)(sy:y.size≤60):qds I 10 #[.string x,.string y] (.tuple #[.int .i64 (sgn (qac x.data.toList-qac y.data.toList)),.int .i64 0]):=
 qbo J fun W _ hg=>(ql5 x y W hg (by omega) (by omega)).mono fun _ _ h=>by
  unfold qwe at h
  rw[hx,hy] at h
  rw[qws]
  exact h
theorem qpx{x y:ByteArray}{I:World→Prop}{c:Nat}(J:Inv I)(hc:qab [qaa x.data.toList,qaa y.data.toList]=c)(h0:c≠0)(sx:x.size≤60)(sy:y.size≤60):qds I 10 #[.string x,.string y] (.tuple #[.int .i64 0,.int .i64 (c:Nat)]):=
 qbo J fun W _ hg=>(ql5 x y W hg (by omega) (by omega)).mono fun _ _ h=>by
  unfold qwe at h
  rw[hc,if_pos h0] at h
  exact h
theorem qnd{x:ByteArray}{I:World→Prop}(J:Inv I)(hx:qaa x.data.toList=0)(sx:x.size≤60):qds I 11 #[.string x] (.tuple #[.string (qr9 ((qac x.data.toList).floor:Rat)),.int .i64 (qcp ((qac x.data.toList).floor:Rat):Nat)]):=
 qk6 J fun W hg=>(qq6 x W hg (by omega)).mono fun _ _ h=>by
  unfold qkz at h
  rw[hx] at h
  exact h
theorem q3z{x:ByteArray}{I:World→Prop}{c:Nat}(J:Inv I)(hx:qaa x.data.toList=c)(h0:c≠0)(sx:x.size≤60):qds I 11 #[.string x] (.tuple #[.string ⟨#[]⟩,.int .i64 (c:Nat)]):=
 qbo J fun W _ hg=>(qq6 x W hg (by omega)).mono fun _ _ h=>by
  unfold qkz at h
  rw[hx,if_pos h0] at h
  exact h
theorem qux(x y:ByteArray)(w:World)(hg:GW w)(sx:x.size≤60)(sy:y.size≤60)(hx:qaa x.data.toList=0)(hy:qaa y.data.toList=0)(h0:(qac y.data.toList).num≠0):Calls Tryz.prog 3 #[.string x,.string y] w fun e w'=>e = .returned (.bool true)∧Below w.heap.size w w':=by
 have J:=qdr hg
 have HAW:=hid (qb0 J)
 have HADD:=hid (qho J hx hy fun W hg=>ql2 x y W hg (by omega) (by omega))
 have HSUB:=hid (qho J hx hy fun W hg=>ql3 x y W hg (by omega) (by omega))
 have HMUL:=hid (qho J hx hy fun W hg=>ql4 x y W hg (by omega) (by omega))
 have HDIV:=hid (q52 J hx hy sx sy h0)
 have HCMP:=hid (qnv J hx hy sx sy)
 have HFLO:=hid (qnd J hx sx)
 have HROW:=hid (qj5 J x y 22 0 (by rw[hx,hy];rfl) (by omega) (by omega))
 have HCHK:=hid (qig J x 0 hx (by omega))
 have ex:=(qdt hx).1
 have ey:=(qdt hy).1
 generalize qac x.data.toList=p at *
 generalize qac y.data.toList=q at *
 subst ex
 subst ey
 have sp:sm p 60:=qga sx (by decide)
 have sq:sm q 60:=qga sy (by decide)
 have KFLO:=hid (qb2 J fun W=>qr0 p 60 W sp (by decide))
 have KADD:=hid (qb2 J fun W=>q2g p q 60 W sp sq (by decide))
 have KSUB:=hid (qb2 J fun W=>qt1 p q 60 W sp sq (by decide))
 have KMUL:=hid (qb2 J fun W=>qpc p q 60 W sp sq (by decide))
 have KDIV:=hid (qb2 J fun W=>q83 p q 60 W sp sq (by decide) h0)
 have KCMP:Hid (qds (Below w.heap.size w) 19 #[.string (rt p),.string (rt q)] (.int .i64 (sgn (p-q)))):=hid (qbo J fun W _ _=>qxv p q 60 W sp sq (by decide))
 have KZ:Hid (qds (Below w.heap.size w) 20 #[.string (rt q)] (.bool false)):=hid (qj3 fun W=>by have h:=qtz q W;rw[decide_eq_false h0] at h;exact h)
 have NFLO:=hid (qbx (Below w.heap.size w) (p.floor:Rat) 61 (qoc sp) (by decide))
 have NADD:=hid (qbx (Below w.heap.size w) (p+q) 121 (q14 sp sq) (by decide))
 have NSUB:=hid (qbx (Below w.heap.size w) (p-q) 121 (qq2 sp sq) (by decide))
 have NMUL:=hid (qbx (Below w.heap.size w) (p*q) 120 (qlx sp sq) (by decide))
 have NDIV:=hid (qbx (Below w.heap.size w) (p/q) 120 (qo9 sp sq h0) (by decide))
 have hz:(sgn (p-q) != sgn (p-q))=false:=by simp
 have HB:=hid (Below.refl w.heap.size w)
 clear J hg hx hy h0 sp sq
 generalize rt (p.floor:Rat)=t1 at *
 generalize rt (p+q)=t2 at *
 generalize rt (p-q)=t3 at *
 generalize rt (p*q)=t4 at *
 generalize qr9 (p.floor:Rat)=o1 at *
 generalize qr9 (p+q)=o2 at *
 generalize qr9 (p-q)=o3 at *
 generalize qr9 (p*q)=o4 at *
 generalize ((qcp (p.floor:Rat):Nat):Int)=l1 at *
 generalize ((qcp (p+q):Nat):Int)=l2 at *
 generalize ((qcp (p-q):Nat):Int)=l3 at *
 generalize ((qcp (p*q):Nat):Int)=l4 at *
 generalize rt (p/q)=t5 at *
 generalize qr9 (p/q)=o5 at *
 generalize ((qcp (p/q):Nat):Int)=l5 at *
 generalize sgn (p-q)=z at *
 generalize rt p=tp at *
 generalize rt q=tq at *
 clear p q
 go_enter Tryz.func3,Tryz.ntmps3
 go_wp2_with fail
 refine(HAW.out _ HB.out).mono ?_
 rintro e wN ⟨rfl,hb⟩
 clear HB HAW
 have HB:=hid hb
 clear hb
 go_wp2_with fail
 refine(HADD.out _ HB.out).mono ?_
 rintro e wN ⟨rfl,hb⟩
 clear HB HADD
 have HB:=hid hb
 clear hb
 go_wp2_with fail
 refine(HSUB.out _ HB.out).mono ?_
 rintro e wN ⟨rfl,hb⟩
 clear HB HSUB
 have HB:=hid hb
 clear hb
 go_wp2_with fail
 refine(HMUL.out _ HB.out).mono ?_
 rintro e wN ⟨rfl,hb⟩
 clear HB HMUL
 have HB:=hid hb
 clear hb
 go_wp2_with fail
 refine(HDIV.out _ HB.out).mono ?_
 rintro e wN ⟨rfl,hb⟩
 clear HB HDIV
 have HB:=hid hb
 clear hb
 go_wp2_with fail
 refine(HCMP.out _ HB.out).mono ?_
 rintro e wN ⟨rfl,hb⟩
 clear HB HCMP
 have HB:=hid hb
 clear hb
 go_wp2_with fail
 refine(HFLO.out _ HB.out).mono ?_
 rintro e wN ⟨rfl,hb⟩
 clear HB HFLO
 have HB:=hid hb
 clear hb
 go_wp2_with fail
 refine(HROW.out _ HB.out).mono ?_
 rintro e wN ⟨rfl,hb⟩
 clear HB HROW
 have HB:=hid hb
 clear hb
 go_wp2_with fail
 refine(HCHK.out _ HB.out).mono ?_
 rintro e wN ⟨rfl,hb⟩
 clear HB HCHK
 have HB:=hid hb
 clear hb
 go_wp2_with fail
 refine(KFLO.out _ HB.out).mono ?_
 rintro e wN ⟨rfl,hb⟩
 clear HB KFLO
 have HB:=hid hb
 clear hb
 go_wp2_with fail
 refine(NFLO.out _ HB.out).mono ?_
 rintro e wN ⟨rfl,hb⟩
 clear HB NFLO
 have HB:=hid hb
 clear hb
 go_wp2_with fail
 refine(KADD.out _ HB.out).mono ?_
 rintro e wN ⟨rfl,hb⟩
 clear HB KADD
 have HB:=hid hb
 clear hb
 go_wp2_with fail
 refine(NADD.out _ HB.out).mono ?_
 rintro e wN ⟨rfl,hb⟩
 clear HB NADD
 have HB:=hid hb
 clear hb
 go_wp2_with fail
 refine(KSUB.out _ HB.out).mono ?_
 rintro e wN ⟨rfl,hb⟩
 clear HB KSUB
 have HB:=hid hb
 clear hb
 go_wp2_with fail
 refine(NSUB.out _ HB.out).mono ?_
 rintro e wN ⟨rfl,hb⟩
 clear HB NSUB
 have HB:=hid hb
 clear hb
 go_wp2_with fail
 refine(KMUL.out _ HB.out).mono ?_
 rintro e wN ⟨rfl,hb⟩
 clear HB KMUL
 have HB:=hid hb
 clear hb
 go_wp2_with fail
 refine(NMUL.out _ HB.out).mono ?_
 rintro e wN ⟨rfl,hb⟩
 clear HB NMUL
 have HB:=hid hb
 clear hb
 go_wp2_with fail
 refine(KCMP.out _ HB.out).mono ?_
 rintro e wN ⟨rfl,hb⟩
 clear HB KCMP
 have HB:=hid hb
 clear hb
 go_wp2_with fail
 refine(KZ.out _ HB.out).mono ?_
 rintro e wN ⟨rfl,hb⟩
 clear HB KZ
 have HB:=hid hb
 clear hb
 go_wp2_with fail
 refine(KDIV.out _ HB.out).mono ?_
 rintro e wN ⟨rfl,hb⟩
 clear HB KDIV
 have HB:=hid hb
 clear hb
 go_wp2_with fail
 refine(NDIV.out _ HB.out).mono ?_
 rintro e wN ⟨rfl,hb⟩
 clear HB NDIV
 have HB:=hid hb
 clear hb
 go_wp2_with fail
 go_ret
 exact⟨rfl,HB.out⟩
theorem quy(x y:ByteArray)(w:World)(hg:GW w)(sx:x.size≤60)(sy:y.size≤60)(hx:qaa x.data.toList=0)(hy:qaa y.data.toList=0)(h0:(qac y.data.toList).num=0):Calls Tryz.prog 3 #[.string x,.string y] w fun e w'=>e = .returned (.bool true)∧Below w.heap.size w w':=by
 have J:=qdr hg
 have HAW:=hid (qb0 J)
 have HADD:=hid (qho J hx hy fun W hg=>ql2 x y W hg (by omega) (by omega))
 have HSUB:=hid (qho J hx hy fun W hg=>ql3 x y W hg (by omega) (by omega))
 have HMUL:=hid (qho J hx hy fun W hg=>ql4 x y W hg (by omega) (by omega))
 have HDIV:=hid (q53 J hx hy sx sy h0)
 have HCMP:=hid (qnv J hx hy sx sy)
 have HFLO:=hid (qnd J hx sx)
 have HROW:=hid (qj5 J x y 22 0 (by rw[hx,hy];rfl) (by omega) (by omega))
 have HCHK:=hid (qig J x 0 hx (by omega))
 have ex:=(qdt hx).1
 have ey:=(qdt hy).1
 generalize qac x.data.toList=p at *
 generalize qac y.data.toList=q at *
 subst ex
 subst ey
 have sp:sm p 60:=qga sx (by decide)
 have sq:sm q 60:=qga sy (by decide)
 have KFLO:=hid (qb2 J fun W=>qr0 p 60 W sp (by decide))
 have KADD:=hid (qb2 J fun W=>q2g p q 60 W sp sq (by decide))
 have KSUB:=hid (qb2 J fun W=>qt1 p q 60 W sp sq (by decide))
 have KMUL:=hid (qb2 J fun W=>qpc p q 60 W sp sq (by decide))
 have KCMP:Hid (qds (Below w.heap.size w) 19 #[.string (rt p),.string (rt q)] (.int .i64 (sgn (p-q)))):=hid (qbo J fun W _ _=>qxv p q 60 W sp sq (by decide))
 have KZ:Hid (qds (Below w.heap.size w) 20 #[.string (rt q)] (.bool true)):=hid (qj3 fun W=>by have h:=qtz q W;rw[decide_eq_true h0] at h;exact h)
 have NFLO:=hid (qbx (Below w.heap.size w) (p.floor:Rat) 61 (qoc sp) (by decide))
 have NADD:=hid (qbx (Below w.heap.size w) (p+q) 121 (q14 sp sq) (by decide))
 have NSUB:=hid (qbx (Below w.heap.size w) (p-q) 121 (qq2 sp sq) (by decide))
 have NMUL:=hid (qbx (Below w.heap.size w) (p*q) 120 (qlx sp sq) (by decide))
 have NDIV:=hid (qk7 (Below w.heap.size w) 6 ⟨#[]⟩ (by decide))
 have hz:(sgn (p-q) != sgn (p-q))=false:=by simp
 have HB:=hid (Below.refl w.heap.size w)
 clear J hg hx hy h0 sp sq
 generalize rt (p.floor:Rat)=t1 at *
 generalize rt (p+q)=t2 at *
 generalize rt (p-q)=t3 at *
 generalize rt (p*q)=t4 at *
 generalize qr9 (p.floor:Rat)=o1 at *
 generalize qr9 (p+q)=o2 at *
 generalize qr9 (p-q)=o3 at *
 generalize qr9 (p*q)=o4 at *
 generalize ((qcp (p.floor:Rat):Nat):Int)=l1 at *
 generalize ((qcp (p+q):Nat):Int)=l2 at *
 generalize ((qcp (p-q):Nat):Int)=l3 at *
 generalize ((qcp (p*q):Nat):Int)=l4 at *
 generalize sgn (p-q)=z at *
 generalize rt p=tp at *
 generalize rt q=tq at *
 clear p q
 go_enter Tryz.func3,Tryz.ntmps3
 go_wp2_with fail
 refine(HAW.out _ HB.out).mono ?_
 rintro e wN ⟨rfl,hb⟩
 clear HB HAW
 have HB:=hid hb
 clear hb
 go_wp2_with fail
 refine(HADD.out _ HB.out).mono ?_
 rintro e wN ⟨rfl,hb⟩
 clear HB HADD
 have HB:=hid hb
 clear hb
 go_wp2_with fail
 refine(HSUB.out _ HB.out).mono ?_
 rintro e wN ⟨rfl,hb⟩
 clear HB HSUB
 have HB:=hid hb
 clear hb
 go_wp2_with fail
 refine(HMUL.out _ HB.out).mono ?_
 rintro e wN ⟨rfl,hb⟩
 clear HB HMUL
 have HB:=hid hb
 clear hb
 go_wp2_with fail
 refine(HDIV.out _ HB.out).mono ?_
 rintro e wN ⟨rfl,hb⟩
 clear HB HDIV
 have HB:=hid hb
 clear hb
 go_wp2_with fail
 refine(HCMP.out _ HB.out).mono ?_
 rintro e wN ⟨rfl,hb⟩
 clear HB HCMP
 have HB:=hid hb
 clear hb
 go_wp2_with fail
 refine(HFLO.out _ HB.out).mono ?_
 rintro e wN ⟨rfl,hb⟩
 clear HB HFLO
 have HB:=hid hb
 clear hb
 go_wp2_with fail
 refine(HROW.out _ HB.out).mono ?_
 rintro e wN ⟨rfl,hb⟩
 clear HB HROW
 have HB:=hid hb
 clear hb
 go_wp2_with fail
 refine(HCHK.out _ HB.out).mono ?_
 rintro e wN ⟨rfl,hb⟩
 clear HB HCHK
 have HB:=hid hb
 clear hb
 go_wp2_with fail
 refine(KFLO.out _ HB.out).mono ?_
 rintro e wN ⟨rfl,hb⟩
 clear HB KFLO
 have HB:=hid hb
 clear hb
 go_wp2_with fail
 refine(NFLO.out _ HB.out).mono ?_
 rintro e wN ⟨rfl,hb⟩
 clear HB NFLO
 have HB:=hid hb
 clear hb
 go_wp2_with fail
 refine(KADD.out _ HB.out).mono ?_
 rintro e wN ⟨rfl,hb⟩
 clear HB KADD
 have HB:=hid hb
 clear hb
 go_wp2_with fail
 refine(NADD.out _ HB.out).mono ?_
 rintro e wN ⟨rfl,hb⟩
 clear HB NADD
 have HB:=hid hb
 clear hb
 go_wp2_with fail
 refine(KSUB.out _ HB.out).mono ?_
 rintro e wN ⟨rfl,hb⟩
 clear HB KSUB
 have HB:=hid hb
 clear hb
 go_wp2_with fail
 refine(NSUB.out _ HB.out).mono ?_
 rintro e wN ⟨rfl,hb⟩
 clear HB NSUB
 have HB:=hid hb
 clear hb
 go_wp2_with fail
 refine(KMUL.out _ HB.out).mono ?_
 rintro e wN ⟨rfl,hb⟩
 clear HB KMUL
 have HB:=hid hb
 clear hb
 go_wp2_with fail
 refine(NMUL.out _ HB.out).mono ?_
 rintro e wN ⟨rfl,hb⟩
 clear HB NMUL
 have HB:=hid hb
 clear hb
 go_wp2_with fail
 refine(KCMP.out _ HB.out).mono ?_
 rintro e wN ⟨rfl,hb⟩
 clear HB KCMP
 have HB:=hid hb
 clear hb
 go_wp2_with fail
 refine(KZ.out _ HB.out).mono ?_
 rintro e wN ⟨rfl,hb⟩
 clear HB KZ
 have HB:=hid hb
 clear hb
 go_wp2_with fail
 refine(NDIV.out _ HB.out).mono ?_
 rintro e wN ⟨rfl,hb⟩
 clear HB NDIV
 have HB:=hid hb
 clear hb
 go_wp2_with fail
 go_ret
 exact⟨rfl,HB.out⟩
theorem quz(x y:ByteArray)(c:Nat)(w:World)(hg:GW w)(sx:x.size≤60)(sy:y.size≤60)(hc:qaa x.data.toList=c)(h0:c≠0):Calls Tryz.prog 3 #[.string x,.string y] w fun e w'=>e = .returned (.bool true)∧Below w.heap.size w w':=by
 have hf:qab [qaa x.data.toList,qaa y.data.toList]=c:=by rw[hc];unfold qab;rw[if_neg h0]
 have J:=qdr hg
 have HAW:=hid (qb0 J)
 have HADD:=hid (qj4 J hf h0 fun W hg=>ql2 x y W hg (by omega) (by omega))
 have HSUB:=hid (qj4 J hf h0 fun W hg=>ql3 x y W hg (by omega) (by omega))
 have HMUL:=hid (qj4 J hf h0 fun W hg=>ql4 x y W hg (by omega) (by omega))
 have HDIV:=hid (q3y J hf h0 sx sy)
 have HCMP:=hid (qpx J hf h0 sx sy)
 have HROW:=hid (qj5 J x y 22 c hf (by omega) (by omega))
 have NBAD:=hid (qk7 (Below w.heap.size w) c ⟨#[]⟩ h0)
 have hne:((c:Int) != 0)=true:=by simpa using h0
 have heq:((c:Int)==(c:Int))=true:=beq_self_eq_true _
 have HB:=hid (Below.refl w.heap.size w)
 have HFLO:=hid (q3z J hc h0 sx)
 have HCHK:=hid (qig J x c hc (by omega))
 clear J hf hc hg h0
 generalize (c:Int)=ci at *
 go_enter Tryz.func3,Tryz.ntmps3
 go_wp2_with fail
 refine(HAW.out _ HB.out).mono ?_
 rintro e wN ⟨rfl,hb⟩
 clear HB HAW
 have HB:=hid hb
 clear hb
 go_wp2_with fail
 refine(HADD.out _ HB.out).mono ?_
 rintro e wN ⟨rfl,hb⟩
 clear HB HADD
 have HB:=hid hb
 clear hb
 go_wp2_with fail
 refine(HSUB.out _ HB.out).mono ?_
 rintro e wN ⟨rfl,hb⟩
 clear HB HSUB
 have HB:=hid hb
 clear hb
 go_wp2_with fail
 refine(HMUL.out _ HB.out).mono ?_
 rintro e wN ⟨rfl,hb⟩
 clear HB HMUL
 have HB:=hid hb
 clear hb
 go_wp2_with fail
 refine(HDIV.out _ HB.out).mono ?_
 rintro e wN ⟨rfl,hb⟩
 clear HB HDIV
 have HB:=hid hb
 clear hb
 go_wp2_with fail
 refine(HCMP.out _ HB.out).mono ?_
 rintro e wN ⟨rfl,hb⟩
 clear HB HCMP
 have HB:=hid hb
 clear hb
 go_wp2_with fail
 refine(HFLO.out _ HB.out).mono ?_
 rintro e wN ⟨rfl,hb⟩
 clear HB HFLO
 have HB:=hid hb
 clear hb
 go_wp2_with fail
 refine(HROW.out _ HB.out).mono ?_
 rintro e wN ⟨rfl,hb⟩
 clear HB HROW
 have HB:=hid hb
 clear hb
 go_wp2_with fail
 refine(HCHK.out _ HB.out).mono ?_
 rintro e wN ⟨rfl,hb⟩
 clear HB HCHK
 have HB:=hid hb
 clear hb
 go_wp2_with fail
 refine(NBAD.out _ HB.out).mono ?_
 rintro e wN ⟨rfl,hb⟩
 clear HB
 have HB:=hid hb
 clear hb
 go_wp2_with fail
 refine(NBAD.out _ HB.out).mono ?_
 rintro e wN ⟨rfl,hb⟩
 clear HB
 have HB:=hid hb
 clear hb
 go_wp2_with fail
 refine(NBAD.out _ HB.out).mono ?_
 rintro e wN ⟨rfl,hb⟩
 clear HB
 have HB:=hid hb
 clear hb
 go_wp2_with fail
 refine(NBAD.out _ HB.out).mono ?_
 rintro e wN ⟨rfl,hb⟩
 clear HB
 have HB:=hid hb
 clear hb
 go_wp2_with fail
 refine(NBAD.out _ HB.out).mono ?_
 rintro e wN ⟨rfl,hb⟩
 clear HB
 have HB:=hid hb
 clear hb
 go_wp2_with fail
 go_ret
 exact⟨rfl,HB.out⟩
theorem qu0(x y:ByteArray)(c:Nat)(w:World)(hg:GW w)(sx:x.size≤60)(sy:y.size≤60)(hx:qaa x.data.toList=0)(hc:qaa y.data.toList=c)(h0:c≠0):Calls Tryz.prog 3 #[.string x,.string y] w fun e w'=>e = .returned (.bool true)∧Below w.heap.size w w':=by
 have hf:qab [qaa x.data.toList,qaa y.data.toList]=c:=by rw[hx,hc];unfold qab;rw[if_pos rfl];unfold qab;rw[if_neg h0]
 have J:=qdr hg
 have HAW:=hid (qb0 J)
 have HADD:=hid (qj4 J hf h0 fun W hg=>ql2 x y W hg (by omega) (by omega))
 have HSUB:=hid (qj4 J hf h0 fun W hg=>ql3 x y W hg (by omega) (by omega))
 have HMUL:=hid (qj4 J hf h0 fun W hg=>ql4 x y W hg (by omega) (by omega))
 have HDIV:=hid (q3y J hf h0 sx sy)
 have HCMP:=hid (qpx J hf h0 sx sy)
 have HROW:=hid (qj5 J x y 22 c hf (by omega) (by omega))
 have NBAD:=hid (qk7 (Below w.heap.size w) c ⟨#[]⟩ h0)
 have hne:((c:Int) != 0)=true:=by simpa using h0
 have heq:((c:Int)==(c:Int))=true:=beq_self_eq_true _
 have HB:=hid (Below.refl w.heap.size w)
 have HFLO:=hid (qnd J hx sx)
 have HCHK:=hid (qig J x 0 hx (by omega))
 have ex:=(qdt hx).1
 generalize qac x.data.toList=p at *
 have sp:sm p 60:=by rw[ex] at sx;exact qga sx (by decide)
 have KFLO:Hid (qds (Below w.heap.size w) 15 #[.string x] (.string (rt (p.floor:Rat)))):=hid (by rw[ex];exact qb2 J fun W=>qr0 p 60 W sp (by decide))
 have NFLO:=hid (qbx (Below w.heap.size w) (p.floor:Rat) 61 (qoc sp) (by decide))
 clear J ex hf hc hx hg h0 sp
 generalize rt (p.floor:Rat)=t1 at *
 generalize qr9 (p.floor:Rat)=o1 at *
 generalize ((qcp (p.floor:Rat):Nat):Int)=l1 at *
 clear p
 generalize (c:Int)=ci at *
 go_enter Tryz.func3,Tryz.ntmps3
 go_wp2_with fail
 refine(HAW.out _ HB.out).mono ?_
 rintro e wN ⟨rfl,hb⟩
 clear HB HAW
 have HB:=hid hb
 clear hb
 go_wp2_with fail
 refine(HADD.out _ HB.out).mono ?_
 rintro e wN ⟨rfl,hb⟩
 clear HB HADD
 have HB:=hid hb
 clear hb
 go_wp2_with fail
 refine(HSUB.out _ HB.out).mono ?_
 rintro e wN ⟨rfl,hb⟩
 clear HB HSUB
 have HB:=hid hb
 clear hb
 go_wp2_with fail
 refine(HMUL.out _ HB.out).mono ?_
 rintro e wN ⟨rfl,hb⟩
 clear HB HMUL
 have HB:=hid hb
 clear hb
 go_wp2_with fail
 refine(HDIV.out _ HB.out).mono ?_
 rintro e wN ⟨rfl,hb⟩
 clear HB HDIV
 have HB:=hid hb
 clear hb
 go_wp2_with fail
 refine(HCMP.out _ HB.out).mono ?_
 rintro e wN ⟨rfl,hb⟩
 clear HB HCMP
 have HB:=hid hb
 clear hb
 go_wp2_with fail
 refine(HFLO.out _ HB.out).mono ?_
 rintro e wN ⟨rfl,hb⟩
 clear HB HFLO
 have HB:=hid hb
 clear hb
 go_wp2_with fail
 refine(HROW.out _ HB.out).mono ?_
 rintro e wN ⟨rfl,hb⟩
 clear HB HROW
 have HB:=hid hb
 clear hb
 go_wp2_with fail
 refine(HCHK.out _ HB.out).mono ?_
 rintro e wN ⟨rfl,hb⟩
 clear HB HCHK
 have HB:=hid hb
 clear hb
 go_wp2_with fail
 refine(KFLO.out _ HB.out).mono ?_
 rintro e wN ⟨rfl,hb⟩
 clear HB KFLO
 have HB:=hid hb
 clear hb
 go_wp2_with fail
 refine(NFLO.out _ HB.out).mono ?_
 rintro e wN ⟨rfl,hb⟩
 clear HB NFLO
 have HB:=hid hb
 clear hb
 go_wp2_with fail
 refine(NBAD.out _ HB.out).mono ?_
 rintro e wN ⟨rfl,hb⟩
 clear HB
 have HB:=hid hb
 clear hb
 go_wp2_with fail
 refine(NBAD.out _ HB.out).mono ?_
 rintro e wN ⟨rfl,hb⟩
 clear HB
 have HB:=hid hb
 clear hb
 go_wp2_with fail
 refine(NBAD.out _ HB.out).mono ?_
 rintro e wN ⟨rfl,hb⟩
 clear HB
 have HB:=hid hb
 clear hb
 go_wp2_with fail
 refine(NBAD.out _ HB.out).mono ?_
 rintro e wN ⟨rfl,hb⟩
 clear HB
 have HB:=hid hb
 clear hb
 go_wp2_with fail
 go_ret
 exact⟨rfl,HB.out⟩
theorem qwu(x y:ByteArray)(w:World)(hg:GW w):Calls Tryz.prog 3 #[.string x,.string y] w fun e w'=>e = .returned (.bool true)∧Below w.heap.size w w':=by
 by_cases hl:60<x.size∨60<y.size
 ·exact quw x y w hg hl
 ·have sx:x.size≤60:=by omega
  have sy:y.size≤60:=by omega
  by_cases hx:qaa x.data.toList=0
  ·by_cases hy:qaa y.data.toList=0
   ·by_cases h0:(qac y.data.toList).num=0
    ·exact quy x y w hg sx sy hx hy h0
    ·exact qux x y w hg sx sy hx hy h0
   ·exact qu0 x y _ w hg sx sy hx rfl hy
  ·exact quz x y _ w hg sx sy rfl hx
end Go.Proofs.YtoijmhmmalnilaaGreatDoor
