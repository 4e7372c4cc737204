/- The reference's Half and Round. -/
import Derived.Test.YtpbeeneenhmjaaaGreatDoorMRefRule
import Derived.Test.YtpbeeneenhmjaaaGreatDoorMKeeps
set_option linter.all false
namespace Go.Proofs.YtpbeeneenhmjaaaGreatDoor
open Go.RowKit
set_option maxRecDepth 100000
set_option maxHeartbeats 8000000
theorem qy9(q:Rat):q*(1/2)=q/2:=by grind
theorem q9t(q:Rat)(k:Nat)(w:World)(sq:sm q k)(h1:1≤k)(hk:k≤2000):Calls Tryz.prog 59 #[.string (rt q)] w (qp7 (q/2) w):=by
 have HM:=hid (qh4 q (1/2) k w sq (qcb (qff (1/2) (by decide +kernel) (by decide +kernel)) h1) hk);rw[←qj3,qy9] at HM;clear sq h1 hk;generalize rt q=tq at *;go_enter Tryz.func59,Tryz.ntmps59;go_wp2_with fail;refine HM.out.mono ?_;rintro e w1 ⟨rfl,hb⟩;have HB:=hid hb;clear hb HM;go_wp2_with fail;go_ret;exact⟨rfl,HB.out⟩
def upB(f:Nat)(q:Rat):Bool := !decide (q.den=1)&&qfa f (qcr (q-(q.floor:Rat)) (1/2)) (!decide (((q.floor:Rat)/2).den=1))
theorem q7h(f:Nat)(q:Rat):qvq f q=q.floor+if upB f q then 1 else 0:=by
 unfold qvq upB;by_cases h:q.den=1
 ·rw[if_pos h,decide_eq_true h]
  simp
 ·rw[if_neg h,decide_eq_false h]
  simp only[Bool.not_false,Bool.true_and];split<;>simp
theorem qo7(f:Nat){a s:Rat}(hs:s≠0)(u:Bool)(hu:upB f (a/s)=u):qa8 f a s=(if u then((a/s).floor:Rat)+1 else((a/s).floor:Rat))*s:=by
 rw[qqr f hs,q7h,hu];cases u
 ·simp
 ·simp[Rat.intCast_add]
theorem q5h(q:Rat):(q-(q.floor:Rat)).num=0↔q.den=1:=by
 constructor
 ·intro h
  have h2:=qyu h;by_cases hd:q.den=1
  ·exact hd
  ·exact absurd (by grind:(q.floor:Rat)=q) (q43 hd)
 ·intro h
  rw[qlo h,Rat.sub_self];rfl
theorem qsg{q:Rat}(h:q.den=1):qcr (q-(q.floor:Rat)) (1/2) = -1:=by
 rw[qlo h,Rat.sub_self];kernel_rfl
theorem zbj(q:Rat):upB 146 q = !decide ((q-(q.floor:Rat)).num=0):=by
 have h:decide ((q-(q.floor:Rat)).num=0)=decide (q.den=1):=decide_eq_decide.2 (q5h q);rw[h];unfold upB qfa;simp
theorem zbk(q:Rat):upB 147 q=decide (0≤qcr (q-(q.floor:Rat)) (1/2)):=by
 unfold upB qfa;by_cases h:q.den=1
 ·rw[qsg h,decide_eq_true h]
  rfl
 ·rw[decide_eq_false h]
  simp
theorem zbl(q:Rat):upB 148 q=(decide (0<qcr (q-(q.floor:Rat)) (1/2))||(decide (q-(q.floor:Rat)=1/2) && !decide (((q.floor:Rat)/2).den=1))):=by
 have e:decide (q-(q.floor:Rat)=1/2)=decide (qcr (q-(q.floor:Rat)) (1/2)=0):=decide_eq_decide.2 q9p.symm;rw[e];unfold upB qfa;by_cases h:q.den=1
 ·rw[qsg h,decide_eq_true h]
  rfl
 ·rw[decide_eq_false h]
  simp
theorem zbm(q:Rat):upB 145 q=false:=by
 unfold upB qfa;simp
theorem q9u(q:Rat):((rt q).toList==[49,47,50])=decide (q=1/2):=by
 have h:(rt q).toList=[49,47,50]↔q=1/2:=by
  rw[ByteArray.toList_eq];constructor
  ·intro h
   have h2:rt q=(⟨#[49,47,50]⟩:ByteArray):=qb2 h;rw[qj3] at h2;exact zay h2
  ·intro h
   rw[h,←qj3]
 by_cases hq:q=1/2
 ·rw[decide_eq_true hq,beq_iff_eq]
  exact h.2 hq
 ·rw[decide_eq_false hq,beq_eq_false_iff_ne]
  exact fun e=>hq (h.1 e)
theorem q1f(a s:Rat)(k:ByteArray)(w:World)(hg:GW w)(sa:sm a 30)(ss:sm s 30)(hs:s.num≠0)(he:k.toList=[100,111,119,110]):
  Calls Tryz.prog 21 #[.string (rt a),.agg #[.string k,.string (rt s)]] w fun e w'=>e = .returned (.string (rt (qa8 145 a s)))∧qgk w k (rt s) w':=by
 have J:=qey hg k (rt s);have hs0:s≠0:=fun e=>hs (by rw[e];rfl);have sx:=qu5 sa ss hs;have sl:=qkl sx;have sr:=qr7 sx sl;have hq:=qo7 145 (a:=a) hs0 _ (zbm (a/s));rw[hq];clear hq hs0;have HDIV:=hid (qay J fun W=>qyw a s 30 W sa ss (by decide) hs);have HFLO:=hid (qay J fun W=>qo1 (a/s) 60 W sx (by decide));have HSUB:=hid (qay J fun W=>qp9 (a/s) ((a/s).floor:Rat) 61 W (qcb sx (by decide)) sl (by decide));have HMUL:=hid (qay J fun W=>qh4 ((a/s).floor:Rat) s 61 W sl (qcb ss (by decide)) (by decide));have HB:=hid (qb4 w k (rt s));clear J hg sa ss hs sx sl sr;generalize rt (a/s)=t1 at *;generalize hm4:rt (((a/s).floor:Rat)*s)=t4 at *;generalize rt ((a/s).floor:Rat)=t2 at *;generalize rt (a/s-((a/s).floor:Rat))=t3 at *;generalize rt a=ta at *;generalize rt s=ts at *;obtain⟨c0,c1⟩:=qac HB.out;have k2:(k.toList==[117,112])=false:=by rw[he];decide
 have k3:(k.toList==[104,97,108,102,45,117,112])=false:=by rw[he];decide
 have k4:(k.toList==[104,97,108,102,45,101,118,101,110])=false:=by rw[he];decide
 clear he;go_enter Tryz.func21,Tryz.ntmps21;go_wp2_with fail;refine kgo HDIV.out HB fun w1 HB => ?_;clear c0 c1;obtain⟨c0,c1⟩:=qac HB.out;go_wp2_with fail;refine kgo HFLO.out HB fun w2 HB => ?_;clear c0 c1;obtain⟨c0,c1⟩:=qac HB.out;go_wp2_with fail;refine kgo HSUB.out HB fun w3 HB => ?_;clear c0 c1;obtain⟨c0,c1⟩:=qac HB.out;go_wp2_with fail;refine kgo HMUL.out HB fun w4 HB => ?_;clear c0 c1;obtain⟨c0,c1⟩:=qac HB.out;go_wp2_with fail;go_ret;exact⟨by simp[hm4],HB.out⟩
theorem q1g(a s:Rat)(k:ByteArray)(w:World)(hg:GW w)(sa:sm a 30)(ss:sm s 30)(hs:s.num≠0)(he:k.toList=[117,112]):
  Calls Tryz.prog 21 #[.string (rt a),.agg #[.string k,.string (rt s)]] w fun e w'=>e = .returned (.string (rt (qa8 146 a s)))∧qgk w k (rt s) w':=by
 have J:=qey hg k (rt s);have hs0:s≠0:=fun e=>hs (by rw[e];rfl);have sx:=qu5 sa ss hs;have sl:=qkl sx;have sr:=qr7 sx sl;have hq:=qo7 146 (a:=a) hs0 _ (zbj (a/s));rw[hq];clear hq hs0;have HDIV:=hid (qay J fun W=>qyw a s 30 W sa ss (by decide) hs);have HFLO:=hid (qay J fun W=>qo1 (a/s) 60 W sx (by decide));have HSUB:=hid (qay J fun W=>qp9 (a/s) ((a/s).floor:Rat) 61 W (qcb sx (by decide)) sl (by decide));have HMUL:=hid (qay J fun W=>qh4 ((a/s).floor:Rat) s 61 W sl (qcb ss (by decide)) (by decide));have HADD:Hid (qd5 (qgk w k (rt s)) 40 #[.string (rt ((a/s).floor:Rat)),.string ⟨#[49]⟩] (.string (rt (((a/s).floor:Rat)+1)))):=hid (qay J fun W=>by rw[q42];exact qr9 ((a/s).floor:Rat) 1 61 W sl (qcb (qff 1 (by decide) (by decide)) (by decide)) (by decide));have HMUL1:=hid (qay J fun W=>qh4 (((a/s).floor:Rat)+1) s 123 W (qp3 sl (qcb (qff 1 (by decide) (by decide)) (show 1≤61 by decide))) (qcb ss (by decide)) (by decide));have HZ:=hid (qkp (I:=qgk w k (rt s)) fun W=>q3m (a/s-((a/s).floor:Rat)) W);have HB:=hid (qb4 w k (rt s));clear J hg sa ss hs sx sl sr;generalize rt (a/s)=t1 at *;generalize hm4:rt (((a/s).floor:Rat)*s)=t4 at *;generalize rt (((a/s).floor:Rat)+1)=t5 at *;generalize hmm:rt ((((a/s).floor:Rat)+1)*s)=t6 at *;generalize decide ((a/s-((a/s).floor:Rat)).num=0)=bz at *;generalize rt ((a/s).floor:Rat)=t2 at *;generalize rt (a/s-((a/s).floor:Rat))=t3 at *;generalize rt a=ta at *;generalize rt s=ts at *;obtain⟨c0,c1⟩:=qac HB.out;have k2:(k.toList==[117,112])=true:=by rw[he];decide
 have k3:(k.toList==[104,97,108,102,45,117,112])=false:=by rw[he];decide
 have k4:(k.toList==[104,97,108,102,45,101,118,101,110])=false:=by rw[he];decide
 clear he;cases bz
 ·go_enter Tryz.func21,Tryz.ntmps21
  go_wp2_with fail;refine kgo HDIV.out HB fun w1 HB => ?_;clear c0 c1;obtain⟨c0,c1⟩:=qac HB.out;go_wp2_with fail;refine kgo HFLO.out HB fun w2 HB => ?_;clear c0 c1;obtain⟨c0,c1⟩:=qac HB.out;go_wp2_with fail;refine kgo HSUB.out HB fun w3 HB => ?_;clear c0 c1;obtain⟨c0,c1⟩:=qac HB.out;go_wp2_with fail;refine kgo HZ.out HB fun w4 HB => ?_;clear c0 c1;obtain⟨c0,c1⟩:=qac HB.out;go_wp2_with fail;refine kgo HADD.out HB fun w5 HB => ?_;clear c0 c1;obtain⟨c0,c1⟩:=qac HB.out;go_wp2_with fail;refine kgo HMUL1.out HB fun w6 HB => ?_;clear c0 c1;obtain⟨c0,c1⟩:=qac HB.out;go_wp2_with fail;go_ret;exact⟨by simp[hmm],HB.out⟩
 ·go_enter Tryz.func21,Tryz.ntmps21
  go_wp2_with fail;refine kgo HDIV.out HB fun w1 HB => ?_;clear c0 c1;obtain⟨c0,c1⟩:=qac HB.out;go_wp2_with fail;refine kgo HFLO.out HB fun w2 HB => ?_;clear c0 c1;obtain⟨c0,c1⟩:=qac HB.out;go_wp2_with fail;refine kgo HSUB.out HB fun w3 HB => ?_;clear c0 c1;obtain⟨c0,c1⟩:=qac HB.out;go_wp2_with fail;refine kgo HZ.out HB fun w4 HB => ?_;clear c0 c1;obtain⟨c0,c1⟩:=qac HB.out;go_wp2_with fail;refine kgo HMUL.out HB fun w5 HB => ?_;clear c0 c1;obtain⟨c0,c1⟩:=qac HB.out;go_wp2_with fail;go_ret;exact⟨by simp[hm4],HB.out⟩
theorem q1h(a s:Rat)(k:ByteArray)(w:World)(hg:GW w)(sa:sm a 30)(ss:sm s 30)(hs:s.num≠0)(he:k.toList=[104,97,108,102,45,117,112]):
  Calls Tryz.prog 21 #[.string (rt a),.agg #[.string k,.string (rt s)]] w fun e w'=>e = .returned (.string (rt (qa8 147 a s)))∧qgk w k (rt s) w':=by
 have J:=qey hg k (rt s);have hs0:s≠0:=fun e=>hs (by rw[e];rfl);have sx:=qu5 sa ss hs;have sl:=qkl sx;have sr:=qr7 sx sl;have hq:=qo7 147 (a:=a) hs0 _ (zbk (a/s));rw[hq];clear hq hs0;have HDIV:=hid (qay J fun W=>qyw a s 30 W sa ss (by decide) hs);have HFLO:=hid (qay J fun W=>qo1 (a/s) 60 W sx (by decide));have HSUB:=hid (qay J fun W=>qp9 (a/s) ((a/s).floor:Rat) 61 W (qcb sx (by decide)) sl (by decide));have HMUL:=hid (qay J fun W=>qh4 ((a/s).floor:Rat) s 61 W sl (qcb ss (by decide)) (by decide));have HADD:Hid (qd5 (qgk w k (rt s)) 40 #[.string (rt ((a/s).floor:Rat)),.string ⟨#[49]⟩] (.string (rt (((a/s).floor:Rat)+1)))):=hid (qay J fun W=>by rw[q42];exact qr9 ((a/s).floor:Rat) 1 61 W sl (qcb (qff 1 (by decide) (by decide)) (by decide)) (by decide));have HMUL1:=hid (qay J fun W=>qh4 (((a/s).floor:Rat)+1) s 123 W (qp3 sl (qcb (qff 1 (by decide) (by decide)) (show 1≤61 by decide))) (qcb ss (by decide)) (by decide));have HC:Hid (qd5 (qgk w k (rt s)) 37 #[.string (rt (a/s-((a/s).floor:Rat))),.string ⟨#[49,47,50]⟩] (.int .i64 (qcr (a/s-((a/s).floor:Rat)) (1/2)))):=hid (qmq J sr (qcb (qff (1/2) (by decide +kernel) (by decide +kernel)) (show 1≤122 by decide)) (by decide) rfl qj3 rfl);have HB:=hid (qb4 w k (rt s));clear J hg sa ss hs sx sl sr;generalize rt (a/s)=t1 at *;generalize hm4:rt (((a/s).floor:Rat)*s)=t4 at *;generalize rt (((a/s).floor:Rat)+1)=t5 at *;generalize hmm:rt ((((a/s).floor:Rat)+1)*s)=t6 at *;generalize qcr (a/s-((a/s).floor:Rat)) (1/2)=z at *;generalize rt ((a/s).floor:Rat)=t2 at *;generalize rt (a/s-((a/s).floor:Rat))=t3 at *;generalize rt a=ta at *;generalize rt s=ts at *;obtain⟨c0,c1⟩:=qac HB.out;have k2:(k.toList==[117,112])=false:=by rw[he];decide
 have k3:(k.toList==[104,97,108,102,45,117,112])=true:=by rw[he];decide
 have k4:(k.toList==[104,97,108,102,45,101,118,101,110])=false:=by rw[he];decide
 clear he;by_cases hz:0≤z
 ·have hzb:decide (0≤z)=true:=decide_eq_true hz
  rw[hzb];go_enter Tryz.func21,Tryz.ntmps21;go_wp2_with fail;refine kgo HDIV.out HB fun w1 HB => ?_;clear c0 c1;obtain⟨c0,c1⟩:=qac HB.out;go_wp2_with fail;refine kgo HFLO.out HB fun w2 HB => ?_;clear c0 c1;obtain⟨c0,c1⟩:=qac HB.out;go_wp2_with fail;refine kgo HSUB.out HB fun w3 HB => ?_;clear c0 c1;obtain⟨c0,c1⟩:=qac HB.out;go_wp2_with fail;refine kgo HC.out HB fun w4 HB => ?_;clear c0 c1;obtain⟨c0,c1⟩:=qac HB.out;go_wp2_with fail;refine kgo HADD.out HB fun w5 HB => ?_;clear c0 c1;obtain⟨c0,c1⟩:=qac HB.out;go_wp2_with fail;refine kgo HMUL1.out HB fun w6 HB => ?_;clear c0 c1;obtain⟨c0,c1⟩:=qac HB.out;go_wp2_with fail;go_ret;exact⟨by simp[hmm],HB.out⟩
 ·have hzb:decide (0≤z)=false:=decide_eq_false hz
  rw[hzb];go_enter Tryz.func21,Tryz.ntmps21;go_wp2_with fail;refine kgo HDIV.out HB fun w1 HB => ?_;clear c0 c1;obtain⟨c0,c1⟩:=qac HB.out;go_wp2_with fail;refine kgo HFLO.out HB fun w2 HB => ?_;clear c0 c1;obtain⟨c0,c1⟩:=qac HB.out;go_wp2_with fail;refine kgo HSUB.out HB fun w3 HB => ?_;clear c0 c1;obtain⟨c0,c1⟩:=qac HB.out;go_wp2_with fail;refine kgo HC.out HB fun w4 HB => ?_;clear c0 c1;obtain⟨c0,c1⟩:=qac HB.out;go_wp2_with fail;refine kgo HMUL.out HB fun w5 HB => ?_;clear c0 c1;obtain⟨c0,c1⟩:=qac HB.out;go_wp2_with fail;go_ret;exact⟨by simp[hm4],HB.out⟩
theorem q1i(a s:Rat)(k:ByteArray)(w:World)(hg:GW w)(sa:sm a 30)(ss:sm s 30)(hs:s.num≠0)(he:k.toList=[104,97,108,102,45,101,118,101,110]):
  Calls Tryz.prog 21 #[.string (rt a),.agg #[.string k,.string (rt s)]] w fun e w'=>e = .returned (.string (rt (qa8 148 a s)))∧qgk w k (rt s) w':=by
 have J:=qey hg k (rt s);have hs0:s≠0:=fun e=>hs (by rw[e];rfl);have sx:=qu5 sa ss hs;have sl:=qkl sx;have sr:=qr7 sx sl;have hq:=qo7 148 (a:=a) hs0 _ (zbl (a/s));rw[hq];clear hq hs0;have HDIV:=hid (qay J fun W=>qyw a s 30 W sa ss (by decide) hs);have HFLO:=hid (qay J fun W=>qo1 (a/s) 60 W sx (by decide));have HSUB:=hid (qay J fun W=>qp9 (a/s) ((a/s).floor:Rat) 61 W (qcb sx (by decide)) sl (by decide));have HMUL:=hid (qay J fun W=>qh4 ((a/s).floor:Rat) s 61 W sl (qcb ss (by decide)) (by decide));have HADD:Hid (qd5 (qgk w k (rt s)) 40 #[.string (rt ((a/s).floor:Rat)),.string ⟨#[49]⟩] (.string (rt (((a/s).floor:Rat)+1)))):=hid (qay J fun W=>by rw[q42];exact qr9 ((a/s).floor:Rat) 1 61 W sl (qcb (qff 1 (by decide) (by decide)) (by decide)) (by decide));have HMUL1:=hid (qay J fun W=>qh4 (((a/s).floor:Rat)+1) s 123 W (qp3 sl (qcb (qff 1 (by decide) (by decide)) (show 1≤61 by decide))) (qcb ss (by decide)) (by decide));have HC:Hid (qd5 (qgk w k (rt s)) 37 #[.string (rt (a/s-((a/s).floor:Rat))),.string ⟨#[49,47,50]⟩] (.int .i64 (qcr (a/s-((a/s).floor:Rat)) (1/2)))):=hid (qmq J sr (qcb (qff (1/2) (by decide +kernel) (by decide +kernel)) (show 1≤122 by decide)) (by decide) rfl qj3 rfl);have HH:=hid (qay J fun W=>q9t ((a/s).floor:Rat) 61 W sl (by decide) (by decide));have sh:sm (((a/s).floor:Rat)/2) 62:=by rw[←qy9];exact qjv sl (qff (1/2) (by decide +kernel) (by decide +kernel))
 have HW:=hid (qkp (I:=qgk w k (rt s)) fun W=>qr8 (((a/s).floor:Rat)/2) W (by have:=qd8 sh;omega));have HE:=q9u (a/s-((a/s).floor:Rat));clear sh;have HB:=hid (qb4 w k (rt s));clear J hg sa ss hs sx sl sr;generalize rt (a/s)=t1 at *;generalize hm4:rt (((a/s).floor:Rat)*s)=t4 at *;generalize rt (((a/s).floor:Rat)+1)=t5 at *;generalize hmm:rt ((((a/s).floor:Rat)+1)*s)=t6 at *;generalize qcr (a/s-((a/s).floor:Rat)) (1/2)=z at *;generalize rt (((a/s).floor:Rat)/2)=t7 at *;generalize decide ((((a/s).floor:Rat)/2).den=1)=bw at *;generalize decide (a/s-((a/s).floor:Rat)=1/2)=be at *;generalize rt ((a/s).floor:Rat)=t2 at *;generalize rt (a/s-((a/s).floor:Rat))=t3 at *;generalize rt a=ta at *;generalize rt s=ts at *;obtain⟨c0,c1⟩:=qac HB.out;have k2:(k.toList==[117,112])=false:=by rw[he];decide
 have k3:(k.toList==[104,97,108,102,45,117,112])=false:=by rw[he];decide
 have k4:(k.toList==[104,97,108,102,45,101,118,101,110])=true:=by rw[he];decide
 clear he;by_cases hz:0<z
 ·have hzb:decide (0<z)=true:=decide_eq_true hz
  rw[hzb];go_enter Tryz.func21,Tryz.ntmps21;go_wp2_with fail;refine kgo HDIV.out HB fun w1 HB => ?_;clear c0 c1;obtain⟨c0,c1⟩:=qac HB.out;go_wp2_with fail;refine kgo HFLO.out HB fun w2 HB => ?_;clear c0 c1;obtain⟨c0,c1⟩:=qac HB.out;go_wp2_with fail;refine kgo HSUB.out HB fun w3 HB => ?_;clear c0 c1;obtain⟨c0,c1⟩:=qac HB.out;go_wp2_with fail;refine kgo HH.out HB fun w4 HB => ?_;clear c0 c1;obtain⟨c0,c1⟩:=qac HB.out;go_wp2_with fail;refine kgo HW.out HB fun w5 HB => ?_;clear c0 c1;obtain⟨c0,c1⟩:=qac HB.out;go_wp2_with fail;refine kgo HC.out HB fun w6 HB => ?_;clear c0 c1;obtain⟨c0,c1⟩:=qac HB.out;go_wp2_with fail;refine kgo HADD.out HB fun w7 HB => ?_;clear c0 c1;obtain⟨c0,c1⟩:=qac HB.out;go_wp2_with fail;refine kgo HMUL1.out HB fun w8 HB => ?_;clear c0 c1;obtain⟨c0,c1⟩:=qac HB.out;go_wp2_with fail;go_ret;exact⟨by simp[hmm],HB.out⟩
 ·have hzb:decide (0<z)=false:=decide_eq_false hz
  rw[hzb];cases be
  ·go_enter Tryz.func21,Tryz.ntmps21
   go_wp2_with fail;refine kgo HDIV.out HB fun w1 HB => ?_;clear c0 c1;obtain⟨c0,c1⟩:=qac HB.out;go_wp2_with fail;refine kgo HFLO.out HB fun w2 HB => ?_;clear c0 c1;obtain⟨c0,c1⟩:=qac HB.out;go_wp2_with fail;refine kgo HSUB.out HB fun w3 HB => ?_;clear c0 c1;obtain⟨c0,c1⟩:=qac HB.out;go_wp2_with fail;refine kgo HH.out HB fun w4 HB => ?_;clear c0 c1;obtain⟨c0,c1⟩:=qac HB.out;go_wp2_with fail;refine kgo HW.out HB fun w5 HB => ?_;clear c0 c1;obtain⟨c0,c1⟩:=qac HB.out;go_wp2_with fail;refine kgo HC.out HB fun w6 HB => ?_;clear c0 c1;obtain⟨c0,c1⟩:=qac HB.out;go_wp2_with fail;refine kgo HMUL.out HB fun w7 HB => ?_;clear c0 c1;obtain⟨c0,c1⟩:=qac HB.out;go_wp2_with fail;go_ret;exact⟨by simp[hm4],HB.out⟩
  ·cases bw
   ·go_enter Tryz.func21,Tryz.ntmps21
    go_wp2_with fail;refine kgo HDIV.out HB fun w1 HB => ?_;clear c0 c1;obtain⟨c0,c1⟩:=qac HB.out;go_wp2_with fail;refine kgo HFLO.out HB fun w2 HB => ?_;clear c0 c1;obtain⟨c0,c1⟩:=qac HB.out;go_wp2_with fail;refine kgo HSUB.out HB fun w3 HB => ?_;clear c0 c1;obtain⟨c0,c1⟩:=qac HB.out;go_wp2_with fail;refine kgo HH.out HB fun w4 HB => ?_;clear c0 c1;obtain⟨c0,c1⟩:=qac HB.out;go_wp2_with fail;refine kgo HW.out HB fun w5 HB => ?_;clear c0 c1;obtain⟨c0,c1⟩:=qac HB.out;go_wp2_with fail;refine kgo HC.out HB fun w6 HB => ?_;clear c0 c1;obtain⟨c0,c1⟩:=qac HB.out;go_wp2_with fail;refine kgo HADD.out HB fun w7 HB => ?_;clear c0 c1;obtain⟨c0,c1⟩:=qac HB.out;go_wp2_with fail;refine kgo HMUL1.out HB fun w8 HB => ?_;clear c0 c1;obtain⟨c0,c1⟩:=qac HB.out;go_wp2_with fail;go_ret;exact⟨by simp[hmm],HB.out⟩
   ·go_enter Tryz.func21,Tryz.ntmps21
    go_wp2_with fail;refine kgo HDIV.out HB fun w1 HB => ?_;clear c0 c1;obtain⟨c0,c1⟩:=qac HB.out;go_wp2_with fail;refine kgo HFLO.out HB fun w2 HB => ?_;clear c0 c1;obtain⟨c0,c1⟩:=qac HB.out;go_wp2_with fail;refine kgo HSUB.out HB fun w3 HB => ?_;clear c0 c1;obtain⟨c0,c1⟩:=qac HB.out;go_wp2_with fail;refine kgo HH.out HB fun w4 HB => ?_;clear c0 c1;obtain⟨c0,c1⟩:=qac HB.out;go_wp2_with fail;refine kgo HW.out HB fun w5 HB => ?_;clear c0 c1;obtain⟨c0,c1⟩:=qac HB.out;go_wp2_with fail;refine kgo HC.out HB fun w6 HB => ?_;clear c0 c1;obtain⟨c0,c1⟩:=qac HB.out;go_wp2_with fail;refine kgo HMUL.out HB fun w7 HB => ?_;clear c0 c1;obtain⟨c0,c1⟩:=qac HB.out;go_wp2_with fail;go_ret;exact⟨by simp[hm4],HB.out⟩
theorem qj5(a s:Rat)(k:ByteArray)(f:Nat)(w:World)(hg:GW w)(sa:sm a 30)(ss:sm s 30)(hs:s.num≠0)(hf:qbf k=some f):
  Calls Tryz.prog 21 #[.string (rt a),.agg #[.string k,.string (rt s)]] w fun e w'=>e = .returned (.string (rt (qa8 f a s)))∧qgk w k (rt s) w':=by
 rcases qsf k with⟨h,e⟩|⟨h,e⟩|⟨h,e⟩|⟨h,e⟩|⟨e,_⟩
 ·rw[hf] at e;cases e;exact q1f a s k w hg sa ss hs h
 ·rw[hf] at e;cases e;exact q1g a s k w hg sa ss hs h
 ·rw[hf] at e;cases e;exact q1h a s k w hg sa ss hs h
 ·rw[hf] at e;cases e;exact q1i a s k w hg sa ss hs h
 ·rw[hf] at e;cases e
end Go.Proofs.YtpbeeneenhmjaaaGreatDoor
