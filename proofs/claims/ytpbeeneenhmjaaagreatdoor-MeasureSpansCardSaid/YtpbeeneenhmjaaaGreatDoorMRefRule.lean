/- What rounding keeps: whole multiples, the distance, the order. -/
import Derived.Test.YtpbeeneenhmjaaaGreatDoorMRounded
import Derived.Test.YtpbeeneenhmjaaaGreatDoorMKeeps
set_option linter.all false
namespace Go.Proofs.YtpbeeneenhmjaaaGreatDoor
open Go.RowKit
set_option maxRecDepth 100000
set_option maxHeartbeats 2000000
def qvq(f:Nat)(q:Rat):Int:=if q.den=1 then q.floor else if qfa f (qcr (q-(q.floor:Rat)) (1/2)) (!decide (((q.floor:Rat)/2).den=1)) then q.floor+1 else q.floor
theorem qlo{q:Rat}(h:q.den=1):((q.floor:Int):Rat)=q:=by
 rw[Rat.floor_def,h];show((q.num/1:Int):Rat)=q;rw[Int.ediv_one];exact Rat.ext rfl (by rw[h];rfl)
theorem q43{q:Rat}(h:q.den≠1):(q.floor:Rat)≠q:=fun e=>h (by rw[←e];rfl)
theorem q44(f:Nat)(q:Rat):qvq f q=q.floor∨qvq f q=q.floor+1:=by
 unfold qvq;split
 ·exact .inl rfl
 ·split
  ·exact .inr rfl
  ·exact .inl rfl
theorem qqr(f:Nat){a s:Rat}(hs:s≠0):qa8 f a s=(qvq f (a/s):Rat)*s:=by
 unfold qa8 qvq;split
 ·rename_i h
  rw[qlo h]
  grind
 ·unfold qn4
  split
  ·rw[Rat.intCast_add];rfl
  ·rfl
theorem q9p{q:Rat}:qcr (q-(q.floor:Rat)) (1/2)=0↔q-(q.floor:Rat)=1/2:=by
 rcases qm8 (q-(q.floor:Rat)) (1/2) with⟨h1,h2⟩|⟨h1,h2⟩|⟨h1,h2⟩
 ·constructor
  ·intro h;omega
  ·intro h;rw[h] at h2;exact absurd h2 Rat.lt_irrefl
 ·exact⟨fun _=>h2,fun _=>h1⟩
 ·constructor
  ·intro h;omega
  ·intro h;rw[h] at h2;exact absurd h2 Rat.lt_irrefl
theorem qey{w:World}(hg:GW w)(k s:ByteArray):Inv (qgk w k s):=⟨fun _ _ h hb=>h.later hb,fun _ h=>hg.later h.1⟩
theorem qac{w W:World}{k s:ByteArray}(h:qgk w k s W):W.cell? ⟨w.heap.size,0,none⟩=some (.string k)∧W.cell? ⟨w.heap.size,1,none⟩=some (.string s):=⟨(h.2.2 0 (by omega)).1,(h.2.2 1 (by omega)).1⟩
theorem qsf(k:ByteArray):(k.toList=[100,111,119,110]∧qbf k=some 145)∨(k.toList=[117,112]∧qbf k=some 146)∨(k.toList=[104,97,108,102,45,117,112]∧qbf k=some 147)∨(k.toList=[104,97,108,102,45,101,118,101,110]∧qbf k=some 148) ∨
  (qbf k=none∧k.toList≠[100,111,119,110]∧k.toList≠[117,112]∧k.toList≠[104,97,108,102,45,117,112]∧k.toList≠[104,97,108,102,45,101,118,101,110]):=by
 have key:∀c:ByteArray,(k==c)=true↔k.toList=c.toList:=fun c=>by
  show(k.data==c.data)=true↔_;rw[beq_iff_eq,ByteArray.toList_eq,ByteArray.toList_eq];exact Array.toList_inj.symm
 have e1:qwl.toList=[100,111,119,110]:=by rw[ByteArray.toList_eq];rfl
 have e2:kUp.toList=[117,112]:=by rw[ByteArray.toList_eq];rfl
 have e3:qlf.toList=[104,97,108,102,45,117,112]:=by rw[ByteArray.toList_eq];rfl
 have e4:qgx.toList=[104,97,108,102,45,101,118,101,110]:=by rw[ByteArray.toList_eq];rfl
 unfold qbf;by_cases h1:(k==qwl)=true
 ·exact .inl ⟨((key _).1 h1).trans e1,by rw[if_pos h1]⟩
 ·by_cases h2:(k==kUp)=true
  ·exact .inr (.inl ⟨((key _).1 h2).trans e2,by rw[if_neg h1,if_pos h2]⟩)
  ·by_cases h3:(k==qlf)=true
   ·exact .inr (.inr (.inl ⟨((key _).1 h3).trans e3,by rw[if_neg h1,if_neg h2,if_pos h3]⟩))
   ·by_cases h4:(k==qgx)=true
    ·exact .inr (.inr (.inr (.inl ⟨((key _).1 h4).trans e4,by rw[if_neg h1,if_neg h2,if_neg h3,if_pos h4]⟩)))
    ·refine .inr (.inr (.inr (.inr ⟨by rw[if_neg h1,if_neg h2,if_neg h3,if_neg h4],fun e=>h1 ((key _).2 (e.trans e1.symm)),fun e=>h2 ((key _).2 (e.trans e2.symm)),fun e=>h3 ((key _).2 (e.trans e3.symm)),fun e=>h4 ((key _).2 (e.trans e4.symm))⟩)))
theorem qvr(k s:ByteArray)(w:World)(hk:qbf k=none∧k.toList≠[100,111,119,110]∧k.toList≠[117,112]∧k.toList≠[104,97,108,102,45,117,112]∧k.toList≠[104,97,108,102,45,101,118,101,110]):Calls Tryz.prog 18 #[.agg #[.string k,.string s]] w fun e w'=>e = .returned (.int .i64 (qaa k s.data.toList:Nat))∧qgk w k s w':=by
 obtain⟨hn,n1,n2,n3,n4⟩:=hk;have hr:qaa k s.data.toList=20:=by unfold qaa;rw[if_pos hn]
 rw[hr];have m1:(k.toList != [100,111,119,110])=true:=by rw[bne_iff_ne];exact n1
 have b1:(k.toList==[100,111,119,110])=false:=beq_eq_false_iff_ne.2 n1;have m2:(k.toList != [117,112])=true:=by rw[bne_iff_ne];exact n2
 have b2:(k.toList==[117,112])=false:=beq_eq_false_iff_ne.2 n2;have m3:(k.toList != [104,97,108,102,45,117,112])=true:=by rw[bne_iff_ne];exact n3
 have b3:(k.toList==[104,97,108,102,45,117,112])=false:=beq_eq_false_iff_ne.2 n3;have m4:(k.toList != [104,97,108,102,45,101,118,101,110])=true:=by rw[bne_iff_ne];exact n4
 have b4:(k.toList==[104,97,108,102,45,101,118,101,110])=false:=beq_eq_false_iff_ne.2 n4;have HW0:=hid (qb4 w k s);obtain⟨c0,c1⟩:=qac HW0.out;clear n1 n2 n3 n4 hn hr;go_enter Tryz.func18,Tryz.ntmps18;go_wp2_with fail;go_ret;exact⟨rfl,HW0.out⟩
theorem qom(k s:ByteArray)(w:World)(hg:GW w)(hs:s.size≤5000)(he:k.toList=[100,111,119,110])(hf:qbf k=some 145)(hc:qab s.data.toList≠0):Calls Tryz.prog 18 #[.agg #[.string k,.string s]] w fun e w'=>e = .returned (.int .i64 (qaa k s.data.toList:Nat))∧qgk w k s w':=by
 have hr:qaa k s.data.toList=qab s.data.toList:=by unfold qaa;rw[hf,if_neg (by simp),if_pos hc]
 rw[hr];have J:=qey hg k s;have HW0:=hid (qb4 w k s);obtain⟨c0,c1⟩:=qac HW0.out;have HC:=hid (qbb J s _ rfl hs);have hne:((qab s.data.toList:Int)==0)=false:=beq_eq_false_iff_ne.2 (by omega);clear hr hc hf J hg;generalize qab s.data.toList=c at *;go_enter Tryz.func18,Tryz.ntmps18;go_wp2_with fail;refine(HC.out _ HW0.out).mono ?_;rintro e w1 ⟨rfl,hb⟩;have HB:=hid hb;clear hb c0 c1;obtain⟨c0,c1⟩:=qac HB.out;go_wp2_with fail;go_ret;exact⟨rfl,HB.out⟩
theorem qmr(k s:ByteArray)(w:World)(hg:GW w)(hs:s.size≤5000)(he:k.toList=[100,111,119,110])(hf:qbf k=some 145)(hc:qab s.data.toList=0)(hn:(qal s.data.toList).num≤0):Calls Tryz.prog 18 #[.agg #[.string k,.string s]] w fun e w'=>e = .returned (.int .i64 (qaa k s.data.toList:Nat))∧qgk w k s w':=by
 have hr:qaa k s.data.toList=3:=by unfold qaa;rw[hf,if_neg (by simp),if_neg (by omega),if_pos hn]
 rw[hr];have J:=qey hg k s;have HW0:=hid (qb4 w k s);obtain⟨c0,c1⟩:=qac HW0.out;have HC:=hid (qbb J s 0 hc hs);have hz:sgn (qal s.data.toList)≤0:=by unfold sgn;split<;>(try split)<;>omega
 have HS:Hid (∀W:World,Calls Tryz.prog 50 #[.string s] W fun e w'=>e = .returned (.int .i64 (sgn (qal s.data.toList)))∧w'=W):=hid fun W=>by
  have h:=qfc (qal s.data.toList) _ rfl W;rw[←(qba hc).1] at h;exact h
 clear hr hc hf hn J hg;generalize sgn (qal s.data.toList)=z at *;go_enter Tryz.func18,Tryz.ntmps18;go_wp2_with fail;refine(HC.out _ HW0.out).mono ?_;rintro e w1 ⟨rfl,hb⟩;have HB:=hid hb;clear hb c0 c1;obtain⟨c0,c1⟩:=qac HB.out;go_wp2_with fail;refine(HS.out _).mono ?_;rintro e w2 ⟨rfl,rfl⟩;go_wp2_with fail;go_ret;exact⟨rfl,HB.out⟩
theorem qqs(k s:ByteArray)(w:World)(hg:GW w)(hs:s.size≤5000)(he:k.toList=[100,111,119,110])(hf:qbf k=some 145)(hc:qab s.data.toList=0)(hn:¬(qal s.data.toList).num≤0):Calls Tryz.prog 18 #[.agg #[.string k,.string s]] w fun e w'=>e = .returned (.int .i64 (qaa k s.data.toList:Nat))∧qgk w k s w':=by
 have hr:qaa k s.data.toList=0:=by unfold qaa;rw[hf,if_neg (by simp),if_neg (by omega),if_neg hn]
 rw[hr];have J:=qey hg k s;have HW0:=hid (qb4 w k s);obtain⟨c0,c1⟩:=qac HW0.out;have HC:=hid (qbb J s 0 hc hs);have hz:¬sgn (qal s.data.toList)≤0:=by rw[qp6 (by omega)];decide
 have HS:Hid (∀W:World,Calls Tryz.prog 50 #[.string s] W fun e w'=>e = .returned (.int .i64 (sgn (qal s.data.toList)))∧w'=W):=hid fun W=>by
  have h:=qfc (qal s.data.toList) _ rfl W;rw[←(qba hc).1] at h;exact h
 clear hr hc hf hn J hg;generalize sgn (qal s.data.toList)=z at *;go_enter Tryz.func18,Tryz.ntmps18;go_wp2_with fail;refine(HC.out _ HW0.out).mono ?_;rintro e w1 ⟨rfl,hb⟩;have HB:=hid hb;clear hb c0 c1;obtain⟨c0,c1⟩:=qac HB.out;go_wp2_with fail;refine(HS.out _).mono ?_;rintro e w2 ⟨rfl,rfl⟩;go_wp2_with fail;go_ret;exact⟨rfl,HB.out⟩
theorem qrg(k s:ByteArray)(w:World)(hg:GW w)(hs:s.size≤5000)(he:k.toList=[117,112])(hf:qbf k=some 146)(hc:qab s.data.toList≠0):Calls Tryz.prog 18 #[.agg #[.string k,.string s]] w fun e w'=>e = .returned (.int .i64 (qaa k s.data.toList:Nat))∧qgk w k s w':=by
 have hr:qaa k s.data.toList=qab s.data.toList:=by unfold qaa;rw[hf,if_neg (by simp),if_pos hc]
 rw[hr];have J:=qey hg k s;have HW0:=hid (qb4 w k s);obtain⟨c0,c1⟩:=qac HW0.out;have HC:=hid (qbb J s _ rfl hs);have hne:((qab s.data.toList:Int)==0)=false:=beq_eq_false_iff_ne.2 (by omega);clear hr hc hf J hg;generalize qab s.data.toList=c at *;go_enter Tryz.func18,Tryz.ntmps18;go_wp2_with fail;refine(HC.out _ HW0.out).mono ?_;rintro e w1 ⟨rfl,hb⟩;have HB:=hid hb;clear hb c0 c1;obtain⟨c0,c1⟩:=qac HB.out;go_wp2_with fail;go_ret;exact⟨rfl,HB.out⟩
theorem qon(k s:ByteArray)(w:World)(hg:GW w)(hs:s.size≤5000)(he:k.toList=[117,112])(hf:qbf k=some 146)(hc:qab s.data.toList=0)(hn:(qal s.data.toList).num≤0):Calls Tryz.prog 18 #[.agg #[.string k,.string s]] w fun e w'=>e = .returned (.int .i64 (qaa k s.data.toList:Nat))∧qgk w k s w':=by
 have hr:qaa k s.data.toList=3:=by unfold qaa;rw[hf,if_neg (by simp),if_neg (by omega),if_pos hn]
 rw[hr];have J:=qey hg k s;have HW0:=hid (qb4 w k s);obtain⟨c0,c1⟩:=qac HW0.out;have HC:=hid (qbb J s 0 hc hs);have hz:sgn (qal s.data.toList)≤0:=by unfold sgn;split<;>(try split)<;>omega
 have HS:Hid (∀W:World,Calls Tryz.prog 50 #[.string s] W fun e w'=>e = .returned (.int .i64 (sgn (qal s.data.toList)))∧w'=W):=hid fun W=>by
  have h:=qfc (qal s.data.toList) _ rfl W;rw[←(qba hc).1] at h;exact h
 clear hr hc hf hn J hg;generalize sgn (qal s.data.toList)=z at *;go_enter Tryz.func18,Tryz.ntmps18;go_wp2_with fail;refine(HC.out _ HW0.out).mono ?_;rintro e w1 ⟨rfl,hb⟩;have HB:=hid hb;clear hb c0 c1;obtain⟨c0,c1⟩:=qac HB.out;go_wp2_with fail;refine(HS.out _).mono ?_;rintro e w2 ⟨rfl,rfl⟩;go_wp2_with fail;go_ret;exact⟨rfl,HB.out⟩
theorem qtm(k s:ByteArray)(w:World)(hg:GW w)(hs:s.size≤5000)(he:k.toList=[117,112])(hf:qbf k=some 146)(hc:qab s.data.toList=0)(hn:¬(qal s.data.toList).num≤0):Calls Tryz.prog 18 #[.agg #[.string k,.string s]] w fun e w'=>e = .returned (.int .i64 (qaa k s.data.toList:Nat))∧qgk w k s w':=by
 have hr:qaa k s.data.toList=0:=by unfold qaa;rw[hf,if_neg (by simp),if_neg (by omega),if_neg hn]
 rw[hr];have J:=qey hg k s;have HW0:=hid (qb4 w k s);obtain⟨c0,c1⟩:=qac HW0.out;have HC:=hid (qbb J s 0 hc hs);have hz:¬sgn (qal s.data.toList)≤0:=by rw[qp6 (by omega)];decide
 have HS:Hid (∀W:World,Calls Tryz.prog 50 #[.string s] W fun e w'=>e = .returned (.int .i64 (sgn (qal s.data.toList)))∧w'=W):=hid fun W=>by
  have h:=qfc (qal s.data.toList) _ rfl W;rw[←(qba hc).1] at h;exact h
 clear hr hc hf hn J hg;generalize sgn (qal s.data.toList)=z at *;go_enter Tryz.func18,Tryz.ntmps18;go_wp2_with fail;refine(HC.out _ HW0.out).mono ?_;rintro e w1 ⟨rfl,hb⟩;have HB:=hid hb;clear hb c0 c1;obtain⟨c0,c1⟩:=qac HB.out;go_wp2_with fail;refine(HS.out _).mono ?_;rintro e w2 ⟨rfl,rfl⟩;go_wp2_with fail;go_ret;exact⟨rfl,HB.out⟩
theorem qms(k s:ByteArray)(w:World)(hg:GW w)(hs:s.size≤5000)(he:k.toList=[104,97,108,102,45,117,112])(hf:qbf k=some 147)(hc:qab s.data.toList≠0):Calls Tryz.prog 18 #[.agg #[.string k,.string s]] w fun e w'=>e = .returned (.int .i64 (qaa k s.data.toList:Nat))∧qgk w k s w':=by
 have hr:qaa k s.data.toList=qab s.data.toList:=by unfold qaa;rw[hf,if_neg (by simp),if_pos hc]
 rw[hr];have J:=qey hg k s;have HW0:=hid (qb4 w k s);obtain⟨c0,c1⟩:=qac HW0.out;have HC:=hid (qbb J s _ rfl hs);have hne:((qab s.data.toList:Int)==0)=false:=beq_eq_false_iff_ne.2 (by omega);clear hr hc hf J hg;generalize qab s.data.toList=c at *;go_enter Tryz.func18,Tryz.ntmps18;go_wp2_with fail;refine(HC.out _ HW0.out).mono ?_;rintro e w1 ⟨rfl,hb⟩;have HB:=hid hb;clear hb c0 c1;obtain⟨c0,c1⟩:=qac HB.out;go_wp2_with fail;go_ret;exact⟨rfl,HB.out⟩
theorem qkv(k s:ByteArray)(w:World)(hg:GW w)(hs:s.size≤5000)(he:k.toList=[104,97,108,102,45,117,112])(hf:qbf k=some 147)(hc:qab s.data.toList=0)(hn:(qal s.data.toList).num≤0):Calls Tryz.prog 18 #[.agg #[.string k,.string s]] w fun e w'=>e = .returned (.int .i64 (qaa k s.data.toList:Nat))∧qgk w k s w':=by
 have hr:qaa k s.data.toList=3:=by unfold qaa;rw[hf,if_neg (by simp),if_neg (by omega),if_pos hn]
 rw[hr];have J:=qey hg k s;have HW0:=hid (qb4 w k s);obtain⟨c0,c1⟩:=qac HW0.out;have HC:=hid (qbb J s 0 hc hs);have hz:sgn (qal s.data.toList)≤0:=by unfold sgn;split<;>(try split)<;>omega
 have HS:Hid (∀W:World,Calls Tryz.prog 50 #[.string s] W fun e w'=>e = .returned (.int .i64 (sgn (qal s.data.toList)))∧w'=W):=hid fun W=>by
  have h:=qfc (qal s.data.toList) _ rfl W;rw[←(qba hc).1] at h;exact h
 clear hr hc hf hn J hg;generalize sgn (qal s.data.toList)=z at *;go_enter Tryz.func18,Tryz.ntmps18;go_wp2_with fail;refine(HC.out _ HW0.out).mono ?_;rintro e w1 ⟨rfl,hb⟩;have HB:=hid hb;clear hb c0 c1;obtain⟨c0,c1⟩:=qac HB.out;go_wp2_with fail;refine(HS.out _).mono ?_;rintro e w2 ⟨rfl,rfl⟩;go_wp2_with fail;go_ret;exact⟨rfl,HB.out⟩
theorem qnt(k s:ByteArray)(w:World)(hg:GW w)(hs:s.size≤5000)(he:k.toList=[104,97,108,102,45,117,112])(hf:qbf k=some 147)(hc:qab s.data.toList=0)(hn:¬(qal s.data.toList).num≤0):Calls Tryz.prog 18 #[.agg #[.string k,.string s]] w fun e w'=>e = .returned (.int .i64 (qaa k s.data.toList:Nat))∧qgk w k s w':=by
 have hr:qaa k s.data.toList=0:=by unfold qaa;rw[hf,if_neg (by simp),if_neg (by omega),if_neg hn]
 rw[hr];have J:=qey hg k s;have HW0:=hid (qb4 w k s);obtain⟨c0,c1⟩:=qac HW0.out;have HC:=hid (qbb J s 0 hc hs);have hz:¬sgn (qal s.data.toList)≤0:=by rw[qp6 (by omega)];decide
 have HS:Hid (∀W:World,Calls Tryz.prog 50 #[.string s] W fun e w'=>e = .returned (.int .i64 (sgn (qal s.data.toList)))∧w'=W):=hid fun W=>by
  have h:=qfc (qal s.data.toList) _ rfl W;rw[←(qba hc).1] at h;exact h
 clear hr hc hf hn J hg;generalize sgn (qal s.data.toList)=z at *;go_enter Tryz.func18,Tryz.ntmps18;go_wp2_with fail;refine(HC.out _ HW0.out).mono ?_;rintro e w1 ⟨rfl,hb⟩;have HB:=hid hb;clear hb c0 c1;obtain⟨c0,c1⟩:=qac HB.out;go_wp2_with fail;refine(HS.out _).mono ?_;rintro e w2 ⟨rfl,rfl⟩;go_wp2_with fail;go_ret;exact⟨rfl,HB.out⟩
theorem qkw(k s:ByteArray)(w:World)(hg:GW w)(hs:s.size≤5000)(he:k.toList=[104,97,108,102,45,101,118,101,110])(hf:qbf k=some 148)(hc:qab s.data.toList≠0):Calls Tryz.prog 18 #[.agg #[.string k,.string s]] w fun e w'=>e = .returned (.int .i64 (qaa k s.data.toList:Nat))∧qgk w k s w':=by
 have hr:qaa k s.data.toList=qab s.data.toList:=by unfold qaa;rw[hf,if_neg (by simp),if_pos hc]
 rw[hr];have J:=qey hg k s;have HW0:=hid (qb4 w k s);obtain⟨c0,c1⟩:=qac HW0.out;have HC:=hid (qbb J s _ rfl hs);have hne:((qab s.data.toList:Int)==0)=false:=beq_eq_false_iff_ne.2 (by omega);clear hr hc hf J hg;generalize qab s.data.toList=c at *;go_enter Tryz.func18,Tryz.ntmps18;go_wp2_with fail;refine(HC.out _ HW0.out).mono ?_;rintro e w1 ⟨rfl,hb⟩;have HB:=hid hb;clear hb c0 c1;obtain⟨c0,c1⟩:=qac HB.out;go_wp2_with fail;go_ret;exact⟨rfl,HB.out⟩
theorem qi3(k s:ByteArray)(w:World)(hg:GW w)(hs:s.size≤5000)(he:k.toList=[104,97,108,102,45,101,118,101,110])(hf:qbf k=some 148)(hc:qab s.data.toList=0)(hn:(qal s.data.toList).num≤0):Calls Tryz.prog 18 #[.agg #[.string k,.string s]] w fun e w'=>e = .returned (.int .i64 (qaa k s.data.toList:Nat))∧qgk w k s w':=by
 have hr:qaa k s.data.toList=3:=by unfold qaa;rw[hf,if_neg (by simp),if_neg (by omega),if_pos hn]
 rw[hr];have J:=qey hg k s;have HW0:=hid (qb4 w k s);obtain⟨c0,c1⟩:=qac HW0.out;have HC:=hid (qbb J s 0 hc hs);have hz:sgn (qal s.data.toList)≤0:=by unfold sgn;split<;>(try split)<;>omega
 have HS:Hid (∀W:World,Calls Tryz.prog 50 #[.string s] W fun e w'=>e = .returned (.int .i64 (sgn (qal s.data.toList)))∧w'=W):=hid fun W=>by
  have h:=qfc (qal s.data.toList) _ rfl W;rw[←(qba hc).1] at h;exact h
 clear hr hc hf hn J hg;generalize sgn (qal s.data.toList)=z at *;go_enter Tryz.func18,Tryz.ntmps18;go_wp2_with fail;refine(HC.out _ HW0.out).mono ?_;rintro e w1 ⟨rfl,hb⟩;have HB:=hid hb;clear hb c0 c1;obtain⟨c0,c1⟩:=qac HB.out;go_wp2_with fail;refine(HS.out _).mono ?_;rintro e w2 ⟨rfl,rfl⟩;go_wp2_with fail;go_ret;exact⟨rfl,HB.out⟩
theorem qlp(k s:ByteArray)(w:World)(hg:GW w)(hs:s.size≤5000)(he:k.toList=[104,97,108,102,45,101,118,101,110])(hf:qbf k=some 148)(hc:qab s.data.toList=0)(hn:¬(qal s.data.toList).num≤0):Calls Tryz.prog 18 #[.agg #[.string k,.string s]] w fun e w'=>e = .returned (.int .i64 (qaa k s.data.toList:Nat))∧qgk w k s w':=by
 have hr:qaa k s.data.toList=0:=by unfold qaa;rw[hf,if_neg (by simp),if_neg (by omega),if_neg hn]
 rw[hr];have J:=qey hg k s;have HW0:=hid (qb4 w k s);obtain⟨c0,c1⟩:=qac HW0.out;have HC:=hid (qbb J s 0 hc hs);have hz:¬sgn (qal s.data.toList)≤0:=by rw[qp6 (by omega)];decide
 have HS:Hid (∀W:World,Calls Tryz.prog 50 #[.string s] W fun e w'=>e = .returned (.int .i64 (sgn (qal s.data.toList)))∧w'=W):=hid fun W=>by
  have h:=qfc (qal s.data.toList) _ rfl W;rw[←(qba hc).1] at h;exact h
 clear hr hc hf hn J hg;generalize sgn (qal s.data.toList)=z at *;go_enter Tryz.func18,Tryz.ntmps18;go_wp2_with fail;refine(HC.out _ HW0.out).mono ?_;rintro e w1 ⟨rfl,hb⟩;have HB:=hid hb;clear hb c0 c1;obtain⟨c0,c1⟩:=qac HB.out;go_wp2_with fail;refine(HS.out _).mono ?_;rintro e w2 ⟨rfl,rfl⟩;go_wp2_with fail;go_ret;exact⟨rfl,HB.out⟩
theorem qlq(k s:ByteArray)(w:World)(hg:GW w)(hs:s.size≤5000):Calls Tryz.prog 18 #[.agg #[.string k,.string s]] w fun e w'=>e = .returned (.int .i64 (qaa k s.data.toList:Nat))∧qgk w k s w':=by
 rcases qsf k with⟨he,hf⟩|⟨he,hf⟩|⟨he,hf⟩|⟨he,hf⟩|hk
 ·by_cases hc:qab s.data.toList=0
  ·by_cases hn:(qal s.data.toList).num≤0
   ·exact qmr k s w hg hs he hf hc hn
   ·exact qqs k s w hg hs he hf hc hn
  ·exact qom k s w hg hs he hf hc
 ·by_cases hc:qab s.data.toList=0
  ·by_cases hn:(qal s.data.toList).num≤0
   ·exact qon k s w hg hs he hf hc hn
   ·exact qtm k s w hg hs he hf hc hn
  ·exact qrg k s w hg hs he hf hc
 ·by_cases hc:qab s.data.toList=0
  ·by_cases hn:(qal s.data.toList).num≤0
   ·exact qkv k s w hg hs he hf hc hn
   ·exact qnt k s w hg hs he hf hc hn
  ·exact qms k s w hg hs he hf hc
 ·by_cases hc:qab s.data.toList=0
  ·by_cases hn:(qal s.data.toList).num≤0
   ·exact qi3 k s w hg hs he hf hc hn
   ·exact qlp k s w hg hs he hf hc hn
  ·exact qkw k s w hg hs he hf hc
 ·exact qvr k s w hk
end Go.Proofs.YtpbeeneenhmjaaaGreatDoor
