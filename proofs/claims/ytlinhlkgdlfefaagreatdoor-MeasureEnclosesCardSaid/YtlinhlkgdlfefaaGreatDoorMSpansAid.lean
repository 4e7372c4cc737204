/- The law's when and first. -/
import Derived.Test.YtlinhlkgdlfefaaGreatDoorMBase
import Derived.Test.YtlinhlkgdlfefaaGreatDoorMRounded
import Derived.WalkKit
import Derived.Test.YtlinhlkgdlfefaaGreatDoorMKeeps
import Derived.Test.YtlinhlkgdlfefaaGreatDoorMReadRule
import Derived.Test.YtlinhlkgdlfefaaGreatDoorMRefRule
import Derived.Test.YtlinhlkgdlfefaaGreatDoorMSpans
import Derived.Test.YtlinhlkgdlfefaaGreatDoorMRefK
import Derived.Test.YtlinhlkgdlfefaaGreatDoorMNv
import Derived.Deep.RegionHeld3
set_option linter.all false
namespace Go.Proofs.YtlinhlkgdlfefaaGreatDoor
set_option maxRecDepth 100000
set_option maxHeartbeats 2000000
open Go.RowKit
end Go.Proofs.YtlinhlkgdlfefaaGreatDoor
namespace Go.Proofs.YtlinhlkgdlfefaaGreatDoor
open Go.RowKit
set_option maxRecDepth 100000
set_option maxHeartbeats 2000000
def BxC(W:World):List (Nat × ByteArray × ByteArray)→Prop
 | []=>True
 | r::L=>W.cell? ⟨r.1,0,none⟩=some (.string r.2.1)∧W.cell? ⟨r.1,1,none⟩=some (.string r.2.2)∧BxC W L
def Bxs(w:World)(L:List (Nat × ByteArray × ByteArray))(W:World):Prop:=
 Below w.heap.size w W∧∀r ∈ L,Own W r.1 2 (qtw (.string r.2.1) (.string r.2.2))
theorem Bxs.later{w W W':World}{L:List (Nat × ByteArray × ByteArray)}(h:Bxs w L W)(hb:Below W.heap.size W W'):Bxs w L W':=
 ⟨h.1.trans (hb.mono h.1.size),fun r hr=>(h.2 r hr).later (hb.mono (h.2 r hr).1)⟩
theorem qsq{w:World}(hg:GW w)(L:List (Nat × ByteArray × ByteArray)):Inv (Bxs w L):=⟨fun _ _ h hb=>h.later hb,fun _ h=>hg.later h.1⟩
theorem qdc{w W:World}{L:List (Nat × ByteArray × ByteArray)}(h:Bxs w L W)(t:TypeId)(a b:ByteArray):Bxs w ((W.heap.size,a,b)::L) (W.alloc (.cells #[.string a,.string b] t)):=by
 have hl:=h.later ((Below.refl W.heap.size W).alloc (Nat.le_refl _) (.cells #[.string a,.string b] t));refine⟨hl.1,fun r hr => ?_⟩;rcases List.mem_cons.1 hr with rfl|hr
 ·exact qck W t (.string a) (.string b)
 ·exact hl.2 r hr
theorem qcg{w W:World}:∀ {L:List (Nat × ByteArray × ByteArray)},Bxs w L W→BxC W L
 | [],_=>trivial
 | r::_,h=>⟨((h.2 r (List.mem_cons_self ..)).2 0 (by decide)).1,((h.2 r (List.mem_cons_self ..)).2 1 (by decide)).1,qcg ⟨h.1,fun x hx=>h.2 x (List.mem_cons_of_mem _ hx)⟩⟩
theorem qb2{I:World→Prop}{f:FuncId}{args:Array Value}{v:Value}(h:qgv I f args v):Hid (∀W,I W→Calls Tryz.prog f args W fun e w'=>e = .returned v∧I w'):=hid h
theorem ql7(w:World)(k s:ByteArray)(t:TypeId):qoa w k s (w.alloc (.cells #[.string k,.string s] t)):=
 ⟨(Below.refl _ _).alloc (Nat.le_refl _) _,qck _ _ _ _⟩
theorem qxc(lo hi:ByteArray)(w:World)(hg:GW w)(s1:lo.size≤2000)(s2:hi.size≤2000)(h1:qaa lo.data.toList≠0):Calls Tryz.prog 20 #[.agg #[.string lo,.string hi]] w fun e w'=>e = .returned (.int .i64 (qcl lo hi:Nat))∧qoa w lo hi w':=by
 have J:=qyp hg lo hi;have HB:=hid (ql7 w lo hi 24);obtain⟨c0,c1⟩:=qd3 HB.out;have hr:qcl lo hi=qaa lo.data.toList:=by unfold qcl;rw[show qad [qaa lo.data.toList,qaa hi.data.toList]=qaa lo.data.toList by unfold qad;rw[if_neg h1],if_pos h1]
 rw[hr];have HC1:=hid (qel J lo _ rfl (by omega));have hne:((qaa lo.data.toList:Int)==0)=false:=beq_eq_false_iff_ne.2 (by omega);clear hr h1 J hg;generalize qaa lo.data.toList=c at *;go_enter Tryz.func20,Tryz.ntmps20;go_wp2_with fail;refine(HC1.out _ HB.out).mono ?_;rintro e wN ⟨rfl,hb⟩;clear HB c0 c1;have HB:=hid hb;clear hb;obtain⟨c0,c1⟩:=qd3 HB.out;go_wp2_with fail;go_ret;exact⟨rfl,HB.out⟩
theorem qva(lo hi:ByteArray)(w:World)(hg:GW w)(s1:lo.size≤2000)(s2:hi.size≤2000)(h1:qaa lo.data.toList=0)(h2:qaa hi.data.toList≠0):Calls Tryz.prog 20 #[.agg #[.string lo,.string hi]] w fun e w'=>e = .returned (.int .i64 (qcl lo hi:Nat))∧qoa w lo hi w':=by
 have J:=qyp hg lo hi;have HB:=hid (ql7 w lo hi 24);obtain⟨c0,c1⟩:=qd3 HB.out;have hr:qcl lo hi=qaa hi.data.toList:=by unfold qcl;rw[show qad [qaa lo.data.toList,qaa hi.data.toList]=qaa hi.data.toList by unfold qad;rw[if_pos h1];unfold qad;rw[if_neg h2],if_pos h2]
 rw[hr];have HC1:=hid (qel J lo 0 h1 (by omega));have HC2:=hid (qel J hi _ rfl (by omega));have hne:((qaa hi.data.toList:Int)==0)=false:=beq_eq_false_iff_ne.2 (by omega);clear hr h1 h2 J hg;generalize qaa hi.data.toList=c at *;go_enter Tryz.func20,Tryz.ntmps20;go_wp2_with fail;refine(HC1.out _ HB.out).mono ?_;rintro e wN ⟨rfl,hb⟩;clear HB c0 c1;have HB:=hid hb;clear hb;obtain⟨c0,c1⟩:=qd3 HB.out;go_wp2_with fail;refine(HC2.out _ HB.out).mono ?_;rintro e wN ⟨rfl,hb⟩;clear HB c0 c1;have HB:=hid hb;clear hb;obtain⟨c0,c1⟩:=qd3 HB.out;go_wp2_with fail;go_ret;exact⟨rfl,HB.out⟩
theorem qsr(lo hi:ByteArray)(w:World)(hg:GW w)(s1:lo.size≤2000)(s2:hi.size≤2000)(h1:qaa lo.data.toList=0)(h2:qaa hi.data.toList=0)(h3:0<qcp (qam lo.data.toList) (qam hi.data.toList)):Calls Tryz.prog 20 #[.agg #[.string lo,.string hi]] w fun e w'=>e = .returned (.int .i64 (qcl lo hi:Nat))∧qoa w lo hi w':=by
 have J:=qyp hg lo hi;have HB:=hid (ql7 w lo hi 24);obtain⟨c0,c1⟩:=qd3 HB.out;have hr:qcl lo hi=11:=by unfold qcl;rw[h1,h2,if_neg (by decide),if_pos h3]
 rw[hr];have HC1:=hid (qel J lo 0 h1 (by omega));have HC2:=hid (qel J hi 0 h2 (by omega));have e1:=(qfh h1).1;have e2:=(qfh h2).1;have q1:sm (qam lo.data.toList) 2000:=qkb (by rw[←e1];exact s1) (by decide);have q2:sm (qam hi.data.toList) 2000:=qkb (by rw[←e2];exact s2) (by decide);have HCM:=hid (qu8 J q1 q2 (by decide) e1 e2 (z:=qcp (qam lo.data.toList) (qam hi.data.toList)) rfl);clear hr h1 h2 e1 e2 q1 q2 J hg;generalize qcp (qam lo.data.toList) (qam hi.data.toList)=z at *;go_enter Tryz.func20,Tryz.ntmps20;go_wp2_with fail;refine(HC1.out _ HB.out).mono ?_;rintro e wN ⟨rfl,hb⟩;clear HB c0 c1;have HB:=hid hb;clear hb;obtain⟨c0,c1⟩:=qd3 HB.out;go_wp2_with fail;refine(HC2.out _ HB.out).mono ?_;rintro e wN ⟨rfl,hb⟩;clear HB c0 c1;have HB:=hid hb;clear hb;obtain⟨c0,c1⟩:=qd3 HB.out;go_wp2_with fail;refine(HCM.out _ HB.out).mono ?_;rintro e wN ⟨rfl,hb⟩;clear HB c0 c1;have HB:=hid hb;clear hb;obtain⟨c0,c1⟩:=qd3 HB.out;go_wp2_with fail;go_ret;exact⟨rfl,HB.out⟩
theorem q0t(lo hi:ByteArray)(w:World)(hg:GW w)(s1:lo.size≤2000)(s2:hi.size≤2000)(h1:qaa lo.data.toList=0)(h2:qaa hi.data.toList=0)(h3:¬0<qcp (qam lo.data.toList) (qam hi.data.toList)):Calls Tryz.prog 20 #[.agg #[.string lo,.string hi]] w fun e w'=>e = .returned (.int .i64 (qcl lo hi:Nat))∧qoa w lo hi w':=by
 have J:=qyp hg lo hi;have HB:=hid (ql7 w lo hi 24);obtain⟨c0,c1⟩:=qd3 HB.out;have hr:qcl lo hi=0:=by unfold qcl;rw[h1,h2,if_neg (by decide),if_neg h3]
 rw[hr];have HC1:=hid (qel J lo 0 h1 (by omega));have HC2:=hid (qel J hi 0 h2 (by omega));have e1:=(qfh h1).1;have e2:=(qfh h2).1;have q1:sm (qam lo.data.toList) 2000:=qkb (by rw[←e1];exact s1) (by decide);have q2:sm (qam hi.data.toList) 2000:=qkb (by rw[←e2];exact s2) (by decide);have HCM:=hid (qu8 J q1 q2 (by decide) e1 e2 (z:=qcp (qam lo.data.toList) (qam hi.data.toList)) rfl);clear hr h1 h2 e1 e2 q1 q2 J hg;generalize qcp (qam lo.data.toList) (qam hi.data.toList)=z at *;go_enter Tryz.func20,Tryz.ntmps20;go_wp2_with fail;refine(HC1.out _ HB.out).mono ?_;rintro e wN ⟨rfl,hb⟩;clear HB c0 c1;have HB:=hid hb;clear hb;obtain⟨c0,c1⟩:=qd3 HB.out;go_wp2_with fail;refine(HC2.out _ HB.out).mono ?_;rintro e wN ⟨rfl,hb⟩;clear HB c0 c1;have HB:=hid hb;clear hb;obtain⟨c0,c1⟩:=qd3 HB.out;go_wp2_with fail;refine(HCM.out _ HB.out).mono ?_;rintro e wN ⟨rfl,hb⟩;clear HB c0 c1;have HB:=hid hb;clear hb;obtain⟨c0,c1⟩:=qd3 HB.out;go_wp2_with fail;go_ret;exact⟨rfl,HB.out⟩
theorem qk9(lo hi:ByteArray)(w:World)(hg:GW w)(s1:lo.size≤2000)(s2:hi.size≤2000):Calls Tryz.prog 20 #[.agg #[.string lo,.string hi]] w fun e w'=>e = .returned (.int .i64 (qcl lo hi:Nat))∧qoa w lo hi w':=by
 by_cases h1:qaa lo.data.toList=0
 ·by_cases h2:qaa hi.data.toList=0
  ·by_cases h3:0<qcp (qam lo.data.toList) (qam hi.data.toList)
   ·exact qsr lo hi w hg s1 s2 h1 h2 h3
   ·exact q0t lo hi w hg s1 s2 h1 h2 h3
  ·exact qva lo hi w hg s1 s2 h1 h2
 ·exact qxc lo hi w hg s1 s2 h1
def qvb(p q:Rat):Nat:=if qa2 p 600&&qa2 q 600 then 0 else 4
def q7p(p q x:Rat):ByteArray:=if qa2 p 600&&qa2 q 600 then rt x else⟨#[]⟩
theorem qjp{p q:Rat}{w w':World}{e:Ending}(h:qct p q w e w'):e = .returned (.tuple #[.agg #[.string (q7p p q p),.string (q7p p q q)],.int .i64 (qvb p q:Nat)])∧Below w.heap.size w w':=by
 obtain⟨h1,h2⟩:=h;refine⟨?_,h2⟩;unfold q7p qvb;by_cases hp:qa2 p 600=true
 ·by_cases hq:qa2 q 600=true
  ·have e1:qad [qfl p,qfl q]=0:=by unfold qfl;rw[if_pos hp,if_pos hq];rfl
   rw[if_pos e1] at h1;rw[hp,hq,h1];unfold qc9 rt;rw[if_pos hp,if_pos hq];rfl
  ·have e1:qad [qfl p,qfl q]=4:=by unfold qfl;rw[if_pos hp,if_neg hq];rfl
   rw[if_neg (by omega),e1] at h1;have hq':qa2 q 600=false:=by simpa using hq
   rw[hp,hq',h1];rfl
 ·have e1:qad [qfl p,qfl q]=4:=by unfold qfl;rw[if_neg hp];rfl
  rw[if_neg (by omega),e1] at h1;have hp':qa2 p 600=false:=by simpa using hp
  rw[hp',h1];rfl
def za9(w:World)(a b:ByteArray × ByteArray)(W:World):Prop:=
 Below w.heap.size w W∧Own W w.heap.size 2 (qtw (.string a.1) (.string a.2))∧Own W (w.heap.size+1) 2 (qtw (.string b.1) (.string b.2))
theorem za9.later{w W W':World}{a b:ByteArray × ByteArray}(h:za9 w a b W)(hb:Below W.heap.size W W'):za9 w a b W':=
 ⟨h.1.trans (hb.mono h.1.size),h.2.1.later (hb.mono h.2.1.1),h.2.2.later (hb.mono h.2.2.1)⟩
theorem qis{p q:Rat}{k:Nat}(sp:sm p k)(sq:sm q k)(hk:k<600):q7p p q p=rt p∧q7p p q q=rt q∧qvb p q=0:=by
 have h:(qa2 p 600&&qa2 q 600)=true:=by rw[qb8 sp (by omega),qb8 sq (by omega)];rfl
 unfold q7p qvb;rw[if_pos h,if_pos h,if_pos h];exact⟨rfl,rfl,rfl⟩
end Go.Proofs.YtlinhlkgdlfefaaGreatDoor
namespace Go.Proofs.YtlinhlkgdlfefaaGreatDoor
set_option maxRecDepth 100000
set_option maxHeartbeats 2000000
open Go.RowKit
end Go.Proofs.YtlinhlkgdlfefaaGreatDoor
namespace Go.Proofs.YtlinhlkgdlfefaaGreatDoor
open Go.RowKit
set_option maxRecDepth 100000
set_option maxHeartbeats 2000000
theorem qm8{lo hi:Rat}{a b:ByteArray × ByteArray}{w:World}{f:FuncId}{args:Array Value}(hg:GW w)(hc:qad [qbf a,qbf b]=0)(h:∀W,GW W→Calls Tryz.prog f args W (qd6 lo hi a b W))(L:List (Nat × ByteArray × ByteArray)):
  qgv (Bxs w L) f args (.tuple #[.agg #[.string (q7p lo hi lo),.string (q7p lo hi hi)],.int .i64 (qvb lo hi:Nat)]):=
 qbo (qsq hg L) fun W _ hW=>(h W hW).mono fun _ _ hh=>by
  unfold qd6 at hh;rw[if_neg (by omega)] at hh;exact qjp hh
theorem bx5{w W:World}{g1 g2 g3 g4 g5:Nat}{a1 a2 a3 a4 a5 b1 b2 b3 b4 b5:ByteArray}(h:Bxs w [(g1,a1,b1),(g2,a2,b2),(g3,a3,b3),(g4,a4,b4),(g5,a5,b5)] W):
  W.cell? ⟨g1,0,none⟩=some (.string a1)∧W.cell? ⟨g1,1,none⟩=some (.string b1)∧W.cell? ⟨g2,0,none⟩=some (.string a2)∧W.cell? ⟨g2,1,none⟩=some (.string b2)∧W.cell? ⟨g3,0,none⟩=some (.string a3)∧W.cell? ⟨g3,1,none⟩=some (.string b3)∧W.cell? ⟨g4,0,none⟩=some (.string a4)∧W.cell? ⟨g4,1,none⟩=some (.string b4)∧W.cell? ⟨g5,0,none⟩=some (.string a5)∧W.cell? ⟨g5,1,none⟩=some (.string b5):=by
 obtain⟨c0,c1,c2,c3,c4,c5,c6,c7,c8,c9,-⟩:=qcg h;exact⟨c0,c1,c2,c3,c4,c5,c6,c7,c8,c9⟩
end Go.Proofs.YtlinhlkgdlfefaaGreatDoor
