/- The law's when and first. -/
import Derived.Test.YtlkaldjmgamamaaGreatDoorMBase
import Derived.Test.YtlkaldjmgamamaaGreatDoorMRounded
import Derived.WalkKit
import Derived.Test.YtlkaldjmgamamaaGreatDoorMKeeps
import Derived.Test.YtlkaldjmgamamaaGreatDoorMReadRule
import Derived.Test.YtlkaldjmgamamaaGreatDoorMRefRule
import Derived.Test.YtlkaldjmgamamaaGreatDoorMSpans
import Derived.Test.YtlkaldjmgamamaaGreatDoorMRefK
import Derived.Test.YtlkaldjmgamamaaGreatDoorMNv
import Derived.Deep.RegionHeld3
set_option linter.all false
namespace Go.Proofs.YtlkaldjmgamamaaGreatDoor
open Go.RowKit
set_option maxRecDepth 100000
set_option maxHeartbeats 2000000
theorem qod(b:Bool)(z:Int)(w:World):Calls Tryz.prog 9 #[.bool b,.int .i64 z] w fun e w'=>e = .returned (.int .i64 (if b then z else 0))∧w=w':=by
 cases b
 all_goals
  go_enter Tryz.func9,Tryz.ntmps9;go_wp2_with fail;go_ret;exact⟨rfl,rfl⟩
def qf1:List Int→Int
 | []=>0
 | x::l=>if x=0 then qf1 l else x
theorem qut(l:List Int)(k:Nat)(h:k<l.length):qf1 (l.drop k)=if l.getD k 0=0 then qf1 (l.drop (k+1)) else l.getD k 0:=by
 rw[List.drop_eq_getElem_cons h,List.getD_eq_getElem?_getD,List.getElem?_eq_getElem h];rfl
theorem q37(v:Value)(l:List Int)(w:World)(h:qu6 w v l)(_hlen:l.length≤1048576):
  Calls Tryz.prog 8 #[v] w fun e w'=>e = .returned (.int .i64 (qf1 l))∧w=w':=by
 obtain⟨p,c,rfl,hc1,hc2,hcells⟩:=h;unfold maxLen at hc2;have HC:=hid hcells;clear hcells;go_enter Tryz.func8,Tryz.ntmps8;go_wp2_with fail
 go_loop [3] (fun i=>∃k:Nat,k≤l.length∧i = .int .i64 k∧Hid (qf1 l=qf1 (l.drop k))) (fun i=>l.length-(intOf i).toNat)
 case atStart=>exact⟨0,Nat.zero_le _,rfl,hid (by rw[List.drop_zero])⟩
 case round=>
  obtain⟨k,hk,rfl,HA⟩:=hrel;by_cases hlt:k<l.length
  ·rcases HC.out with h0|⟨b,o,rfl,hrow⟩
   ·omega
   have hcell:=hrow k hlt;unfold iv at hcell;have HD:=hid (qut l k hlt);clear hrow;generalize hx:l.getD k 0=x at *;clear hx;by_cases h1:x=0
   ·have hb:(x != 0)=false:=by rw[h1];rfl
    have HN:Hid (qf1 l=qf1 (l.drop (k+1))):=hid (by rw[HA.out,HD.out,if_pos h1]);clear h1;go_wp2_with fail;go_round
    case rel=>exact⟨k+1,by omega,by go_num,HN⟩
    case measure=>simp[intOf];omega
   ·have hb:(x != 0)=true:=by simpa using h1
    have HN:Hid (qf1 l=x):=hid (by rw[HA.out,HD.out,if_neg h1]);clear h1;go_wp2_with fail;go_ret;exact⟨by rw[HN.out];rfl,rfl⟩
  ·have hkl:k=l.length:=by omega
   have HZ:Hid (qf1 l=0):=hid (by rw[HA.out,hkl,List.drop_length];rfl);clear hkl;go_wp2_with fail;go_ret;exact⟨by rw[HZ.out];rfl,rfl⟩
theorem qws(l:List Nat):qf1 (List.map (fun n:Nat=>(n:Int)) l)=(qac l:Nat):=by
 induction l with
 | nil=>rfl
 | cons e l ih=>
  show(if(e:Int)=0 then qf1 (List.map (fun n:Nat=>(n:Int)) l) else(e:Int))=((if e=0 then qac l else e:Nat):Int);by_cases h:e=0
  ·rw[if_pos h,if_pos (by omega),ih]
  ·rw[if_neg h,if_neg (by omega)]
theorem q38(w:World)(a b:Int)(t:TypeId):qu6 (w.alloc (.cells #[.int .i64 a,.int .i64 b] t)) (.slice (some ⟨w.heap.size,0,none⟩) 2 2) [a,b]:=by
 refine⟨_,_,rfl,Nat.le_refl _,(by decide:2≤maxLen),.inr ⟨_,_,rfl,fun i hi => ?_⟩⟩;rw[World.cell?_alloc_at _ _ _ _ rfl]
 match i,hi with
 | 0,_=>rfl
 | 1,_=>rfl
theorem q39(a b:Nat)(t:TypeId)(w:World):Calls Tryz.prog 8 #[.slice (some ⟨w.heap.size,0,none⟩) 2 2] (w.alloc (.cells #[.int .i64 (a:Nat),.int .i64 (b:Nat)] t)) fun e w'=>e = .returned (.int .i64 (qac [a,b]:Nat))∧Below w.heap.size w w':=by
 refine(q37 _ [(a:Int),(b:Int)] _ (q38 w a b t) (show 2≤1048576 by decide)).mono fun e w' h => ?_;obtain⟨h1,h2⟩:=h;rw[←qws [a,b],←h2];exact⟨h1,(Below.refl _ _).alloc (Nat.le_refl _) _⟩
def BxC(W:World):List (Nat × ByteArray × ByteArray)→Prop
 | []=>True
 | r::L=>W.cell? ⟨r.1,0,none⟩=some (.string r.2.1)∧W.cell? ⟨r.1,1,none⟩=some (.string r.2.2)∧BxC W L
def Bxs(w:World)(L:List (Nat × ByteArray × ByteArray))(W:World):Prop:=
 Below w.heap.size w W∧∀r ∈ L,Own W r.1 2 (qtl (.string r.2.1) (.string r.2.2))
theorem Bxs.later{w W W':World}{L:List (Nat × ByteArray × ByteArray)}(h:Bxs w L W)(hb:Below W.heap.size W W'):Bxs w L W':=
 ⟨h.1.trans (hb.mono h.1.size),fun r hr=>(h.2 r hr).later (hb.mono (h.2 r hr).1)⟩
theorem q4a{w:World}(hg:GW w)(L:List (Nat × ByteArray × ByteArray)):Inv (Bxs w L):=⟨fun _ _ h hb=>h.later hb,fun _ h=>hg.later h.1⟩
theorem ql8{w W:World}{L:List (Nat × ByteArray × ByteArray)}(h:Bxs w L W)(t:TypeId)(a b:ByteArray):Bxs w ((W.heap.size,a,b)::L) (W.alloc (.cells #[.string a,.string b] t)):=by
 have hl:=h.later ((Below.refl W.heap.size W).alloc (Nat.le_refl _) (.cells #[.string a,.string b] t));refine⟨hl.1,fun r hr => ?_⟩;rcases List.mem_cons.1 hr with rfl|hr
 ·exact qcg W t (.string a) (.string b)
 ·exact hl.2 r hr
theorem quu{w W:World}:∀ {L:List (Nat × ByteArray × ByteArray)},Bxs w L W→BxC W L
 | [],_=>trivial
 | r::_,h=>⟨((h.2 r (List.mem_cons_self ..)).2 0 (by decide)).1,((h.2 r (List.mem_cons_self ..)).2 1 (by decide)).1,quu ⟨h.1,fun x hx=>h.2 x (List.mem_cons_of_mem _ hx)⟩⟩
theorem q0k{I:World→Prop}{f:FuncId}{args:Array Value}{v:Value}(h:qfe I f args v):Hid (∀W,I W→Calls Tryz.prog f args W fun e w'=>e = .returned v∧I w'):=hid h
theorem ql9(w:World)(k s:ByteArray)(t:TypeId):qn3 w k s (w.alloc (.cells #[.string k,.string s] t)):=
 ⟨(Below.refl _ _).alloc (Nat.le_refl _) _,qcg _ _ _ _⟩
theorem qwt(lo hi:ByteArray)(w:World)(hg:GW w)(s1:lo.size≤2000)(s2:hi.size≤2000)(h1:qaa lo.data.toList≠0):Calls Tryz.prog 19 #[.agg #[.string lo,.string hi]] w fun e w'=>e = .returned (.int .i64 (qco lo hi:Nat))∧qn3 w lo hi w':=by
 have J:=qyd hg lo hi;have HB:=hid (ql9 w lo hi 39);obtain⟨c0,c1⟩:=qdw HB.out;have hr:qco lo hi=qaa lo.data.toList:=by unfold qco;rw[show qac [qaa lo.data.toList,qaa hi.data.toList]=qaa lo.data.toList by unfold qac;rw[if_neg h1],if_pos h1]
 rw[hr];have HC1:=hid (qec J lo _ rfl (by omega));have hne:((qaa lo.data.toList:Int)==0)=false:=beq_eq_false_iff_ne.2 (by omega);clear hr h1 J hg;generalize qaa lo.data.toList=c at *;go_enter Tryz.func19,Tryz.ntmps19;go_wp2_with fail;refine(HC1.out _ HB.out).mono ?_;rintro e wN ⟨rfl,hb⟩;clear HB c0 c1;have HB:=hid hb;clear hb;obtain⟨c0,c1⟩:=qdw HB.out;go_wp2_with fail;go_ret;exact⟨rfl,HB.out⟩
theorem quv(lo hi:ByteArray)(w:World)(hg:GW w)(s1:lo.size≤2000)(s2:hi.size≤2000)(h1:qaa lo.data.toList=0)(h2:qaa hi.data.toList≠0):Calls Tryz.prog 19 #[.agg #[.string lo,.string hi]] w fun e w'=>e = .returned (.int .i64 (qco lo hi:Nat))∧qn3 w lo hi w':=by
 have J:=qyd hg lo hi;have HB:=hid (ql9 w lo hi 39);obtain⟨c0,c1⟩:=qdw HB.out;have hr:qco lo hi=qaa hi.data.toList:=by unfold qco;rw[show qac [qaa lo.data.toList,qaa hi.data.toList]=qaa hi.data.toList by unfold qac;rw[if_pos h1];unfold qac;rw[if_neg h2],if_pos h2]
 rw[hr];have HC1:=hid (qec J lo 0 h1 (by omega));have HC2:=hid (qec J hi _ rfl (by omega));have hne:((qaa hi.data.toList:Int)==0)=false:=beq_eq_false_iff_ne.2 (by omega);clear hr h1 h2 J hg;generalize qaa hi.data.toList=c at *;go_enter Tryz.func19,Tryz.ntmps19;go_wp2_with fail;refine(HC1.out _ HB.out).mono ?_;rintro e wN ⟨rfl,hb⟩;clear HB c0 c1;have HB:=hid hb;clear hb;obtain⟨c0,c1⟩:=qdw HB.out;go_wp2_with fail;refine(HC2.out _ HB.out).mono ?_;rintro e wN ⟨rfl,hb⟩;clear HB c0 c1;have HB:=hid hb;clear hb;obtain⟨c0,c1⟩:=qdw HB.out;go_wp2_with fail;go_ret;exact⟨rfl,HB.out⟩
theorem qsl(lo hi:ByteArray)(w:World)(hg:GW w)(s1:lo.size≤2000)(s2:hi.size≤2000)(h1:qaa lo.data.toList=0)(h2:qaa hi.data.toList=0)(h3:0<qcc (qak lo.data.toList) (qak hi.data.toList)):Calls Tryz.prog 19 #[.agg #[.string lo,.string hi]] w fun e w'=>e = .returned (.int .i64 (qco lo hi:Nat))∧qn3 w lo hi w':=by
 have J:=qyd hg lo hi;have HB:=hid (ql9 w lo hi 39);obtain⟨c0,c1⟩:=qdw HB.out;have hr:qco lo hi=11:=by unfold qco;rw[h1,h2,if_neg (by decide),if_pos h3]
 rw[hr];have HC1:=hid (qec J lo 0 h1 (by omega));have HC2:=hid (qec J hi 0 h2 (by omega));have e1:=(qcy h1).1;have e2:=(qcy h2).1;have q1:sm (qak lo.data.toList) 2000:=qel (by rw[←e1];exact s1) (by decide);have q2:sm (qak hi.data.toList) 2000:=qel (by rw[←e2];exact s2) (by decide);have HCM:=hid (quq J q1 q2 (by decide) e1 e2 (z:=qcc (qak lo.data.toList) (qak hi.data.toList)) rfl);clear hr h1 h2 e1 e2 q1 q2 J hg;generalize qcc (qak lo.data.toList) (qak hi.data.toList)=z at *;go_enter Tryz.func19,Tryz.ntmps19;go_wp2_with fail;refine(HC1.out _ HB.out).mono ?_;rintro e wN ⟨rfl,hb⟩;clear HB c0 c1;have HB:=hid hb;clear hb;obtain⟨c0,c1⟩:=qdw HB.out;go_wp2_with fail;refine(HC2.out _ HB.out).mono ?_;rintro e wN ⟨rfl,hb⟩;clear HB c0 c1;have HB:=hid hb;clear hb;obtain⟨c0,c1⟩:=qdw HB.out;go_wp2_with fail;refine(HCM.out _ HB.out).mono ?_;rintro e wN ⟨rfl,hb⟩;clear HB c0 c1;have HB:=hid hb;clear hb;obtain⟨c0,c1⟩:=qdw HB.out;go_wp2_with fail;go_ret;exact⟨rfl,HB.out⟩
theorem q0l(lo hi:ByteArray)(w:World)(hg:GW w)(s1:lo.size≤2000)(s2:hi.size≤2000)(h1:qaa lo.data.toList=0)(h2:qaa hi.data.toList=0)(h3:¬0<qcc (qak lo.data.toList) (qak hi.data.toList)):Calls Tryz.prog 19 #[.agg #[.string lo,.string hi]] w fun e w'=>e = .returned (.int .i64 (qco lo hi:Nat))∧qn3 w lo hi w':=by
 have J:=qyd hg lo hi;have HB:=hid (ql9 w lo hi 39);obtain⟨c0,c1⟩:=qdw HB.out;have hr:qco lo hi=0:=by unfold qco;rw[h1,h2,if_neg (by decide),if_neg h3]
 rw[hr];have HC1:=hid (qec J lo 0 h1 (by omega));have HC2:=hid (qec J hi 0 h2 (by omega));have e1:=(qcy h1).1;have e2:=(qcy h2).1;have q1:sm (qak lo.data.toList) 2000:=qel (by rw[←e1];exact s1) (by decide);have q2:sm (qak hi.data.toList) 2000:=qel (by rw[←e2];exact s2) (by decide);have HCM:=hid (quq J q1 q2 (by decide) e1 e2 (z:=qcc (qak lo.data.toList) (qak hi.data.toList)) rfl);clear hr h1 h2 e1 e2 q1 q2 J hg;generalize qcc (qak lo.data.toList) (qak hi.data.toList)=z at *;go_enter Tryz.func19,Tryz.ntmps19;go_wp2_with fail;refine(HC1.out _ HB.out).mono ?_;rintro e wN ⟨rfl,hb⟩;clear HB c0 c1;have HB:=hid hb;clear hb;obtain⟨c0,c1⟩:=qdw HB.out;go_wp2_with fail;refine(HC2.out _ HB.out).mono ?_;rintro e wN ⟨rfl,hb⟩;clear HB c0 c1;have HB:=hid hb;clear hb;obtain⟨c0,c1⟩:=qdw HB.out;go_wp2_with fail;refine(HCM.out _ HB.out).mono ?_;rintro e wN ⟨rfl,hb⟩;clear HB c0 c1;have HB:=hid hb;clear hb;obtain⟨c0,c1⟩:=qdw HB.out;go_wp2_with fail;go_ret;exact⟨rfl,HB.out⟩
theorem qk6(lo hi:ByteArray)(w:World)(hg:GW w)(s1:lo.size≤2000)(s2:hi.size≤2000):Calls Tryz.prog 19 #[.agg #[.string lo,.string hi]] w fun e w'=>e = .returned (.int .i64 (qco lo hi:Nat))∧qn3 w lo hi w':=by
 by_cases h1:qaa lo.data.toList=0
 ·by_cases h2:qaa hi.data.toList=0
  ·by_cases h3:0<qcc (qak lo.data.toList) (qak hi.data.toList)
   ·exact qsl lo hi w hg s1 s2 h1 h2 h3
   ·exact q0l lo hi w hg s1 s2 h1 h2 h3
  ·exact quv lo hi w hg s1 s2 h1 h2
 ·exact qwt lo hi w hg s1 s2 h1
def qye(p q:Rat):Nat:=if qa2 p 600&&qa2 q 600 then 0 else 4
def q9b(p q x:Rat):ByteArray:=if qa2 p 600&&qa2 q 600 then rt x else⟨#[]⟩
theorem qpv{p q:Rat}{w w':World}{e:Ending}(h:qdy p q w e w'):e = .returned (.tuple #[.agg #[.string (q9b p q p),.string (q9b p q q)],.int .i64 (qye p q:Nat)])∧Below w.heap.size w w':=by
 obtain⟨h1,h2⟩:=h;refine⟨?_,h2⟩;unfold q9b qye;by_cases hp:qa2 p 600=true
 ·by_cases hq:qa2 q 600=true
  ·have e1:qac [qe5 p,qe5 q]=0:=by unfold qe5;rw[if_pos hp,if_pos hq];rfl
   rw[if_pos e1] at h1;rw[hp,hq,h1];unfold qch rt;rw[if_pos hp,if_pos hq];rfl
  ·have e1:qac [qe5 p,qe5 q]=4:=by unfold qe5;rw[if_pos hp,if_neg hq];rfl
   rw[if_neg (by omega),e1] at h1;have hq':qa2 q 600=false:=by simpa using hq
   rw[hp,hq',h1];rfl
 ·have e1:qac [qe5 p,qe5 q]=4:=by unfold qe5;rw[if_neg hp];rfl
  rw[if_neg (by omega),e1] at h1;have hp':qa2 p 600=false:=by simpa using hp
  rw[hp',h1];rfl
def zat(w:World)(a b:ByteArray × ByteArray)(W:World):Prop:=
 Below w.heap.size w W∧Own W w.heap.size 2 (qtl (.string a.1) (.string a.2))∧Own W (w.heap.size+1) 2 (qtl (.string b.1) (.string b.2))
theorem zat.later{w W W':World}{a b:ByteArray × ByteArray}(h:zat w a b W)(hb:Below W.heap.size W W'):zat w a b W':=
 ⟨h.1.trans (hb.mono h.1.size),h.2.1.later (hb.mono h.2.1.1),h.2.2.later (hb.mono h.2.2.1)⟩
end Go.Proofs.YtlkaldjmgamamaaGreatDoor
namespace Go.Proofs.YtlkaldjmgamamaaGreatDoor
set_option maxRecDepth 100000
set_option maxHeartbeats 2000000
open Go.RowKit
open Go.RowKit
end Go.Proofs.YtlkaldjmgamamaaGreatDoor
