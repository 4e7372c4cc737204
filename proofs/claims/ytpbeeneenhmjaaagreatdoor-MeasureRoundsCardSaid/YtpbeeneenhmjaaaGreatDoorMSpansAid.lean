/- The law's when and first. -/
import Derived.Test.YtpbeeneenhmjaaaGreatDoorMBase
import Derived.Test.YtpbeeneenhmjaaaGreatDoorMRounded
import Derived.WalkKit
import Derived.Test.YtpbeeneenhmjaaaGreatDoorMKeeps
import Derived.Test.YtpbeeneenhmjaaaGreatDoorMReadRule
import Derived.Test.YtpbeeneenhmjaaaGreatDoorMRefRule
import Derived.Test.YtpbeeneenhmjaaaGreatDoorMSpans
import Derived.Test.YtpbeeneenhmjaaaGreatDoorMRefK
import Derived.Test.YtpbeeneenhmjaaaGreatDoorMNv
import Derived.Deep.RegionHeld3
set_option linter.all false
namespace Go.Proofs.YtpbeeneenhmjaaaGreatDoor
open Go.RowKit
set_option maxRecDepth 100000
set_option maxHeartbeats 2000000
def qgd:List Int→Int
 | []=>0
 | x::l=>if x=0 then qgd l else x
theorem qvs(l:List Int)(k:Nat)(h:k<l.length):qgd (l.drop k)=if l.getD k 0=0 then qgd (l.drop (k+1)) else l.getD k 0:=by
 rw[List.drop_eq_getElem_cons h,List.getD_eq_getElem?_getD,List.getElem?_eq_getElem h];rfl
theorem q45(v:Value)(l:List Int)(w:World)(h:qv0 w v l)(_hlen:l.length≤1048576):
  Calls Tryz.prog 11 #[v] w fun e w'=>e = .returned (.int .i64 (qgd l))∧w=w':=by
 obtain⟨p,c,rfl,hc1,hc2,hcells⟩:=h;unfold maxLen at hc2;have HC:=hid hcells;clear hcells;go_enter Tryz.func11,Tryz.ntmps11;go_wp2_with fail
 go_loop [3] (fun i=>∃k:Nat,k≤l.length∧i = .int .i64 k∧Hid (qgd l=qgd (l.drop k))) (fun i=>l.length-(intOf i).toNat)
 case atStart=>exact⟨0,Nat.zero_le _,rfl,hid (by rw[List.drop_zero])⟩
 case round=>
  obtain⟨k,hk,rfl,HA⟩:=hrel;by_cases hlt:k<l.length
  ·rcases HC.out with h0|⟨b,o,rfl,hrow⟩
   ·omega
   have hcell:=hrow k hlt;unfold iv at hcell;have HD:=hid (qvs l k hlt);clear hrow;generalize hx:l.getD k 0=x at *;clear hx;by_cases h1:x=0
   ·have hb:(x != 0)=false:=by rw[h1];rfl
    have HN:Hid (qgd l=qgd (l.drop (k+1))):=hid (by rw[HA.out,HD.out,if_pos h1]);clear h1;go_wp2_with fail;go_round
    case rel=>exact⟨k+1,by omega,by go_num,HN⟩
    case measure=>simp[intOf];omega
   ·have hb:(x != 0)=true:=by simpa using h1
    have HN:Hid (qgd l=x):=hid (by rw[HA.out,HD.out,if_neg h1]);clear h1;go_wp2_with fail;go_ret;exact⟨by rw[HN.out];rfl,rfl⟩
  ·have hkl:k=l.length:=by omega
   have HZ:Hid (qgd l=0):=hid (by rw[HA.out,hkl,List.drop_length];rfl);clear hkl;go_wp2_with fail;go_ret;exact⟨by rw[HZ.out];rfl,rfl⟩
theorem qxr(l:List Nat):qgd (List.map (fun n:Nat=>(n:Int)) l)=(qad l:Nat):=by
 induction l with
 | nil=>rfl
 | cons e l ih=>
  show(if(e:Int)=0 then qgd (List.map (fun n:Nat=>(n:Int)) l) else(e:Int))=((if e=0 then qad l else e:Nat):Int);by_cases h:e=0
  ·rw[if_pos h,if_pos (by omega),ih]
  ·rw[if_neg h,if_neg (by omega)]
theorem q46(w:World)(a b:Int)(t:TypeId):qv0 (w.alloc (.cells #[.int .i64 a,.int .i64 b] t)) (.slice (some ⟨w.heap.size,0,none⟩) 2 2) [a,b]:=by
 refine⟨_,_,rfl,Nat.le_refl _,(by decide:2≤maxLen),.inr ⟨_,_,rfl,fun i hi => ?_⟩⟩;rw[World.cell?_alloc_at _ _ _ _ rfl]
 match i,hi with
 | 0,_=>rfl
 | 1,_=>rfl
theorem q47(a b:Nat)(t:TypeId)(w:World):Calls Tryz.prog 11 #[.slice (some ⟨w.heap.size,0,none⟩) 2 2] (w.alloc (.cells #[.int .i64 (a:Nat),.int .i64 (b:Nat)] t)) fun e w'=>e = .returned (.int .i64 (qad [a,b]:Nat))∧Below w.heap.size w w':=by
 refine(q45 _ [(a:Int),(b:Int)] _ (q46 w a b t) (show 2≤1048576 by decide)).mono fun e w' h => ?_;obtain⟨h1,h2⟩:=h;rw[←qxr [a,b],←h2];exact⟨h1,(Below.refl _ _).alloc (Nat.le_refl _) _⟩
def BxC(W:World):List (Nat × ByteArray × ByteArray)→Prop
 | []=>True
 | r::L=>W.cell? ⟨r.1,0,none⟩=some (.string r.2.1)∧W.cell? ⟨r.1,1,none⟩=some (.string r.2.2)∧BxC W L
def Bxs(w:World)(L:List (Nat × ByteArray × ByteArray))(W:World):Prop:=
 Below w.heap.size w W∧∀r ∈ L,Own W r.1 2 (qwm (.string r.2.1) (.string r.2.2))
theorem Bxs.later{w W W':World}{L:List (Nat × ByteArray × ByteArray)}(h:Bxs w L W)(hb:Below W.heap.size W W'):Bxs w L W':=
 ⟨h.1.trans (hb.mono h.1.size),fun r hr=>(h.2 r hr).later (hb.mono (h.2 r hr).1)⟩
theorem qfg{w:World}(hg:GW w)(L:List (Nat × ByteArray × ByteArray)):Inv (Bxs w L):=⟨fun _ _ h hb=>h.later hb,fun _ h=>hg.later h.1⟩
theorem qdv{w W:World}{L:List (Nat × ByteArray × ByteArray)}(h:Bxs w L W)(t:TypeId)(a b:ByteArray):Bxs w ((W.heap.size,a,b)::L) (W.alloc (.cells #[.string a,.string b] t)):=by
 have hl:=h.later ((Below.refl W.heap.size W).alloc (Nat.le_refl _) (.cells #[.string a,.string b] t));refine⟨hl.1,fun r hr => ?_⟩;rcases List.mem_cons.1 hr with rfl|hr
 ·exact qco W t (.string a) (.string b)
 ·exact hl.2 r hr
theorem qaf{w W:World}:∀ {L:List (Nat × ByteArray × ByteArray)},Bxs w L W→BxC W L
 | [],_=>trivial
 | r::_,h=>⟨((h.2 r (List.mem_cons_self ..)).2 0 (by decide)).1,((h.2 r (List.mem_cons_self ..)).2 1 (by decide)).1,qaf ⟨h.1,fun x hx=>h.2 x (List.mem_cons_of_mem _ hx)⟩⟩
theorem qg2(w:World)(a b:ByteArray × ByteArray)(t1 t2:TypeId):Bxs w [(w.heap.size+1,b.1,b.2),(w.heap.size,a.1,a.2)] ((w.alloc (.cells #[.string a.1,.string a.2] t1)).alloc (.cells #[.string b.1,.string b.2] t2)):=by
 have h:=qdv (qdv (L:=[]) ⟨Below.refl w.heap.size w,fun r hr=>by cases hr⟩ t1 a.1 a.2) t2 b.1 b.2;rw[World.size_alloc] at h;exact h
theorem qbh{I:World→Prop}{f:FuncId}{args:Array Value}{v:Value}(h:qd5 I f args v):Hid (∀W,I W→Calls Tryz.prog f args W fun e w'=>e = .returned v∧I w'):=hid h
theorem qj4(w:World)(k s:ByteArray)(t:TypeId):qgk w k s (w.alloc (.cells #[.string k,.string s] t)):=
 ⟨(Below.refl _ _).alloc (Nat.le_refl _) _,qco _ _ _ _⟩
theorem qxs(lo hi:ByteArray)(w:World)(hg:GW w)(s1:lo.size≤2000)(s2:hi.size≤2000)(h1:qab lo.data.toList≠0):Calls Tryz.prog 9 #[.agg #[.string lo,.string hi]] w fun e w'=>e = .returned (.int .i64 (qbp lo hi:Nat))∧qgk w lo hi w':=by
 have J:=qey hg lo hi;have HB:=hid (qj4 w lo hi 24);obtain⟨c0,c1⟩:=qac HB.out;have hr:qbp lo hi=qab lo.data.toList:=by unfold qbp;rw[show qad [qab lo.data.toList,qab hi.data.toList]=qab lo.data.toList by unfold qad;rw[if_neg h1],if_pos h1]
 rw[hr];have HC1:=hid (qbb J lo _ rfl (by omega));have hne:((qab lo.data.toList:Int)==0)=false:=beq_eq_false_iff_ne.2 (by omega);clear hr h1 J hg;generalize qab lo.data.toList=c at *;go_enter Tryz.func9,Tryz.ntmps9;go_wp2_with fail;refine(HC1.out _ HB.out).mono ?_;rintro e wN ⟨rfl,hb⟩;clear HB c0 c1;have HB:=hid hb;clear hb;obtain⟨c0,c1⟩:=qac HB.out;go_wp2_with fail;go_ret;exact⟨rfl,HB.out⟩
theorem qvt(lo hi:ByteArray)(w:World)(hg:GW w)(s1:lo.size≤2000)(s2:hi.size≤2000)(h1:qab lo.data.toList=0)(h2:qab hi.data.toList≠0):Calls Tryz.prog 9 #[.agg #[.string lo,.string hi]] w fun e w'=>e = .returned (.int .i64 (qbp lo hi:Nat))∧qgk w lo hi w':=by
 have J:=qey hg lo hi;have HB:=hid (qj4 w lo hi 24);obtain⟨c0,c1⟩:=qac HB.out;have hr:qbp lo hi=qab hi.data.toList:=by unfold qbp;rw[show qad [qab lo.data.toList,qab hi.data.toList]=qab hi.data.toList by unfold qad;rw[if_pos h1];unfold qad;rw[if_neg h2],if_pos h2]
 rw[hr];have HC1:=hid (qbb J lo 0 h1 (by omega));have HC2:=hid (qbb J hi _ rfl (by omega));have hne:((qab hi.data.toList:Int)==0)=false:=beq_eq_false_iff_ne.2 (by omega);clear hr h1 h2 J hg;generalize qab hi.data.toList=c at *;go_enter Tryz.func9,Tryz.ntmps9;go_wp2_with fail;refine(HC1.out _ HB.out).mono ?_;rintro e wN ⟨rfl,hb⟩;clear HB c0 c1;have HB:=hid hb;clear hb;obtain⟨c0,c1⟩:=qac HB.out;go_wp2_with fail;refine(HC2.out _ HB.out).mono ?_;rintro e wN ⟨rfl,hb⟩;clear HB c0 c1;have HB:=hid hb;clear hb;obtain⟨c0,c1⟩:=qac HB.out;go_wp2_with fail;go_ret;exact⟨rfl,HB.out⟩
theorem qtn(lo hi:ByteArray)(w:World)(hg:GW w)(s1:lo.size≤2000)(s2:hi.size≤2000)(h1:qab lo.data.toList=0)(h2:qab hi.data.toList=0)(h3:0<qcr (qal lo.data.toList) (qal hi.data.toList)):Calls Tryz.prog 9 #[.agg #[.string lo,.string hi]] w fun e w'=>e = .returned (.int .i64 (qbp lo hi:Nat))∧qgk w lo hi w':=by
 have J:=qey hg lo hi;have HB:=hid (qj4 w lo hi 24);obtain⟨c0,c1⟩:=qac HB.out;have hr:qbp lo hi=11:=by unfold qbp;rw[h1,h2,if_neg (by decide),if_pos h3]
 rw[hr];have HC1:=hid (qbb J lo 0 h1 (by omega));have HC2:=hid (qbb J hi 0 h2 (by omega));have e1:=(qba h1).1;have e2:=(qba h2).1;have q1:sm (qal lo.data.toList) 2000:=qb9 (by rw[←e1];exact s1) (by decide);have q2:sm (qal hi.data.toList) 2000:=qb9 (by rw[←e2];exact s2) (by decide);have HCM:=hid (qmq J q1 q2 (by decide) e1 e2 (z:=qcr (qal lo.data.toList) (qal hi.data.toList)) rfl);clear hr h1 h2 e1 e2 q1 q2 J hg;generalize qcr (qal lo.data.toList) (qal hi.data.toList)=z at *;go_enter Tryz.func9,Tryz.ntmps9;go_wp2_with fail;refine(HC1.out _ HB.out).mono ?_;rintro e wN ⟨rfl,hb⟩;clear HB c0 c1;have HB:=hid hb;clear hb;obtain⟨c0,c1⟩:=qac HB.out;go_wp2_with fail;refine(HC2.out _ HB.out).mono ?_;rintro e wN ⟨rfl,hb⟩;clear HB c0 c1;have HB:=hid hb;clear hb;obtain⟨c0,c1⟩:=qac HB.out;go_wp2_with fail;refine(HCM.out _ HB.out).mono ?_;rintro e wN ⟨rfl,hb⟩;clear HB c0 c1;have HB:=hid hb;clear hb;obtain⟨c0,c1⟩:=qac HB.out;go_wp2_with fail;go_ret;exact⟨rfl,HB.out⟩
theorem q1b(lo hi:ByteArray)(w:World)(hg:GW w)(s1:lo.size≤2000)(s2:hi.size≤2000)(h1:qab lo.data.toList=0)(h2:qab hi.data.toList=0)(h3:¬0<qcr (qal lo.data.toList) (qal hi.data.toList)):Calls Tryz.prog 9 #[.agg #[.string lo,.string hi]] w fun e w'=>e = .returned (.int .i64 (qbp lo hi:Nat))∧qgk w lo hi w':=by
 have J:=qey hg lo hi;have HB:=hid (qj4 w lo hi 24);obtain⟨c0,c1⟩:=qac HB.out;have hr:qbp lo hi=0:=by unfold qbp;rw[h1,h2,if_neg (by decide),if_neg h3]
 rw[hr];have HC1:=hid (qbb J lo 0 h1 (by omega));have HC2:=hid (qbb J hi 0 h2 (by omega));have e1:=(qba h1).1;have e2:=(qba h2).1;have q1:sm (qal lo.data.toList) 2000:=qb9 (by rw[←e1];exact s1) (by decide);have q2:sm (qal hi.data.toList) 2000:=qb9 (by rw[←e2];exact s2) (by decide);have HCM:=hid (qmq J q1 q2 (by decide) e1 e2 (z:=qcr (qal lo.data.toList) (qal hi.data.toList)) rfl);clear hr h1 h2 e1 e2 q1 q2 J hg;generalize qcr (qal lo.data.toList) (qal hi.data.toList)=z at *;go_enter Tryz.func9,Tryz.ntmps9;go_wp2_with fail;refine(HC1.out _ HB.out).mono ?_;rintro e wN ⟨rfl,hb⟩;clear HB c0 c1;have HB:=hid hb;clear hb;obtain⟨c0,c1⟩:=qac HB.out;go_wp2_with fail;refine(HC2.out _ HB.out).mono ?_;rintro e wN ⟨rfl,hb⟩;clear HB c0 c1;have HB:=hid hb;clear hb;obtain⟨c0,c1⟩:=qac HB.out;go_wp2_with fail;refine(HCM.out _ HB.out).mono ?_;rintro e wN ⟨rfl,hb⟩;clear HB c0 c1;have HB:=hid hb;clear hb;obtain⟨c0,c1⟩:=qac HB.out;go_wp2_with fail;go_ret;exact⟨rfl,HB.out⟩
theorem qer(lo hi:ByteArray)(w:World)(hg:GW w)(s1:lo.size≤2000)(s2:hi.size≤2000):Calls Tryz.prog 9 #[.agg #[.string lo,.string hi]] w fun e w'=>e = .returned (.int .i64 (qbp lo hi:Nat))∧qgk w lo hi w':=by
 by_cases h1:qab lo.data.toList=0
 ·by_cases h2:qab hi.data.toList=0
  ·by_cases h3:0<qcr (qal lo.data.toList) (qal hi.data.toList)
   ·exact qtn lo hi w hg s1 s2 h1 h2 h3
   ·exact q1b lo hi w hg s1 s2 h1 h2 h3
  ·exact qvt lo hi w hg s1 s2 h1 h2
 ·exact qxs lo hi w hg s1 s2 h1
theorem q1c{l:List Rat}{k:Nat}(h:((l.take k).all (qa6 · 600))=true)(q:Rat)(hk:l[k]? = some q):
  (qa6 q 600=true→((l.take (k+1)).all (qa6 · 600))=true)∧(qa6 q 600=false→(l.all (qa6 · 600))=false):=by
 have hlt:k<l.length:=(List.getElem?_eq_some_iff.1 hk).1;have hget:l[k]=q:=(List.getElem?_eq_some_iff.1 hk).2;constructor
 ·intro h0
  rw[List.take_succ_eq_append_getElem hlt,hget,List.all_append,h]
  simpa using h0
 ·intro h0
  rw[List.all_eq_false];exact⟨q,by rw[←hget];exact List.getElem_mem _,by rw[h0];decide⟩
theorem q48(v:Value)(l:List Rat)(w:World)(hv:qqb w v (l.map rt))(hs:∀q ∈ l,(rt q).size≤5000)(hl:l.length≤1000):
  Calls Tryz.prog 88 #[v] w fun e w'=>e = .returned (.int .i64 (if l.all (qa6 · 600) then 0 else 4))∧w'=w:=by
 obtain⟨b,o,c,rfl,hc1,hc2,hat⟩:=hv;rw[List.length_map] at hc1;unfold maxLen at hc2;have HAT:Hid (∀(j:Nat) (q:Rat),l[j]? = some q→w.cell? ⟨b,o+j,none⟩=some (.string (rt q))):=hid fun j q hj=>hat j (rt q) (by rw[List.getElem?_map,hj];rfl);have HSZ:=hid hs;have HLN:(List.map rt l).length=l.length:=List.length_map _;rw[HLN];obtain⟨E,hE⟩:∃E:Int,(if l.all (qa6 · 600) then(0:Int) else 4)=E:=⟨_,rfl⟩;rw[hE];have HE:=hid hE;clear hat hs HLN hE;go_enter Tryz.func88,Tryz.ntmps88;go_wp2_with fail
 go_loop [3] (fun i=>∃k:Nat,k≤l.length∧i = .int .i64 k∧Hid (((l.take k).all (qa6 · 600))=true)) (fun i=>l.length-(intOf i).toNat)
 case atStart=>exact⟨0,Nat.zero_le _,rfl,hid rfl⟩
 case round=>
  obtain⟨k,hk,rfl,hf⟩:=hrel;by_cases hlt:k<l.length
  ·obtain⟨q,hqk⟩:∃q,l[k]? = some q:=⟨_,List.getElem?_eq_getElem hlt⟩
   have hcell:=HAT.out k q hqk;obtain⟨f0,f1⟩:=q1c hf.out q hqk;have HC:=hid (fun W=>qyz q W (HSZ.out q (List.mem_of_getElem? hqk)));clear hqk hf;by_cases hz:qa6 q 600=true
   ·have HF:=hid (f0 hz)
    have h4:qeu q=0:=by unfold qeu;rw[if_pos hz]
    rw[h4] at HC;clear f0 f1 hz h4;go_wp2_with fail;refine(HC.out _).mono ?_;rintro e w1 ⟨rfl,rfl⟩;clear HC;go_wp2_with fail;go_round
    case rel=>exact⟨k+1,by omega,by go_num,HF⟩
    case measure=>simp[intOf];omega
   ·have hz':qa6 q 600=false:=by simpa using hz
    have HF:=hid (f1 hz');have h4:qeu q=4:=by unfold qeu;rw[if_neg hz]
    rw[h4] at HC;clear f0 f1 hz h4 hz';go_wp2_with fail;refine(HC.out _).mono ?_;rintro e w1 ⟨rfl,rfl⟩;clear HC;go_wp2_with fail;go_ret;exact⟨qa7 (by rw[←HE.out,HF.out];rfl),rfl⟩
  ·have HF:Hid ((l.all (qa6 · 600))=true):=hid (by have:=hf.out;rwa [List.take_of_length_le (by omega)] at this)
   clear hf;go_wp2_with fail;go_ret;exact⟨qa7 (by rw[←HE.out,HF.out];rfl),rfl⟩
def qhh(p q:Rat):Nat:=if qa6 p 600&&qa6 q 600 then 0 else 4
def qq0(p q x:Rat):ByteArray:=if qa6 p 600&&qa6 q 600 then rt x else⟨#[]⟩
theorem qvu{p q:Rat}{w w':World}{e:Ending}(h:qcp p q w e w'):e = .returned (.tuple #[.agg #[.string (qq0 p q p),.string (qq0 p q q)],.int .i64 (qhh p q:Nat)])∧Below w.heap.size w w':=by
 obtain⟨h1,h2⟩:=h;refine⟨?_,h2⟩;unfold qq0 qhh;by_cases hp:qa6 p 600=true
 ·by_cases hq:qa6 q 600=true
  ·have e1:qad [qfy p,qfy q]=0:=by unfold qfy;rw[if_pos hp,if_pos hq];rfl
   rw[if_pos e1] at h1;rw[hp,hq,h1];unfold qc9 rt;rw[if_pos hp,if_pos hq];rfl
  ·have e1:qad [qfy p,qfy q]=4:=by unfold qfy;rw[if_pos hp,if_neg hq];rfl
   rw[if_neg (by omega),e1] at h1;have hq':qa6 q 600=false:=by simpa using hq
   rw[hp,hq',h1];rfl
 ·have e1:qad [qfy p,qfy q]=4:=by unfold qfy;rw[if_neg hp];rfl
  rw[if_neg (by omega),e1] at h1;have hp':qa6 p 600=false:=by simpa using hp
  rw[hp',h1];rfl
theorem qvv(p q:Rat)(w:World)(s1:(rt p).size≤5000)(s2:(rt q).size≤5000):
  Calls Tryz.prog 39 #[.agg #[.string (rt p),.string (rt q)]] w fun e w'=>e = .returned (.int .i64 (qhh p q:Nat))∧Below w.heap.size w w':=by
 have HB:=hid (qj4 w (rt p) (rt q) 24)
 have HR:Hid (∀W:World,Calls Tryz.prog 88 #[.slice (some ⟨W.heap.size,0,none⟩) 2 2] (W.alloc (.cells #[.string (rt p),.string (rt q)] 22)) fun e w'=>e = .returned (.int .i64 (qhh p q:Nat))∧w'=(W.alloc (.cells #[.string (rt p),.string (rt q)] 22))):=hid fun W=>by
  have h:=q48 _ [p,q] _ (q41 W (rt p) (rt q) 22) (fun x hx=>by
   rcases List.mem_cons.1 hx with e|hx
   ·rw[e];exact s1
   ·rw[List.mem_singleton.1 hx];exact s2) (by simp)
  refine h.mono fun _ _ ⟨h1,h2⟩=>⟨?_,h2⟩;rw[h1];unfold qhh;simp only[List.all_cons,List.all_nil,Bool.and_true];split<;>rfl
 clear s1 s2;generalize rt p=tp at *;generalize rt q=tq at *;have h1:=HR.out (w.alloc (.cells #[.string tp,.string tq] 24));rw[World.size_alloc] at h1;have HR1:=hid h1;clear h1 HR;obtain⟨c0,c1⟩:=qac HB.out;go_enter Tryz.func39,Tryz.ntmps39;go_wp2_with fail;refine HR1.out.mono ?_;rintro e w1 ⟨rfl,rfl⟩;go_wp2_with fail;go_ret;exact⟨rfl,HB.out.1.alloc HB.out.1.size _⟩
def zaz(w:World)(a b:ByteArray × ByteArray)(W:World):Prop:=
 Below w.heap.size w W∧Own W w.heap.size 2 (qwm (.string a.1) (.string a.2))∧Own W (w.heap.size+1) 2 (qwm (.string b.1) (.string b.2))
theorem zaz.later{w W W':World}{a b:ByteArray × ByteArray}(h:zaz w a b W)(hb:Below W.heap.size W W'):zaz w a b W':=
 ⟨h.1.trans (hb.mono h.1.size),h.2.1.later (hb.mono h.2.1.1),h.2.2.later (hb.mono h.2.2.1)⟩
theorem qy7(w:World)(a b:ByteArray × ByteArray)(t1 t2:TypeId):zaz w a b ((w.alloc (.cells #[.string a.1,.string a.2] t1)).alloc (.cells #[.string b.1,.string b.2] t2)):=by
 have h1:Below w.heap.size w (w.alloc (.cells #[.string a.1,.string a.2] t1)):=(Below.refl _ _).alloc (Nat.le_refl _) _;have p1:=qco w t1 (.string a.1) (.string a.2);have p2:=qco (w.alloc (.cells #[.string a.1,.string a.2] t1)) t2 (.string b.1) (.string b.2);have s1:(w.alloc (.cells #[.string a.1,.string a.2] t1)).heap.size=w.heap.size+1:=World.size_alloc _ _;rw[s1] at p2;exact⟨h1.alloc (by rw[s1];omega) _,Own.later p1 ((Below.refl _ _).alloc (by rw[s1];omega) _),p2⟩
theorem qmt{w W:World}{a b:ByteArray × ByteArray}(h:zaz w a b W):W.cell? ⟨w.heap.size,0,none⟩=some (.string a.1)∧W.cell? ⟨w.heap.size,1,none⟩=some (.string a.2)∧W.cell? ⟨w.heap.size+1,0,none⟩=some (.string b.1)∧W.cell? ⟨w.heap.size+1,1,none⟩=some (.string b.2):=
 ⟨(h.2.1.2 0 (by omega)).1,(h.2.1.2 1 (by omega)).1,(h.2.2.2 0 (by omega)).1,(h.2.2.2 1 (by omega)).1⟩
theorem q9q(p q:Rat)(w:World)(s1:(rt p).size≤5000)(s2:(rt q).size≤5000):
  Calls Tryz.prog 12 #[.agg #[.string (qq0 p q p),.string (qq0 p q q)],.int .i64 (qhh p q:Nat),.int .i64 0,.agg #[.string (rt p),.string (rt q)]] w fun e w'=>e = .returned (.bool true)∧Below w.heap.size w w':=by
 have HL:=hid (fun W=>qvv p q W s1 s2);have HB:=hid (qy7 w (qq0 p q p,qq0 p q q) (rt p,rt q) 24 24);unfold qq0 at *;unfold qhh at *;clear s1 s2;by_cases hf:(qa6 p 600&&qa6 q 600)=true
 ·simp only[if_pos hf] at HL HB ⊢
  clear hf;generalize rt p=tp at *;generalize rt q=tq at *;have hb1:(tp.toList==tp.toList)=true:=beq_self_eq_true _;have hb2:(tq.toList==tq.toList)=true:=beq_self_eq_true _;obtain⟨c0,c1,c2,c3⟩:=qmt HB.out;go_enter Tryz.func12,Tryz.ntmps12;go_wp2_with fail;refine(HL.out _).mono ?_;rintro e w1 ⟨rfl,hb⟩;have HB1:=hid (HB.out.later hb);clear hb HL c0 c1 c2 c3;obtain⟨c0,c1,c2,c3⟩:=qmt HB1.out;go_wp2_with fail;go_ret;exact⟨rfl,HB1.out.1⟩
 ·simp only[if_neg hf] at HL HB ⊢
  clear hf;generalize rt p=tp at *;generalize rt q=tq at *;obtain⟨c0,c1,c2,c3⟩:=qmt HB.out;go_enter Tryz.func12,Tryz.ntmps12;go_wp2_with fail;refine(HL.out _).mono ?_;rintro e w1 ⟨rfl,hb⟩;have HB1:=hid (HB.out.later hb);clear hb HL c0 c1 c2 c3;obtain⟨c0,c1,c2,c3⟩:=qmt HB1.out;go_wp2_with fail;go_ret;exact⟨rfl,HB1.out.1⟩
theorem qto(c:Int)(t1 t2:ByteArray)(w:World)(hc:c≠0):
  Calls Tryz.prog 12 #[.agg #[.string ⟨#[]⟩,.string ⟨#[]⟩],.int .i64 c,.int .i64 c,.agg #[.string t1,.string t2]] w fun e w'=>e = .returned (.bool true)∧Below w.heap.size w w':=by
 have HB:=hid (qy7 w (⟨#[]⟩,⟨#[]⟩) (t1,t2) 24 24);have h1:(c==0)=false:=beq_eq_false_iff_ne.2 hc;have h2:(c != 0)=true:=by simpa using hc
 have h3:(c==c)=true:=beq_self_eq_true _;obtain⟨c0,c1,c2,c3⟩:=qmt HB.out;clear hc;go_enter Tryz.func12,Tryz.ntmps12;go_wp2_with fail;go_ret;exact⟨rfl,HB.out.1⟩
theorem qmu(lo hi:ByteArray)(w:World)(hg:GW w)(hlo:lo.size≤1073741824)(hhi:hi.size≤1073741824):
  Calls Tryz.prog 10 #[.agg #[.string lo,.string hi]] w fun e w'=>e = .returned (.int .i64 (qbp lo hi:Nat))∧Below w.heap.size w w':=by
 have hal:Below w.heap.size w (w.alloc (.cells #[.string lo,.string hi] 24)):=(Below.refl _ _).alloc (Nat.le_refl _) _;obtain⟨s0,s1⟩:=qag (qco w 24 (.string lo) (.string hi));have HRS:=hid (q81 (qf5 lo hi _ (hg.later hal) hlo hhi));have HAL:=hid hal;clear hg hlo hhi hal;generalize qbp lo hi=c at *;go_enter Tryz.func10,Tryz.ntmps10;go_wp2_with fail;refine HRS.out.mono ?_;rintro e w1 ⟨⟨b,p1,k1,c1,p2,k2,c2,b',p1',k1',c1',p2',k2',c2',rfl⟩,hb⟩;have HB:=hid ((HAL.out.trans (hb.mono HAL.out.size)).alloc (by have:=HAL.out.size;have:=hb.size;omega) (.cells #[.bool b,.slice p1 k1 c1,.slice p2 k2 c2,.bool b',.slice p1' k1' c1',.slice p2' k2' c2'] 75));clear hb HRS s0 s1;go_wp2_with fail;go_ret;exact⟨rfl,HB.out⟩
theorem qkq{a:ByteArray × ByteArray}(h:qa5 a=0):qab a.1.data.toList=0∧qab a.2.data.toList=0:=by
 unfold qa5 qbp at h;by_cases h0:qad [qab a.1.data.toList,qab a.2.data.toList]=0
 ·exact qd2 h0
 ·rw[if_pos h0] at h
  exact absurd h h0
theorem qqt{lo hi:Rat}{a b:ByteArray × ByteArray}{w:World}{f:FuncId}{args:Array Value}{c:Nat}(hg:GW w)(hc:qad [qa5 a,qa5 b]=c)(h0:c≠0)(h:∀W,GW W→Calls Tryz.prog f args W (qdt lo hi a b W))(L:List (Nat × ByteArray × ByteArray)):
  qd5 (Bxs w L) f args (.tuple #[.agg #[.string ⟨#[]⟩,.string ⟨#[]⟩],.int .i64 (c:Nat)]):=
 qax (qfg hg L) fun W _ hW=>(h W hW).mono fun _ _ hh=>by
  unfold qdt at hh;rw[hc,if_pos h0] at hh;exact hh
theorem qnu{lo hi:Rat}{a b:ByteArray × ByteArray}{w:World}{f:FuncId}{args:Array Value}(hg:GW w)(hc:qad [qa5 a,qa5 b]=0)(h:∀W,GW W→Calls Tryz.prog f args W (qdt lo hi a b W))(L:List (Nat × ByteArray × ByteArray)):
  qd5 (Bxs w L) f args (.tuple #[.agg #[.string (qq0 lo hi lo),.string (qq0 lo hi hi)],.int .i64 (qhh lo hi:Nat)]):=
 qax (qfg hg L) fun W _ hW=>(h W hW).mono fun _ _ hh=>by
  unfold qdt at hh;rw[if_neg (by omega)] at hh;exact qvu hh
theorem bx5{w W:World}{g1 g2 g3 g4 g5:Nat}{a1 a2 a3 a4 a5 b1 b2 b3 b4 b5:ByteArray}(h:Bxs w [(g1,a1,b1),(g2,a2,b2),(g3,a3,b3),(g4,a4,b4),(g5,a5,b5)] W):
  W.cell? ⟨g1,0,none⟩=some (.string a1)∧W.cell? ⟨g1,1,none⟩=some (.string b1)∧W.cell? ⟨g2,0,none⟩=some (.string a2)∧W.cell? ⟨g2,1,none⟩=some (.string b2)∧W.cell? ⟨g3,0,none⟩=some (.string a3)∧W.cell? ⟨g3,1,none⟩=some (.string b3)∧W.cell? ⟨g4,0,none⟩=some (.string a4)∧W.cell? ⟨g4,1,none⟩=some (.string b4)∧W.cell? ⟨g5,0,none⟩=some (.string a5)∧W.cell? ⟨g5,1,none⟩=some (.string b5):=by
 obtain⟨c0,c1,c2,c3,c4,c5,c6,c7,c8,c9,-⟩:=qaf h;exact⟨c0,c1,c2,c3,c4,c5,c6,c7,c8,c9⟩
theorem qcy{w:World}(hg:GW w)(a b c:Nat)(h:qad [a,b]=c)(t:TypeId)(L:List (Nat × ByteArray × ByteArray))(W:World)(hW:Bxs w L W):
  Calls Tryz.prog 11 #[.slice (some ⟨W.heap.size,0,none⟩) 2 2] (W.alloc (.cells #[.int .i64 (a:Nat),.int .i64 (b:Nat)] t)) fun e w'=>e = .returned (.int .i64 (c:Nat))∧Hid (Bxs w L w'):=
 (q47 a b t W).mono fun _ _ ⟨h1,h2⟩=>⟨by rw[←h];exact h1,hid (hW.later h2)⟩
theorem qkr{w:World}(hg:GW w)(p q:Rat)(k:Nat)(sp:sm p k)(sq:sm q k)(hk:k≤2000)(L:List (Nat × ByteArray × ByteArray)):
  qd5 (Bxs w L) 12 #[.agg #[.string (qq0 p q p),.string (qq0 p q q)],.int .i64 (qhh p q:Nat),.int .i64 0,.agg #[.string (rt p),.string (rt q)]] (.bool true):=
 qax (qfg hg L) fun W _ _=>q9q p q W (by have:=qd8 sp;omega) (by have:=qd8 sq;omega)
end Go.Proofs.YtpbeeneenhmjaaaGreatDoor
