/- The law's when and first. -/
import Derived.Test.YthjagoogkkgelaaGreatDoorMBase
import Derived.Test.YthjagoogkkgelaaGreatDoorMRounded
import Derived.WalkKit
import Derived.Test.YthjagoogkkgelaaGreatDoorMKeeps
import Derived.Test.YthjagoogkkgelaaGreatDoorMReadRule
import Derived.Test.YthjagoogkkgelaaGreatDoorMRefRule
import Derived.Test.YthjagoogkkgelaaGreatDoorMSpans
import Derived.Test.YthjagoogkkgelaaGreatDoorMRefK
import Derived.Test.YthjagoogkkgelaaGreatDoorMNv
import Derived.Deep.RegionHeld3
set_option linter.all false
namespace Go.Proofs.YthjagoogkkgelaaGreatDoor
open Go.RowKit
set_option maxRecDepth 100000
set_option maxHeartbeats 2000000
theorem qgh(b:Bool)(z:Int)(w:World):Calls Tryz.prog 16 #[.bool b,.int .i64 z] w fun e w'=>e = .returned (.int .i64 (if b then z else 0))∧w=w':=by
 cases b
 all_goals
  go_enter Tryz.func16,Tryz.ntmps16;go_wp2_with fail;go_ret;exact⟨rfl,rfl⟩
def qej:List Int→Int
 | []=>0
 | x::l=>if x=0 then qej l else x
theorem qu3(l:List Int)(k:Nat)(h:k<l.length):qej (l.drop k)=if l.getD k 0=0 then qej (l.drop (k+1)) else l.getD k 0:=by
 rw[List.drop_eq_getElem_cons h,List.getD_eq_getElem?_getD,List.getElem?_eq_getElem h];rfl
theorem qfx(v:Value)(l:List Int)(w:World)(h:qjv w v l)(_hlen:l.length≤1048576):
  Calls Tryz.prog 18 #[v] w fun e w'=>e = .returned (.int .i64 (qej l))∧w=w':=by
 obtain⟨p,c,rfl,hc1,hc2,hcells⟩:=h;unfold maxLen at hc2;have HC:=hid hcells;clear hcells;go_enter Tryz.func18,Tryz.ntmps18;go_wp2_with fail
 go_loop [3] (fun i=>∃k:Nat,k≤l.length∧i = .int .i64 k∧Hid (qej l=qej (l.drop k))) (fun i=>l.length-(intOf i).toNat)
 case atStart=>exact⟨0,Nat.zero_le _,rfl,hid (by rw[List.drop_zero])⟩
 case round=>
  obtain⟨k,hk,rfl,HA⟩:=hrel;by_cases hlt:k<l.length
  ·rcases HC.out with h0|⟨b,o,rfl,hrow⟩
   ·omega
   have hcell:=hrow k hlt;unfold iv at hcell;have HD:=hid (qu3 l k hlt);clear hrow;generalize hx:l.getD k 0=x at *;clear hx;by_cases h1:x=0
   ·have hb:(x != 0)=false:=by rw[h1];rfl
    have HN:Hid (qej l=qej (l.drop (k+1))):=hid (by rw[HA.out,HD.out,if_pos h1]);clear h1;go_wp2_with fail;go_round
    case rel=>exact⟨k+1,by omega,by go_num,HN⟩
    case measure=>simp[intOf];omega
   ·have hb:(x != 0)=true:=by simpa using h1
    have HN:Hid (qej l=x):=hid (by rw[HA.out,HD.out,if_neg h1]);clear h1;go_wp2_with fail;go_ret;exact⟨by rw[HN.out];rfl,rfl⟩
  ·have hkl:k=l.length:=by omega
   have HZ:Hid (qej l=0):=hid (by rw[HA.out,hkl,List.drop_length];rfl);clear hkl;go_wp2_with fail;go_ret;exact⟨by rw[HZ.out];rfl,rfl⟩
theorem qw3(l:List Nat):qej (List.map (fun n:Nat=>(n:Int)) l)=(qac l:Nat):=by
 induction l with
 | nil=>rfl
 | cons e l ih=>
  show(if(e:Int)=0 then qej (List.map (fun n:Nat=>(n:Int)) l) else(e:Int))=((if e=0 then qac l else e:Nat):Int);by_cases h:e=0
  ·rw[if_pos h,if_pos (by omega),ih]
  ·rw[if_neg h,if_neg (by omega)]
theorem q4o(w:World)(a b:Int)(t:TypeId):qjv (w.alloc (.cells #[.int .i64 a,.int .i64 b] t)) (.slice (some ⟨w.heap.size,0,none⟩) 2 2) [a,b]:=by
 refine⟨_,_,rfl,Nat.le_refl _,(by decide:2≤maxLen),.inr ⟨_,_,rfl,fun i hi => ?_⟩⟩;rw[World.cell?_alloc_at _ _ _ _ rfl]
 match i,hi with
 | 0,_=>rfl
 | 1,_=>rfl
theorem q4p(a b:Nat)(t:TypeId)(w:World):Calls Tryz.prog 18 #[.slice (some ⟨w.heap.size,0,none⟩) 2 2] (w.alloc (.cells #[.int .i64 (a:Nat),.int .i64 (b:Nat)] t)) fun e w'=>e = .returned (.int .i64 (qac [a,b]:Nat))∧Below w.heap.size w w':=by
 refine(qfx _ [(a:Int),(b:Int)] _ (q4o w a b t) (show 2≤1048576 by decide)).mono fun e w' h => ?_;obtain⟨h1,h2⟩:=h;rw[←qw3 [a,b],←h2];exact⟨h1,(Below.refl _ _).alloc (Nat.le_refl _) _⟩
def BxC(W:World):List (Nat × ByteArray × ByteArray)→Prop
 | []=>True
 | r::L=>W.cell? ⟨r.1,0,none⟩=some (.string r.2.1)∧W.cell? ⟨r.1,1,none⟩=some (.string r.2.2)∧BxC W L
def Bxs(w:World)(L:List (Nat × ByteArray × ByteArray))(W:World):Prop:=
 Below w.heap.size w W∧∀r ∈ L,Own W r.1 2 (qml (.string r.2.1) (.string r.2.2))
theorem Bxs.later{w W W':World}{L:List (Nat × ByteArray × ByteArray)}(h:Bxs w L W)(hb:Below W.heap.size W W'):Bxs w L W':=
 ⟨h.1.trans (hb.mono h.1.size),fun r hr=>(h.2 r hr).later (hb.mono (h.2 r hr).1)⟩
theorem q4q{w:World}(hg:GW w)(L:List (Nat × ByteArray × ByteArray)):Inv (Bxs w L):=⟨fun _ _ h hb=>h.later hb,fun _ h=>hg.later h.1⟩
theorem qgy{w W:World}{L:List (Nat × ByteArray × ByteArray)}(h:Bxs w L W)(t:TypeId)(a b:ByteArray):Bxs w ((W.heap.size,a,b)::L) (W.alloc (.cells #[.string a,.string b] t)):=by
 have hl:=h.later ((Below.refl W.heap.size W).alloc (Nat.le_refl _) (.cells #[.string a,.string b] t));refine⟨hl.1,fun r hr => ?_⟩;rcases List.mem_cons.1 hr with rfl|hr
 ·exact qbl W t (.string a) (.string b)
 ·exact hl.2 r hr
theorem qgz{w W:World}:∀ {L:List (Nat × ByteArray × ByteArray)},Bxs w L W→BxC W L
 | [],_=>trivial
 | r::_,h=>⟨((h.2 r (List.mem_cons_self ..)).2 0 (by decide)).1,((h.2 r (List.mem_cons_self ..)).2 1 (by decide)).1,qgz ⟨h.1,fun x hx=>h.2 x (List.mem_cons_of_mem _ hx)⟩⟩
theorem qgm{I:World→Prop}{f:FuncId}{args:Array Value}{v:Value}(h:qck I f args v):Hid (∀W,I W→Calls Tryz.prog f args W fun e w'=>e = .returned v∧I w'):=hid h
theorem qjp(w:World)(k s:ByteArray)(t:TypeId):qph w k s (w.alloc (.cells #[.string k,.string s] t)):=
 ⟨(Below.refl _ _).alloc (Nat.le_refl _) _,qbl _ _ _ _⟩
theorem qw4(lo hi:ByteArray)(w:World)(hg:GW w)(s1:lo.size≤2000)(s2:hi.size≤2000)(h1:qaa lo.data.toList≠0):Calls Tryz.prog 42 #[.agg #[.string lo,.string hi]] w fun e w'=>e = .returned (.int .i64 (qdd lo hi:Nat))∧qph w lo hi w':=by
 have J:=qym hg lo hi;have HB:=hid (qjp w lo hi 28);obtain⟨c0,c1⟩:=qdf HB.out;have hr:qdd lo hi=qaa lo.data.toList:=by unfold qdd;rw[show qac [qaa lo.data.toList,qaa hi.data.toList]=qaa lo.data.toList by unfold qac;rw[if_neg h1],if_pos h1]
 rw[hr];have HC1:=hid (qei J lo _ rfl (by omega));have hne:((qaa lo.data.toList:Int)==0)=false:=beq_eq_false_iff_ne.2 (by omega);clear hr h1 J hg;generalize qaa lo.data.toList=c at *;go_enter Tryz.func42,Tryz.ntmps42;go_wp2_with fail;refine(HC1.out _ HB.out).mono ?_;rintro e wN ⟨rfl,hb⟩;clear HB c0 c1;have HB:=hid hb;clear hb;obtain⟨c0,c1⟩:=qdf HB.out;go_wp2_with fail;go_ret;exact⟨rfl,HB.out⟩
theorem qu4(lo hi:ByteArray)(w:World)(hg:GW w)(s1:lo.size≤2000)(s2:hi.size≤2000)(h1:qaa lo.data.toList=0)(h2:qaa hi.data.toList≠0):Calls Tryz.prog 42 #[.agg #[.string lo,.string hi]] w fun e w'=>e = .returned (.int .i64 (qdd lo hi:Nat))∧qph w lo hi w':=by
 have J:=qym hg lo hi;have HB:=hid (qjp w lo hi 28);obtain⟨c0,c1⟩:=qdf HB.out;have hr:qdd lo hi=qaa hi.data.toList:=by unfold qdd;rw[show qac [qaa lo.data.toList,qaa hi.data.toList]=qaa hi.data.toList by unfold qac;rw[if_pos h1];unfold qac;rw[if_neg h2],if_pos h2]
 rw[hr];have HC1:=hid (qei J lo 0 h1 (by omega));have HC2:=hid (qei J hi _ rfl (by omega));have hne:((qaa hi.data.toList:Int)==0)=false:=beq_eq_false_iff_ne.2 (by omega);clear hr h1 h2 J hg;generalize qaa hi.data.toList=c at *;go_enter Tryz.func42,Tryz.ntmps42;go_wp2_with fail;refine(HC1.out _ HB.out).mono ?_;rintro e wN ⟨rfl,hb⟩;clear HB c0 c1;have HB:=hid hb;clear hb;obtain⟨c0,c1⟩:=qdf HB.out;go_wp2_with fail;refine(HC2.out _ HB.out).mono ?_;rintro e wN ⟨rfl,hb⟩;clear HB c0 c1;have HB:=hid hb;clear hb;obtain⟨c0,c1⟩:=qdf HB.out;go_wp2_with fail;go_ret;exact⟨rfl,HB.out⟩
theorem qst(lo hi:ByteArray)(w:World)(hg:GW w)(s1:lo.size≤2000)(s2:hi.size≤2000)(h1:qaa lo.data.toList=0)(h2:qaa hi.data.toList=0)(h3:0<qcu (qav lo.data.toList) (qav hi.data.toList)):Calls Tryz.prog 42 #[.agg #[.string lo,.string hi]] w fun e w'=>e = .returned (.int .i64 (qdd lo hi:Nat))∧qph w lo hi w':=by
 have J:=qym hg lo hi;have HB:=hid (qjp w lo hi 28);obtain⟨c0,c1⟩:=qdf HB.out;have hr:qdd lo hi=11:=by unfold qdd;rw[h1,h2,if_neg (by decide),if_pos h3]
 rw[hr];have HC1:=hid (qei J lo 0 h1 (by omega));have HC2:=hid (qei J hi 0 h2 (by omega));have e1:=(qfg h1).1;have e2:=(qfg h2).1;have q1:sm (qav lo.data.toList) 2000:=qgl (by rw[←e1];exact s1) (by decide);have q2:sm (qav hi.data.toList) 2000:=qgl (by rw[←e2];exact s2) (by decide);have HCM:=hid (qu2 J q1 q2 (by decide) e1 e2 (z:=qcu (qav lo.data.toList) (qav hi.data.toList)) rfl);clear hr h1 h2 e1 e2 q1 q2 J hg;generalize qcu (qav lo.data.toList) (qav hi.data.toList)=z at *;go_enter Tryz.func42,Tryz.ntmps42;go_wp2_with fail;refine(HC1.out _ HB.out).mono ?_;rintro e wN ⟨rfl,hb⟩;clear HB c0 c1;have HB:=hid hb;clear hb;obtain⟨c0,c1⟩:=qdf HB.out;go_wp2_with fail;refine(HC2.out _ HB.out).mono ?_;rintro e wN ⟨rfl,hb⟩;clear HB c0 c1;have HB:=hid hb;clear hb;obtain⟨c0,c1⟩:=qdf HB.out;go_wp2_with fail;refine(HCM.out _ HB.out).mono ?_;rintro e wN ⟨rfl,hb⟩;clear HB c0 c1;have HB:=hid hb;clear hb;obtain⟨c0,c1⟩:=qdf HB.out;go_wp2_with fail;go_ret;exact⟨rfl,HB.out⟩
theorem q0w(lo hi:ByteArray)(w:World)(hg:GW w)(s1:lo.size≤2000)(s2:hi.size≤2000)(h1:qaa lo.data.toList=0)(h2:qaa hi.data.toList=0)(h3:¬0<qcu (qav lo.data.toList) (qav hi.data.toList)):Calls Tryz.prog 42 #[.agg #[.string lo,.string hi]] w fun e w'=>e = .returned (.int .i64 (qdd lo hi:Nat))∧qph w lo hi w':=by
 have J:=qym hg lo hi;have HB:=hid (qjp w lo hi 28);obtain⟨c0,c1⟩:=qdf HB.out;have hr:qdd lo hi=0:=by unfold qdd;rw[h1,h2,if_neg (by decide),if_neg h3]
 rw[hr];have HC1:=hid (qei J lo 0 h1 (by omega));have HC2:=hid (qei J hi 0 h2 (by omega));have e1:=(qfg h1).1;have e2:=(qfg h2).1;have q1:sm (qav lo.data.toList) 2000:=qgl (by rw[←e1];exact s1) (by decide);have q2:sm (qav hi.data.toList) 2000:=qgl (by rw[←e2];exact s2) (by decide);have HCM:=hid (qu2 J q1 q2 (by decide) e1 e2 (z:=qcu (qav lo.data.toList) (qav hi.data.toList)) rfl);clear hr h1 h2 e1 e2 q1 q2 J hg;generalize qcu (qav lo.data.toList) (qav hi.data.toList)=z at *;go_enter Tryz.func42,Tryz.ntmps42;go_wp2_with fail;refine(HC1.out _ HB.out).mono ?_;rintro e wN ⟨rfl,hb⟩;clear HB c0 c1;have HB:=hid hb;clear hb;obtain⟨c0,c1⟩:=qdf HB.out;go_wp2_with fail;refine(HC2.out _ HB.out).mono ?_;rintro e wN ⟨rfl,hb⟩;clear HB c0 c1;have HB:=hid hb;clear hb;obtain⟨c0,c1⟩:=qdf HB.out;go_wp2_with fail;refine(HCM.out _ HB.out).mono ?_;rintro e wN ⟨rfl,hb⟩;clear HB c0 c1;have HB:=hid hb;clear hb;obtain⟨c0,c1⟩:=qdf HB.out;go_wp2_with fail;go_ret;exact⟨rfl,HB.out⟩
theorem qw5(lo hi:ByteArray)(w:World)(hg:GW w)(s1:lo.size≤2000)(s2:hi.size≤2000):Calls Tryz.prog 42 #[.agg #[.string lo,.string hi]] w fun e w'=>e = .returned (.int .i64 (qdd lo hi:Nat))∧qph w lo hi w':=by
 by_cases h1:qaa lo.data.toList=0
 ·by_cases h2:qaa hi.data.toList=0
  ·by_cases h3:0<qcu (qav lo.data.toList) (qav hi.data.toList)
   ·exact qst lo hi w hg s1 s2 h1 h2 h3
   ·exact q0w lo hi w hg s1 s2 h1 h2 h3
  ·exact qu4 lo hi w hg s1 s2 h1 h2
 ·exact qw4 lo hi w hg s1 s2 h1
theorem q0x{l:List Rat}{k:Nat}(h:((l.take k).all (qa4 · 600))=true)(q:Rat)(hk:l[k]? = some q):
  (qa4 q 600=true→((l.take (k+1)).all (qa4 · 600))=true)∧(qa4 q 600=false→(l.all (qa4 · 600))=false):=by
 have hlt:k<l.length:=(List.getElem?_eq_some_iff.1 hk).1;have hget:l[k]=q:=(List.getElem?_eq_some_iff.1 hk).2;constructor
 ·intro h0
  rw[List.take_succ_eq_append_getElem hlt,hget,List.all_append,h]
  simpa using h0
 ·intro h0
  rw[List.all_eq_false];exact⟨q,by rw[←hget];exact List.getElem_mem _,by rw[h0];decide⟩
theorem q4r(v:Value)(l:List Rat)(w:World)(hv:qhl w v (l.map rt))(hs:∀q ∈ l,(rt q).size≤5000)(hl:l.length≤1000):
  Calls Tryz.prog 83 #[v] w fun e w'=>e = .returned (.int .i64 (if l.all (qa4 · 600) then 0 else 4))∧w'=w:=by
 obtain⟨b,o,c,rfl,hc1,hc2,hat⟩:=hv;rw[List.length_map] at hc1;unfold maxLen at hc2;have HAT:Hid (∀(j:Nat) (q:Rat),l[j]? = some q→w.cell? ⟨b,o+j,none⟩=some (.string (rt q))):=hid fun j q hj=>hat j (rt q) (by rw[List.getElem?_map,hj];rfl);have HSZ:=hid hs;have HLN:(List.map rt l).length=l.length:=List.length_map _;rw[HLN];obtain⟨E,hE⟩:∃E:Int,(if l.all (qa4 · 600) then(0:Int) else 4)=E:=⟨_,rfl⟩;rw[hE];have HE:=hid hE;clear hat hs HLN hE;go_enter Tryz.func83,Tryz.ntmps83;go_wp2_with fail
 go_loop [3] (fun i=>∃k:Nat,k≤l.length∧i = .int .i64 k∧Hid (((l.take k).all (qa4 · 600))=true)) (fun i=>l.length-(intOf i).toNat)
 case atStart=>exact⟨0,Nat.zero_le _,rfl,hid rfl⟩
 case round=>
  obtain⟨k,hk,rfl,hf⟩:=hrel;by_cases hlt:k<l.length
  ·obtain⟨q,hqk⟩:∃q,l[k]? = some q:=⟨_,List.getElem?_eq_getElem hlt⟩
   have hcell:=HAT.out k q hqk;obtain⟨f0,f1⟩:=q0x hf.out q hqk;have HC:=hid (fun W=>q7f q W (HSZ.out q (List.mem_of_getElem? hqk)));clear hqk hf;by_cases hz:qa4 q 600=true
   ·have HF:=hid (f0 hz)
    have h4:qjo q=0:=by unfold qjo;rw[if_pos hz]
    rw[h4] at HC;clear f0 f1 hz h4;go_wp2_with fail;refine(HC.out _).mono ?_;rintro e w1 ⟨rfl,rfl⟩;clear HC;go_wp2_with fail;go_round
    case rel=>exact⟨k+1,by omega,by go_num,HF⟩
    case measure=>simp[intOf];omega
   ·have hz':qa4 q 600=false:=by simpa using hz
    have HF:=hid (f1 hz');have h4:qjo q=4:=by unfold qjo;rw[if_neg hz]
    rw[h4] at HC;clear f0 f1 hz h4 hz';go_wp2_with fail;refine(HC.out _).mono ?_;rintro e w1 ⟨rfl,rfl⟩;clear HC;go_wp2_with fail;go_ret;exact⟨qa1 (by rw[←HE.out,HF.out];rfl),rfl⟩
  ·have HF:Hid ((l.all (qa4 · 600))=true):=hid (by have:=hf.out;rwa [List.take_of_length_le (by omega)] at this)
   clear hf;go_wp2_with fail;go_ret;exact⟨qa1 (by rw[←HE.out,HF.out];rfl),rfl⟩
def qkm(p q:Rat):Nat:=if qa4 p 600&&qa4 q 600 then 0 else 4
def q0y(p q x:Rat):ByteArray:=if qa4 p 600&&qa4 q 600 then rt x else⟨#[]⟩
theorem qp9{p q:Rat}{w w':World}{e:Ending}(h:qd0 p q w e w'):e = .returned (.tuple #[.agg #[.string (q0y p q p),.string (q0y p q q)],.int .i64 (qkm p q:Nat)])∧Below w.heap.size w w':=by
 obtain⟨h1,h2⟩:=h;refine⟨?_,h2⟩;unfold q0y qkm;by_cases hp:qa4 p 600=true
 ·by_cases hq:qa4 q 600=true
  ·have e1:qac [qfj p,qfj q]=0:=by unfold qfj;rw[if_pos hp,if_pos hq];rfl
   rw[if_pos e1] at h1;rw[hp,hq,h1];unfold qc8 rt;rw[if_pos hp,if_pos hq];rfl
  ·have e1:qac [qfj p,qfj q]=4:=by unfold qfj;rw[if_pos hp,if_neg hq];rfl
   rw[if_neg (by omega),e1] at h1;have hq':qa4 q 600=false:=by simpa using hq
   rw[hp,hq',h1];rfl
 ·have e1:qac [qfj p,qfj q]=4:=by unfold qfj;rw[if_neg hp];rfl
  rw[if_neg (by omega),e1] at h1;have hp':qa4 p 600=false:=by simpa using hp
  rw[hp',h1];rfl
theorem qu5(p q:Rat)(w:World)(s1:(rt p).size≤5000)(s2:(rt q).size≤5000):
  Calls Tryz.prog 43 #[.agg #[.string (rt p),.string (rt q)]] w fun e w'=>e = .returned (.int .i64 (qkm p q:Nat))∧Below w.heap.size w w':=by
 have HB:=hid (qjp w (rt p) (rt q) 28)
 have HR:Hid (∀W:World,Calls Tryz.prog 83 #[.slice (some ⟨W.heap.size,0,none⟩) 2 2] (W.alloc (.cells #[.string (rt p),.string (rt q)] 26)) fun e w'=>e = .returned (.int .i64 (qkm p q:Nat))∧w'=(W.alloc (.cells #[.string (rt p),.string (rt q)] 26))):=hid fun W=>by
  have h:=q4r _ [p,q] _ (q4n W (rt p) (rt q) 26) (fun x hx=>by
   rcases List.mem_cons.1 hx with e|hx
   ·rw[e];exact s1
   ·rw[List.mem_singleton.1 hx];exact s2) (by simp)
  refine h.mono fun _ _ ⟨h1,h2⟩=>⟨?_,h2⟩;rw[h1];unfold qkm;simp only[List.all_cons,List.all_nil,Bool.and_true];split<;>rfl
 clear s1 s2;generalize rt p=tp at *;generalize rt q=tq at *;have h1:=HR.out (w.alloc (.cells #[.string tp,.string tq] 28));rw[World.size_alloc] at h1;have HR1:=hid h1;clear h1 HR;obtain⟨c0,c1⟩:=qdf HB.out;go_enter Tryz.func43,Tryz.ntmps43;go_wp2_with fail;refine HR1.out.mono ?_;rintro e w1 ⟨rfl,rfl⟩;go_wp2_with fail;go_ret;exact⟨rfl,HB.out.1.alloc HB.out.1.size _⟩
def zbt(w:World)(a b:ByteArray × ByteArray)(W:World):Prop:=
 Below w.heap.size w W∧Own W w.heap.size 2 (qml (.string a.1) (.string a.2))∧Own W (w.heap.size+1) 2 (qml (.string b.1) (.string b.2))
theorem zbt.later{w W W':World}{a b:ByteArray × ByteArray}(h:zbt w a b W)(hb:Below W.heap.size W W'):zbt w a b W':=
 ⟨h.1.trans (hb.mono h.1.size),h.2.1.later (hb.mono h.2.1.1),h.2.2.later (hb.mono h.2.2.1)⟩
theorem qyn(w:World)(a b:ByteArray × ByteArray)(t1 t2:TypeId):zbt w a b ((w.alloc (.cells #[.string a.1,.string a.2] t1)).alloc (.cells #[.string b.1,.string b.2] t2)):=by
 have h1:Below w.heap.size w (w.alloc (.cells #[.string a.1,.string a.2] t1)):=(Below.refl _ _).alloc (Nat.le_refl _) _;have p1:=qbl w t1 (.string a.1) (.string a.2);have p2:=qbl (w.alloc (.cells #[.string a.1,.string a.2] t1)) t2 (.string b.1) (.string b.2);have s1:(w.alloc (.cells #[.string a.1,.string a.2] t1)).heap.size=w.heap.size+1:=World.size_alloc _ _;rw[s1] at p2;exact⟨h1.alloc (by rw[s1];omega) _,Own.later p1 ((Below.refl _ _).alloc (by rw[s1];omega) _),p2⟩
theorem qmh{w W:World}{a b:ByteArray × ByteArray}(h:zbt w a b W):W.cell? ⟨w.heap.size,0,none⟩=some (.string a.1)∧W.cell? ⟨w.heap.size,1,none⟩=some (.string a.2)∧W.cell? ⟨w.heap.size+1,0,none⟩=some (.string b.1)∧W.cell? ⟨w.heap.size+1,1,none⟩=some (.string b.2):=
 ⟨(h.2.1.2 0 (by omega)).1,(h.2.1.2 1 (by omega)).1,(h.2.2.2 0 (by omega)).1,(h.2.2.2 1 (by omega)).1⟩
theorem zaa(p q:Rat)(w:World)(s1:(rt p).size≤5000)(s2:(rt q).size≤5000):
  Calls Tryz.prog 13 #[.agg #[.string (q0y p q p),.string (q0y p q q)],.int .i64 (qkm p q:Nat),.int .i64 0,.agg #[.string (rt p),.string (rt q)]] w fun e w'=>e = .returned (.bool true)∧Below w.heap.size w w':=by
 have HL:=hid (fun W=>qu5 p q W s1 s2);have HB:=hid (qyn w (q0y p q p,q0y p q q) (rt p,rt q) 28 28);unfold q0y at *;unfold qkm at *;clear s1 s2;by_cases hf:(qa4 p 600&&qa4 q 600)=true
 ·simp only[if_pos hf] at HL HB ⊢
  clear hf;generalize rt p=tp at *;generalize rt q=tq at *;have hb1:(tp.toList==tp.toList)=true:=beq_self_eq_true _;have hb2:(tq.toList==tq.toList)=true:=beq_self_eq_true _;obtain⟨c0,c1,c2,c3⟩:=qmh HB.out;go_enter Tryz.func13,Tryz.ntmps13;go_wp2_with fail;refine(HL.out _).mono ?_;rintro e w1 ⟨rfl,hb⟩;have HB1:=hid (HB.out.later hb);clear hb HL c0 c1 c2 c3;obtain⟨c0,c1,c2,c3⟩:=qmh HB1.out;go_wp2_with fail;go_ret;exact⟨rfl,HB1.out.1⟩
 ·simp only[if_neg hf] at HL HB ⊢
  clear hf;generalize rt p=tp at *;generalize rt q=tq at *;obtain⟨c0,c1,c2,c3⟩:=qmh HB.out;go_enter Tryz.func13,Tryz.ntmps13;go_wp2_with fail;refine(HL.out _).mono ?_;rintro e w1 ⟨rfl,hb⟩;have HB1:=hid (HB.out.later hb);clear hb HL c0 c1 c2 c3;obtain⟨c0,c1,c2,c3⟩:=qmh HB1.out;go_wp2_with fail;go_ret;exact⟨rfl,HB1.out.1⟩
theorem qoq(c:Int)(t1 t2:ByteArray)(w:World)(hc:c≠0):
  Calls Tryz.prog 13 #[.agg #[.string ⟨#[]⟩,.string ⟨#[]⟩],.int .i64 c,.int .i64 c,.agg #[.string t1,.string t2]] w fun e w'=>e = .returned (.bool true)∧Below w.heap.size w w':=by
 have HB:=hid (qyn w (⟨#[]⟩,⟨#[]⟩) (t1,t2) 28 28);have h1:(c==0)=false:=beq_eq_false_iff_ne.2 hc;have h2:(c != 0)=true:=by simpa using hc
 have h3:(c==c)=true:=beq_self_eq_true _;obtain⟨c0,c1,c2,c3⟩:=qmh HB.out;clear hc;go_enter Tryz.func13,Tryz.ntmps13;go_wp2_with fail;go_ret;exact⟨rfl,HB.out.1⟩
theorem qkf{p q:Rat}{k:Nat}(sp:sm p k)(sq:sm q k)(hk:k<600):q0y p q p=rt p∧q0y p q q=rt q∧qkm p q=0:=by
 have h:(qa4 p 600&&qa4 q 600)=true:=by rw[qrn sp (by omega),qrn sq (by omega)];rfl
 unfold q0y qkm;rw[if_pos h,if_pos h,if_pos h];exact⟨rfl,rfl,rfl⟩
end Go.Proofs.YthjagoogkkgelaaGreatDoor
namespace Go.Proofs.YthjagoogkkgelaaGreatDoor
set_option maxRecDepth 100000
set_option maxHeartbeats 2000000
open Go.RowKit
end Go.Proofs.YthjagoogkkgelaaGreatDoor
namespace Go.Proofs.YthjagoogkkgelaaGreatDoor
open Go.RowKit
set_option maxRecDepth 100000
set_option maxHeartbeats 2000000
theorem q0z{a:ByteArray × ByteArray}(h:qb3 a=0):qaa a.1.data.toList=0∧qaa a.2.data.toList=0:=by
 unfold qb3 qdd at h;by_cases h0:qac [qaa a.1.data.toList,qaa a.2.data.toList]=0
 ·exact qj8 h0
 ·rw[if_pos h0] at h
  exact absurd h h0
theorem qjq{w:World}(hg:GW w)(a b c:Nat)(h:qac [a,b]=c)(t:TypeId)(L:List (Nat × ByteArray × ByteArray))(W:World)(hW:Bxs w L W):
  Calls Tryz.prog 18 #[.slice (some ⟨W.heap.size,0,none⟩) 2 2] (W.alloc (.cells #[.int .i64 (a:Nat),.int .i64 (b:Nat)] t)) fun e w'=>e = .returned (.int .i64 (c:Nat))∧Hid (Bxs w L w'):=
 (q4p a b t W).mono fun _ _ ⟨h1,h2⟩=>⟨by rw[←h];exact h1,hid (hW.later h2)⟩
theorem qnh{w:World}(hg:GW w)(p q:Rat)(k:Nat)(sp:sm p k)(sq:sm q k)(hk:k≤2000)(L:List (Nat × ByteArray × ByteArray)):
  qck (Bxs w L) 13 #[.agg #[.string (q0y p q p),.string (q0y p q q)],.int .i64 (qkm p q:Nat),.int .i64 0,.agg #[.string (rt p),.string (rt q)]] (.bool true):=
 qbs (q4q hg L) fun W _ _=>zaa p q W (by have:=qfe sp;omega) (by have:=qfe sq;omega)
end Go.Proofs.YthjagoogkkgelaaGreatDoor
