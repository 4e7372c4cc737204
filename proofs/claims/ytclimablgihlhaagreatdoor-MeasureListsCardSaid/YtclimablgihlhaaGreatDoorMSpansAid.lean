/- Taking an operation of a region first, with fewer words. -/
import Derived.Test.YtclimablgihlhaaGreatDoorMRounded
import Derived.Test.YtclimablgihlhaaGreatDoorMKeeps
import Derived.Deep.RegionHeld3
import Derived.Test.YtclimablgihlhaaGreatDoorMBase
import Derived.WalkKit
import Derived.Test.YtclimablgihlhaaGreatDoorMReadRule
import Derived.Test.YtclimablgihlhaaGreatDoorMSpans
import Derived.Test.YtclimablgihlhaaGreatDoorMRefK
import Derived.Test.YtclimablgihlhaaGreatDoorMNv
set_option linter.all false
namespace Go.Proofs.YtclimablgihlhaaGreatDoor
open Go.RowKit
end Go.Proofs.YtclimablgihlhaaGreatDoor
namespace Go.Proofs.YtclimablgihlhaaGreatDoor
open Go.RowKit
theorem qxa{w:World}(hg:GW w)(k s:BA):Inv (qop w k s):=⟨fun _ _ h hb=>h.later hb,fun _ h=>hg.later h.1⟩
theorem qda{w W:World}{k s:BA}(h:qop w k s W):W.cell? ⟨w.heap.size,0,none⟩=some (.string k)∧W.cell? ⟨w.heap.size,1,none⟩=some (.string s):=⟨(h.2.2 0 (by omega)).1,(h.2.2 1 (by omega)).1⟩
end Go.Proofs.YtclimablgihlhaaGreatDoor
namespace Go.Proofs.YtclimablgihlhaaGreatDoor
set_option maxRecDepth 100000
set_option maxHeartbeats 2000000
theorem q23{l:List Oper}{i:Nat}{oi:Oper}{rest:List Oper}(h:l.drop i=oi::rest):l.toArray[i]? = some oi:=by
 have e:(l.drop i)[0]? = l[i+0]? := List.getElem?_drop;rw[h] at e;rw[List.getElem?_toArray];exact e.symm
theorem tkw{P:Program}{l:List Oper}{Q:Exit→Act→World→Prop}{md:Region.Mode}{S:World→Prop}(i:Nat){oi:Oper}{rest:List Oper}{v:Value}{fuel:Nat}{listed:Array Bool}{a:Act}{w:World}(hi:l.drop i=oi::rest)
  (hc:(Region.noSelect l.toArray&&Region.free md l.toArray listed i&&(Region.ready md l.toArray listed).contains i)=true) (hw:Region.wanted oi (yielded l.toArray a.tmps)=true) (hS:S w)
  (hQ:∀c a w,Q (.panic c) (a.put oi.dst v) w→Q (.panic c) a w) (hy:∀w,S w→(execOp a.eval oi).run P w = .ok (.value v) w) (h:wpAnyH P md l.toArray Q S fuel (listed.setIfInBounds i true) (a.put oi.dst v) w):wpAnyH P md l.toArray Q S (fuel+1) listed a w:=by
 rw[Bool.and_eq_true,Bool.and_eq_true] at hc;exact wpAnyH_take (q23 hi) hc.1.1 hc.1.2 hc.2 hQ (Or.inl ⟨hw,hy⟩) hS h
end Go.Proofs.YtclimablgihlhaaGreatDoor
namespace Go.Proofs.YtclimablgihlhaaGreatDoor
open Go.RowKit
set_option maxRecDepth 100000
set_option maxHeartbeats 2000000
theorem q5y(b:Bool)(z:Int)(w:World):Calls Tryz.prog 14 #[.bool b,.int .i64 z] w fun e w'=>e = .returned (.int .i64 (if b then z else 0))∧w=w':=by
 cases b
 all_goals
  go_enter Tryz.func14,Tryz.ntmps14;go_wp2_with fail;go_ret;exact⟨rfl,rfl⟩
def qfq:List Int→Int
 | []=>0
 | x::l=>if x=0 then qfq l else x
theorem qt8(l:List Int)(k:Nat)(h:k<l.length):qfq (l.drop k)=if l.getD k 0=0 then qfq (l.drop (k+1)) else l.getD k 0:=by
 rw[List.drop_eq_getElem_cons h,zaw,zau h];rfl
theorem q24(v:Value)(l:List Int)(w:World)(h:qn4 w v l)(_hlen:l.length≤1048576):
  Calls Tryz.prog 16 #[v] w fun e w'=>e = .returned (.int .i64 (qfq l))∧w=w':=by
 obtain⟨p,c,rfl,bP,bK,aA⟩:=h;unfold maxLen at bK;have HC:=hid aA;clear aA;go_enter Tryz.func16,Tryz.ntmps16;go_wp2_with fail
 go_loop [3] (fun i=>∃k:Nat,k≤l.length∧i = .int .i64 k∧Hid (qfq l=qfq (l.drop k))) (fun i=>l.length-(intOf i).toNat)
 case atStart=>exact⟨0,Nat.zero_le _,rfl,hid (by rw[List.drop_zero])⟩
 case round=>
  obtain⟨k,hk,rfl,HA⟩:=hrel;by_cases bI:k<l.length
  ·rcases HC.out with h0|⟨b,o,rfl,aB⟩
   ·omega
   have aC:=aB k bI;unfold iv at aC;have HD:=hid (qt8 l k bI);clear aB;generalize hx:l.getD k 0=x at *;clear hx;by_cases h1:x=0
   ·have hb:(x != 0)=false:=by rw[h1];rfl
    have HN:Hid (qfq l=qfq (l.drop (k+1))):=hid (by rw[HA.out,HD.out,if_pos h1]);clear h1;go_wp2_with fail;go_round
    case rel=>exact⟨k+1,by omega,by go_num,HN⟩
    case measure=>simp[intOf];omega
   ·have hb:(x != 0)=true:=by simpa using h1
    have HN:Hid (qfq l=x):=hid (by rw[HA.out,HD.out,if_neg h1]);clear h1;go_wp2_with fail;go_ret;exact⟨by rw[HN.out];rfl,rfl⟩
  ·have cV:k=l.length:=by omega
   have HZ:Hid (qfq l=0):=hid (by rw[HA.out,cV,List.drop_length];rfl);clear cV;go_wp2_with fail;go_ret;exact⟨by rw[HZ.out];rfl,rfl⟩
theorem qvy(l:List Nat):qfq (List.map (fun n:Nat=>(n:Int)) l)=(qac l:Nat):=by
 induction l with
 | nil=>rfl
 | cons e l ih=>
  show(if(e:Int)=0 then qfq (List.map (fun n:Nat=>(n:Int)) l) else(e:Int))=((if e=0 then qac l else e:Nat):Int);by_cases h:e=0
  ·rw[if_pos h,if_pos (by omega),ih]
  ·rw[if_neg h,if_neg (by omega)]
theorem q25(w:World)(a b:Int)(t:TypeId):qn4 (w.alloc (.cells #[.int .i64 a,.int .i64 b] t)) (.slice (some ⟨w.heap.size,0,none⟩) 2 2) [a,b]:=by
 refine⟨_,_,rfl,zap _,(by decide:2≤maxLen),.inr ⟨_,_,rfl,fun i hi => ?_⟩⟩;rw[World.cell?_alloc_at _ _ _ _ rfl]
 match i,hi with
 | 0,_=>rfl
 | 1,_=>rfl
theorem q26(a b:Nat)(t:TypeId)(w:World):Calls Tryz.prog 16 #[.slice (some ⟨w.heap.size,0,none⟩) 2 2] (w.alloc (.cells #[.int .i64 (a:Nat),.int .i64 (b:Nat)] t)) fun e w'=>e = .returned (.int .i64 (qac [a,b]:Nat))∧Below w.heap.size w w':=by
 refine(q24 _ [(a:Int),(b:Int)] _ (q25 w a b t) (show 2≤1048576 by decide)).mono fun e w' h => ?_;obtain⟨h1,h2⟩:=h;rw[←qvy [a,b],←h2];exact⟨h1,zam _ _⟩
def BxC(W:World):List (Nat × BA × BA)→Prop
 | []=>True
 | r::L=>W.cell? ⟨r.1,0,none⟩=some (.string r.2.1)∧W.cell? ⟨r.1,1,none⟩=some (.string r.2.2)∧BxC W L
def Bxs(w:World)(L:List (Nat × BA × BA))(W:World):Prop:=
 Below w.heap.size w W∧∀r ∈ L,Own W r.1 2 (qko (.string r.2.1) (.string r.2.2))
theorem Bxs.later{w W W':World}{L:List (Nat × BA × BA)}(h:Bxs w L W)(hb:Below W.heap.size W W'):Bxs w L W':=
 ⟨h.1.trans (hb.mono h.1.size),fun r hr=>(h.2 r hr).later (hb.mono (h.2 r hr).1)⟩
theorem q27{w:World}(hg:GW w)(L:List (Nat × BA × BA)):Inv (Bxs w L):=⟨fun _ _ h hb=>h.later hb,fun _ h=>hg.later h.1⟩
theorem qgk{w W:World}{L:List (Nat × BA × BA)}(h:Bxs w L W)(t:TypeId)(a b:BA):Bxs w ((W.heap.size,a,b)::L) (W.alloc (.cells #[.string a,.string b] t)):=by
 have hl:=h.later ((zan W.heap.size W).alloc (zap _) (.cells #[.string a,.string b] t));refine⟨hl.1,fun r hr => ?_⟩;rcases List.mem_cons.1 hr with rfl|hr
 ·exact qbg W t (.string a) (.string b)
 ·exact hl.2 r hr
theorem qgl{w W:World}:∀ {L:List (Nat × BA × BA)},Bxs w L W→BxC W L
 | [],_=>trivial
 | r::_,h=>⟨((h.2 r (List.mem_cons_self ..)).2 0 (by decide)).1,((h.2 r (List.mem_cons_self ..)).2 1 (by decide)).1,qgl ⟨h.1,fun x hx=>h.2 x (List.mem_cons_of_mem _ hx)⟩⟩
theorem qf8{I:World→Prop}{f:FuncId}{args:Array Value}{v:Value}(h:qcg I f args v):Hid (∀W,I W→Calls Tryz.prog f args W fun e w'=>e = .returned v∧I w'):=hid h
theorem qi6(w:World)(k s:BA)(t:TypeId):qop w k s (w.alloc (.cells #[.string k,.string s] t)):=
 ⟨zam _ _,qbg _ _ _ _⟩
theorem qvz(lo hi:BA)(w:World)(hg:GW w)(s1:lo.size≤2000)(s2:hi.size≤2000)(h1:qaa lo.data.toList≠0):Calls Tryz.prog 39 #[.agg #[.string lo,.string hi]] w fun e w'=>e = .returned (.int .i64 (qc8 lo hi:Nat))∧qop w lo hi w':=by
 have J:=qxa hg lo hi;have HB:=hid (qi6 w lo hi 28);obtain⟨c0,c1⟩:=qda HB.out;have hr:qc8 lo hi=qaa lo.data.toList:=by unfold qc8;rw[show qac [qaa lo.data.toList,qaa hi.data.toList]=qaa lo.data.toList by unfold qac;rw[if_neg h1],if_pos h1]
 rw[hr];have gG:=hid (qea J lo _ rfl (by omega));have hne:((qaa lo.data.toList:Int)==0)=false:=zat (by omega);clear hr h1 J hg;generalize qaa lo.data.toList=c at *;go_enter Tryz.func39,Tryz.ntmps39;go_wp2_with fail;refine(gG.out _ HB.out).mono ?_;rintro e wN ⟨rfl,hb⟩;clear HB c0 c1;have HB:=hid hb;clear hb;obtain⟨c0,c1⟩:=qda HB.out;go_wp2_with fail;go_ret;exact⟨rfl,HB.out⟩
theorem qt9(lo hi:BA)(w:World)(hg:GW w)(s1:lo.size≤2000)(s2:hi.size≤2000)(h1:qaa lo.data.toList=0)(h2:qaa hi.data.toList≠0):Calls Tryz.prog 39 #[.agg #[.string lo,.string hi]] w fun e w'=>e = .returned (.int .i64 (qc8 lo hi:Nat))∧qop w lo hi w':=by
 have J:=qxa hg lo hi;have HB:=hid (qi6 w lo hi 28);obtain⟨c0,c1⟩:=qda HB.out;have hr:qc8 lo hi=qaa hi.data.toList:=by unfold qc8;rw[show qac [qaa lo.data.toList,qaa hi.data.toList]=qaa hi.data.toList by unfold qac;rw[if_pos h1];unfold qac;rw[if_neg h2],if_pos h2]
 rw[hr];have gG:=hid (qea J lo 0 h1 (by omega));have eU:=hid (qea J hi _ rfl (by omega));have hne:((qaa hi.data.toList:Int)==0)=false:=zat (by omega);clear hr h1 h2 J hg;generalize qaa hi.data.toList=c at *;go_enter Tryz.func39,Tryz.ntmps39;go_wp2_with fail;refine(gG.out _ HB.out).mono ?_;rintro e wN ⟨rfl,hb⟩;clear HB c0 c1;have HB:=hid hb;clear hb;obtain⟨c0,c1⟩:=qda HB.out;go_wp2_with fail;refine(eU.out _ HB.out).mono ?_;rintro e wN ⟨rfl,hb⟩;clear HB c0 c1;have HB:=hid hb;clear hb;obtain⟨c0,c1⟩:=qda HB.out;go_wp2_with fail;go_ret;exact⟨rfl,HB.out⟩
theorem qr0(lo hi:BA)(w:World)(hg:GW w)(s1:lo.size≤2000)(s2:hi.size≤2000)(h1:qaa lo.data.toList=0)(h2:qaa hi.data.toList=0)(h3:0<qcq (qav lo.data.toList) (qav hi.data.toList)):Calls Tryz.prog 39 #[.agg #[.string lo,.string hi]] w fun e w'=>e = .returned (.int .i64 (qc8 lo hi:Nat))∧qop w lo hi w':=by
 have J:=qxa hg lo hi;have HB:=hid (qi6 w lo hi 28);obtain⟨c0,c1⟩:=qda HB.out;have hr:qc8 lo hi=11:=by unfold qc8;rw[h1,h2,if_neg (by decide),if_pos h3]
 rw[hr];have gG:=hid (qea J lo 0 h1 (by omega));have eU:=hid (qea J hi 0 h2 (by omega));have e1:=(qe5 h1).1;have e2:=(qe5 h2).1;have q1:sm (qav lo.data.toList) 2000:=qf7 (by rw[←e1];exact s1) (by decide);have q2:sm (qav hi.data.toList) 2000:=qf7 (by rw[←e2];exact s2) (by decide);have iA:=hid (qt5 J q1 q2 (by decide) e1 e2 (z:=qcq (qav lo.data.toList) (qav hi.data.toList)) rfl);clear hr h1 h2 e1 e2 q1 q2 J hg;generalize qcq (qav lo.data.toList) (qav hi.data.toList)=z at *;go_enter Tryz.func39,Tryz.ntmps39;go_wp2_with fail;refine(gG.out _ HB.out).mono ?_;rintro e wN ⟨rfl,hb⟩;clear HB c0 c1;have HB:=hid hb;clear hb;obtain⟨c0,c1⟩:=qda HB.out;go_wp2_with fail;refine(eU.out _ HB.out).mono ?_;rintro e wN ⟨rfl,hb⟩;clear HB c0 c1;have HB:=hid hb;clear hb;obtain⟨c0,c1⟩:=qda HB.out;go_wp2_with fail;refine(iA.out _ HB.out).mono ?_;rintro e wN ⟨rfl,hb⟩;clear HB c0 c1;have HB:=hid hb;clear hb;obtain⟨c0,c1⟩:=qda HB.out;go_wp2_with fail;go_ret;exact⟨rfl,HB.out⟩
theorem qzg(lo hi:BA)(w:World)(hg:GW w)(s1:lo.size≤2000)(s2:hi.size≤2000)(h1:qaa lo.data.toList=0)(h2:qaa hi.data.toList=0)(h3:¬0<qcq (qav lo.data.toList) (qav hi.data.toList)):Calls Tryz.prog 39 #[.agg #[.string lo,.string hi]] w fun e w'=>e = .returned (.int .i64 (qc8 lo hi:Nat))∧qop w lo hi w':=by
 have J:=qxa hg lo hi;have HB:=hid (qi6 w lo hi 28);obtain⟨c0,c1⟩:=qda HB.out;have hr:qc8 lo hi=0:=by unfold qc8;rw[h1,h2,if_neg (by decide),if_neg h3]
 rw[hr];have gG:=hid (qea J lo 0 h1 (by omega));have eU:=hid (qea J hi 0 h2 (by omega));have e1:=(qe5 h1).1;have e2:=(qe5 h2).1;have q1:sm (qav lo.data.toList) 2000:=qf7 (by rw[←e1];exact s1) (by decide);have q2:sm (qav hi.data.toList) 2000:=qf7 (by rw[←e2];exact s2) (by decide);have iA:=hid (qt5 J q1 q2 (by decide) e1 e2 (z:=qcq (qav lo.data.toList) (qav hi.data.toList)) rfl);clear hr h1 h2 e1 e2 q1 q2 J hg;generalize qcq (qav lo.data.toList) (qav hi.data.toList)=z at *;go_enter Tryz.func39,Tryz.ntmps39;go_wp2_with fail;refine(gG.out _ HB.out).mono ?_;rintro e wN ⟨rfl,hb⟩;clear HB c0 c1;have HB:=hid hb;clear hb;obtain⟨c0,c1⟩:=qda HB.out;go_wp2_with fail;refine(eU.out _ HB.out).mono ?_;rintro e wN ⟨rfl,hb⟩;clear HB c0 c1;have HB:=hid hb;clear hb;obtain⟨c0,c1⟩:=qda HB.out;go_wp2_with fail;refine(iA.out _ HB.out).mono ?_;rintro e wN ⟨rfl,hb⟩;clear HB c0 c1;have HB:=hid hb;clear hb;obtain⟨c0,c1⟩:=qda HB.out;go_wp2_with fail;go_ret;exact⟨rfl,HB.out⟩
theorem qv0(lo hi:BA)(w:World)(hg:GW w)(s1:lo.size≤2000)(s2:hi.size≤2000):Calls Tryz.prog 39 #[.agg #[.string lo,.string hi]] w fun e w'=>e = .returned (.int .i64 (qc8 lo hi:Nat))∧qop w lo hi w':=by
 by_cases h1:qaa lo.data.toList=0
 ·by_cases h2:qaa hi.data.toList=0
  ·by_cases h3:0<qcq (qav lo.data.toList) (qav hi.data.toList)
   ·exact qr0 lo hi w hg s1 s2 h1 h2 h3
   ·exact qzg lo hi w hg s1 s2 h1 h2 h3
  ·exact qt9 lo hi w hg s1 s2 h1 h2
 ·exact qvz lo hi w hg s1 s2 h1
theorem qzh{l:List Rat}{k:Nat}(h:((l.take k).all (qa3 · 600))=true)(q:Rat)(hk:l[k]? = some q):
  (qa3 q 600=true→((l.take (k+1)).all (qa3 · 600))=true)∧(qa3 q 600=false→(l.all (qa3 · 600))=false):=by
 have bI:k<l.length:=(List.getElem?_eq_some_iff.1 hk).1;have yU:l[k]=q:=(List.getElem?_eq_some_iff.1 hk).2;constructor
 ·intro h0
  rw[List.take_succ_eq_append_getElem bI,yU,List.all_append,h]
  simpa using h0
 ·intro h0
  rw[List.all_eq_false];exact⟨q,by rw[←yU];exact List.getElem_mem _,by rw[h0];decide⟩
theorem q28(v:Value)(l:List Rat)(w:World)(hv:qg3 w v (l.map rt))(hs:∀q ∈ l,(rt q).size≤5000)(hl:l.length≤1000):
  Calls Tryz.prog 80 #[v] w fun e w'=>e = .returned (.int .i64 (if l.all (qa3 · 600) then 0 else 4))∧w'=w:=by
 obtain⟨b,o,c,rfl,bP,bK,yK⟩:=hv;rw[List.length_map] at bP;unfold maxLen at bK;have HAT:Hid (∀(j:Nat) (q:Rat),l[j]? = some q→w.cell? ⟨b,o+j,none⟩=some (.string (rt q))):=hid fun j q hj=>yK j (rt q) (by rw[List.getElem?_map,hj];rfl);have zQ:=hid hs;have oE:(List.map rt l).length=l.length:=List.length_map _;rw[oE];obtain⟨E,hE⟩:∃E:Int,(if l.all (qa3 · 600) then(0:Int) else 4)=E:=⟨_,rfl⟩;rw[hE];have HE:=hid hE;clear yK hs oE hE;go_enter Tryz.func80,Tryz.ntmps80;go_wp2_with fail
 go_loop [3] (fun i=>∃k:Nat,k≤l.length∧i = .int .i64 k∧Hid (((l.take k).all (qa3 · 600))=true)) (fun i=>l.length-(intOf i).toNat)
 case atStart=>exact⟨0,Nat.zero_le _,rfl,hid rfl⟩
 case round=>
  obtain⟨k,hk,rfl,hf⟩:=hrel;by_cases bI:k<l.length
  ·obtain⟨q,qX⟩:∃q,l[k]? = some q:=⟨_,zau bI⟩
   have aC:=HAT.out k q qX;obtain⟨f0,f1⟩:=qzh hf.out q qX;have HC:=hid (fun W=>q41 q W (zQ.out q (zax qX)));clear qX hf;by_cases hz:qa3 q 600=true
   ·have HF:=hid (f0 hz)
    have h4:qi4 q=0:=by unfold qi4;rw[if_pos hz]
    rw[h4] at HC;clear f0 f1 hz h4;go_wp2_with fail;refine(HC.out _).mono ?_;rintro e w1 ⟨rfl,rfl⟩;clear HC;go_wp2_with fail;go_round
    case rel=>exact⟨k+1,by omega,by go_num,HF⟩
    case measure=>simp[intOf];omega
   ·have hz':qa3 q 600=false:=by simpa using hz
    have HF:=hid (f1 hz');have h4:qi4 q=4:=by unfold qi4;rw[if_neg hz]
    rw[h4] at HC;clear f0 f1 hz h4 hz';go_wp2_with fail;refine(HC.out _).mono ?_;rintro e w1 ⟨rfl,rfl⟩;clear HC;go_wp2_with fail;go_ret;exact⟨qa0 (by rw[←HE.out,HF.out];rfl),rfl⟩
  ·have HF:Hid ((l.all (qa3 · 600))=true):=hid (by have:=hf.out;rwa [List.take_of_length_le (by omega)] at this)
   clear hf;go_wp2_with fail;go_ret;exact⟨qa0 (by rw[←HE.out,HF.out];rfl),rfl⟩
def qj0(p q:Rat):Nat:=if qa3 p 600&&qa3 q 600 then 0 else 4
def qzi(p q x:Rat):BA:=if qa3 p 600&&qa3 q 600 then rt x else⟨#[]⟩
theorem qpi{p q:Rat}{w w':World}{e:Ending}(h:qdw p q w e w'):e = .returned (.tuple #[.agg #[.string (qzi p q p),.string (qzi p q q)],.int .i64 (qj0 p q:Nat)])∧Below w.heap.size w w':=by
 obtain⟨h1,h2⟩:=h;refine⟨?_,h2⟩;unfold qzi qj0;by_cases hp:qa3 p 600=true
 ·by_cases hq:qa3 q 600=true
  ·have e1:qac [qfa p,qfa q]=0:=by unfold qfa;rw[if_pos hp,if_pos hq];rfl
   rw[if_pos e1] at h1;rw[hp,hq,h1];unfold qcw rt;rw[if_pos hp,if_pos hq];rfl
  ·have e1:qac [qfa p,qfa q]=4:=by unfold qfa;rw[if_pos hp,if_neg hq];rfl
   rw[if_neg (by omega),e1] at h1;have hq':qa3 q 600=false:=by simpa using hq
   rw[hp,hq',h1];rfl
 ·have e1:qac [qfa p,qfa q]=4:=by unfold qfa;rw[if_neg hp];rfl
  rw[if_neg (by omega),e1] at h1;have hp':qa3 p 600=false:=by simpa using hp
  rw[hp',h1];rfl
theorem qua(p q:Rat)(w:World)(s1:(rt p).size≤5000)(s2:(rt q).size≤5000):
  Calls Tryz.prog 40 #[.agg #[.string (rt p),.string (rt q)]] w fun e w'=>e = .returned (.int .i64 (qj0 p q:Nat))∧Below w.heap.size w w':=by
 have HB:=hid (qi6 w (rt p) (rt q) 28)
 have HR:Hid (∀W:World,Calls Tryz.prog 80 #[.slice (some ⟨W.heap.size,0,none⟩) 2 2] (W.alloc (.cells #[.string (rt p),.string (rt q)] 26)) fun e w'=>e = .returned (.int .i64 (qj0 p q:Nat))∧w'=(W.alloc (.cells #[.string (rt p),.string (rt q)] 26))):=hid fun W=>by
  have h:=q28 _ [p,q] _ (q21 W (rt p) (rt q) 26) (fun x hx=>by
   rcases List.mem_cons.1 hx with e|hx
   ·rw[e];exact s1
   ·rw[List.mem_singleton.1 hx];exact s2) (by simp)
  refine h.mono fun _ _ ⟨h1,h2⟩=>⟨?_,h2⟩;rw[h1];unfold qj0;simp only[List.all_cons,List.all_nil,Bool.and_true];split<;>rfl
 clear s1 s2;generalize rt p=tp at *;generalize rt q=tq at *;have h1:=HR.out (w.alloc (.cells #[.string tp,.string tq] 28));rw[zao] at h1;have nB:=hid h1;clear h1 HR;obtain⟨c0,c1⟩:=qda HB.out;go_enter Tryz.func40,Tryz.ntmps40;go_wp2_with fail;refine nB.out.mono ?_;rintro e w1 ⟨rfl,rfl⟩;go_wp2_with fail;go_ret;exact⟨rfl,HB.out.1.alloc HB.out.1.size _⟩
def q9y(w:World)(a b:BA × BA)(W:World):Prop:=
 Below w.heap.size w W∧Own W w.heap.size 2 (qko (.string a.1) (.string a.2))∧Own W (w.heap.size+1) 2 (qko (.string b.1) (.string b.2))
theorem q9y.later{w W W':World}{a b:BA × BA}(h:q9y w a b W)(hb:Below W.heap.size W W'):q9y w a b W':=
 ⟨h.1.trans (hb.mono h.1.size),h.2.1.later (hb.mono h.2.1.1),h.2.2.later (hb.mono h.2.2.1)⟩
theorem qxb(w:World)(a b:BA × BA)(t1 t2:TypeId):q9y w a b ((w.alloc (.cells #[.string a.1,.string a.2] t1)).alloc (.cells #[.string b.1,.string b.2] t2)):=by
 have h1:Below w.heap.size w (w.alloc (.cells #[.string a.1,.string a.2] t1)):=zam _ _;have p1:=qbg w t1 (.string a.1) (.string a.2);have p2:=qbg (w.alloc (.cells #[.string a.1,.string a.2] t1)) t2 (.string b.1) (.string b.2);have s1:(w.alloc (.cells #[.string a.1,.string a.2] t1)).heap.size=w.heap.size+1:=zao _ _;rw[s1] at p2;exact⟨h1.alloc (by rw[s1];omega) _,Own.later p1 ((zan _ _).alloc (by rw[s1];omega) _),p2⟩
theorem qlr{w W:World}{a b:BA × BA}(h:q9y w a b W):W.cell? ⟨w.heap.size,0,none⟩=some (.string a.1)∧W.cell? ⟨w.heap.size,1,none⟩=some (.string a.2)∧W.cell? ⟨w.heap.size+1,0,none⟩=some (.string b.1)∧W.cell? ⟨w.heap.size+1,1,none⟩=some (.string b.2):=
 ⟨(h.2.1.2 0 (by omega)).1,(h.2.1.2 1 (by omega)).1,(h.2.2.2 0 (by omega)).1,(h.2.2.2 1 (by omega)).1⟩
theorem q8j(p q:Rat)(w:World)(s1:(rt p).size≤5000)(s2:(rt q).size≤5000):
  Calls Tryz.prog 11 #[.agg #[.string (qzi p q p),.string (qzi p q q)],.int .i64 (qj0 p q:Nat),.int .i64 0,.agg #[.string (rt p),.string (rt q)]] w fun e w'=>e = .returned (.bool true)∧Below w.heap.size w w':=by
 have HL:=hid (fun W=>qua p q W s1 s2);have HB:=hid (qxb w (qzi p q p,qzi p q q) (rt p,rt q) 28 28);unfold qzi at *;unfold qj0 at *;clear s1 s2;by_cases hf:(qa3 p 600&&qa3 q 600)=true
 ·simp only[if_pos hf] at HL HB ⊢
  clear hf;generalize rt p=tp at *;generalize rt q=tq at *;have bB:(tp.toList==tp.toList)=true:=beq_self_eq_true _;have aT:(tq.toList==tq.toList)=true:=beq_self_eq_true _;obtain⟨c0,c1,c2,c3⟩:=qlr HB.out;go_enter Tryz.func11,Tryz.ntmps11;go_wp2_with fail;refine(HL.out _).mono ?_;rintro e w1 ⟨rfl,hb⟩;have aQ:=hid (HB.out.later hb);clear hb HL c0 c1 c2 c3;obtain⟨c0,c1,c2,c3⟩:=qlr aQ.out;go_wp2_with fail;go_ret;exact⟨rfl,aQ.out.1⟩
 ·simp only[if_neg hf] at HL HB ⊢
  clear hf;generalize rt p=tp at *;generalize rt q=tq at *;obtain⟨c0,c1,c2,c3⟩:=qlr HB.out;go_enter Tryz.func11,Tryz.ntmps11;go_wp2_with fail;refine(HL.out _).mono ?_;rintro e w1 ⟨rfl,hb⟩;have aQ:=hid (HB.out.later hb);clear hb HL c0 c1 c2 c3;obtain⟨c0,c1,c2,c3⟩:=qlr aQ.out;go_wp2_with fail;go_ret;exact⟨rfl,aQ.out.1⟩
theorem qnw(c:Int)(t1 t2:BA)(w:World)(hc:c≠0):
  Calls Tryz.prog 11 #[.agg #[.string ⟨#[]⟩,.string ⟨#[]⟩],.int .i64 c,.int .i64 c,.agg #[.string t1,.string t2]] w fun e w'=>e = .returned (.bool true)∧Below w.heap.size w w':=by
 have HB:=hid (qxb w (⟨#[]⟩,⟨#[]⟩) (t1,t2) 28 28);have h1:(c==0)=false:=zat hc;have h2:(c != 0)=true:=by simpa using hc
 have h3:(c==c)=true:=beq_self_eq_true _;obtain⟨c0,c1,c2,c3⟩:=qlr HB.out;clear hc;go_enter Tryz.func11,Tryz.ntmps11;go_wp2_with fail;go_ret;exact⟨rfl,HB.out.1⟩
theorem qju{p q:Rat}{k:Nat}(sp:sm p k)(sq:sm q k)(hk:k<600):qzi p q p=rt p∧qzi p q q=rt q∧qj0 p q=0:=by
 have h:(qa3 p 600&&qa3 q 600)=true:=by rw[qqq sp (by omega),qqq sq (by omega)];rfl
 unfold qzi qj0;rw[if_pos h,if_pos h,if_pos h];exact⟨rfl,rfl,rfl⟩
end Go.Proofs.YtclimablgihlhaaGreatDoor
namespace Go.Proofs.YtclimablgihlhaaGreatDoor
set_option maxRecDepth 100000
set_option maxHeartbeats 2000000
open Go.RowKit
end Go.Proofs.YtclimablgihlhaaGreatDoor
namespace Go.Proofs.YtclimablgihlhaaGreatDoor
open Go.RowKit
set_option maxRecDepth 100000
set_option maxHeartbeats 2000000
theorem qzj{a:BA × BA}(h:qb1 a=0):qaa a.1.data.toList=0∧qaa a.2.data.toList=0:=by
 unfold qb1 qc8 at h;by_cases h0:qac [qaa a.1.data.toList,qaa a.2.data.toList]=0
 ·exact qjn h0
 ·rw[if_pos h0] at h
  exact absurd h h0
theorem qi7{w:World}(hg:GW w)(a b c:Nat)(h:qac [a,b]=c)(t:TypeId)(L:List (Nat × BA × BA))(W:World)(hW:Bxs w L W):
  Calls Tryz.prog 16 #[.slice (some ⟨W.heap.size,0,none⟩) 2 2] (W.alloc (.cells #[.int .i64 (a:Nat),.int .i64 (b:Nat)] t)) fun e w'=>e = .returned (.int .i64 (c:Nat))∧Hid (Bxs w L w'):=
 (q26 a b t W).mono fun _ _ ⟨h1,h2⟩=>⟨by rw[←h];exact h1,hid (hW.later h2)⟩
theorem qmp{w:World}(hg:GW w)(p q:Rat)(k:Nat)(sp:sm p k)(sq:sm q k)(hk:k≤2000)(L:List (Nat × BA × BA)):
  qcg (Bxs w L) 11 #[.agg #[.string (qzi p q p),.string (qzi p q q)],.int .i64 (qj0 p q:Nat),.int .i64 0,.agg #[.string (rt p),.string (rt q)]] (.bool true):=
 qbr (q27 hg L) fun W _ _=>q8j p q W (by have:=qe2 sp;omega) (by have:=qe2 sq;omega)
end Go.Proofs.YtclimablgihlhaaGreatDoor
