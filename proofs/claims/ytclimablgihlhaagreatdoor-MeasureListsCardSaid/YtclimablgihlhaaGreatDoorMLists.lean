/- MeasureLists. -/
import Derived.Test.YtclimablgihlhaaGreatDoorMApport
import Derived.Test.YtclimablgihlhaaGreatDoorMSpansAid
import Derived.WalkKit
import Derived.Test.YtclimablgihlhaaGreatDoorMMatter
import Derived.Test.YtclimablgihlhaaGreatDoorMRefLists
import Derived.Test.YtclimablgihlhaaGreatDoorMWrite
import Derived.Deep.AppendLies
import Derived.OwnWalk
import Derived.Test.YtclimablgihlhaaGreatDoorMNv
import Derived.Test.YtclimablgihlhaaGreatDoorMMean
import Derived.Test.YtclimablgihlhaaGreatDoorMHull
set_option linter.all false
namespace Go.Proofs.YtclimablgihlhaaGreatDoor
set_option maxRecDepth 100000
set_option maxHeartbeats 1000000
open Go.RowKit
end Go.Proofs.YtclimablgihlhaaGreatDoor
namespace Go.Proofs.YtclimablgihlhaaGreatDoor
open Go.RowKit
set_option maxRecDepth 100000
set_option maxHeartbeats 1000000
theorem qnf(v:Value)(l:List Int)(w:World)(h:qn4 w v l)(aF:l.length≤1048576):
  Calls Tryz.prog 17 #[v] w fun e w'=>e = .returned (.int .i64 (qii l:Nat))∧w=w':=by
 obtain⟨p,c,rfl,bP,bK,aA⟩:=h;unfold maxLen at bK;have HC:=hid aA;clear aA;go_enter Tryz.func17,Tryz.ntmps17;go_wp2_with fail
 go_loop [3,4] (fun s i=>∃k:Nat,k≤l.length∧i = .int .i64 k∧s = .int .i64 (l.take k).sum∧Hid (∀x ∈ l.take k,wIn x=true)) (fun _ i=>l.length-(intOf i).toNat)
 case atStart=>exact⟨0,Nat.zero_le _,rfl,rfl,hid (by simp)⟩
 case round=>
  obtain⟨k,hk,rfl,rfl,HA⟩:=hrel;have hb:=qfd _ HA.out;have qG:(l.take k).length≤k:=List.length_take_le _ _;by_cases bI:k<l.length
  ·rcases HC.out with h0|⟨b,o,rfl,aB⟩
   ·omega
   have aC:=aB k bI;unfold iv at aC;have HX:=hid (@qqy l k bI);have HT:=hid (@qkw l k HA.out bI);have HS:=hid (qej l k bI);clear aB;generalize hx:l.getD k 0=x at *;clear hx;generalize (l.take k).sum=s at *;by_cases h1:x<0
   ·have hw:Hid (wIn x=false):=hid (by unfold wIn;simp;omega)
    go_wp2_with fail;go_ret;exact⟨by rw[HX.out hw.out];rfl,rfl⟩
   ·by_cases h2:999999999<x
    ·have hw:Hid (wIn x=false):=hid (by unfold wIn;simp;omega)
     go_wp2_with fail;go_ret;exact⟨by rw[HX.out hw.out];rfl,rfl⟩
    ·have hw:Hid (wIn x=true):=hid (by unfold wIn;simp;omega)
     go_wp2_with fail;go_round
     case rel=>exact⟨k+1,by omega,by go_num,by rw[HS.out],hid (HT.out hw.out)⟩
     case measure=>simp[intOf];omega
  ·have cV:k=l.length:=by omega
   have lD:Hid (∀x ∈ l,wIn x=true):=hid (by have:=HA.out;rw[cV,List.take_length] at this;exact this);have Nd:Hid ((l.take k).sum=l.sum):=hid (by rw[cV,List.take_length]);have HZ:=hid (qqz lD.out);generalize (l.take k).sum=s at *;obtain rfl:=Nd.out;clear cV;by_cases h0:l.sum=0
   ·have dL:(l.sum==0)=true:=beq_iff_eq.2 h0
    have fY:Hid (qii l=6):=hid (by rw[HZ.out,if_pos h0]);clear h0;go_wp2_with fail;go_ret;exact⟨by rw[fY.out];rfl,rfl⟩
   ·have dL:(l.sum==0)=false:=zat h0
    have fY:Hid (qii l=0):=hid (by rw[HZ.out,if_neg h0]);clear h0;go_wp2_with fail;go_ret;exact⟨by rw[fY.out];rfl,rfl⟩
end Go.Proofs.YtclimablgihlhaaGreatDoor
namespace Go.Proofs.YtclimablgihlhaaGreatDoor
open Go.RowKit
set_option maxRecDepth 100000
set_option maxHeartbeats 8000000
theorem qr2(qs:List (Rat × Rat))(ws:List Int):∀k,(qo9 qs ws k).1=(qo9 ((qs.map Prod.fst).map fun r=>(r,r)) ws k).1
 | 0=>rfl
 | k+1=>by
  show(qo9 qs ws k).1+(qs.getD k (0,0)).1*((ws.getD k 0:Int):Rat)=(qo9 _ ws k).1+(((qs.map Prod.fst).map fun r=>(r,r)).getD k (0,0)).1*((ws.getD k 0:Int):Rat);rw[qr2 qs ws k]
  congr 2
  rw[zaw,zaw,List.getElem?_map,List.getElem?_map];cases qs[k]? <;> rfl
theorem qr3(qs:List (Rat × Rat))(ws:List Int):∀k,(qo9 qs ws k).2=(qo9 ((qs.map Prod.snd).map fun r=>(r,r)) ws k).1
 | 0=>rfl
 | k+1=>by
  show(qo9 qs ws k).2+(qs.getD k (0,0)).2*((ws.getD k 0:Int):Rat)=(qo9 _ ws k).1+(((qs.map Prod.snd).map fun r=>(r,r)).getD k (0,0)).1*((ws.getD k 0:Int):Rat);rw[qr3 qs ws k]
  congr 2
  rw[zaw,zaw,List.getElem?_map,List.getElem?_map];cases qs[k]? <;> rfl
def q3t(base:Nat)(W:World)(v:Value)(l:List BA):Prop:=W.ownsRow base 26 1 v l.length (l.map Value.string)
theorem q3i{ops:Array Oper}{rest:List Oper}{o:Oper}{a:Act}{Q:Exit→Act→World→Prop}(Aa:o.guard=none)(s x:Operand)
  (ho:o.op = .call { callee := .builtin .append,args:=#[s,x],argTypes:=#[88,88] })
  (wr:World) (base:Nat) (v vb:Value) (L M:List BA) (y:BA) (hs:a.eval s=v)
  (bG:q3t base wr v L) (Vc:q3t base wr vb M) (hne:vb.ownBlock=none∨vb.ownBlock≠v.ownBlock) (wQ:base≤wr.heap.size)
  (hx:a.eval x = .slice (some ⟨wr.heap.size,0,none⟩) 1 1) (hk:L.length≤1048576)
  (h:∀v' w',q3t base w' v' (L++[y])→q3t base w' vb M→(vb.ownBlock=none∨vb.ownBlock≠v'.ownBlock)→v'.ownBlock≠none→Below base wr w'→wpList Tryz.prog ops Q rest (a.put o.dst v') w'):
  wpList Tryz.prog ops Q (o::rest) a (wr.alloc (.cells #[.string y] 26)):=by
 obtain⟨i0,hi,cT,dT,dU⟩:=info_parts (show(Tryz.prog.info? 26).map (fun i=>(i.zero,i.size,i.bytes))=some (some (.string ⟨#[]⟩),1,16) by kernel_rfl);unfold q3t at *;have aD:Below wr.heap.size wr (wr.alloc (.cells #[.string y] 26)):=zam _ _;have bI:∀g,vb.ownBlock=some g→g<wr.heap.size:=fun g hg=>(Vc.lt g hg).2;refine wpList_append_lies _ Aa s x 88 ho base 26 i0 (.string ⟨#[]⟩) 1 16 Tryz.underlying88 hi cT dT dU rfl (by decide) v L.length _ hs (qoi bG aD) ⟨wr.heap.size,0,none⟩ 1 1 [.string y] hx rfl ?c1 ?c2 (by decide) ?c3 ?c4 ?c5 (wr.heap.size+1) (zao _ _) ?_
 case c1=>
  intro j u hj
  match j,hj with
  | 0,hj=>
   simp at hj;subst hj;simp[Addr.add]
 case c2=>intro u hu;simp at hu;subst hu;rfl
 case c3=>unfold maxLen;omega
 case c4=>omega
 case c5=>rw[zao];omega
 intro g cap w2 hown' bW yK _
 have aT:vb.ownBlock=none∨vb.ownBlock≠(Value.slice (some ⟨g,0,none⟩) (L.length+1) cap).ownBlock:=by
  rcases hne with hn|hn
  ·exact .inl hn
  ·right
   intro e;have e2:vb.ownBlock=some g:=e;rcases yK with h1|h1
   ·exact hn (e2.trans h1.symm)
   ·have:=bI g e2
    omega
 refine h _ w2 ?_ ((qoi Vc aD).kept bW hne) aT (by intro e;cases e) ?_
 ·rw[List.length_append,List.map_append]
  exact hown'
 ·exact((aD.mono wQ).grown bW (by rw[zao];omega) (fun q hq=>(bG.lt q hq).1))
theorem qqs{base:Nat}{W:World}{v:Value}{l:List BA}(h:q3t base W v l)(hne:l≠[]):qg3 W v l:=by
 have jM:0<l.length:=List.length_pos_iff.2 hne;unfold q3t at h;rcases h.2 with⟨_,h0⟩|⟨g,cap,cur,rfl,hb,hg,bP,bK,hc3,Jt⟩
 ·omega
 ·refine⟨g,0,cap,rfl,bP,bK,fun j s hj => ?_⟩
  have Rz:j<l.length:=(List.getElem?_eq_some_iff.1 hj).1;rw[Nat.zero_add,cell_of_row W g j cur 26 (0,0) hg,←Array.getElem?_toList];have:(cur.toList.take (l.length*1))[j]? = some (Value.string s):=by rw[Jt,List.getElem?_map,hj];rfl
  rwa [List.getElem?_take,if_pos (by omega)] at this
theorem q52(vl vw:Value)(qs:List (Rat × Rat))(ws:List Int)(j:Nat)(w:World)(hv:qbq w vl (qs.map rtP))(hw:qn4 w vw ws)(aF:ws.length=qs.length)(hne:qs≠[])(hn10:qs.length≤10)(jL:∀q ∈ qs,sm q.1 j∧sm q.2 j)(hj:1≤j)(Ky:j≤100)(Mv:∀x ∈ ws,wIn x=true)(h0:ws.sum≠0):
  Calls Tryz.prog 18 #[vl,vw] w fun e w'=>e = .returned (.agg #[.string (rt (qg4 qs ws).1),.string (rt (qg4 qs ws).2)])∧Below w.heap.size w w':=by
 have bV:Below w.heap.size w (w.alloc (.cells #[.string ⟨#[]⟩,.string ⟨#[]⟩] 28)):=zam _ _;have aS:Hid (Own (w.alloc (.cells #[.string ⟨#[]⟩,.string ⟨#[]⟩] 28)) w.heap.size 2 (qko (.string ⟨#[]⟩) (.string ⟨#[]⟩))):=hid (qbg w 28 _ _)
 have HMR:Hid (∀(f:Rat × Rat→Rat),(∀q ∈ qs,sm (f q) j)→∀(v:Value) (W:World),Below w.heap.size w W→qg3 W v (qs.map fun q=>rt (f q))→Calls Tryz.prog 44 #[v,vw] W (qlk (qry (qs.map f) ws qs.length/((ws.sum:Int):Rat)) W)):=hid fun f hf v W hW hv=>by
  have h:=q5x v vw (qs.map f) ws j W (by rw[List.map_map];exact hv) (hw.later hW) (by rw[List.length_map];exact aF) (by rw[List.length_map];exact hn10) hj Ky (fun r hr=>by obtain⟨q,hq,rfl⟩:=List.mem_map.1 hr;exact hf q hq) Mv h0
  rwa [List.length_map] at h
 have Ir:qry (qs.map Prod.fst) ws qs.length/((ws.sum:Int):Rat)=(qg4 qs ws).1:=by
  unfold qg4 qry
  congr 1
  exact(qr2 qs ws qs.length).symm
 have Is:qry (qs.map Prod.snd) ws qs.length/((ws.sum:Int):Rat)=(qg4 qs ws).2:=by
  unfold qg4 qry
  congr 1
  exact(qr3 qs ws qs.length).symm
 have Q1:=HMR.out Prod.fst fun q hq=>(jL q hq).1;have Q2:=HMR.out Prod.snd fun q hq=>(jL q hq).2;rw[Ir] at Q1;rw[Is] at Q2;unfold qlk at Q1 Q2;obtain⟨p,c,rfl,bP,bK,aA⟩:=hv;obtain⟨pw,cw,rfl,qV,zW,hwcells⟩:=hw;rw[aF] at Q1 Q2 qV ⊢;have hJ:=hid Q1;have fE:=hid Q2;unfold maxLen at bK zW;rw[List.length_map] at *;have jM:0<qs.length:=List.length_pos_iff.2 hne;obtain⟨b,o,rfl,aB⟩:=aA.resolve_left (by omega);have bN:=hid aB;have cP:=hid bV;have jW:=hid hne;clear aF aB aA hwcells jL hj Ky Mv h0 HMR Ir Is Q1 Q2 bV hne;generalize rt (qg4 qs ws).1=z1 at *;generalize rt (qg4 qs ws).2=z2 at *;generalize hn:qs.length=n at *;have HN:=hid hn;clear hn;have Nm:Hid (q3t (w.heap.size+1) (w.alloc (.cells #[.string ⟨#[]⟩,.string ⟨#[]⟩] 28)) (.slice none 0 0) []):=hid (World.ownsRow_nil _ _ _ _);go_enter Tryz.func18,Tryz.ntmps18;go_wp2_with fail
 go_loopw [5,6,7] (fun va vb i wr=>∃k:Nat,k≤n∧i = .int .i64 k∧Hid (q3t (w.heap.size+1) wr va ((qs.take k).map fun q=>rt q.1))∧Hid (q3t (w.heap.size+1) wr vb ((qs.take k).map fun q=>rt q.2))∧Hid (va.ownBlock=none∨va.ownBlock≠vb.ownBlock)∧Hid (Below (w.heap.size+1) (w.alloc (.cells #[.string ⟨#[]⟩,.string ⟨#[]⟩] 28)) wr)) (fun _ _ i _=>n-(intOf i).toNat)
 case atStart=>exact⟨0,Nat.zero_le _,rfl,Nm,Nm,hid (.inl rfl),hid (zan _ _)⟩
 case round=>
  obtain⟨k,hk,rfl,HA,aX,HD,HB⟩:=hrel;by_cases bI:k<n
  ·obtain⟨q,hq⟩:∃q,qs[k]? = some q:=⟨qs[k]'(by rw[HN.out];exact bI),zau _⟩
   have iG:Hid (qs.take (k+1)=qs.take k++[q]):=hid (by rw[List.take_add_one,hq];rfl)
   have aV:Hid (∀W,Below w.heap.size w W→W.cell? ⟨b,o+k*2,none⟩=some (.string (rt q.1))∧W.cell? ⟨b,o+k*2+1,none⟩=some (.string (rt q.2))):=hid fun W hW=>by
    obtain⟨f0,f1⟩:=bN.out k (rtP q) (by rw[List.getElem?_map,hq];rfl);rw[hW.cell (zaq w _ f0),hW.cell (zaq w _ f1)];exact⟨f0,f1⟩
   have Vd:=hid (cP.out.trans (HB.out.mono (Nat.le_succ _)));obtain⟨e0,-⟩:=aV.out _ Vd.out;have Oq:(0:Int)≤(k:Int):=by omega
   have Dp:(k:Int)<(n:Int):=by omega
   have kP:Hid (((qs.take k).map fun q=>rt q.1).length≤1048576):=hid (by rw[List.length_map];have:=List.length_take_le k qs;omega);have jE:Hid (((qs.take k).map fun q=>rt q.2).length≤1048576):=hid (by rw[List.length_map];have:=List.length_take_le k qs;omega);have zO:Hid ((qs.take (k+1)).map (fun q=>rt q.1)=(qs.take k).map (fun q=>rt q.1)++[rt q.1]):=hid (by rw[iG.out,List.map_append];rfl);have pT:Hid ((qs.take (k+1)).map (fun q=>rt q.2)=(qs.take k).map (fun q=>rt q.2)++[rt q.2]):=hid (by rw[iG.out,List.map_append];rfl)
   have pP:Hid (u6.ownBlock=none∨u6.ownBlock≠u5.ownBlock):=hid (by
    rcases HD.out with h|h
    ·cases hb:u6.ownBlock with
     | none=>exact .inl rfl
     | some g=>exact .inr (by rw[h];intro e;cases e)
    ·exact .inr (Ne.symm h))
   clear hq iG;generalize (qs.take k).map (fun q=>rt q.1)=LA at *;generalize (qs.take k).map (fun q=>rt q.2)=LB at *;generalize rt q.1=t1 at *;generalize rt q.2=t2 at *;have kJ:w.heap.size+1≤wr.heap.size:=by have:=HB.out.size;rw[zao] at this;exact this
   go_wp2_with (at_builtin;refine q3i rfl _ _ rfl _ _ _ _ _ _ _ (by rfl) HA.out aX.out pP.out kJ (by rfl) kP.out ?_);intro va' w2 hA2 hB2 Ey hnn2 nF;have lD:=hid hA2;have aR:=hid hB2
   have fM:Hid (va'.ownBlock=none∨va'.ownBlock≠u6.ownBlock):=hid (by
    rcases Ey with h|h
    ·cases hb:va'.ownBlock with
     | none=>exact .inl rfl
     | some g=>exact .inr (by rw[h];intro e;cases e)
    ·exact .inr (Ne.symm h))
   have dO:=hid (HB.out.trans nF);have nN:w.heap.size+1≤w2.heap.size:=by have:=dO.out.size;rw[zao] at this;exact this
   have HBw2:=hid (cP.out.trans (dO.out.mono (Nat.le_succ _)));obtain⟨-,e1⟩:=aV.out _ HBw2.out;clear hA2 hB2 Ey hnn2 nF e0;go_wp2_with (at_builtin;refine q3i rfl _ _ rfl _ _ _ _ _ _ _ (by rfl) aR.out lD.out fM.out nN (by rfl) jE.out ?_);intro vb' w3 hB3 hA3 Ve hnn3 nF;have yY:=hid hA3;have bY:=hid hB3;have yX:=hid Ve;have tN:=hid (dO.out.trans nF);clear hA3 hB3 Ve hnn3 nF e1;go_wp2_with fail;go_roundw
   case rel=>exact⟨k+1,by omega,by go_num,hid (by rw[zO.out];exact yY.out),hid (by rw[pT.out];exact bY.out),yX,tN⟩
   case measure=>simp[intOf];omega
  ·have xE:¬(k:Int)<(n:Int):=by omega
   have jG:k=n:=by omega
   subst jG;have yZ:Hid (qs.take k=qs):=hid (by rw[List.take_of_length_le (by have:=HN.out;omega)]);have zO:Hid (qg3 wr u5 (qs.map fun q=>rt q.1)):=hid (by have h:=qqs HA.out (by rw[yZ.out];intro e;exact jW.out (List.map_eq_nil_iff.1 e));rwa [yZ.out] at h);have pT:Hid (qg3 wr u6 (qs.map fun q=>rt q.2)):=hid (by have h:=qqs aX.out (by rw[yZ.out];intro e;exact jW.out (List.map_eq_nil_iff.1 e));rwa [yZ.out] at h);have Vd:=hid (cP.out.trans (HB.out.mono (Nat.le_succ _)));have cZ:=hid (aS.out.later HB.out);go_wp2_with fail
   with_reducible refine(hJ.out _ _ Vd.out zO.out).mono ?_
   rintro e wA ⟨rfl,hb⟩;have bQ:=hid (Vd.out.trans (hb.mono Vd.out.size));have HTB2:=hid (pT.out.later hb);have It:=hid (cZ.out.later (hb.mono cZ.out.1));clear hb;go_wp2_with fail
   with_reducible refine(fE.out _ _ bQ.out HTB2.out).mono ?_
   rintro e wB ⟨rfl,hb⟩;have aX:=hid (bQ.out.trans (hb.mono bQ.out.size));have iR:=hid (It.out.later (hb.mono It.out.1));clear hb;obtain⟨⟨r0,g0⟩,⟨r1,g1⟩⟩:=qas iR.out;have dV:=hid (qbk aX.out (zap _) (.string z1) (.string z2));go_wp2_with fail;refine bodyPost_ret (v := .agg #[.string z1,.string z2]) ?_ rfl ?_
   ·simp[results,Tryz.results18,go_sem,r0,r1]
   ·exact⟨rfl,dV.out⟩
end Go.Proofs.YtclimablgihlhaaGreatDoor
namespace Go.Proofs.YtclimablgihlhaaGreatDoor
open Go.RowKit
set_option maxRecDepth 100000
set_option maxHeartbeats 1000000
theorem q53(vl:Value)(l:List (BA × BA))(w:World)(hg:GW w)(hv:qbq w vl l)(hs:∀s ∈ l,s.1.size≤1073741824∧s.2.size≤1073741824)(h0:qak l≠0):
  Calls Tryz.prog 6 #[vl] w fun e w'=>e = .returned (.tuple #[.agg #[.string ⟨#[]⟩,.string ⟨#[]⟩],.int .i64 (qak l:Nat)])∧Below w.heap.size w w':=by
 have bV:Below w.heap.size w (w.alloc (.cells #[.string ⟨#[]⟩,.string ⟨#[]⟩] 28)):=zam _ _;have aS:Hid (Own (w.alloc (.cells #[.string ⟨#[]⟩,.string ⟨#[]⟩] 28)) w.heap.size 2 (qko (.string ⟨#[]⟩) (.string ⟨#[]⟩))):=hid (qbg w 28 _ _)
 have cU:=hid ((qbw vl l _ (hg.later bV) (hv.later bV) hs).mono (R':=fun e w'=>e = .returned (.tuple #[.slice none 0 0,.int .i64 (qak l:Nat)])∧Below (w.alloc (.cells #[.string ⟨#[]⟩,.string ⟨#[]⟩] 28)).heap.size (w.alloc (.cells #[.string ⟨#[]⟩,.string ⟨#[]⟩] 28)) w') (fun e w' h=>by
  unfold qcs at h;rw[if_neg h0] at h
  exact h))
 have cP:=hid bV;have dL:((qak l:Int)==0)=false:=zat (by omega);have bB:((qak l:Int) != 0)=true:=by simpa using h0
 obtain⟨p,c,rfl,bP,bK,aA⟩:=hv;clear aA hg hs h0 bV;generalize (qak l:Int)=ck at *;go_enter Tryz.func6,Tryz.ntmps6;go_wp2_with fail;refine cU.out.mono ?_;rintro e w1 ⟨rfl,hb⟩;have HB:=hid (cP.out.trans (hb.mono cP.out.size));have cZ:=hid (aS.out.later (hb.mono aS.out.1));clear hb cU aS cP;obtain⟨⟨r0,f0⟩,⟨r1,f1⟩⟩:=qas cZ.out;have fT:=hid (qbk HB.out (zap w.heap.size) (.string ⟨#[]⟩) (.string ⟨#[]⟩));go_wp2_with fail;refine bodyPost_ret (v := .tuple #[.agg #[.string ⟨#[]⟩,.string ⟨#[]⟩],.int .i64 ck]) ?_ rfl ?_
 ·simp[results,Tryz.results6,go_sem,r0,r1]
 ·exact⟨rfl,fT.out⟩
theorem q54(vl:Value)(l:List (BA × BA))(w:World)(hg:GW w)(hv:qbq w vl l)(hs:∀s ∈ l,s.1.size≤1073741824∧s.2.size≤1073741824)(h0:qak l≠0):
  Calls Tryz.prog 7 #[vl] w fun e w'=>e = .returned (.tuple #[.agg #[.string ⟨#[]⟩,.string ⟨#[]⟩],.int .i64 (qak l:Nat)])∧Below w.heap.size w w':=by
 have bV:Below w.heap.size w (w.alloc (.cells #[.string ⟨#[]⟩,.string ⟨#[]⟩] 28)):=zam _ _;have aS:Hid (Own (w.alloc (.cells #[.string ⟨#[]⟩,.string ⟨#[]⟩] 28)) w.heap.size 2 (qko (.string ⟨#[]⟩) (.string ⟨#[]⟩))):=hid (qbg w 28 _ _)
 have cU:=hid ((qbw vl l _ (hg.later bV) (hv.later bV) hs).mono (R':=fun e w'=>e = .returned (.tuple #[.slice none 0 0,.int .i64 (qak l:Nat)])∧Below (w.alloc (.cells #[.string ⟨#[]⟩,.string ⟨#[]⟩] 28)).heap.size (w.alloc (.cells #[.string ⟨#[]⟩,.string ⟨#[]⟩] 28)) w') (fun e w' h=>by
  unfold qcs at h;rw[if_neg h0] at h
  exact h))
 have cP:=hid bV;have dL:((qak l:Int)==0)=false:=zat (by omega);have bB:((qak l:Int) != 0)=true:=by simpa using h0
 obtain⟨p,c,rfl,bP,bK,aA⟩:=hv;clear aA hg hs h0 bV;generalize (qak l:Int)=ck at *;go_enter Tryz.func7,Tryz.ntmps7;go_wp2_with fail;refine cU.out.mono ?_;rintro e w1 ⟨rfl,hb⟩;have HB:=hid (cP.out.trans (hb.mono cP.out.size));have cZ:=hid (aS.out.later (hb.mono aS.out.1));clear hb cU aS cP;obtain⟨⟨r0,f0⟩,⟨r1,f1⟩⟩:=qas cZ.out;have fT:=hid (qbk HB.out (zap w.heap.size) (.string ⟨#[]⟩) (.string ⟨#[]⟩));go_wp2_with fail;refine bodyPost_ret (v := .tuple #[.agg #[.string ⟨#[]⟩,.string ⟨#[]⟩],.int .i64 ck]) ?_ rfl ?_
 ·simp[results,Tryz.results7,go_sem,r0,r1]
 ·exact⟨rfl,fT.out⟩
theorem q55(vl vw:Value)(l:List (BA × BA))(w:World)(hg:GW w)(hv:qbq w vl l)(hs:∀s ∈ l,s.1.size≤1073741824∧s.2.size≤1073741824)(h0:qak l≠0):
  Calls Tryz.prog 9 #[vl,vw] w fun e w'=>e = .returned (.tuple #[.agg #[.string ⟨#[]⟩,.string ⟨#[]⟩],.int .i64 (qak l:Nat)])∧Below w.heap.size w w':=by
 have bV:Below w.heap.size w (w.alloc (.cells #[.string ⟨#[]⟩,.string ⟨#[]⟩] 28)):=zam _ _;have aS:Hid (Own (w.alloc (.cells #[.string ⟨#[]⟩,.string ⟨#[]⟩] 28)) w.heap.size 2 (qko (.string ⟨#[]⟩) (.string ⟨#[]⟩))):=hid (qbg w 28 _ _)
 have cU:=hid ((qbw vl l _ (hg.later bV) (hv.later bV) hs).mono (R':=fun e w'=>e = .returned (.tuple #[.slice none 0 0,.int .i64 (qak l:Nat)])∧Below (w.alloc (.cells #[.string ⟨#[]⟩,.string ⟨#[]⟩] 28)).heap.size (w.alloc (.cells #[.string ⟨#[]⟩,.string ⟨#[]⟩] 28)) w') (fun e w' h=>by
  unfold qcs at h;rw[if_neg h0] at h
  exact h))
 have cP:=hid bV;have dL:((qak l:Int)==0)=false:=zat (by omega);have bB:((qak l:Int) != 0)=true:=by simpa using h0
 obtain⟨p,c,rfl,bP,bK,aA⟩:=hv;clear aA hg hs h0 bV;generalize (qak l:Int)=ck at *;go_enter Tryz.func9,Tryz.ntmps9;go_wp2_with fail;refine cU.out.mono ?_;rintro e w1 ⟨rfl,hb⟩;have HB:=hid (cP.out.trans (hb.mono cP.out.size));have cZ:=hid (aS.out.later (hb.mono aS.out.1));clear hb cU aS cP;obtain⟨⟨r0,f0⟩,⟨r1,f1⟩⟩:=qas cZ.out;have fT:=hid (qbk HB.out (zap w.heap.size) (.string ⟨#[]⟩) (.string ⟨#[]⟩));go_wp2_with fail;refine bodyPost_ret (v := .tuple #[.agg #[.string ⟨#[]⟩,.string ⟨#[]⟩],.int .i64 ck]) ?_ rfl ?_
 ·simp[results,Tryz.results9,go_sem,r0,r1]
 ·exact⟨rfl,fT.out⟩
theorem qzk(vl vw:Value)(l:List (BA × BA))(ws:List Int)(w:World)(hg:GW w)(hv:qbq w vl l)(hw:qn4 w vw ws)(hs:∀s ∈ l,s.1.size≤1073741824∧s.2.size≤1073741824)(h0:qak l=0)(hne:ws.length≠l.length):
  Calls Tryz.prog 9 #[vl,vw] w fun e w'=>e = .returned (.tuple #[.agg #[.string ⟨#[]⟩,.string ⟨#[]⟩],.int .i64 2])∧Below w.heap.size w w':=by
 have bV:Below w.heap.size w (w.alloc (.cells #[.string ⟨#[]⟩,.string ⟨#[]⟩] 28)):=zam _ _;have aS:Hid (Own (w.alloc (.cells #[.string ⟨#[]⟩,.string ⟨#[]⟩] 28)) w.heap.size 2 (qko (.string ⟨#[]⟩) (.string ⟨#[]⟩))):=hid (qbg w 28 _ _)
 have cU:=hid ((qbw vl l _ (hg.later bV) (hv.later bV) hs).mono (R':=fun e w'=>(∃g,e = .returned (.tuple #[.slice (some ⟨g,0,none⟩) l.length l.length,.int .i64 0]))∧Below (w.alloc (.cells #[.string ⟨#[]⟩,.string ⟨#[]⟩] 28)).heap.size (w.alloc (.cells #[.string ⟨#[]⟩,.string ⟨#[]⟩] 28)) w') (fun e w' h=>by
  unfold qcs at h;rw[if_pos h0] at h;obtain⟨⟨g,_,he,_⟩,hb⟩:=h
  exact⟨⟨g,he⟩,hb⟩))
 have cP:=hid bV;have bB:((ws.length:Int)==(l.length:Int))=false:=zat (by omega);have aT:((ws.length:Int) != (l.length:Int))=true:=by simpa using(show(ws.length:Int)≠(l.length:Int) by omega)
 obtain⟨p,c,rfl,bP,bK,aA⟩:=hv;obtain⟨pw,cw,rfl,qV,zW,hwcells⟩:=hw;clear aA hwcells hg hs h0 bV hne;generalize l.length=n at *;generalize ws.length=m at *;go_enter Tryz.func9,Tryz.ntmps9;go_wp2_with fail;refine cU.out.mono ?_;rintro e w1 ⟨⟨g,rfl⟩,hb⟩;have HB:=hid (cP.out.trans (hb.mono cP.out.size));have cZ:=hid (aS.out.later (hb.mono aS.out.1));clear hb cU aS cP;obtain⟨⟨r0,f0⟩,⟨r1,f1⟩⟩:=qas cZ.out;have fT:=hid (qbk HB.out (zap w.heap.size) (.string ⟨#[]⟩) (.string ⟨#[]⟩));go_wp2_with fail;refine bodyPost_ret (v := .tuple #[.agg #[.string ⟨#[]⟩,.string ⟨#[]⟩],.int .i64 2]) ?_ rfl ?_
 ·simp[results,Tryz.results9,go_sem,r0,r1]
 ·exact⟨rfl,fT.out⟩
theorem que(vl vw:Value)(l:List (BA × BA))(ws:List Int)(w:World)(hg:GW w)(hv:qbq w vl l)(hw:qn4 w vw ws)(hs:∀s ∈ l,s.1.size≤1073741824∧s.2.size≤1073741824)(h0:qak l=0)(hne:ws.length=l.length)(zZ:qii ws≠0):
  Calls Tryz.prog 9 #[vl,vw] w fun e w'=>e = .returned (.tuple #[.agg #[.string ⟨#[]⟩,.string ⟨#[]⟩],.int .i64 (qii ws:Nat)])∧Below w.heap.size w w':=by
 obtain⟨mC,mL,-⟩:=qct h0;have bV:Below w.heap.size w (w.alloc (.cells #[.string ⟨#[]⟩,.string ⟨#[]⟩] 28)):=zam _ _;have aS:Hid (Own (w.alloc (.cells #[.string ⟨#[]⟩,.string ⟨#[]⟩] 28)) w.heap.size 2 (qko (.string ⟨#[]⟩) (.string ⟨#[]⟩))):=hid (qbg w 28 _ _)
 have cU:=hid ((qbw vl l _ (hg.later bV) (hv.later bV) hs).mono (R':=fun e w'=>(∃g,e = .returned (.tuple #[.slice (some ⟨g,0,none⟩) l.length l.length,.int .i64 0]))∧Below (w.alloc (.cells #[.string ⟨#[]⟩,.string ⟨#[]⟩] 28)).heap.size (w.alloc (.cells #[.string ⟨#[]⟩,.string ⟨#[]⟩] 28)) w') (fun e w' h=>by
  unfold qcs at h;rw[if_pos h0] at h;obtain⟨⟨g,_,he,_⟩,hb⟩:=h
  exact⟨⟨g,he⟩,hb⟩))
 have cP:=hid bV
 have pX:Hid (∀W,Below w.heap.size w W→Calls Tryz.prog 34 #[vw] W fun e w'=>e = .returned (.tuple #[.int .i64 0,.int .i64 (qii ws:Nat)])∧W=w'):=hid fun W hW=>(qd4 vw ws W (hw.later hW) (by omega)).mono fun e w' ⟨h1,h2⟩=>by
  unfold qn6 at h1;rw[if_neg zZ] at h1;exact⟨h1,h2⟩
 have bB:((qii ws:Int)==0)=false:=zat (by omega);have aT:((qii ws:Int) != 0)=true:=by simpa using zZ
 obtain⟨p,c,rfl,bP,bK,aA⟩:=hv;obtain⟨pw,cw,rfl,qV,zW,hwcells⟩:=hw;clear aA hwcells hg hs h0 bV zZ;generalize (qii ws:Int)=ck at *;generalize l.length=n at *;rw[hne] at qV pX ⊢;clear hne;go_enter Tryz.func9,Tryz.ntmps9;go_wp2_with fail;refine cU.out.mono ?_;rintro e w1 ⟨⟨g,rfl⟩,hb⟩;have HB:=hid (cP.out.trans (hb.mono cP.out.size));have cZ:=hid (aS.out.later (hb.mono aS.out.1));clear hb cU aS cP;go_wp2_with fail;refine(pX.out _ HB.out).mono ?_;rintro e w2 ⟨rfl,rfl⟩;clear pX;obtain⟨⟨r0,f0⟩,⟨r1,f1⟩⟩:=qas cZ.out;have fT:=hid (qbk HB.out (zap w.heap.size) (.string ⟨#[]⟩) (.string ⟨#[]⟩));go_wp2_with fail;refine bodyPost_ret (v := .tuple #[.agg #[.string ⟨#[]⟩,.string ⟨#[]⟩],.int .i64 ck]) ?_ rfl ?_
 ·simp[results,Tryz.results9,go_sem,r0,r1]
 ·exact⟨rfl,fT.out⟩
end Go.Proofs.YtclimablgihlhaaGreatDoor
namespace Go.Proofs.YtclimablgihlhaaGreatDoor
open Go.RowKit
set_option maxRecDepth 100000
set_option maxHeartbeats 16000000
theorem qqt(p pw:Option Addr)(n m c cw:Nat)(b:Bool)(w:World)(hm:m≤9223372036854775807)(h:b=false∨(b=true∧270<m))(hB:Bxs w [] w)
  (tT:Hid (∀L:List (Nat × BA × BA),qcg (Bxs w L) 4 #[] (.bool true))) (qF:Hid (∀L:List (Nat × BA × BA),qcg (Bxs w L) 5 #[.slice p n c] (.bool b))):Calls Tryz.prog 3 #[.slice p n c,.slice pw m cw] w fun e w'=>e = .returned (.bool true)∧Below w.heap.size w w':=by
 have HB:=hid hB;clear hB;rcases h with rfl|⟨rfl,h⟩
 all_goals
  go_enter Tryz.func3,Tryz.ntmps3;go_wp2_with fail;refine kgo (tT.out _) HB fun wN HB => ?_;go_wp2_with fail;refine kgo (qF.out _) HB fun wN HB => ?_;clear qF;go_wp2_with fail;refine kgo (tT.out _) HB fun wN HB => ?_;clear tT;go_wp2_with fail;go_ret;exact⟨rfl,HB.out.1⟩
theorem q3j(p pw:Option Addr)(n m c cw:Nat)(ck:Int)(w:World)(hm:m≤270)(h0:ck≠0)(hB:Bxs w [] w)
  (tT:Hid (∀L:List (Nat × BA × BA),qcg (Bxs w L) 4 #[] (.bool true))) (qF:Hid (∀L:List (Nat × BA × BA),qcg (Bxs w L) 5 #[.slice p n c] (.bool true)))
  (Fp:Hid (∀L:List (Nat × BA × BA),qcg (Bxs w L) 6 #[.slice p n c] (.tuple #[.agg #[.string ⟨#[]⟩,.string ⟨#[]⟩],.int .i64 ck]))) (Cu:Hid (∀L:List (Nat × BA × BA),qcg (Bxs w L) 7 #[.slice p n c] (.tuple #[.agg #[.string ⟨#[]⟩,.string ⟨#[]⟩],.int .i64 ck])))
  (fX:Hid (∀L:List (Nat × BA × BA),qcg (Bxs w L) 8 #[.slice p n c] (.tuple #[.int .i64 0,.int .i64 0,.int .i64 ck]))) (qW:Hid (∀L:List (Nat × BA × BA),qcg (Bxs w L) 9 #[.slice p n c,.slice pw m cw] (.tuple #[.agg #[.string ⟨#[]⟩,.string ⟨#[]⟩],.int .i64 ck])))
  (Cv:Hid (∀L:List (Nat × BA × BA),qcg (Bxs w L) 10 #[.slice p n c] (.int .i64 ck))) (fU:Hid (∀L:List (Nat × BA × BA),qcg (Bxs w L) 11 #[.agg #[.string ⟨#[]⟩,.string ⟨#[]⟩],.int .i64 ck,.int .i64 ck,.agg #[.string ⟨#[]⟩,.string ⟨#[]⟩]] (.bool true))):Calls Tryz.prog 3 #[.slice p n c,.slice pw m cw] w fun e w'=>e = .returned (.bool true)∧Below w.heap.size w w':=by
 have HB:=hid hB;have hne:(ck != 0)=true:=by simpa using h0
 clear hB h0;go_enter Tryz.func3,Tryz.ntmps3;go_wp2_with fail;refine kgo (tT.out _) HB fun wN HB => ?_;clear tT;go_wp2_with fail;refine kgo (qF.out _) HB fun wN HB => ?_;clear qF;go_wp2_with fail;refine kgo (Fp.out _) HB fun wH aR => ?_;clear Fp HB;have HB:=hid (qgk aR.out 28 ⟨#[]⟩ ⟨#[]⟩);clear aR;go_wp2_with fail;refine kgo (Cu.out _) HB fun wM aR => ?_;clear Cu HB;have HB:=hid (qgk aR.out 28 ⟨#[]⟩ ⟨#[]⟩);clear aR;go_wp2_with fail;refine kgo (fX.out _) HB fun wN HB => ?_;clear fX;go_wp2_with fail;refine kgo (qW.out _) HB fun wA aR => ?_;clear qW HB;have HB:=hid (qgk aR.out 28 ⟨#[]⟩ ⟨#[]⟩);clear aR;go_wp2_with fail;refine kgo (Cv.out _) HB fun wN HB => ?_;clear Cv;obtain⟨c0,c1,c2,c3,c4,c5,-⟩:=qgl HB.out;go_wp2_with fail;refine kgo (fU.out _) HB fun wN HB => ?_;clear c0 c1 c2 c3 c4 c5;obtain⟨c0,c1,c2,c3,c4,c5,-⟩:=qgl HB.out;go_wp2_with fail;refine kgo (fU.out _) HB fun wN HB => ?_;clear c0 c1 c2 c3 c4 c5;obtain⟨c0,c1,c2,c3,c4,c5,-⟩:=qgl HB.out;go_wp2_with fail;refine kgo (fU.out _) HB fun wN HB => ?_;clear c0 c1 c2 c3 c4 c5;go_wp2_with fail;go_ret;exact⟨rfl,HB.out.1⟩
theorem qmq(p pw:Option Addr)(n m c cw:Nat)(h1 h2 m1 m2 a1 a2 b1 b2 n1 n2:BA)(me wh ci ck ce x y sh we bd ea:Int)(ok fo bne:Bool)(w:World)(hm:m≤270)(hB:Bxs w [] w)
  (Hx:(fo=true∧ce=0∧ci=x∧ck=y)∨(fo=false∧ce=7∧ci=0∧ck=0)) (hbne:((m:Int) != (n:Int))=bne)
  (tT:Hid (∀L:List (Nat × BA × BA),qcg (Bxs w L) 4 #[] (.bool true))) (qF:Hid (∀L:List (Nat × BA × BA),qcg (Bxs w L) 5 #[.slice p n c] (.bool true)))
  (Fp:Hid (∀L:List (Nat × BA × BA),qcg (Bxs w L) 6 #[.slice p n c] (.tuple #[.agg #[.string h1,.string h2],.int .i64 0]))) (Cu:Hid (∀L:List (Nat × BA × BA),qcg (Bxs w L) 7 #[.slice p n c] (.tuple #[.agg #[.string m1,.string m2],.int .i64 me])))
  (fX:Hid (∀L:List (Nat × BA × BA),qcg (Bxs w L) 8 #[.slice p n c] (.tuple #[.int .i64 ci,.int .i64 ck,.int .i64 ce]))) (qW:Hid (∀L:List (Nat × BA × BA),qcg (Bxs w L) 9 #[.slice p n c,.slice pw m cw] (.tuple #[.agg #[.string a1,.string a2],.int .i64 ea])))
  (Cv:Hid (∀L:List (Nat × BA × BA),qcg (Bxs w L) 10 #[.slice p n c] (.int .i64 0))) (zM:Hid (∀L:List (Nat × BA × BA),qcg (Bxs w L) 12 #[.slice p n c] (.tuple #[.agg #[.string b1,.string b2],.bool ok]))) (Ot:Hid (∀L:List (Nat × BA × BA),qcg (Bxs w L) 13 #[.slice p n c] (.agg #[.string h1,.string h2])))
  (eH:Hid (∀L:List (Nat × BA × BA),qcg (Bxs w L) 11 #[.agg #[.string h1,.string h2],.int .i64 0,.int .i64 0,.agg #[.string h1,.string h2]] (.bool true))) (sF:Hid (∀L:List (Nat × BA × BA),qcg (Bxs w L) 14 #[.bool (!ok),.int .i64 15] (.int .i64 wh)))
  (dE:Hid (∀L:List (Nat × BA × BA),qcg (Bxs w L) 11 #[.agg #[.string m1,.string m2],.int .i64 me,.int .i64 wh,.agg #[.string b1,.string b2]] (.bool true)))
  (xW:Hid (∀L:List (Nat × BA × BA),qcg (Bxs w L) 15 #[.slice p n c] (.tuple #[.int .i64 x,.int .i64 y,.bool fo]))) (zK:Hid (∀L:List (Nat × BA × BA),qcg (Bxs w L) 14 #[.bool bne,.int .i64 2] (.int .i64 sh))) (Na:Hid (∀L:List (Nat × BA × BA),qcg (Bxs w L) 17 #[.slice pw m cw] (.int .i64 we)))
  (HFI:Hid (∀(L:List (Nat × BA × BA)) (W:World),Bxs w L W→Calls Tryz.prog 16 #[.slice (some ⟨W.heap.size,0,none⟩) 2 2] (W.alloc (.cells #[.int .i64 sh,.int .i64 we] 3)) fun e w'=>e = .returned (.int .i64 bd)∧Hid (Bxs w L w')))
  (HEN:(bd≠0∧Hid (∀L:List (Nat × BA × BA),qcg (Bxs w L) 11 #[.agg #[.string a1,.string a2],.int .i64 ea,.int .i64 bd,.agg #[.string ⟨#[]⟩,.string ⟨#[]⟩]] (.bool true)))∨(bd=0∧Hid (∀L:List (Nat × BA × BA),qcg (Bxs w L) 18 #[.slice p n c,.slice pw m cw] (.agg #[.string n1,.string n2]))∧Hid (∀L:List (Nat × BA × BA),qcg (Bxs w L) 11 #[.agg #[.string a1,.string a2],.int .i64 ea,.int .i64 0,.agg #[.string n1,.string n2]] (.bool true)))):Calls Tryz.prog 3 #[.slice p n c,.slice pw m cw] w fun e w'=>e = .returned (.bool true)∧Below w.heap.size w w':=by
 have HB:=hid hB;have Ab:=hid Hx;have Tb:=hid HEN;clear hB Hx HEN;go_enter Tryz.func3,Tryz.ntmps3;go_wp2_with fail;refine kgo (tT.out _) HB fun wN HB => ?_;clear tT;go_wp2_with fail;refine kgo (qF.out _) HB fun wN HB => ?_;clear qF;go_wp2_with fail;refine kgo (Fp.out _) HB fun wH aR => ?_;clear Fp HB;have HB:=hid (qgk aR.out 28 h1 h2);clear aR;go_wp2_with fail;refine kgo (Cu.out _) HB fun wM aR => ?_;clear Cu HB;have HB:=hid (qgk aR.out 28 m1 m2);clear aR;go_wp2_with fail;refine kgo (fX.out _) HB fun wN HB => ?_;clear fX;go_wp2_with fail;refine kgo (qW.out _) HB fun wA aR => ?_;clear qW HB;have HB:=hid (qgk aR.out 28 a1 a2);clear aR;go_wp2_with fail;refine kgo (Cv.out _) HB fun wN HB => ?_;clear Cv;go_wp2_with fail;refine kgo (zM.out _) HB fun wB aR => ?_;clear zM HB;have HB:=hid (qgk aR.out 28 b1 b2);clear aR;have eO:Hid (Bxs w [(wB.heap.size,b1,b2),(wA.heap.size,a1,a2),(wM.heap.size,m1,m2),(wH.heap.size,h1,h2)] (wB.alloc (.cells #[.string b1,.string b2] 28)).drew):=hid (HB.out.later (zan _ _).drew)
 have HC8:Hid (∀W,Bxs w [(wB.heap.size,b1,b2),(wA.heap.size,a1,a2),(wM.heap.size,m1,m2),(wH.heap.size,h1,h2)] W→W.cell? ⟨wB.heap.size,0,none⟩=some (.string b1)∧W.cell? ⟨wB.heap.size,1,none⟩=some (.string b2)∧W.cell? ⟨wM.heap.size,0,none⟩=some (.string m1)∧W.cell? ⟨wM.heap.size,1,none⟩=some (.string m2)∧W.cell? ⟨wH.heap.size,0,none⟩=some (.string h1)∧W.cell? ⟨wH.heap.size,1,none⟩=some (.string h2)):=hid fun W hW=>by
  obtain⟨c0,c1,-,-,c4,c5,c6,c7,-⟩:=qgl hW;exact⟨c0,c1,c4,c5,c6,c7⟩
 have eZ:=HC8.out _ eO.out;have QRH:=qf8 (I:=Bxs w [(wB.heap.size,b1,b2),(wA.heap.size,a1,a2),(wM.heap.size,m1,m2),(wH.heap.size,h1,h2)]) (Ot.out _);have QS1:=qf8 (I:=Bxs w [(wB.heap.size,b1,b2),(wA.heap.size,a1,a2),(wM.heap.size,m1,m2),(wH.heap.size,h1,h2)]) (eH.out _);have QS2:=qf8 (I:=Bxs w [(wB.heap.size,b1,b2),(wA.heap.size,a1,a2),(wM.heap.size,m1,m2),(wH.heap.size,h1,h2)]) (dE.out _);have QW1:=qf8 (I:=Bxs w [(wB.heap.size,b1,b2),(wA.heap.size,a1,a2),(wM.heap.size,m1,m2),(wH.heap.size,h1,h2)]) (sF.out _);go_wp2_with fail
 go_region_held3 (fun W=>W.cell? ⟨wB.heap.size,0,none⟩=some (.string b1)∧W.cell? ⟨wB.heap.size,1,none⟩=some (.string b2)∧W.cell? ⟨wM.heap.size,0,none⟩=some (.string m1)∧W.cell? ⟨wM.heap.size,1,none⟩=some (.string m2)∧W.cell? ⟨wH.heap.size,0,none⟩=some (.string h1)∧W.cell? ⟨wH.heap.size,1,none⟩=some (.string h2)) (exact HC8.out _ eO.out)
  (first
   | (go_at_call 13;(with_reducible refine(QRH.out _ eO.out).mono ?_);rintro e wD ⟨rfl,hb⟩;have eO:=hid hb;clear hb)
   | (go_at_call 14;(with_reducible refine(QW1.out _ eO.out).mono ?_);rintro e wD ⟨rfl,hb⟩;have eO:=hid hb;clear hb)
   | (go_at_call 11;first
    | ((with_reducible refine(QS1.out _ eO.out).mono ?_);rintro e wD ⟨rfl,hb⟩;have eO:=hid hb;clear hb)
    | ((with_reducible refine(QS2.out _ eO.out).mono ?_);rintro e wD ⟨rfl,hb⟩;have eO:=hid hb;clear hb)))
 clear QRH QS1 QS2 QW1 Ot eH dE sF HC8 HB;have HB:=hid (show Bxs w [(wA.heap.size,a1,a2)] wD from⟨eO.out.1,fun r hr=>eO.out.2 r (by rw[List.mem_singleton.1 hr];simp)⟩);clear eO;go_wp2_with fail;refine kgo (xW.out _) HB fun wC HB => ?_;clear xW;rcases Ab.out with⟨rfl,rfl,rfl,rfl⟩|⟨rfl,rfl,rfl,rfl⟩
 all_goals
  clear Ab;go_wp2_with fail;refine kgo (zK.out _) HB fun wE HB => ?_;clear zK;go_wp2_with fail;refine kgo (Na.out _) HB fun wG HB => ?_;clear Na;go_wp2_with fail;refine(HFI.out _ _ HB.out).mono ?_;clear HFI HB;rintro e wI ⟨rfl,HB⟩;rcases Tb.out with⟨dL,h3⟩|⟨rfl,h3,h4⟩
  ·have bB:(bd != 0)=true:=by simpa using dL
   clear dL Tb;obtain⟨c0,c1,-⟩:=qgl HB.out;go_wp2_with fail;refine kgo (h3.out _) HB fun wJ HB => ?_;clear c0 c1;go_wp2_with fail;go_ret;exact⟨rfl,HB.out.1⟩
  ·clear Tb
   have eO:Hid (Bxs w [(wA.heap.size,a1,a2)] wI.drew):=hid (HB.out.later (zan _ _).drew)
   have eU:Hid (∀W,Bxs w [(wA.heap.size,a1,a2)] W→W.cell? ⟨wA.heap.size,0,none⟩=some (.string a1)∧W.cell? ⟨wA.heap.size,1,none⟩=some (.string a2)):=hid fun W hW=>by
    obtain⟨c0,c1,-⟩:=qgl hW;exact⟨c0,c1⟩
   have eZ2:=eU.out _ eO.out;have Q3:=qf8 (I:=Bxs w [(wA.heap.size,a1,a2)]) (h3.out _);have Q4:=qf8 (I:=Bxs w [(wA.heap.size,a1,a2)]) (h4.out _);clear h3 h4 HB;go_wp2_with fail
   go_region_held3 (fun W=>W.cell? ⟨wA.heap.size,0,none⟩=some (.string a1)∧W.cell? ⟨wA.heap.size,1,none⟩=some (.string a2)) (exact eU.out _ eO.out)
    (first
     | (go_at_call 18;(with_reducible refine(Q3.out _ eO.out).mono ?_);rintro e wK ⟨rfl,hb⟩;have eO:=hid hb;clear hb)
     | (go_at_call 11;(with_reducible refine(Q4.out _ eO.out).mono ?_);rintro e wK ⟨rfl,hb⟩;have eO:=hid hb;clear hb))
   all_goals
    go_wp2_with fail;go_ret;exact⟨rfl,eO.out.1⟩
theorem qr4{I:World→Prop}(J:Inv I){f:FuncId}{args:Array Value}{v:Value}(h:∀W,I W→Calls Tryz.prog f args W fun e w'=>e = .returned v∧W=w'):qcg I f args v:=
 fun W hW=>(h W hW).mono fun _ _ ⟨h1,h2⟩=>⟨h1,by rw[←h2];exact hW⟩
theorem q56{l:List (BA × BA)}(h:∀s ∈ l,s=rtP (spQ s)):(l.map spQ).map rtP=l:=by
 rw[List.map_map];exact(List.map_congr_left (fun s hs=>(h s hs).symm)).trans (List.map_id l)
theorem q8l(n:Nat):qac [0,n]=n:=by
 unfold qac qac qac;by_cases h:n=0
 ·subst h;rfl
 ·rw[if_pos rfl,if_neg h]
theorem q3k(v:Value)(l:List (BA × BA))(vw:Value)(ws:List Int)(w:World)(hg:GW w)(hv:qbq w v l)(hw:qn4 w vw ws):
  Calls Tryz.prog 3 #[v,vw] w fun e w'=>e = .returned (.bool true)∧Below w.heap.size w w':=by
 have J:=q27 (w:=w) hg;have hB:Bxs w [] w:=⟨zan _ _,fun r hr=>by cases hr⟩;have tT:=hid fun L=>qvx (J L);have qF:=hid fun L=>qr4 (J L) fun W hW=>q90 v l W (hv.later hW.1);have pW:=hv;have qE:=hw;obtain⟨p,c,rfl,bP,bK,-⟩:=pW;obtain⟨pw,cw,rfl,qV,zW,-⟩:=qE;unfold maxLen at zW;by_cases hsB:qi8 l=true
 ·rw[hsB] at qF
  by_cases hm:ws.length≤270
  ·obtain⟨hl,dM⟩:=qv5 hsB
   have jF:∀s ∈ l,s.1.size≤2000∧s.2.size≤2000:=fun s hs=>by have:=dM s hs;omega
   have lH:∀s ∈ l,s.1.size≤1073741824∧s.2.size≤1073741824:=fun s hs=>by have:=dM s hs;omega
   have Cv:=hid fun L=>qbr (J L) fun W hW pK=>qv4 _ l W pK (hv.later hW.1) jF;by_cases h0:qak l=0
   ·rw[h0] at Cv
    obtain⟨mC,mL,hz⟩:=qct h0;have hl10:l.length≤10:=by omega
    have hex:∀s ∈ l,s=rtP (spQ s)∧sm (spQ s).1 20∧sm (spQ s).2 20:=fun s hs=>by
     obtain⟨r1,r2⟩:=qzj (hz s hs);have e1:=(qe5 r1).1;have e2:=(qe5 r2).1;have z:=dM s hs;refine⟨Prod.ext e1 e2,qf7 (n:=20) (by rw[←show s.1=rt (spQ s).1 from e1];exact z.1) (by decide),qf7 (n:=20) (by rw[←show s.2=rt (spQ s).2 from e2];exact z.2) (by decide)⟩
    have jQ:(l.map spQ).map rtP=l:=q56 fun s hs=>(hex s hs).1;obtain⟨qs,oO⟩:∃qs,qs=l.map spQ:=⟨_,rfl⟩
    have Ou:qs≠[]:=by
     intro e;have:=congrArg List.length e;rw[oO,List.length_map] at this;simp at this;rw[this] at mC;exact absurd mC (by decide)
    have jB:qs.length=l.length:=by rw[oO,List.length_map]
    have jL:∀q ∈ qs,sm q.1 20∧sm q.2 20:=fun q hq=>by
     rw[oO] at hq;obtain⟨s,hs,rfl⟩:=List.mem_map.1 hq;exact(hex s hs).2
    have dF:∀q ∈ qs,q.1≤q.2:=fun q hq=>by
     obtain⟨i,hi⟩:=List.getElem?_of_mem hq;rw[oO] at hi;exact(qqm h0 i q hi).2.2
    rw[←oO] at jQ;have hvq:∀W,Bxs w [] W→qbq W (.slice p l.length c) (qs.map rtP):=fun W hW=>by rw[jQ];exact hv.later hW.1
    have hvL:∀L W,Bxs w L W→qbq W (.slice p l.length c) (qs.map rtP):=fun L W hW=>by rw[jQ];exact hv.later hW.1
    obtain⟨hh1,⟨sa,ha,ea⟩,sb,hb,eb⟩:=q3d Ou;obtain⟨mm1,⟨sc,hc,ec⟩,sd,hd,ed⟩:=q3e Ou;have t1:sm (qfm qs).1 20:=by rw[ea];exact(jL sa ha).1
    have t2:sm (qfm qs).2 20:=by rw[eb];exact(jL sb hb).2
    have t3:sm (qbu qs).1 20:=by rw[ec];exact(jL sc hc).1
    have t4:sm (qbu qs).2 20:=by rw[ed];exact(jL sd hd).2
    have Fp:Hid (∀L:List (Nat × BA × BA),qcg (Bxs w L) 6 #[.slice p l.length c] (.tuple #[.agg #[.string (rt (qfm qs).1),.string (rt (qfm qs).2)],.int .i64 0])):=hid fun L=>qbr (J L) fun W hW pK=>(q8k _ l W pK (hv.later hW.1) lH h0).mono fun _ _ h=>by
     rw[←oO] at h;obtain⟨h1,h2⟩:=qpi h;obtain⟨e1,e2,e3⟩:=qju t1 t2 (by decide);rw[e1,e2,e3] at h1;exact⟨h1,h2⟩
    have Ot:=hid fun L=>qbr (J L) fun W hW _=>q5z _ qs 20 W (hvL L W hW) Ou (by omega) jL (by decide);have zM:=hid fun L=>qbr (J L) fun W hW _=>qxe _ qs 20 W (hvL L W hW) Ou (by omega) jL (by decide)
    have eH:Hid (∀L:List (Nat × BA × BA),qcg (Bxs w L) 11 #[.agg #[.string (rt (qfm qs).1),.string (rt (qfm qs).2)],.int .i64 0,.int .i64 0,.agg #[.string (rt (qfm qs).1),.string (rt (qfm qs).2)]] (.bool true)):=hid fun L=>by
     have h:=qmp hg (qfm qs).1 (qfm qs).2 20 t1 t2 (by decide) L;obtain⟨e1,e2,e3⟩:=qju t1 t2 (by decide);rw[e1,e2,e3] at h;exact h
    have HW:=fun(b:Bool) (z:Int)=>hid fun L=>qr4 (J L) fun W _=>q5y b z W;have Na:=hid fun L=>qr4 (J L) fun W hW=>qnf _ ws W (hw.later hW.1) (by omega)
    obtain⟨m1,m2,me,wh,Cu,Ly,dE⟩:∃(m1 m2:BA) (me wh:Int),(Hid (∀L:List (Nat × BA × BA),qcg (Bxs w L) 7 #[.slice p l.length c] (.tuple #[.agg #[.string m1,.string m2],.int .i64 me])))∧(if(!decide ((qbu qs).1≤(qbu qs).2))=true then(15:Int) else 0)=wh∧(Hid (∀L:List (Nat × BA × BA),qcg (Bxs w L) 11 #[.agg #[.string m1,.string m2],.int .i64 me,.int .i64 wh,.agg #[.string (rt (qbu qs).1),.string (rt (qbu qs).2)]] (.bool true))):=by
     by_cases Ex:(qbu qs).1≤(qbu qs).2
     ·refine⟨rt (qbu qs).1,rt (qbu qs).2,0,0,hid fun L=>qbr (J L) fun W hW pK=>(q3f _ l W pK (hv.later hW.1) lH h0).mono fun _ _ h => ?_,by rw[zas Ex];rfl,hid fun L => ?_⟩
      ·rw[←oO] at h
       unfold qud at h;rw[if_pos Ex] at h;obtain⟨h1,h2⟩:=qpi h;obtain⟨e1,e2,e3⟩:=qju t3 t4 (by decide);rw[e1,e2,e3] at h1;exact⟨h1,h2⟩
      ·have h:=qmp hg (qbu qs).1 (qbu qs).2 20 t3 t4 (by decide) L
       obtain⟨e1,e2,e3⟩:=qju t3 t4 (by decide);rw[e1,e2,e3] at h;exact h
     ·refine⟨⟨#[]⟩,⟨#[]⟩,15,15,hid fun L=>qbr (J L) fun W hW pK=>(q3f _ l W pK (hv.later hW.1) lH h0).mono fun _ _ h => ?_,by rw[zar Ex];rfl,hid fun L=>qbr (J L) fun W _ _=>qnw 15 _ _ W (by decide)⟩
      rw[←oO] at h;unfold qud at h;rw[if_neg Ex] at h;exact h
    have QCL:=fun L=>fun W (hW:Bxs w L W)=>qo8 _ l W (hg.later hW.1) (hv.later hW.1) lH;have QRC:=fun L=>fun W (hW:Bxs w L W)=>q3h _ qs 20 W (hvL L W hW) Ou (by omega) jL dF (by decide)
    obtain⟨ci,ck,ce,x,y,fo,fX,xW,Hx⟩:∃(ci ck ce x y:Int) (fo:Bool),(Hid (∀L:List (Nat × BA × BA),qcg (Bxs w L) 8 #[.slice p l.length c] (.tuple #[.int .i64 ci,.int .i64 ck,.int .i64 ce])))∧(Hid (∀L:List (Nat × BA × BA),qcg (Bxs w L) 15 #[.slice p l.length c] (.tuple #[.int .i64 x,.int .i64 y,.bool fo])))∧((fo=true∧ce=0∧ci=x∧ck=y)∨(fo=false∧ce=7∧ci=0∧ck=0)):=by
     by_cases hfc:∃i k,qdr qs i k
     ·obtain⟨i,k,Dr⟩:=hfc
      have hno:¬qkl qs:=fun hn=>by
       have h1:=hn i k Dr.1 Dr.2.1;rw[Dr.2.2.1] at h1;cases h1
      refine⟨i,k,0,i,k,true,hid fun L=>fun W hW=>(QCL L W hW).mono fun _ _ h => ?_,hid fun L=>fun W hW=>(QRC L W hW).mono fun _ _ h => ?_,.inl ⟨rfl,rfl,rfl,rfl⟩⟩
      ·unfold qgj at h
       rw[if_neg (by rw[h0];simp),←oO] at h;obtain⟨h1,h2⟩:=h;rcases h1 with⟨i',k',hf,he⟩|⟨hn,-⟩
       ·obtain⟨rfl,rfl⟩:=qj1 Dr hf
        exact⟨he,hW.later h2⟩
       ·exact absurd hn hno
      ·obtain⟨h1,h2⟩:=h
       rcases h1 with⟨i',k',hf,he⟩|⟨hn,-⟩
       ·obtain⟨rfl,rfl⟩:=qj1 Dr hf
        exact⟨he,hW.later h2⟩
       ·exact absurd hn hno
     ·refine⟨0,0,7,0,0,false,hid fun L=>fun W hW=>(QCL L W hW).mono fun _ _ h => ?_,hid fun L=>fun W hW=>(QRC L W hW).mono fun _ _ h => ?_,.inr ⟨rfl,rfl,rfl,rfl⟩⟩
      ·unfold qgj at h
       rw[if_neg (by rw[h0];simp),←oO] at h;obtain⟨h1,h2⟩:=h;rcases h1 with⟨i',k',hf,-⟩|⟨-,he⟩
       ·exact absurd ⟨i',k',hf⟩ hfc
       ·exact⟨he,hW.later h2⟩
      ·obtain⟨h1,h2⟩:=h
       rcases h1 with⟨i',k',hf,-⟩|⟨-,he⟩
       ·exact absurd ⟨i',k',hf⟩ hfc
       ·exact⟨he,hW.later h2⟩
    have sF:=HW (!decide ((qbu qs).1≤(qbu qs).2)) 15;rw[Ly] at sF;by_cases aF:ws.length=l.length
    ·have Fg:((ws.length:Int) != (l.length:Int))=false:=by rw[aF];simp
     have zK:=HW false 2;by_cases zZ:qii ws=0
     ·obtain⟨gW,cN⟩:=qn5 zZ
      have hme:qkm l ws=0:=by unfold qkm;rw[h0,if_neg (by simp),if_neg (by omega)];exact zZ
      have Do:sm ((ws.sum:Int):Rat) 11:=by
       have h:=qfd ws gW;exact⟨by show ws.sum.natAbs<10^11;omega,by show 1<10^11;decide⟩
      have Nb:sm (qg4 qs ws).1 320:=by
       have h:=q6k (qrz (rs:=qs.map Prod.fst) (ws:=ws) (j:=20) (fun r hr=>by obtain⟨q,hq,rfl⟩:=List.mem_map.1 hr;exact(jL q hq).1) gW (by decide) qs.length) Do cN;unfold qry at h;rw[←qr2] at h;exact qg2 h (by have:(20+10)*qs.length≤30*10:=Nat.mul_le_mul (by decide) (by omega);omega)
      have Nc:sm (qg4 qs ws).2 320:=by
       have h:=q6k (qrz (rs:=qs.map Prod.snd) (ws:=ws) (j:=20) (fun r hr=>by obtain⟨q,hq,rfl⟩:=List.mem_map.1 hr;exact(jL q hq).2) gW (by decide) qs.length) Do cN;unfold qry at h;rw[←qr3] at h;exact qg2 h (by have:(20+10)*qs.length≤30*10:=Nat.mul_le_mul (by decide) (by omega);omega)
      have qW:Hid (∀L:List (Nat × BA × BA),qcg (Bxs w L) 9 #[.slice p l.length c,.slice pw ws.length cw] (.tuple #[.agg #[.string (rt (qg4 qs ws).1),.string (rt (qg4 qs ws).2)],.int .i64 0])):=hid fun L=>qbr (J L) fun W hW pK=>(q2h _ _ l ws W pK (hv.later hW.1) (hw.later hW.1) lH hme).mono fun _ _ h=>by
       unfold qtw at h;rw[if_neg (by rw[hme];simp),←oO] at h;obtain⟨h1,h2⟩:=qpi h;obtain⟨e1,e2,e3⟩:=qju Nb Nc (by decide);rw[e1,e2,e3] at h1;exact⟨h1,h2⟩
      have Ew:=hid fun L=>qbr (J L) fun W hW _=>q52 _ _ qs ws 20 W (hvL L W hW) (hw.later hW.1) (by omega) Ou (by omega) jL (by decide) (by decide) gW cN
      have zN:Hid (∀L:List (Nat × BA × BA),qcg (Bxs w L) 11 #[.agg #[.string (rt (qg4 qs ws).1),.string (rt (qg4 qs ws).2)],.int .i64 0,.int .i64 0,.agg #[.string (rt (qg4 qs ws).1),.string (rt (qg4 qs ws).2)]] (.bool true)):=hid fun L=>by
       have h:=qmp hg (qg4 qs ws).1 (qg4 qs ws).2 320 Nb Nc (by decide) L;obtain⟨e1,e2,e3⟩:=qju Nb Nc (by decide);rw[e1,e2,e3] at h;exact h
      rw[zZ] at Na;exact qmq p pw l.length ws.length c cw _ _ m1 m2 _ _ _ _ _ _ me wh ci ck ce x y 0 0 0 0 _ fo false w hm hB Hx Fg tT qF Fp Cu fX qW Cv zM Ot eH sF dE xW zK Na (hid (qi7 hg 0 0 0 rfl 3)) (.inr ⟨rfl,Ew,zN⟩)
     ·have qW:=hid fun L=>qbr (J L) fun W hW pK=>que _ _ l ws W pK (hv.later hW.1) (hw.later hW.1) lH h0 aF zZ
      exact qmq p pw l.length ws.length c cw _ _ m1 m2 _ _ _ _ ⟨#[]⟩ ⟨#[]⟩ me wh ci ck ce x y 0 (qii ws:Nat) (qii ws:Nat) (qii ws:Nat) _ fo false w hm hB Hx Fg tT qF Fp Cu fX qW Cv zM Ot eH sF dE xW zK Na (hid (qi7 hg 0 (qii ws) (qii ws) (q8l _) 3)) (.inl ⟨by omega,hid fun L=>qbr (J L) fun W _ _=>qnw (qii ws:Nat) _ _ W (by omega)⟩)
    ·have Fg:((ws.length:Int) != (l.length:Int))=true:=by simpa using(show(ws.length:Int)≠(l.length:Int) by omega)
     have zK:=HW true 2;have qW:=hid fun L=>qbr (J L) fun W hW pK=>qzk _ _ l ws W pK (hv.later hW.1) (hw.later hW.1) lH h0 aF;exact qmq p pw l.length ws.length c cw _ _ m1 m2 _ _ _ _ ⟨#[]⟩ ⟨#[]⟩ me wh ci ck ce x y 2 (qii ws:Nat) 2 2 _ fo true w hm hB Hx Fg tT qF Fp Cu fX qW Cv zM Ot eH sF dE xW zK Na (hid (qi7 hg 2 (qii ws) 2 rfl 3)) (.inl ⟨by decide,hid fun L=>qbr (J L) fun W _ _=>qnw 2 _ _ W (by decide)⟩)
   ·exact q3j p pw l.length ws.length c cw (qak l:Nat) w hm (by omega) hB tT qF (hid fun L=>qbr (J L) fun W hW pK=>q53 _ l W pK (hv.later hW.1) lH h0) (hid fun L=>qbr (J L) fun W hW pK=>q54 _ l W pK (hv.later hW.1) lH h0)
     (hid fun L=>qbr (J L) fun W hW pK=>(qo8 _ l W pK (hv.later hW.1) lH).mono fun _ _ h=>by unfold qgj at h;rw[if_pos h0] at h;exact h)
     (hid fun L=>qbr (J L) fun W hW pK=>q55 _ _ l W pK (hv.later hW.1) lH h0) Cv (hid fun L=>qbr (J L) fun W _ _=>qnw (qak l:Nat) _ _ W (by omega))
  ·exact qqt p pw l.length ws.length c cw true w (by omega) (.inr ⟨rfl,by omega⟩) hB tT qF
 ·rw[show qi8 l=false by simpa using hsB] at qF
  exact qqt p pw l.length ws.length c cw false w (by omega) (.inl rfl) hB tT qF
end Go.Proofs.YtclimablgihlhaaGreatDoor
