/- The reference's Hull and Meet. -/
import Derived.Test.YtclimablgihlhaaGreatDoorMSpansAid
import Derived.Test.YtclimablgihlhaaGreatDoorMClash
import Derived.Deep.RegionHeld3
import Derived.Test.YtclimablgihlhaaGreatDoorMNv
import Derived.Test.YtclimablgihlhaaGreatDoorMMean
import Derived.Test.YtclimablgihlhaaGreatDoorMHull
import Derived.Deep.DeepCutAuto
set_option linter.all false
namespace Go.Proofs.YtclimablgihlhaaGreatDoor
open Go.RowKit
set_option maxRecDepth 100000
theorem qr1(p q:Rat)(k:Nat)(sp:sm p k)(sq:sm q k)(hk:k≤2000)(W:World):Calls Tryz.prog 43 #[.string (rt p),.string (rt q)] W fun e w'=>e = .returned (.int .i64 (qcq p q))∧Below W.heap.size W w':=by
 rw[←q20];exact q6n p q k W sp sq hk
theorem q6t(p q:Rat)(k:Nat)(w:World)(sp:sm p k)(sq:sm q k)(hk:k≤2000):
  Calls Tryz.prog 42 #[.string (rt p),.string (rt q)] w (qlk (qmu p q) w):=by
 have HC:=hid (fun W=>qr1 p q k sp sq hk W);have dF:=@ql4 p q;unfold qmu qlk;clear sp sq hk;by_cases h:p≤q
 ·rw[if_pos h]
  have hz:qcq p q≤0:=dF.2 h;clear dF h;generalize qcq p q=z at *;generalize rt p=tp at *;generalize rt q=tq at *;go_enter Tryz.func42,Tryz.ntmps42;go_wp2_with fail;refine(HC.out _).mono ?_;rintro e w1 ⟨rfl,hb⟩;have HB:=hid hb;clear hb HC;go_wp2_with fail;go_ret;exact⟨rfl,HB.out⟩
 ·rw[if_neg h]
  have hz:¬qcq p q≤0:=fun e=>h (dF.1 e);clear dF h;generalize qcq p q=z at *;generalize rt p=tp at *;generalize rt q=tq at *;go_enter Tryz.func42,Tryz.ntmps42;go_wp2_with fail;refine(HC.out _).mono ?_;rintro e w1 ⟨rfl,hb⟩;have HB:=hid hb;clear hb HC;go_wp2_with fail;go_ret;exact⟨rfl,HB.out⟩
theorem q6u(p q:Rat)(k:Nat)(w:World)(sp:sm p k)(sq:sm q k)(hk:k≤2000):
  Calls Tryz.prog 41 #[.string (rt p),.string (rt q)] w (qlk (qmv p q) w):=by
 have HC:=hid (fun W=>qr1 p q k sp sq hk W);have dF:=@qut p q;unfold qmv qlk;clear sp sq hk;by_cases h:q≤p
 ·rw[if_pos h]
  have hz:0≤qcq p q:=dF.2 h;clear dF h;generalize qcq p q=z at *;generalize rt p=tp at *;generalize rt q=tq at *;go_enter Tryz.func41,Tryz.ntmps41;go_wp2_with fail;refine(HC.out _).mono ?_;rintro e w1 ⟨rfl,hb⟩;have HB:=hid hb;clear hb HC;go_wp2_with fail;go_ret;exact⟨rfl,HB.out⟩
 ·rw[if_neg h]
  have hz:¬0≤qcq p q:=fun e=>h (dF.1 e);clear dF h;generalize qcq p q=z at *;generalize rt p=tp at *;generalize rt q=tq at *;go_enter Tryz.func41,Tryz.ntmps41;go_wp2_with fail;refine(HC.out _).mono ?_;rintro e w1 ⟨rfl,hb⟩;have HB:=hid hb;clear hb HC;go_wp2_with fail;go_ret;exact⟨rfl,HB.out⟩
theorem q6v{p q:Rat}{k:Nat}(hp:sm p k)(hq:sm q k):sm (qmu p q) k:=by unfold qmu;split<;>assumption
theorem q6w{p q:Rat}{k:Nat}(hp:sm p k)(hq:sm q k):sm (qmv p q) k:=by unfold qmv;split<;>assumption
end Go.Proofs.YtclimablgihlhaaGreatDoor
namespace Go.Proofs.YtclimablgihlhaaGreatDoor
set_option maxRecDepth 100000
open Go.RowKit
open Go.RowKit
end Go.Proofs.YtclimablgihlhaaGreatDoor
namespace Go.Proofs.YtclimablgihlhaaGreatDoor
open Go.RowKit
set_option maxRecDepth 100000
set_option maxHeartbeats 8000000
def rtP(q:Rat × Rat):BA × BA:=(rt q.1,rt q.2)
theorem qv2{f:Rat × Rat→Rat × Rat→Rat × Rat}{j:Nat}(hf:∀p q,sm p.1 j→sm p.2 j→sm q.1 j→sm q.2 j→sm (f p q).1 j∧sm (f p q).2 j):∀(l:List (Rat × Rat)) (p:Rat × Rat),sm p.1 j→sm p.2 j→(∀s ∈ l,sm s.1 j∧sm s.2 j)→sm (l.foldl f p).1 j∧sm (l.foldl f p).2 j
 | [],_,h1,h2,_=>⟨h1,h2⟩
 | s::l,p,h1,h2,hs=>by
  have h3:=hs s (List.mem_cons_self ..);have h4:=hf p s h1 h2 h3.1 h3.2;exact qv2 hf l (f p s) h4.1 h4.2 fun t ht=>hs t (List.mem_cons_of_mem _ ht)
theorem qlt{W:World}{g n:Nat}{f:Nat→Value}(h:Own W g n f){g':Nat}(hne:g'≠g)(i:Nat)(v:Value):Own (W.setCell ⟨g',i,none⟩ v) g n f:=by
 refine⟨by rw[World.size_setCell];exact h.1,fun k hk => ?_⟩;rw[World.frozen?_setCell,World.cell?_setCell_other _ _ _ _ (by intro e;injection e with e;exact hne e)];exact h.2 k hk
theorem qv3{W:World}{g:Nat}{a b:Value}(h:Own W g 2 (qko a b))(x y:Value):Own ((W.setCell ⟨g,0,none⟩ x).setCell ⟨g,1,none⟩ y) g 2 (qko x y):=
 ((h.set 0 (by omega) x).set 1 (by omega) y).congr fun i hi=>by
  match i,hi with
  | 0,_=>rfl
  | 1,_=>rfl
def qzn(w:World)(a b:BA)(W:World):Prop:=
 Below w.heap.size w W∧Own W w.heap.size 2 (qko (.string ⟨#[]⟩) (.string ⟨#[]⟩))∧Own W (w.heap.size+1) 2 (qko (.string a) (.string b))
theorem qzn.later{w W W':World}{a b:BA}(h:qzn w a b W)(hb:Below W.heap.size W W'):qzn w a b W':=
 ⟨h.1.trans (hb.mono h.1.size),h.2.1.later (hb.mono h.2.1.1),h.2.2.later (hb.mono h.2.2.1)⟩
theorem qxd(w:World)(a b:BA)(t1 t2:TypeId):qzn w a b ((w.alloc (.cells #[.string ⟨#[]⟩,.string ⟨#[]⟩] t1)).alloc (.cells #[.string a,.string b] t2)):=by
 have h1:Own (w.alloc (.cells #[.string ⟨#[]⟩,.string ⟨#[]⟩] t1)) w.heap.size 2 (qko (.string ⟨#[]⟩) (.string ⟨#[]⟩)):=qbg w t1 _ _;have hb:Below (w.alloc (.cells #[.string ⟨#[]⟩,.string ⟨#[]⟩] t1)).heap.size (w.alloc (.cells #[.string ⟨#[]⟩,.string ⟨#[]⟩] t1)) ((w.alloc (.cells #[.string ⟨#[]⟩,.string ⟨#[]⟩] t1)).alloc (.cells #[.string a,.string b] t2)):=zam _ _;have h2:=qbg (w.alloc (.cells #[.string ⟨#[]⟩,.string ⟨#[]⟩] t1)) t2 (.string a) (.string b);rw[zao] at h2;exact⟨((zam _ _).trans (hb.mono (by rw[zao];omega))),h1.later (hb.mono h1.1),h2⟩
theorem qqr{w W:World}{a b:BA}(h:qzn w a b W)(x y:BA):qzn w x y ((W.setCell ⟨w.heap.size+1,0,none⟩ (.string x)).setCell ⟨w.heap.size+1,1,none⟩ (.string y)):=
 ⟨qbk h.1 (by omega) _ _,qlt (qlt h.2.1 (by omega) 0 _) (by omega) 1 _,qv3 h.2.2 _ _⟩
theorem qpj(a:Rat):qmu a a=a:=by unfold qmu;split<;>rfl
theorem qpk(a:Rat):qmv a a=a:=by unfold qmv;split<;>rfl
theorem q5z(v:Value)(qs:List (Rat × Rat))(j:Nat)(w:World)(hv:qbq w v (qs.map rtP))(hne:qs≠[])(aF:qs.length≤1000)(jL:∀q ∈ qs,sm q.1 j∧sm q.2 j)(hj:j≤2000):
  Calls Tryz.prog 13 #[v] w fun e w'=>e = .returned (.agg #[.string (rt (qfm qs).1),.string (rt (qfm qs).2)])∧Below w.heap.size w w':=by
 obtain⟨p,c,rfl,bP,bK,aA⟩:=hv;unfold maxLen at bK;rw[List.length_map] at *;have jM:0<qs.length:=List.length_pos_iff.2 hne;obtain⟨b,o,rfl,aB⟩:=aA.resolve_left (by omega);obtain⟨q0,iC⟩:∃q,qs[0]? = some q:=⟨qs[0]'jM,zau _⟩;have oW:Hid (qs.getD 0 (0,0)=q0):=hid (by rw[zaw,iC];rfl);have gF:=jL q0 (zax iC);have bN:=hid aB;have zH:=hid iC;have xN:=hid jL;have HJ:=hid hj;have sY:Hid (∀k q,qs[k]? = some q→(qs.take (k+1)).foldl qbz q0=qbz ((qs.take k).foldl qbz q0) q):=hid fun k q h=>qls qbz q0 k q h;have xY:Hid ((qs.take qs.length).foldl qbz q0=qfm qs):=hid (by unfold qfm;rw[oW.out,List.take_length]);have fF:Hid (∀k,sm ((qs.take k).foldl qbz q0).1 j∧sm ((qs.take k).foldl qbz q0).2 j):=hid fun k=>qv2 (fun p q a b c d=>⟨q6v a c,q6w b d⟩) _ _ gF.1 gF.2 fun s hs=>jL s (List.mem_of_mem_take hs)
 have eF:Hid ((qs.take 1).foldl qbz q0=q0):=hid (by
  have h:=sY.out 0 q0 iC;rw[Nat.zero_add] at h;rw[h];show qbz q0 q0=q0;unfold qbz
  rw[qpj,qpk])
 generalize nV:(fun k=>(qs.take k).foldl qbz q0)=acc at *;have nW:Hid (∀k,(qs.take k).foldl qbz q0=acc k):=hid fun k=>congrFun nV k;simp only[nW.out] at sY xY fF eF;clear nV nW gF aB aA jL hj hne;have Va:=hid (qxd w (rt q0.1) (rt q0.2) 28 28)
 have Mz:w.cell? ⟨b,o,none⟩=some (.string (rt q0.1))∧w.cell? ⟨b,o+1,none⟩=some (.string (rt q0.2)):=by
  have h:=bN.out 0 (rtP q0) (by rw[List.getElem?_map,iC];rfl)
  rwa [Nat.zero_mul,Nat.add_zero] at h
 have cP:=hid ((zan w.heap.size w).alloc (zap _) (.cells #[.string ⟨#[]⟩,.string ⟨#[]⟩] 28));obtain⟨e0,e1⟩:=Mz;rw[←cP.out.cell (zaq w _ e0)] at e0;rw[←cP.out.cell (zaq w _ e1)] at e1;generalize hn:qs.length=n at *;have HN:=hid hn;clear hn iC oW;have cT:(0:Int)<(n:Int):=by omega
 go_enter Tryz.func13,Tryz.ntmps13;go_wp2_with fail;clear e0 e1
 go_loopw [4] (fun i wr=>∃k:Nat,1≤k∧k≤n∧i = .int .i64 k∧Hid (qzn w (rt (acc k).1) (rt (acc k).2) wr)) (fun i _=>n-(intOf i).toNat)
 case atStart=>exact⟨1,zap _,by omega,rfl,hid (by rw[eF.out];exact Va.out)⟩
 case round=>
  obtain⟨k,kA,hk,rfl,HI⟩:=hrel;clear Va;by_cases bI:k<n
  ·obtain⟨q,hq⟩:∃q,qs[k]? = some q:=⟨qs[k]'(by rw[HN.out];exact bI),zau _⟩
   have aV:Hid (∀W,Below w.heap.size w W→W.cell? ⟨b,o+k*2,none⟩=some (.string (rt q.1))∧W.cell? ⟨b,o+k*2+1,none⟩=some (.string (rt q.2))):=hid fun W hW=>by
    obtain⟨f0,f1⟩:=bN.out k (rtP q) (by rw[List.getElem?_map,hq];rfl);rw[hW.cell (zaq w _ f0),hW.cell (zaq w _ f1)];exact⟨f0,f1⟩
   have Hm:=xN.out q (zax hq);have hsa:=fF.out k;have QT1:=fun W=>q6t (acc k).1 q.1 j W hsa.1 Hm.1 HJ.out;have QT2:=fun W=>q6u (acc k).2 q.2 j W hsa.2 Hm.2 HJ.out;have dK:(acc (k+1)).1=qmu (acc k).1 q.1:=by rw[sY.out k q hq];rfl
   have dX:(acc (k+1)).2=qmv (acc k).2 q.2:=by rw[sY.out k q hq];rfl
   rw[←dK] at QT1;rw[←dX] at QT2;unfold qlk at QT1 QT2;have cE:=hid QT1;have dW:=hid QT2;obtain⟨n1,dR⟩:∃t,t=rt (acc (k+1)).1:=⟨_,rfl⟩;obtain⟨n2,jC⟩:∃t,t=rt (acc (k+1)).2:=⟨_,rfl⟩;rw[←dR] at cE;rw[←jC] at dW;have cX:=hid dR;have fM:=hid jC;have Oq:(0:Int)≤(k:Int):=by omega
   have Dp:(k:Int)<(n:Int):=by omega
   clear QT1 QT2 dK dX dR jC Hm hsa hq;generalize rt (acc k).1=a1 at *;generalize rt (acc k).2=a2 at *;generalize rt q.1=t1 at *;generalize rt q.2=t2 at *;have vO:Hid (qzn w a1 a2 wr.drew):=hid (HI.out.later (zan _ _).drew);have e0:=aV.out _ vO.out.1;obtain⟨⟨m0,f0⟩,⟨m1,f1⟩⟩:=qas vO.out.2.2;go_wp2_with fail;refine wp_region_held_drew (S:=(fun W=>W.cell? ⟨b,o+k*2,none⟩=some (.string t1)∧W.cell? ⟨b,o+k*2+1,none⟩=some (.string t2))) (by kernel_rfl) e0 (fun aE => ?_)
   refine' tkw 0 (v:=_) rfl (by kernel_rfl) (by kernel_rfl) aE (fun _ _ _ h=>h) ?q1_y1 ?_
   case q1_y1=>(intro w hSw;(try dsimp only at hSw);go_simp;(try with_reducible rfl))
   try simp only[Act.put,List.setIfInBounds_toArray,List.set_cons_zero,List.set_cons_succ]
   refine' tkw 2 (v:=_) rfl (by kernel_rfl) (by kernel_rfl) aE (fun _ _ _ h=>h) ?q1_y2 ?_
   case q1_y2=>(intro w hSw;(try dsimp only at hSw);go_simp;(try with_reducible rfl))
   try simp only[Act.put,List.setIfInBounds_toArray,List.set_cons_zero,List.set_cons_succ]
   refine' tkw 3 (v:=_) rfl (by kernel_rfl) (by kernel_rfl) aE (fun _ _ _ h=>h) ?q1_y3 ?_
   case q1_y3=>(intro w hSw;(try dsimp only at hSw);go_simp;(try with_reducible rfl))
   try simp only[Act.put,List.setIfInBounds_toArray,List.set_cons_zero,List.set_cons_succ]
   refine' tkw 4 (v:=_) rfl (by kernel_rfl) (by kernel_rfl) aE (fun _ _ _ h=>h) ?q1_y4 ?_
   case q1_y4=>(intro w hSw;(try dsimp only at hSw);go_simp;(try with_reducible rfl))
   try simp only[Act.put,List.setIfInBounds_toArray,List.set_cons_zero,List.set_cons_succ]
   refine' tkw 5 (v:=_) rfl (by kernel_rfl) (by kernel_rfl) aE (fun _ _ _ h=>h) ?q1_y5 ?_
   case q1_y5=>(intro w hSw;(try dsimp only at hSw);go_simp;(try with_reducible rfl))
   try simp only[Act.put,List.setIfInBounds_toArray,List.set_cons_zero,List.set_cons_succ]
   refine' tkw 6 (v:=_) rfl (by kernel_rfl) (by kernel_rfl) aE (fun _ _ _ h=>h) ?q1_y6 ?_
   case q1_y6=>(intro w hSw;(try dsimp only at hSw);go_simp;(try with_reducible rfl))
   try simp only[Act.put,List.setIfInBounds_toArray,List.set_cons_zero,List.set_cons_succ]
   refine' tkw 8 (v:=_) rfl (by kernel_rfl) (by kernel_rfl) aE (fun _ _ _ h=>h) ?q1_y7 ?_
   case q1_y7=>(intro w hSw;(try dsimp only at hSw);go_simp;(try with_reducible rfl))
   try simp only[Act.put,List.setIfInBounds_toArray,List.set_cons_zero,List.set_cons_succ]
   refine' tkw 10 (v:=_) rfl (by kernel_rfl) (by kernel_rfl) aE (fun _ _ _ h=>h) ?q1_y8 ?_
   case q1_y8=>(intro w hSw;(try dsimp only at hSw);go_simp;(try with_reducible rfl))
   try simp only[Act.put,List.setIfInBounds_toArray,List.set_cons_zero,List.set_cons_succ]
   refine' tkw 11 (v:=_) rfl (by kernel_rfl) (by kernel_rfl) aE (fun _ _ _ h=>h) ?q1_y9 ?_
   case q1_y9=>(intro w hSw;(try dsimp only at hSw);go_simp;(try with_reducible rfl))
   try simp only[Act.put,List.setIfInBounds_toArray,List.set_cons_zero,List.set_cons_succ]
   refine' tkw 12 (v:=_) rfl (by kernel_rfl) (by kernel_rfl) aE (fun _ _ _ h=>h) ?q1_y10 ?_
   case q1_y10=>(intro w hSw;(try dsimp only at hSw);go_simp;(try with_reducible rfl))
   try simp only[Act.put,List.setIfInBounds_toArray,List.set_cons_zero,List.set_cons_succ]
   refine' tkw 13 (v:=_) rfl (by kernel_rfl) (by kernel_rfl) aE (fun _ _ _ h=>h) ?q1_y11 ?_
   case q1_y11=>(intro w hSw;(try dsimp only at hSw);go_simp;(try with_reducible rfl))
   try simp only[Act.put,List.setIfInBounds_toArray,List.set_cons_zero,List.set_cons_succ]
   refine' tkw 14 (v:=_) rfl (by kernel_rfl) (by kernel_rfl) aE (fun _ _ _ h=>h) ?q1_y12 ?_
   case q1_y12=>(intro w hSw;(try dsimp only at hSw);go_simp;(try with_reducible rfl))
   try simp only[Act.put,List.setIfInBounds_toArray,List.set_cons_zero,List.set_cons_succ]
   refine wpAnyH_ready (rs:=[1,9]) (by kernel_rfl) (by simp) ?_;refine AllReadyH.cons rfl (fun K hK => ?q1_step13) ?q1_next13
   case q1_step13=>
    go_simp;refine hK.out _ _ ?q1_hS1 (fun qY => ?q1_more1)
    case q1_hS1=>exact aE
    clear hK;refine wpAnyH_ready (rs:=[7,9]) (by kernel_rfl) (by simp) ?_;refine AllReadyH.cons rfl (fun K hK => ?q1_step14) ?q1_next14
    case q1_step14=>
     go_simp
     go_at_call 42;(with_reducible refine(cE.out _).mono ?_);rintro e wA ⟨rfl,hb⟩;have lO:=hid (vO.out.later hb);have eA:=aV.out _ lO.out.1;obtain⟨⟨zB,zC⟩,⟨zD,zE⟩⟩:=qas lO.out.2.2;clear hb
     go_wp2_with fail;refine hK.out _ _ ?q1_hS2 (fun qZ => ?q1_more2)
     case q1_hS2=>exact eA
     clear hK;refine wpAnyH_ready (rs:=[9]) (by kernel_rfl) (by simp) ?_;refine AllReadyH.cons rfl (fun K hK => ?q1_step15) ?q1_next15
     case q1_step15=>
      go_simp;refine hK.out _ _ ?q1_hS3 (fun nT => ?q1_more3)
      case q1_hS3=>exact eA
      clear hK;refine wpAnyH_ready (rs:=[15]) (by kernel_rfl) (by simp) ?_;refine AllReadyH.cons rfl (fun K hK => ?q1_step16) ?q1_next16
      case q1_step16=>
       go_simp
       go_at_call 41;(with_reducible refine(dW.out _).mono ?_);rintro e wC ⟨rfl,hb⟩;have kV:=hid (lO.out.later hb);have eC:=aV.out _ kV.out.1;obtain⟨⟨xS,xT⟩,⟨xU,xV⟩⟩:=qas kV.out.2.2;have oB:=hid (qqr kV.out n1 n2);have eD:=aV.out _ oB.out.1;clear hb
       go_wp2_with fail;refine hK.out _ _ ?q1_hS4 (fun iM => ?q1_more4)
       case q1_hS4=>exact eC
       clear hK
       refine' tkw 16 (v:=_) rfl (by kernel_rfl) (by kernel_rfl) iM (fun _ _ _ h=>h) ?q1_y17 ?_
       case q1_y17=>(intro w hSw;(try dsimp only at hSw);go_simp;(try with_reducible rfl))
       try simp only[Act.put,List.setIfInBounds_toArray,List.set_cons_zero,List.set_cons_succ]
       refine wpAnyH_ready (rs:=[17]) (by kernel_rfl) (by simp) ?_;refine AllReadyH.cons rfl (fun K hK => ?q1_step18) ?q1_next18
       case q1_step18=>
        go_simp;refine hK.out _ _ ?q1_hS5 (fun rA => ?q1_more5)
        case q1_hS5=>exact eD
        clear hK;refine wpAnyH_done (by kernel_rfl) ?_ _;go_wp2_with fail;go_roundw
        case rel=>exact⟨k+1,by omega,by omega,by go_num,hid (by rw[←cX.out,←fM.out];exact oB.out)⟩
        case measure=>simp[intOf];omega
       exact AllReadyH.nil
      exact AllReadyH.nil
     exact AllReadyH.nil
    refine AllReadyH.cons rfl (fun K hK => ?q1_step19) ?q1_next19
    case q1_step19=>
     go_simp;refine hK.out _ _ ?q1_hS6 (fun rB => ?q1_more6)
     case q1_hS6=>exact aE
     clear hK;refine wpAnyH_ready (rs:=[7]) (by kernel_rfl) (by simp) ?_;refine AllReadyH.cons rfl (fun K hK => ?q1_step20) ?q1_next20
     case q1_step20=>
      go_simp
      go_at_call 42;(with_reducible refine(cE.out _).mono ?_);rintro e wA ⟨rfl,hb⟩;have lO:=hid (vO.out.later hb);have eA:=aV.out _ lO.out.1;obtain⟨⟨zB,zC⟩,⟨zD,zE⟩⟩:=qas lO.out.2.2;clear hb
      go_wp2_with fail;refine hK.out _ _ ?q1_hS7 (fun rC => ?q1_more7)
      case q1_hS7=>exact eA
      clear hK;refine wpAnyH_ready (rs:=[15]) (by kernel_rfl) (by simp) ?_;refine AllReadyH.cons rfl (fun K hK => ?q1_step21) ?q1_next21
      case q1_step21=>
       go_simp
       go_at_call 41;(with_reducible refine(dW.out _).mono ?_);rintro e wC ⟨rfl,hb⟩;have kV:=hid (lO.out.later hb);have eC:=aV.out _ kV.out.1;obtain⟨⟨xS,xT⟩,⟨xU,xV⟩⟩:=qas kV.out.2.2;have oB:=hid (qqr kV.out n1 n2);have eD:=aV.out _ oB.out.1;clear hb
       go_wp2_with fail;refine hK.out _ _ ?q1_hS8 (fun gO => ?q1_more8)
       case q1_hS8=>exact eC
       clear hK
       refine' tkw 16 (v:=_) rfl (by kernel_rfl) (by kernel_rfl) gO (fun _ _ _ h=>h) ?q1_y22 ?_
       case q1_y22=>(intro w hSw;(try dsimp only at hSw);go_simp;(try with_reducible rfl))
       try simp only[Act.put,List.setIfInBounds_toArray,List.set_cons_zero,List.set_cons_succ]
       refine wpAnyH_ready (rs:=[17]) (by kernel_rfl) (by simp) ?_;refine AllReadyH.cons rfl (fun K hK => ?q1_step23) ?q1_next23
       case q1_step23=>
        go_simp;refine hK.out _ _ ?q1_hS9 (fun rD => ?q1_more9)
        case q1_hS9=>exact eD
        clear hK;refine wpAnyH_done (by kernel_rfl) ?_ _;go_wp2_with fail;go_roundw
        case rel=>exact⟨k+1,by omega,by omega,by go_num,hid (by rw[←cX.out,←fM.out];exact oB.out)⟩
        case measure=>simp[intOf];omega
       exact AllReadyH.nil
      exact AllReadyH.nil
     exact AllReadyH.nil
    exact AllReadyH.nil
   refine AllReadyH.cons rfl (fun K hK => ?q1_step24) ?q1_next24
   case q1_step24=>
    go_simp;refine hK.out _ _ ?q1_hS10 (fun mO => ?q1_more10)
    case q1_hS10=>exact aE
    clear hK;refine wpAnyH_ready (rs:=[1]) (by kernel_rfl) (by simp) ?_;refine AllReadyH.cons rfl (fun K hK => ?q1_step25) ?q1_next25
    case q1_step25=>
     go_simp;refine hK.out _ _ ?q1_hS11 (fun kN => ?q1_more11)
     case q1_hS11=>exact aE
     clear hK;refine wpAnyH_ready (rs:=[7]) (by kernel_rfl) (by simp) ?_;refine AllReadyH.cons rfl (fun K hK => ?q1_step26) ?q1_next26
     case q1_step26=>
      go_simp
      go_at_call 42;(with_reducible refine(cE.out _).mono ?_);rintro e wA ⟨rfl,hb⟩;have lO:=hid (vO.out.later hb);have eA:=aV.out _ lO.out.1;obtain⟨⟨zB,zC⟩,⟨zD,zE⟩⟩:=qas lO.out.2.2;clear hb
      go_wp2_with fail;refine hK.out _ _ ?q1_hS12 (fun mP => ?q1_more12)
      case q1_hS12=>exact eA
      clear hK;refine wpAnyH_ready (rs:=[15]) (by kernel_rfl) (by simp) ?_;refine AllReadyH.cons rfl (fun K hK => ?q1_step27) ?q1_next27
      case q1_step27=>
       go_simp
       go_at_call 41;(with_reducible refine(dW.out _).mono ?_);rintro e wC ⟨rfl,hb⟩;have kV:=hid (lO.out.later hb);have eC:=aV.out _ kV.out.1;obtain⟨⟨xS,xT⟩,⟨xU,xV⟩⟩:=qas kV.out.2.2;have oB:=hid (qqr kV.out n1 n2);have eD:=aV.out _ oB.out.1;clear hb
       go_wp2_with fail;refine hK.out _ _ ?q1_hS13 (fun fO => ?q1_more13)
       case q1_hS13=>exact eC
       clear hK
       refine' tkw 16 (v:=_) rfl (by kernel_rfl) (by kernel_rfl) fO (fun _ _ _ h=>h) ?q1_y28 ?_
       case q1_y28=>(intro w hSw;(try dsimp only at hSw);go_simp;(try with_reducible rfl))
       try simp only[Act.put,List.setIfInBounds_toArray,List.set_cons_zero,List.set_cons_succ]
       refine wpAnyH_ready (rs:=[17]) (by kernel_rfl) (by simp) ?_;refine AllReadyH.cons rfl (fun K hK => ?q1_step29) ?q1_next29
       case q1_step29=>
        go_simp;refine hK.out _ _ ?q1_hS14 (fun mQ => ?q1_more14)
        case q1_hS14=>exact eD
        clear hK;refine wpAnyH_done (by kernel_rfl) ?_ _;go_wp2_with fail;go_roundw
        case rel=>exact⟨k+1,by omega,by omega,by go_num,hid (by rw[←cX.out,←fM.out];exact oB.out)⟩
        case measure=>simp[intOf];omega
       exact AllReadyH.nil
      exact AllReadyH.nil
     exact AllReadyH.nil
    exact AllReadyH.nil
   exact AllReadyH.nil
  ·have jG:k=n:=by omega
   have xE:¬(k:Int)<(n:Int):=by omega
   subst jG;have lW:=HI;rw[xY.out] at lW;obtain⟨z1,dT⟩:∃t,t=rt (qfm qs).1:=⟨_,rfl⟩;obtain⟨z2,dU⟩:∃t,t=rt (qfm qs).2:=⟨_,rfl⟩;rw[←dT,←dU] at lW;have mF:=hid dT;have fY:=hid dU;clear dT dU;obtain⟨⟨r0,g0⟩,⟨r1,g1⟩⟩:=qas lW.out.2.1;obtain⟨⟨m0,f0⟩,⟨m1,f1⟩⟩:=qas lW.out.2.2;have dV:=hid (qbk lW.out.1 (zap _) (.string z1) (.string z2));go_wp2_with fail;refine bodyPost_ret (v := .agg #[.string z1,.string z2]) ?_ rfl ?_
   ·simp[results,Tryz.results13,go_sem,r0,r1]
   ·exact⟨by rw[mF.out,fY.out],dV.out⟩
theorem qxe(v:Value)(qs:List (Rat × Rat))(j:Nat)(w:World)(hv:qbq w v (qs.map rtP))(hne:qs≠[])(aF:qs.length≤1000)(jL:∀q ∈ qs,sm q.1 j∧sm q.2 j)(hj:j≤2000):
  Calls Tryz.prog 12 #[v] w fun e w'=>e = .returned (.tuple #[.agg #[.string (rt (qbu qs).1),.string (rt (qbu qs).2)],.bool (decide ((qbu qs).1≤(qbu qs).2))])∧Below w.heap.size w w':=by
 obtain⟨p,c,rfl,bP,bK,aA⟩:=hv;unfold maxLen at bK;rw[List.length_map] at *;have jM:0<qs.length:=List.length_pos_iff.2 hne;obtain⟨b,o,rfl,aB⟩:=aA.resolve_left (by omega);obtain⟨q0,iC⟩:∃q,qs[0]? = some q:=⟨qs[0]'jM,zau _⟩;have oW:Hid (qs.getD 0 (0,0)=q0):=hid (by rw[zaw,iC];rfl);have gF:=jL q0 (zax iC);have bN:=hid aB;have zH:=hid iC;have xN:=hid jL;have HJ:=hid hj;have sY:Hid (∀k q,qs[k]? = some q→(qs.take (k+1)).foldl qbt q0=qbt ((qs.take k).foldl qbt q0) q):=hid fun k q h=>qls qbt q0 k q h;have xY:Hid ((qs.take qs.length).foldl qbt q0=qbu qs):=hid (by unfold qbu;rw[oW.out,List.take_length]);have fF:Hid (∀k,sm ((qs.take k).foldl qbt q0).1 j∧sm ((qs.take k).foldl qbt q0).2 j):=hid fun k=>qv2 (fun p q a b c d=>⟨q6w a c,q6v b d⟩) _ _ gF.1 gF.2 fun s hs=>jL s (List.mem_of_mem_take hs)
 have eF:Hid ((qs.take 1).foldl qbt q0=q0):=hid (by
  have h:=sY.out 0 q0 iC;rw[Nat.zero_add] at h;rw[h];show qbt q0 q0=q0;unfold qbt
  rw[qpj,qpk])
 generalize nV:(fun k=>(qs.take k).foldl qbt q0)=acc at *;have nW:Hid (∀k,(qs.take k).foldl qbt q0=acc k):=hid fun k=>congrFun nV k;simp only[nW.out] at sY xY fF eF;clear nV nW gF aB aA jL hj hne;have Va:=hid (qxd w (rt q0.1) (rt q0.2) 28 28)
 have Mz:w.cell? ⟨b,o,none⟩=some (.string (rt q0.1))∧w.cell? ⟨b,o+1,none⟩=some (.string (rt q0.2)):=by
  have h:=bN.out 0 (rtP q0) (by rw[List.getElem?_map,iC];rfl)
  rwa [Nat.zero_mul,Nat.add_zero] at h
 have cP:=hid ((zan w.heap.size w).alloc (zap _) (.cells #[.string ⟨#[]⟩,.string ⟨#[]⟩] 28));obtain⟨e0,e1⟩:=Mz;rw[←cP.out.cell (zaq w _ e0)] at e0;rw[←cP.out.cell (zaq w _ e1)] at e1;generalize hn:qs.length=n at *;have HN:=hid hn;clear hn iC oW;have cT:(0:Int)<(n:Int):=by omega
 go_enter Tryz.func12,Tryz.ntmps12;go_wp2_with fail;clear e0 e1
 go_loopw [5] (fun i wr=>∃k:Nat,1≤k∧k≤n∧i = .int .i64 k∧Hid (qzn w (rt (acc k).1) (rt (acc k).2) wr)) (fun i _=>n-(intOf i).toNat)
 case atStart=>exact⟨1,zap _,by omega,rfl,hid (by rw[eF.out];exact Va.out)⟩
 case round=>
  obtain⟨k,kA,hk,rfl,HI⟩:=hrel;clear Va;by_cases bI:k<n
  ·obtain⟨q,hq⟩:∃q,qs[k]? = some q:=⟨qs[k]'(by rw[HN.out];exact bI),zau _⟩
   have aV:Hid (∀W,Below w.heap.size w W→W.cell? ⟨b,o+k*2,none⟩=some (.string (rt q.1))∧W.cell? ⟨b,o+k*2+1,none⟩=some (.string (rt q.2))):=hid fun W hW=>by
    obtain⟨f0,f1⟩:=bN.out k (rtP q) (by rw[List.getElem?_map,hq];rfl);rw[hW.cell (zaq w _ f0),hW.cell (zaq w _ f1)];exact⟨f0,f1⟩
   have Hm:=xN.out q (zax hq);have hsa:=fF.out k;have QT1:=fun W=>q6u (acc k).1 q.1 j W hsa.1 Hm.1 HJ.out;have QT2:=fun W=>q6t (acc k).2 q.2 j W hsa.2 Hm.2 HJ.out;have dK:(acc (k+1)).1=qmv (acc k).1 q.1:=by rw[sY.out k q hq];rfl
   have dX:(acc (k+1)).2=qmu (acc k).2 q.2:=by rw[sY.out k q hq];rfl
   rw[←dK] at QT1;rw[←dX] at QT2;unfold qlk at QT1 QT2;have cE:=hid QT1;have dW:=hid QT2;obtain⟨n1,dR⟩:∃t,t=rt (acc (k+1)).1:=⟨_,rfl⟩;obtain⟨n2,jC⟩:∃t,t=rt (acc (k+1)).2:=⟨_,rfl⟩;rw[←dR] at cE;rw[←jC] at dW;have cX:=hid dR;have fM:=hid jC;have Oq:(0:Int)≤(k:Int):=by omega
   have Dp:(k:Int)<(n:Int):=by omega
   clear QT1 QT2 dK dX dR jC Hm hsa hq;generalize rt (acc k).1=a1 at *;generalize rt (acc k).2=a2 at *;generalize rt q.1=t1 at *;generalize rt q.2=t2 at *;have vO:Hid (qzn w a1 a2 wr.drew):=hid (HI.out.later (zan _ _).drew);have e0:=aV.out _ vO.out.1;obtain⟨⟨m0,f0⟩,⟨m1,f1⟩⟩:=qas vO.out.2.2;go_wp2_with fail;refine wp_region_held_drew (S:=(fun W=>W.cell? ⟨b,o+k*2,none⟩=some (.string t1)∧W.cell? ⟨b,o+k*2+1,none⟩=some (.string t2))) (by kernel_rfl) e0 (fun aE => ?_)
   refine' tkw 0 (v:=_) rfl (by kernel_rfl) (by kernel_rfl) aE (fun _ _ _ h=>h) ?q2_y1 ?_
   case q2_y1=>(intro w hSw;(try dsimp only at hSw);go_simp;(try with_reducible rfl))
   try simp only[Act.put,List.setIfInBounds_toArray,List.set_cons_zero,List.set_cons_succ]
   refine' tkw 2 (v:=_) rfl (by kernel_rfl) (by kernel_rfl) aE (fun _ _ _ h=>h) ?q2_y2 ?_
   case q2_y2=>(intro w hSw;(try dsimp only at hSw);go_simp;(try with_reducible rfl))
   try simp only[Act.put,List.setIfInBounds_toArray,List.set_cons_zero,List.set_cons_succ]
   refine' tkw 3 (v:=_) rfl (by kernel_rfl) (by kernel_rfl) aE (fun _ _ _ h=>h) ?q2_y3 ?_
   case q2_y3=>(intro w hSw;(try dsimp only at hSw);go_simp;(try with_reducible rfl))
   try simp only[Act.put,List.setIfInBounds_toArray,List.set_cons_zero,List.set_cons_succ]
   refine' tkw 4 (v:=_) rfl (by kernel_rfl) (by kernel_rfl) aE (fun _ _ _ h=>h) ?q2_y4 ?_
   case q2_y4=>(intro w hSw;(try dsimp only at hSw);go_simp;(try with_reducible rfl))
   try simp only[Act.put,List.setIfInBounds_toArray,List.set_cons_zero,List.set_cons_succ]
   refine' tkw 5 (v:=_) rfl (by kernel_rfl) (by kernel_rfl) aE (fun _ _ _ h=>h) ?q2_y5 ?_
   case q2_y5=>(intro w hSw;(try dsimp only at hSw);go_simp;(try with_reducible rfl))
   try simp only[Act.put,List.setIfInBounds_toArray,List.set_cons_zero,List.set_cons_succ]
   refine' tkw 6 (v:=_) rfl (by kernel_rfl) (by kernel_rfl) aE (fun _ _ _ h=>h) ?q2_y6 ?_
   case q2_y6=>(intro w hSw;(try dsimp only at hSw);go_simp;(try with_reducible rfl))
   try simp only[Act.put,List.setIfInBounds_toArray,List.set_cons_zero,List.set_cons_succ]
   refine' tkw 8 (v:=_) rfl (by kernel_rfl) (by kernel_rfl) aE (fun _ _ _ h=>h) ?q2_y7 ?_
   case q2_y7=>(intro w hSw;(try dsimp only at hSw);go_simp;(try with_reducible rfl))
   try simp only[Act.put,List.setIfInBounds_toArray,List.set_cons_zero,List.set_cons_succ]
   refine' tkw 10 (v:=_) rfl (by kernel_rfl) (by kernel_rfl) aE (fun _ _ _ h=>h) ?q2_y8 ?_
   case q2_y8=>(intro w hSw;(try dsimp only at hSw);go_simp;(try with_reducible rfl))
   try simp only[Act.put,List.setIfInBounds_toArray,List.set_cons_zero,List.set_cons_succ]
   refine' tkw 11 (v:=_) rfl (by kernel_rfl) (by kernel_rfl) aE (fun _ _ _ h=>h) ?q2_y9 ?_
   case q2_y9=>(intro w hSw;(try dsimp only at hSw);go_simp;(try with_reducible rfl))
   try simp only[Act.put,List.setIfInBounds_toArray,List.set_cons_zero,List.set_cons_succ]
   refine' tkw 12 (v:=_) rfl (by kernel_rfl) (by kernel_rfl) aE (fun _ _ _ h=>h) ?q2_y10 ?_
   case q2_y10=>(intro w hSw;(try dsimp only at hSw);go_simp;(try with_reducible rfl))
   try simp only[Act.put,List.setIfInBounds_toArray,List.set_cons_zero,List.set_cons_succ]
   refine' tkw 13 (v:=_) rfl (by kernel_rfl) (by kernel_rfl) aE (fun _ _ _ h=>h) ?q2_y11 ?_
   case q2_y11=>(intro w hSw;(try dsimp only at hSw);go_simp;(try with_reducible rfl))
   try simp only[Act.put,List.setIfInBounds_toArray,List.set_cons_zero,List.set_cons_succ]
   refine' tkw 14 (v:=_) rfl (by kernel_rfl) (by kernel_rfl) aE (fun _ _ _ h=>h) ?q2_y12 ?_
   case q2_y12=>(intro w hSw;(try dsimp only at hSw);go_simp;(try with_reducible rfl))
   try simp only[Act.put,List.setIfInBounds_toArray,List.set_cons_zero,List.set_cons_succ]
   refine wpAnyH_ready (rs:=[1,9]) (by kernel_rfl) (by simp) ?_;refine AllReadyH.cons rfl (fun K hK => ?q2_step13) ?q2_next13
   case q2_step13=>
    go_simp;refine hK.out _ _ ?q2_hS1 (fun qY => ?q2_more1)
    case q2_hS1=>exact aE
    clear hK;refine wpAnyH_ready (rs:=[7,9]) (by kernel_rfl) (by simp) ?_;refine AllReadyH.cons rfl (fun K hK => ?q2_step14) ?q2_next14
    case q2_step14=>
     go_simp
     go_at_call 41;(with_reducible refine(cE.out _).mono ?_);rintro e wA ⟨rfl,hb⟩;have lO:=hid (vO.out.later hb);have eA:=aV.out _ lO.out.1;obtain⟨⟨zB,zC⟩,⟨zD,zE⟩⟩:=qas lO.out.2.2;clear hb
     go_wp2_with fail;refine hK.out _ _ ?q2_hS2 (fun qZ => ?q2_more2)
     case q2_hS2=>exact eA
     clear hK;refine wpAnyH_ready (rs:=[9]) (by kernel_rfl) (by simp) ?_;refine AllReadyH.cons rfl (fun K hK => ?q2_step15) ?q2_next15
     case q2_step15=>
      go_simp;refine hK.out _ _ ?q2_hS3 (fun nT => ?q2_more3)
      case q2_hS3=>exact eA
      clear hK;refine wpAnyH_ready (rs:=[15]) (by kernel_rfl) (by simp) ?_;refine AllReadyH.cons rfl (fun K hK => ?q2_step16) ?q2_next16
      case q2_step16=>
       go_simp
       go_at_call 42;(with_reducible refine(dW.out _).mono ?_);rintro e wC ⟨rfl,hb⟩;have kV:=hid (lO.out.later hb);have eC:=aV.out _ kV.out.1;obtain⟨⟨xS,xT⟩,⟨xU,xV⟩⟩:=qas kV.out.2.2;have oB:=hid (qqr kV.out n1 n2);have eD:=aV.out _ oB.out.1;clear hb
       go_wp2_with fail;refine hK.out _ _ ?q2_hS4 (fun iM => ?q2_more4)
       case q2_hS4=>exact eC
       clear hK
       refine' tkw 16 (v:=_) rfl (by kernel_rfl) (by kernel_rfl) iM (fun _ _ _ h=>h) ?q2_y17 ?_
       case q2_y17=>(intro w hSw;(try dsimp only at hSw);go_simp;(try with_reducible rfl))
       try simp only[Act.put,List.setIfInBounds_toArray,List.set_cons_zero,List.set_cons_succ]
       refine wpAnyH_ready (rs:=[17]) (by kernel_rfl) (by simp) ?_;refine AllReadyH.cons rfl (fun K hK => ?q2_step18) ?q2_next18
       case q2_step18=>
        go_simp;refine hK.out _ _ ?q2_hS5 (fun rA => ?q2_more5)
        case q2_hS5=>exact eD
        clear hK;refine wpAnyH_done (by kernel_rfl) ?_ _;go_wp2_with fail;go_roundw
        case rel=>exact⟨k+1,by omega,by omega,by go_num,hid (by rw[←cX.out,←fM.out];exact oB.out)⟩
        case measure=>simp[intOf];omega
       exact AllReadyH.nil
      exact AllReadyH.nil
     exact AllReadyH.nil
    refine AllReadyH.cons rfl (fun K hK => ?q2_step19) ?q2_next19
    case q2_step19=>
     go_simp;refine hK.out _ _ ?q2_hS6 (fun rB => ?q2_more6)
     case q2_hS6=>exact aE
     clear hK;refine wpAnyH_ready (rs:=[7]) (by kernel_rfl) (by simp) ?_;refine AllReadyH.cons rfl (fun K hK => ?q2_step20) ?q2_next20
     case q2_step20=>
      go_simp
      go_at_call 41;(with_reducible refine(cE.out _).mono ?_);rintro e wA ⟨rfl,hb⟩;have lO:=hid (vO.out.later hb);have eA:=aV.out _ lO.out.1;obtain⟨⟨zB,zC⟩,⟨zD,zE⟩⟩:=qas lO.out.2.2;clear hb
      go_wp2_with fail;refine hK.out _ _ ?q2_hS7 (fun rC => ?q2_more7)
      case q2_hS7=>exact eA
      clear hK;refine wpAnyH_ready (rs:=[15]) (by kernel_rfl) (by simp) ?_;refine AllReadyH.cons rfl (fun K hK => ?q2_step21) ?q2_next21
      case q2_step21=>
       go_simp
       go_at_call 42;(with_reducible refine(dW.out _).mono ?_);rintro e wC ⟨rfl,hb⟩;have kV:=hid (lO.out.later hb);have eC:=aV.out _ kV.out.1;obtain⟨⟨xS,xT⟩,⟨xU,xV⟩⟩:=qas kV.out.2.2;have oB:=hid (qqr kV.out n1 n2);have eD:=aV.out _ oB.out.1;clear hb
       go_wp2_with fail;refine hK.out _ _ ?q2_hS8 (fun gO => ?q2_more8)
       case q2_hS8=>exact eC
       clear hK
       refine' tkw 16 (v:=_) rfl (by kernel_rfl) (by kernel_rfl) gO (fun _ _ _ h=>h) ?q2_y22 ?_
       case q2_y22=>(intro w hSw;(try dsimp only at hSw);go_simp;(try with_reducible rfl))
       try simp only[Act.put,List.setIfInBounds_toArray,List.set_cons_zero,List.set_cons_succ]
       refine wpAnyH_ready (rs:=[17]) (by kernel_rfl) (by simp) ?_;refine AllReadyH.cons rfl (fun K hK => ?q2_step23) ?q2_next23
       case q2_step23=>
        go_simp;refine hK.out _ _ ?q2_hS9 (fun rD => ?q2_more9)
        case q2_hS9=>exact eD
        clear hK;refine wpAnyH_done (by kernel_rfl) ?_ _;go_wp2_with fail;go_roundw
        case rel=>exact⟨k+1,by omega,by omega,by go_num,hid (by rw[←cX.out,←fM.out];exact oB.out)⟩
        case measure=>simp[intOf];omega
       exact AllReadyH.nil
      exact AllReadyH.nil
     exact AllReadyH.nil
    exact AllReadyH.nil
   refine AllReadyH.cons rfl (fun K hK => ?q2_step24) ?q2_next24
   case q2_step24=>
    go_simp;refine hK.out _ _ ?q2_hS10 (fun mO => ?q2_more10)
    case q2_hS10=>exact aE
    clear hK;refine wpAnyH_ready (rs:=[1]) (by kernel_rfl) (by simp) ?_;refine AllReadyH.cons rfl (fun K hK => ?q2_step25) ?q2_next25
    case q2_step25=>
     go_simp;refine hK.out _ _ ?q2_hS11 (fun kN => ?q2_more11)
     case q2_hS11=>exact aE
     clear hK;refine wpAnyH_ready (rs:=[7]) (by kernel_rfl) (by simp) ?_;refine AllReadyH.cons rfl (fun K hK => ?q2_step26) ?q2_next26
     case q2_step26=>
      go_simp
      go_at_call 41;(with_reducible refine(cE.out _).mono ?_);rintro e wA ⟨rfl,hb⟩;have lO:=hid (vO.out.later hb);have eA:=aV.out _ lO.out.1;obtain⟨⟨zB,zC⟩,⟨zD,zE⟩⟩:=qas lO.out.2.2;clear hb
      go_wp2_with fail;refine hK.out _ _ ?q2_hS12 (fun mP => ?q2_more12)
      case q2_hS12=>exact eA
      clear hK;refine wpAnyH_ready (rs:=[15]) (by kernel_rfl) (by simp) ?_;refine AllReadyH.cons rfl (fun K hK => ?q2_step27) ?q2_next27
      case q2_step27=>
       go_simp
       go_at_call 42;(with_reducible refine(dW.out _).mono ?_);rintro e wC ⟨rfl,hb⟩;have kV:=hid (lO.out.later hb);have eC:=aV.out _ kV.out.1;obtain⟨⟨xS,xT⟩,⟨xU,xV⟩⟩:=qas kV.out.2.2;have oB:=hid (qqr kV.out n1 n2);have eD:=aV.out _ oB.out.1;clear hb
       go_wp2_with fail;refine hK.out _ _ ?q2_hS13 (fun fO => ?q2_more13)
       case q2_hS13=>exact eC
       clear hK
       refine' tkw 16 (v:=_) rfl (by kernel_rfl) (by kernel_rfl) fO (fun _ _ _ h=>h) ?q2_y28 ?_
       case q2_y28=>(intro w hSw;(try dsimp only at hSw);go_simp;(try with_reducible rfl))
       try simp only[Act.put,List.setIfInBounds_toArray,List.set_cons_zero,List.set_cons_succ]
       refine wpAnyH_ready (rs:=[17]) (by kernel_rfl) (by simp) ?_;refine AllReadyH.cons rfl (fun K hK => ?q2_step29) ?q2_next29
       case q2_step29=>
        go_simp;refine hK.out _ _ ?q2_hS14 (fun mQ => ?q2_more14)
        case q2_hS14=>exact eD
        clear hK;refine wpAnyH_done (by kernel_rfl) ?_ _;go_wp2_with fail;go_roundw
        case rel=>exact⟨k+1,by omega,by omega,by go_num,hid (by rw[←cX.out,←fM.out];exact oB.out)⟩
        case measure=>simp[intOf];omega
       exact AllReadyH.nil
      exact AllReadyH.nil
     exact AllReadyH.nil
    exact AllReadyH.nil
   exact AllReadyH.nil
  ·have jG:k=n:=by omega
   have xE:¬(k:Int)<(n:Int):=by omega
   subst jG;have lW:=HI;rw[xY.out] at lW;have Sr:=fF.out k;rw[xY.out] at Sr;have iA:=hid fun W=>qr1 (qbu qs).1 (qbu qs).2 j Sr.1 Sr.2 HJ.out W;have HDZ:Hid (decide ((qbu qs).1≤(qbu qs).2)=decide (qcq (qbu qs).1 (qbu qs).2≤0)):=hid (decide_eq_decide.2 ql4.symm);obtain⟨z,hz⟩:∃z,z=qcq (qbu qs).1 (qbu qs).2:=⟨_,rfl⟩;obtain⟨z1,dT⟩:∃t,t=rt (qbu qs).1:=⟨_,rfl⟩;obtain⟨z2,dU⟩:∃t,t=rt (qbu qs).2:=⟨_,rfl⟩;rw[←dT,←dU] at lW;rw[←hz,←dT,←dU] at iA;rw[←hz] at HDZ;have mF:=hid dT;have fY:=hid dU;clear dT dU hz Sr;have vO:Hid (qzn w z1 z2 wr.drew):=hid (lW.out.later (zan _ _).drew);have Dk:Hid (∀W,qzn w z1 z2 W→W.cell? ⟨w.heap.size+1,0,none⟩=some (.string z1)∧W.cell? ⟨w.heap.size+1,1,none⟩=some (.string z2)):=hid fun W hW=>⟨(qas hW.2.2).1.1,(qas hW.2.2).2.1⟩;have eZ:=Dk.out _ vO.out;obtain⟨⟨r0,g0⟩,⟨r1,g1⟩⟩:=qas vO.out.2.1;go_wp2_with fail
   go_region_held3 (fun W=>W.cell? ⟨w.heap.size+1,0,none⟩=some (.string z1)∧W.cell? ⟨w.heap.size+1,1,none⟩=some (.string z2)) (first|exact eZ|exact Dk.out _ kV.out|exact eS)
    ((go_at_call 43;(with_reducible refine(iA.out _).mono ?_);rintro e wC ⟨rfl,hb⟩;have kV:=hid (vO.out.later hb);obtain⟨⟨rc0,gc0⟩,⟨rc1,gc1⟩⟩:=qas kV.out.2.1;have dV:=hid (qbk kV.out.1 (zap _) (.string z1) (.string z2));have oS:=qlt (qlt kV.out.2.2 (g':=w.heap.size) (by omega) 0 (.string z1)) (g':=w.heap.size) (by omega) 1 (.string z2);have eS:=(show _∧_ from⟨(qas oS).1.1,(qas oS).2.1⟩);clear hb oS))
   all_goals
    go_wp2_with fail;refine bodyPost_ret (v := .tuple #[.agg #[.string z1,.string z2],.bool (decide (z≤0))]) ?_ rfl ?_
    ·simp[results,Tryz.results12,go_sem,rc0,rc1]
    ·exact⟨by rw[mF.out,fY.out,HDZ.out],dV.out⟩
def q3g(qs:List (Rat × Rat))(w:World)(e:Ending)(w':World):Prop:=
 ((∃i k:Nat,qdr qs i k∧e = .returned (.tuple #[.int .i64 (i:Nat),.int .i64 (k:Nat),.bool true]))∨(qkl qs∧e = .returned (.tuple #[.int .i64 0,.int .i64 0,.bool false])))∧Below w.heap.size w w'
theorem qj1{qs:List (Rat × Rat)}{i k i' k':Nat}(h:qdr qs i k)(h':qdr qs i' k'):i=i'∧k=k':=by
 obtain⟨a1,a2,a3,a4,a5⟩:=h;obtain⟨b1,b2,b3,b4,b5⟩:=h'
 have e:i=i':=by
  rcases Nat.lt_trichotomy i i' with hl|he|hl
  ·have:=b5 i k hl a1 a2
   rw[a3] at this;cases this
  ·exact he
  ·have:=a5 i' k' hl b1 b2
   rw[b3] at this;cases this
 subst e;refine⟨rfl, ?_⟩;rcases Nat.lt_trichotomy k k' with hl|he|hl
 ·have:=b4 k a1 hl
  rw[a3] at this;cases this
 ·exact he
 ·have:=a4 k' b1 hl
  rw[b3] at this;cases this
theorem q50(p q:Rat × Rat):decide ((qbu [p,q]).1≤(qbu [p,q]).2)=(decide (p.1≤p.2)&&decide (q.1≤q.2) && !qdj p q):=by
 have e:qbu [p,q]=qbt (qbt p p) q:=rfl;rw[e];unfold qbt qdj;simp only[qpj,qpk];unfold qmv qmu;rw[Bool.eq_iff_iff];simp only[decide_eq_true_eq,Bool.and_eq_true,Bool.not_eq_true',Bool.or_eq_false_iff,decide_eq_false_iff_not];split<;>split<;>grind
theorem qpl(W:World)(a b c d:BA)(t:TypeId):qbq (W.alloc (.cells #[.string a,.string b,.string c,.string d] t)) (.slice (some ⟨W.heap.size,0,none⟩) 2 2) [(a,b),(c,d)]:=by
 refine⟨_,2,rfl,zap _,by decide,.inr ⟨W.heap.size,0,rfl,fun j s hj => ?_⟩⟩;rw[World.cell?_alloc_at _ _ _ _ rfl,World.cell?_alloc_at _ _ _ _ rfl]
 match j,hj with
 | 0,hj=>cases hj;exact⟨rfl,rfl⟩
 | 1,hj=>cases hj;exact⟨rfl,rfl⟩
theorem q3h(v:Value)(qs:List (Rat × Rat))(j:Nat)(w:World)(hv:qbq w v (qs.map rtP))(hne:qs≠[])(aF:qs.length≤1000)(jL:∀q ∈ qs,sm q.1 j∧sm q.2 j)(dF:∀q ∈ qs,q.1≤q.2)(hj:j≤2000):
  Calls Tryz.prog 15 #[v] w (q3g qs w):=by
 obtain⟨p,c,rfl,bP,bK,aA⟩:=hv;unfold maxLen at bK;rw[List.length_map] at *;have jM:0<qs.length:=List.length_pos_iff.2 hne;obtain⟨b,o,rfl,aB⟩:=aA.resolve_left (by omega);have bN:=hid aB
 have fX:Hid (∀k q,qs[k]? = some q→∀W,Below w.heap.size w W→W.cell? ⟨b,o+k*2,none⟩=some (.string (rt q.1))∧W.cell? ⟨b,o+k*2+1,none⟩=some (.string (rt q.2))):=hid fun k q hq W hW=>by
  obtain⟨f0,f1⟩:=bN.out k (rtP q) (by rw[List.getElem?_map,hq];rfl);rw[hW.cell (zaq w _ f0),hW.cell (zaq w _ f1)];exact⟨f0,f1⟩
 have xN:=hid jL;have HLE:=hid dF;have HJ:=hid hj;have rH:Hid (∀i k w',qdr qs i k→Below w.heap.size w w'→q3g qs w (.returned (.tuple #[.int .i64 (i:Nat),.int .i64 (k:Nat),.bool true])) w'):=hid fun i k w' h hb=>⟨.inl ⟨i,k,h,rfl⟩,hb⟩;have mH:Hid (∀w',qkl qs→Below w.heap.size w w'→q3g qs w (.returned (.tuple #[.int .i64 0,.int .i64 0,.bool false])) w'):=hid fun w' h hb=>⟨.inr ⟨h,rfl⟩,hb⟩
 have Cu:Hid (∀p q,p ∈ qs→q ∈ qs→∀(g:Nat) (W:World),qbq W (.slice (some ⟨g,0,none⟩) 2 2) [(rt p.1,rt p.2),(rt q.1,rt q.2)]→Calls Tryz.prog 12 #[.slice (some ⟨g,0,none⟩) 2 2] W fun e w'=>(∃z1 z2:BA,e = .returned (.tuple #[.agg #[.string z1,.string z2],.bool (!qdj p q)]))∧Below W.heap.size W w'):=hid fun p q hp hq g W hv=>by
  have iU:∀s ∈ [p,q],sm s.1 j∧sm s.2 j:=fun s hs=>by
   rcases List.mem_cons.1 hs with rfl|hs
   ·exact jL _ hp
   ·rw[List.mem_singleton.1 hs];exact jL _ hq
  have hdc:decide ((qbu [p,q]).1≤(qbu [p,q]).2) = !qdj p q:=by rw[q50,zas (dF p hp),zas (dF q hq)];rfl
  refine(qxe _ [p,q] j W hv (by simp) (by simp) iU hj).mono fun e' w' ⟨h1,h2⟩ => ?_;rw[hdc] at h1;exact⟨⟨_,_,h1⟩,h2⟩
 generalize hn:qs.length=n at *;have HN:=hid hn;clear hn aB aA jL dF hj hne;have eY:=hid (zan w.heap.size w);go_enter Tryz.func15,Tryz.ntmps15;go_wp2_with fail
 go_loopw [5] (fun i wr=>∃k1:Nat,k1≤n∧i = .int .i64 k1∧Hid (∀h j,h<k1→h<j→j<n→qdj (qs.getD h (0,0)) (qs.getD j (0,0))=false)∧Hid (Below w.heap.size w wr)) (fun i _=>n-(intOf i).toNat)
 case atStart=>exact⟨0,Nat.zero_le _,rfl,hid fun h j hh=>absurd hh (Nat.not_lt_zero _),eY⟩
 case round=>
  obtain⟨k1,kA,rfl,gG,HB⟩:=hrel;clear eY;by_cases bI:k1<n
  ·have Oq:(0:Int)≤(k1:Int):=by omega
   have Dp:(k1:Int)<(n:Int):=by omega
   obtain⟨P,hP⟩:∃P,qs[k1]? = some P:=⟨qs[k1]'(by rw[HN.out];exact bI),zau _⟩;have HPG:Hid (qs.getD k1 (0,0)=P):=hid (by rw[zaw,hP];rfl);have HP:=hid hP;clear hP;go_wp2_with fail
   go_loopw [6] (fun i wt=>∃k2:Nat,k1+1≤k2∧k2≤n∧i = .int .i64 k2∧Hid (∀j,k1<j→j<k2→qdj (qs.getD k1 (0,0)) (qs.getD j (0,0))=false)∧Hid (Below w.heap.size w wt)) (fun i _=>n-(intOf i).toNat)
   case atStart=>exact⟨k1+1,zap _,by omega,by go_num,hid fun j h1 h2=>absurd h2 (by omega),HB⟩
   case round=>
    clear HB;obtain⟨k2,tK,hk3,rfl,eU,HB⟩:=hrel;by_cases Vb:k2<n
    ·have Rv:(0:Int)≤(k2:Int):=by omega
     have hj1:(k2:Int)<(n:Int):=by omega
     obtain⟨Q,hQ⟩:∃Q,qs[k2]? = some Q:=⟨qs[k2]'(by rw[HN.out];exact Vb),zau _⟩;have HQG:Hid (qs.getD k2 (0,0)=Q):=hid (by rw[zaw,hQ];rfl);have Og:=hid (Cu.out P Q (zax HP.out) (zax hQ));have Ds:Hid (∀W,Below w.heap.size w W→W.cell? ⟨b,o+k1*2,none⟩=some (.string (rt P.1))∧W.cell? ⟨b,o+k1*2+1,none⟩=some (.string (rt P.2))∧W.cell? ⟨b,o+k2*2,none⟩=some (.string (rt Q.1))∧W.cell? ⟨b,o+k2*2+1,none⟩=some (.string (rt Q.2))):=hid fun W hW=>⟨(fX.out k1 P HP.out W hW).1,(fX.out k1 P HP.out W hW).2,(fX.out k2 Q hQ W hW).1,(fX.out k2 Q hQ W hW).2⟩;clear hQ;have tW:Hid (qdj (qs.getD k1 (0,0)) (qs.getD k2 (0,0))=qdj P Q):=hid (by rw[HPG.out,HQG.out]);generalize qdj P Q=cb at *;generalize rt P.1=p1 at *;generalize rt P.2=p2 at *;generalize rt Q.1=q1 at *;generalize rt Q.2=q2 at *;have HMa:Hid (∀(W:World),Calls Tryz.prog 12 #[.slice (some ⟨W.heap.size,0,none⟩) 2 2] (W.alloc (.cells #[.string p1,.string p2,.string q1,.string q2] 28)).drew fun e w'=>(∃z1 z2:BA,e = .returned (.tuple #[.agg #[.string z1,.string z2],.bool (!cb)]))∧Below W.heap.size W w'):=hid fun W=>(Og.out _ _ ((qpl W p1 p2 q1 q2 28).later (zan _ _).drew)).mono fun _ _ ⟨h1,h2⟩=>⟨h1,(zam _ _).drew.trans (h2.mono (show W.heap.size≤(W.alloc (.cells #[.string p1,.string p2,.string q1,.string q2] 28)).heap.size by simp only[zao];omega))⟩
     have HMb:Hid (∀(W:World) (t:TypeId),Calls Tryz.prog 12 #[.slice (some ⟨W.heap.size,0,none⟩) 2 2] ((W.alloc (.cells #[.string p1,.string p2,.string q1,.string q2] 28)).alloc (.cells #[.string ⟨#[]⟩,.string ⟨#[]⟩] t)).drew fun e w'=>(∃z1 z2:BA,e = .returned (.tuple #[.agg #[.string z1,.string z2],.bool (!cb)]))∧Below W.heap.size W w'∧Own w' (W.heap.size+1) 2 (qko (.string ⟨#[]⟩) (.string ⟨#[]⟩))):=hid fun W t=>by
      refine(Og.out _ _ ((qpl W p1 p2 q1 q2 28).later (zam _ _).drew)).mono fun _ _ ⟨h1,h2⟩=>⟨h1,(((zam _ _)).alloc (by rw[zao];omega) _).drew.trans (h2.mono (show W.heap.size≤((W.alloc (.cells #[.string p1,.string p2,.string q1,.string q2] 28)).alloc (.cells #[.string ⟨#[]⟩,.string ⟨#[]⟩] t)).heap.size by simp only[zao];omega)), ?_⟩;have h:=qbg (W.alloc (.cells #[.string p1,.string p2,.string q1,.string q2] 28)) t (.string ⟨#[]⟩) (.string ⟨#[]⟩);rw[zao] at h;exact(h.later (zan _ _).drew).later (h2.mono (show W.heap.size+1+1≤((W.alloc (.cells #[.string p1,.string p2,.string q1,.string q2] 28)).alloc (.cells #[.string ⟨#[]⟩,.string ⟨#[]⟩] t)).heap.size by simp only[zao];omega))
     have HMc:Hid (∀(W:World) (t:TypeId),Calls Tryz.prog 12 #[.slice (some ⟨W.heap.size+1,0,none⟩) 2 2] ((W.alloc (.cells #[.string ⟨#[]⟩,.string ⟨#[]⟩] t)).alloc (.cells #[.string p1,.string p2,.string q1,.string q2] 28)).drew fun e w'=>(∃z1 z2:BA,e = .returned (.tuple #[.agg #[.string z1,.string z2],.bool (!cb)]))∧Below W.heap.size W w'∧Own w' W.heap.size 2 (qko (.string ⟨#[]⟩) (.string ⟨#[]⟩))):=hid fun W t=>by
      have h:=qpl (W.alloc (.cells #[.string ⟨#[]⟩,.string ⟨#[]⟩] t)) p1 p2 q1 q2 28;rw[zao] at h;exact(Og.out _ _ (h.later (zan _ _).drew)).mono fun _ _ ⟨h1,h2⟩=>⟨h1,(((zam _ _)).alloc (by rw[zao];omega) _).drew.trans (h2.mono (show W.heap.size≤((W.alloc (.cells #[.string ⟨#[]⟩,.string ⟨#[]⟩] t)).alloc (.cells #[.string p1,.string p2,.string q1,.string q2] 28)).heap.size by simp only[zao];omega)),((qbg W t (.string ⟨#[]⟩) (.string ⟨#[]⟩)).later ((zan _ _).alloc (by rw[zao];exact zap _) _).drew).later (h2.mono (show W.heap.size+1≤((W.alloc (.cells #[.string ⟨#[]⟩,.string ⟨#[]⟩] t)).alloc (.cells #[.string p1,.string p2,.string q1,.string q2] 28)).heap.size by simp only[zao];omega))⟩
     clear Og HPG HQG
     go_upto_region 7 with fail
     go_cut [8] (fun s8 wx=>s8 = .bool (!cb)∧Hid (Below w.heap.size w wx))
     case first=>
      have eO:=hid (HB.out.drew);have dM:=eO.out.size;have eZ:=Ds.out _ eO.out
      go_region_held3 (fun W=>W.cell? ⟨b,o+k1*2,none⟩=some (.string p1)∧W.cell? ⟨b,o+k1*2+1,none⟩=some (.string p2)∧W.cell? ⟨b,o+k2*2,none⟩=some (.string q1)∧W.cell? ⟨b,o+k2*2+1,none⟩=some (.string q2)) ((refine Ds.out _ ?_;repeat (first|exact eO.out|exact HB.out|refine Below.drew ?_|refine Below.alloc ?_ (by first|exact eO.out.size|exact HB.out.size|(simp;first|(have:=eO.out.size;omega)|(have:=HB.out.size;omega))) _|refine Below.setCell ?_ (by simp;first|(have:=eO.out.size;omega)|(have:=HB.out.size;omega)) _)))
       ((go_at_call 12;first
        | (with_reducible refine(HMa.out wr).mono ?_;rintro e wA ⟨⟨z1,z2,rfl⟩,hb⟩;have eO:=hid (HB.out.trans (hb.mono HB.out.size));clear hb)
        | (with_reducible refine(HMb.out wr _).mono ?_;rintro e wA ⟨⟨z1,z2,rfl⟩,hb,ho⟩;obtain⟨⟨r0,g0⟩,⟨r1,g1⟩⟩:=qas ho;have eO:=hid (HB.out.trans (hb.mono HB.out.size));clear hb ho)
        | (with_reducible refine(HMc.out wr _).mono ?_;rintro e wA ⟨⟨z1,z2,rfl⟩,hb,ho⟩;obtain⟨⟨r0,g0⟩,⟨r1,g1⟩⟩:=qas ho;have eO:=hid (HB.out.trans (hb.mono HB.out.size));clear hb ho)))
      all_goals
       go_wp2_with fail
       go_meet
       refine⟨rfl,hid ?_⟩
       repeat (first|exact eO.out|exact HB.out|refine Below.drew ?_|refine Below.alloc ?_ (by first|exact eO.out.size|exact HB.out.size|(simp;first|(have:=eO.out.size;omega)|(have:=HB.out.size;omega))) _|refine Below.setCell ?_ (by simp;first|(have:=eO.out.size;omega)|(have:=HB.out.size;omega)) _)
     case rest=>
     obtain⟨rfl,HB⟩:=hcut;cases cb
     ·have xQ:Hid (∀j,k1<j→j<k2+1→qdj (qs.getD k1 (0,0)) (qs.getD j (0,0))=false):=hid fun j h1 h2=>by
       by_cases hjk:j<k2
       ·exact eU.out j h1 hjk
       ·obtain rfl:j=k2:=by omega
        exact tW.out
      go_wp2_with fail;go_roundw
      case rel=>exact⟨k2+1,by omega,by omega,by go_num,xQ,HB⟩
      case measure=>simp[intOf];omega
     ·have HFC:Hid (qdr qs k1 k2):=hid ⟨by omega,by rw[HN.out];exact Vb,tW.out,eU.out,fun h j a1 a2 a3=>gG.out h j a1 a2 (by have:=HN.out;omega)⟩
      go_wp2_with fail
      go_ret3
      exact rH.out _ _ _ HFC.out HB.out
    ·have jG:k2=n:=by omega
     have xE:¬(k2:Int)<(n:Int):=by omega
     have xQ:Hid (∀h j,h<k1+1→h<j→j<n→qdj (qs.getD h (0,0)) (qs.getD j (0,0))=false):=hid fun h j a1 a2 a3=>by
      by_cases hh:h<k1
      ·exact gG.out h j hh a2 a3
      ·obtain rfl:h=k1:=by omega
       exact eU.out j a2 (by omega)
     go_wp2_with fail;go_roundw
     case rel=>exact⟨k1+1,by omega,by go_num,xQ,HB⟩
     case measure=>simp[intOf];omega
  ·have xE:¬(k1:Int)<(n:Int):=by omega
   have Gt:Hid (qkl qs):=hid fun h j a1 a2=>gG.out h j (by have:=HN.out;omega) a1 (by have:=HN.out;omega);go_wp2_with fail
   go_ret3
   exact mH.out _ Gt.out HB.out
theorem qpm:∀ {es:List Nat} {k e:Nat},qac (es.take k)=0→es[k]? = some e→(e=0→qac (es.take (k+1))=0)∧(e≠0→qac es=e)
 | [],k,e,_,hk=>by simp at hk
 | x::es,0,e,_,hk=>by
  simp at hk;subst hk;constructor
  ·intro e0
   show qac [x]=0;unfold qac;rw[if_pos e0];rfl
  ·intro e0
   unfold qac;rw[if_neg e0]
 | x::es,k+1,e,h,hk=>by
  have h2:qac (x::es.take k)=0:=h;unfold qac at h2;by_cases hx:x=0
  ·rw[if_pos hx] at h2
   have ih:=qpm h2 (by simpa using hk);constructor
   ·intro e0
    show qac (x::es.take (k+1))=0;unfold qac;rw[if_pos hx];exact ih.1 e0
   ·intro e0
    unfold qac;rw[if_pos hx];exact ih.2 e0
  ·rw[if_neg hx] at h2
   exact absurd h2 hx
theorem qv4(v:Value)(l:List (BA × BA))(w:World)(hg:GW w)(hv:qbq w v l)(hs:∀s ∈ l,s.1.size≤2000∧s.2.size≤2000):
  Calls Tryz.prog 10 #[v] w fun e w'=>e = .returned (.int .i64 (qak l:Nat))∧Below w.heap.size w w':=by
 obtain⟨p,c,rfl,bP,bK,aA⟩:=hv;unfold maxLen at bK;have eY:=hid (zan w.heap.size w);by_cases h0:l.length=0
 ·have HR:Hid (qak l=2):=hid (by unfold qak;rw[if_pos h0])
  have hb:((l.length:Int)==0)=true:=by rw[h0];rfl
  clear aA hs hg;go_enter Tryz.func10,Tryz.ntmps10;go_wp2_with fail;go_ret;exact⟨by rw[HR.out];rfl,eY.out⟩
 have dL:((l.length:Int)==0)=false:=zat (by omega);by_cases h1:256<l.length
 ·have HR:Hid (qak l=5):=hid (by unfold qak;rw[if_neg h0,if_pos h1])
  clear aA hs hg;go_enter Tryz.func10,Tryz.ntmps10;go_wp2_with fail;go_ret;exact⟨by rw[HR.out];rfl,eY.out⟩
 have HR:Hid (qak l=qac (l.map qb1)):=hid (by unfold qak;rw[if_neg h0,if_neg h1]);obtain⟨b,o,rfl,aB⟩:=aA.resolve_left h0;have bN:=hid aB;have HS:=hid hs;have HG:=hid hg;have HES:Hid ((l.map qb1).length=l.length):=hid (List.length_map _);clear aA hs hg aB h0;go_enter Tryz.func10,Tryz.ntmps10;go_wp2_with fail
 go_loopw [3] (fun i wr=>∃k:Nat,k≤l.length∧i = .int .i64 k∧Hid (qac ((l.map qb1).take k)=0)∧Hid (Below w.heap.size w wr)) (fun i _=>l.length-(intOf i).toNat)
 case atStart=>exact⟨0,Nat.zero_le _,rfl,hid rfl,eY⟩
 case round=>
  obtain⟨k,hk,rfl,HF,HB⟩:=hrel;clear eY;by_cases bI:k<l.length
  ·obtain⟨s,eL⟩:∃s,l[k]? = some s:=⟨_,zau bI⟩
   obtain⟨e0,e1⟩:=bN.out k s eL;rw[←HB.out.cell (zaq w _ e0)] at e0;rw[←HB.out.cell (zaq w _ e1)] at e1;obtain⟨f0,f1⟩:=qpm HF.out (show(l.map qb1)[k]? = some (qb1 s) by rw[List.getElem?_map,eL];rfl);have iU:=HS.out s (zax eL);have HC:=hid ((qv0 s.1 s.2 wr (HG.out.later HB.out) iU.1 iU.2).mono (R':=fun e w'=>e = .returned (.int .i64 (qb1 s:Nat))∧Below wr.heap.size wr w') fun _ _ ⟨h1,h2⟩=>⟨h1,h2.1⟩);have Oq:(0:Int)≤(k:Int):=by omega
   have Dp:(k:Int)<(l.length:Int):=by omega
   clear eL iU;by_cases hz:qb1 s=0
   ·have mH:=hid (f0 hz)
    rw[hz] at HC;clear f0 f1 hz;generalize s.1=s1 at *;generalize s.2=s2 at *;go_wp2_with fail;refine HC.out.mono ?_;rintro e w1 ⟨rfl,bB⟩;have aQ:=hid (HB.out.trans (bB.mono HB.out.size));clear bB e0 e1 HC;go_wp2_with fail;go_roundw
    case rel=>exact⟨k+1,by omega,by go_num,mH,aQ⟩
    case measure=>simp[intOf];omega
   ·have mH:=hid (f1 hz)
    have hne:((qb1 s:Int) != 0)=true:=by simpa using hz
    have Ey:((qb1 s:Int)==0)=false:=zat (by omega);clear f0 f1 hz;generalize qb1 s=cr at *;generalize s.1=s1 at *;generalize s.2=s2 at *;go_wp2_with fail;refine HC.out.mono ?_;rintro e w1 ⟨rfl,bB⟩;have aQ:=hid (HB.out.trans (bB.mono HB.out.size));clear bB e0 e1 HC;go_wp2_with fail;go_ret;exact⟨qa0 (by rw[HR.out,mH.out]),aQ.out⟩
  ·have xE:¬(k:Int)<(l.length:Int):=by omega
   have cY:Hid (qak l=0):=hid (by rw[HR.out,←HF.out,List.take_of_length_le (by have:=HES.out;omega)]);go_wp2_with fail;go_ret;exact⟨qa0 (by rw[cY.out];rfl),HB.out⟩
def qi8(l:List (BA × BA)):Bool:=(decide (l.length≤10)||(decide (256<l.length)&&decide (l.length≤260)))&&l.all fun s=>decide (s.1.size≤20)&&decide (s.2.size≤20)
theorem qv5{l:List (BA × BA)}(h:qi8 l=true):(l.length≤10∨(256<l.length∧l.length≤260))∧∀s ∈ l,s.1.size≤20∧s.2.size≤20:=by
 unfold qi8 at h;rw[Bool.and_eq_true,List.all_eq_true] at h;refine⟨by simpa using h.1,fun s hs => ?_⟩;have:=h.2 s hs
 simpa using this
theorem q51{l:List (BA × BA)}{k:Nat}{s:BA × BA}{f:BA × BA→Bool}(hk:l[k]? = some s)(h:(l.take k).all f=true)(hs:f s=true):(l.take (k+1)).all f=true:=by
 rw[List.take_add_one,hk,List.all_append,h]
 simpa using hs
theorem q90(v:Value)(l:List (BA × BA))(w:World)(hv:qbq w v l):
  Calls Tryz.prog 5 #[v] w fun e w'=>e = .returned (.bool (qi8 l))∧w=w':=by
 obtain⟨p,c,rfl,bP,bK,aA⟩:=hv;unfold maxLen at bK;by_cases h1:(10<l.length∧l.length≤256)∨260<l.length
 ·have HR:Hid (qi8 l=false):=hid (by
   unfold qi8;rw[Bool.and_eq_false_iff]
   left
   rw[Bool.or_eq_false_iff,Bool.and_eq_false_iff];rcases h1 with⟨a,b⟩|a
   ·exact⟨zar (by omega),.inl (zar (by omega))⟩
   ·exact⟨zar (by omega),.inr (zar (by omega))⟩)
  clear aA;rcases h1 with⟨h1,h2⟩|h1
  all_goals
   go_enter Tryz.func5,Tryz.ntmps5;go_wp2_with fail;go_ret;exact⟨by rw[HR.out];rfl,rfl⟩
 ·have HC:=hid aA
  have aF:l.length≤10∨(256<l.length∧l.length≤260):=by omega
  have HR:Hid (qi8 l=l.all fun s=>decide (s.1.size≤20)&&decide (s.2.size≤20)):=hid (by
   unfold qi8;have:(decide (l.length≤10)||(decide (256<l.length)&&decide (l.length≤260)))=true:=by simpa using aF
   rw[this,Bool.true_and])
  clear aA h1;rcases aF with aF|⟨aF,hlen2⟩
  all_goals
   go_enter Tryz.func5,Tryz.ntmps5;go_wp2_with fail
   go_loop [3] (fun i=>∃k:Nat,k≤l.length∧i = .int .i64 k∧Hid (((l.take k).all fun s=>decide (s.1.size≤20)&&decide (s.2.size≤20))=true)) (fun i=>l.length-(intOf i).toNat)
   case atStart=>exact⟨0,Nat.zero_le _,rfl,hid rfl⟩
   case round=>
    obtain⟨k,hk,rfl,HA⟩:=hrel;by_cases bI:k<l.length
    ·rcases HC.out with h0|⟨b,o,rfl,aB⟩
     ·omega
     obtain⟨s,eL⟩:∃s,l[k]? = some s:=⟨_,zau bI⟩;obtain⟨e0,e1⟩:=aB k s eL
     have yN:Hid (¬(s.1.size≤20∧s.2.size≤20)→qi8 l=false):=hid fun hh=>by
      rw[HR.out,Bool.eq_false_iff];intro ha;rw[List.all_eq_true] at ha;exact hh (by simpa using ha s (zax eL))
     have Ep:Hid (s.1.size≤20→s.2.size≤20→((l.take (k+1)).all fun s=>decide (s.1.size≤20)&&decide (s.2.size≤20))=true):=hid fun a1 a2=>q51 eL HA.out (by simp[a1,a2]);have Oq:(0:Int)≤(k:Int):=by omega
     have Dp:(k:Int)<(l.length:Int):=by omega
     clear aB eL;generalize s.1=s1 at *;generalize s.2=s2 at *;by_cases a1:s1.size≤20
     ·by_cases a2:s2.size≤20
      ·have lD:=hid (Ep.out a1 a2)
       go_wp2_with fail;go_round
       case rel=>exact⟨k+1,by omega,by go_num,lD⟩
       case measure=>simp[intOf];omega
      ·have fM:=hid (yN.out fun h=>a2 h.2)
       go_wp2_with fail;go_ret;exact⟨by rw[fM.out];rfl,rfl⟩
     ·have fM:=hid (yN.out fun h=>a1 h.1)
      go_wp2_with fail;go_ret;exact⟨by rw[fM.out];rfl,rfl⟩
    ·have xE:¬(k:Int)<(l.length:Int):=by omega
     have cY:Hid (qi8 l=true):=hid (by rw[HR.out,←HA.out,List.take_of_length_le (by omega)]);go_wp2_with fail;go_ret;exact⟨by rw[cY.out];rfl,rfl⟩
end Go.Proofs.YtclimablgihlhaaGreatDoor
