/- Taking an operation of a region first, with fewer words. -/
import Derived.Deep.RegionHeld3
import Derived.Test.YtlinhlkgdlfefaaGreatDoorMKeeps
import Derived.Test.YtlinhlkgdlfefaaGreatDoorMNv
import Derived.Test.YtlinhlkgdlfefaaGreatDoorMRounded
set_option linter.all false
namespace Go.Proofs.YtlinhlkgdlfefaaGreatDoor
set_option maxRecDepth 100000
set_option maxHeartbeats 8000000
theorem qu9{l:List Oper}{i:Nat}{oi:Oper}{rest:List Oper}(h:l.drop i=oi::rest):l.toArray[i]? = some oi:=by
 have e:(l.drop i)[0]? = l[i+0]? := List.getElem?_drop;rw[h] at e;rw[List.getElem?_toArray];exact e.symm
theorem tku{P:Program}{l:List Oper}{Q:Exit→Act→World→Prop}{md:Region.Mode}{S:World→Prop}(i:Nat){oi:Oper}{rest:List Oper}{fuel:Nat}{listed:Array Bool}{a:Act}{w:World}(hi:l.drop i=oi::rest)
  (hc:(Region.noSelect l.toArray&&Region.free md l.toArray listed i&&(Region.ready md l.toArray listed).contains i)=true) (hw:Region.wanted oi (yielded l.toArray a.tmps)=false) (hS:S w)
  (hQ:∀c a w,Q (.panic c) (a.put oi.dst undef) w→Q (.panic c) a w) (h:wpAnyH P md l.toArray Q S fuel (listed.setIfInBounds i true) (a.put oi.dst undef) w):wpAnyH P md l.toArray Q S (fuel+1) listed a w:=by
 rw[Bool.and_eq_true,Bool.and_eq_true] at hc;exact wpAnyH_take (qu9 hi) hc.1.1 hc.1.2 hc.2 hQ (Or.inr ⟨hw,rfl⟩) hS h
theorem tkw{P:Program}{l:List Oper}{Q:Exit→Act→World→Prop}{md:Region.Mode}{S:World→Prop}(i:Nat){oi:Oper}{rest:List Oper}{v:Value}{fuel:Nat}{listed:Array Bool}{a:Act}{w:World}(hi:l.drop i=oi::rest)
  (hc:(Region.noSelect l.toArray&&Region.free md l.toArray listed i&&(Region.ready md l.toArray listed).contains i)=true) (hw:Region.wanted oi (yielded l.toArray a.tmps)=true) (hS:S w)
  (hQ:∀c a w,Q (.panic c) (a.put oi.dst v) w→Q (.panic c) a w) (hy:∀w,S w→(execOp a.eval oi).run P w = .ok (.value v) w) (h:wpAnyH P md l.toArray Q S fuel (listed.setIfInBounds i true) (a.put oi.dst v) w):wpAnyH P md l.toArray Q S (fuel+1) listed a w:=by
 rw[Bool.and_eq_true,Bool.and_eq_true] at hc;exact wpAnyH_take (qu9 hi) hc.1.1 hc.1.2 hc.2 hQ (Or.inl ⟨hw,hy⟩) hS h
end Go.Proofs.YtlinhlkgdlfefaaGreatDoor
namespace Go.Proofs.YtlinhlkgdlfefaaGreatDoor
open Go.RowKit
set_option maxRecDepth 100000
set_option maxHeartbeats 8000000
def fsB(l:List (ByteArray × ByteArray))(d:Nat):Bool:=l.all fun s=>qp1 s.1 d&&(qp1 s.2 d&&decide (qam s.1.data.toList≤qam s.2.data.toList))
theorem qm7{l:List (ByteArray × ByteArray)}{d:Nat}(h:fsB l d=true):∀s ∈ l,qp1 s.1 d=true∧qp1 s.2 d=true∧qam s.1.data.toList≤qam s.2.data.toList:=by
 intro s hs;unfold fsB at h;rw[List.all_eq_true] at h;have:=h s hs;rw[Bool.and_eq_true,Bool.and_eq_true] at this;exact⟨this.1,this.2.1,of_decide_eq_true this.2.2⟩
theorem q4c{l:List (ByteArray × ByteArray)}{d k:Nat}{s:ByteArray × ByteArray}(hk:l[k]? = some s)(h:¬(qp1 s.1 d=true∧qp1 s.2 d=true∧qam s.1.data.toList≤qam s.2.data.toList)):fsB l d=false:=by
 rw[Bool.eq_false_iff];exact fun e=>h (qm7 e s (List.mem_of_getElem? hk))
theorem q6y{l:List (ByteArray × ByteArray)}{d k:Nat}{s:ByteArray × ByteArray}(hk:l[k]? = some s)(h:fsB (l.take k) d=true)(h1:qp1 s.1 d=true)(h2:qp1 s.2 d=true)(h3:qam s.1.data.toList≤qam s.2.data.toList):fsB (l.take (k+1)) d=true:=by
 have e:l.take (k+1)=l.take k++[s]:=by rw[List.take_add_one,hk];rfl
 unfold fsB at h ⊢;rw[e,List.all_append,h];simp[h1,h2,h3]
theorem qgx(v:Value)(l:List (ByteArray × ByteArray))(n d:Nat)(w:World)(hv:qb7 w v l)(hd1:1≤d)(hd2:d≤1000)(hn:n≤1000):
  Calls Tryz.prog 6 #[v,.int .i64 (n:Int),.int .i64 (d:Int)] w fun e w'=>e = .returned (.bool (decide (l.length≤n)&&fsB l d))∧Below w.heap.size w w':=by
 obtain⟨p,c,rfl,hc1,hc2,hcells⟩:=hv;unfold maxLen at hc2;have HB0:=hid (Below.refl w.heap.size w);by_cases hlen:n<l.length
 ·rw[decide_eq_false (by omega)]
  clear hcells hd1 hd2;go_enter Tryz.func6,Tryz.ntmps6;go_wp2_with fail;go_ret;exact⟨rfl,HB0.out⟩
 ·rw[decide_eq_true (by omega:l.length≤n),Bool.true_and]
  have HC:=hid hcells;have HFW:=hid (fun(x:ByteArray) (W:World)=>zbj x d W hd1 (by omega));have HD:=hid hd1;have HD2:=hid hd2;obtain⟨r,hr⟩:∃r,fsB l d=r:=⟨_,rfl⟩;rw[hr];have HR:=hid hr;clear hcells hd1 hd2 hr;go_enter Tryz.func6,Tryz.ntmps6;go_wp2_with fail
  go_loopw [7] (fun i wr=>∃k:Nat,k≤l.length∧i = .int .i64 k∧Hid (fsB (l.take k) d=true)∧Hid (Below w.heap.size w wr)) (fun i _=>l.length-(intOf i).toNat)
  case atStart=>exact⟨0,Nat.zero_le _,rfl,hid rfl,HB0⟩
  case round=>
   obtain⟨k,hk,rfl,HT,HB⟩:=hrel;clear HB0;by_cases hlt:k<l.length
   ·rcases HC.out with h0|⟨b,o,rfl,hrow⟩
    ·omega
    obtain⟨s,hsk⟩:∃s,l[k]? = some s:=⟨_,List.getElem?_eq_getElem hlt⟩
    have HCELL:Hid (∀W,Below w.heap.size w W→W.cell? ⟨b,o+k*2,none⟩=some (.string s.1)∧W.cell? ⟨b,o+k*2+1,none⟩=some (.string s.2)):=hid fun W hW=>by
     obtain⟨e0,e1⟩:=hrow k s hsk;rw[hW.cell (World.block_lt_of_cell? w _ e0),hW.cell (World.block_lt_of_cell? w _ e1)];exact⟨e0,e1⟩
    have HBD:=hid (HB.out.drew);have hi0:(0:Int)≤(k:Int):=by omega
    have hi1:(k:Int)<(l.length:Int):=by omega
    have HFL:=hid (HFW.out s.1);have HFH:=hid (HFW.out s.2);have HSK:=hid hsk;clear hrow hsk;by_cases h1:qp1 s.1 d=true
    ·rw[h1] at HFL
     by_cases h2:qp1 s.2 d=true
     ·rw[h2] at HFH
      obtain⟨-,x1,y1⟩:=qdb h1 HD.out;obtain⟨-,x2,y2⟩:=qdb h2 HD.out
      have HCM:Hid (∀W:World,Calls Tryz.prog 21 #[.string s.1,.string s.2] W fun e w'=>e = .returned (.int .i64 (qcp (qam s.1.data.toList) (qam s.2.data.toList)))∧Below W.heap.size W w'):=hid fun W=>by
       have h:=qrc (qam s.1.data.toList) (qam s.2.data.toList) d W y1 y2 (by have:=HD2.out;omega);rw[←x1,←x2,qm6] at h;exact h
      have hle:=@qf0 (qam s.1.data.toList) (qam s.2.data.toList);clear x1 x2 y1 y2;by_cases h3:qam s.1.data.toList≤qam s.2.data.toList
      ·have HN:=hid (q6y HSK.out HT.out h1 h2 h3)
       have hz:¬0<qcp (qam s.1.data.toList) (qam s.2.data.toList):=by have:=hle.2 h3;omega
       clear hle h1 h2 h3 HT;generalize qcp (qam s.1.data.toList) (qam s.2.data.toList)=z at *;generalize s.1=t1 at *;generalize s.2=t2 at *;have eZ:=HCELL.out _ HBD.out;go_wp2_with fail
       go_region_held3 (fun W=>W.cell? ⟨b,o+k*2,none⟩=some (.string t1)∧W.cell? ⟨b,o+k*2+1,none⟩=some (.string t2)) (first|with_reducible exact eC|with_reducible exact eB|with_reducible exact eA|exact eZ)
        (first
         | (go_at_call 31;first
           | ((with_reducible refine(HFL.out _).mono ?_);rintro e wA ⟨rfl,hb⟩;have HBA:=hid (HBD.out.trans (hb.mono HBD.out.size));have eA:=HCELL.out _ HBA.out;clear hb)
           | ((with_reducible refine(HFH.out _).mono ?_);rintro e wB ⟨rfl,hb⟩;have HBB:=hid (HBA.out.trans (hb.mono HBA.out.size));have eB:=HCELL.out _ HBB.out;clear hb))
         | (go_at_call 21;((with_reducible refine(HCM.out _).mono ?_);rintro e wC ⟨rfl,hb⟩;have HBC:=hid (HBB.out.trans (hb.mono HBB.out.size));have eC:=HCELL.out _ HBC.out;clear hb)))
       all_goals
        go_wp2_with fail;go_roundw
        case rel=>exact⟨k+1,by omega,by go_num,HN,HBC⟩
        case measure=>simp[intOf];omega
      ·have HN:Hid (r=false):=hid (by rw[←HR.out];exact q4c HSK.out fun e=>h3 e.2.2)
       have hz:0<qcp (qam s.1.data.toList) (qam s.2.data.toList):=by
        rcases Int.lt_or_le 0 (qcp (qam s.1.data.toList) (qam s.2.data.toList)) with h|h
        ·exact h
        ·exact absurd (hle.1 h) h3
       clear hle h1 h2 h3 HT;generalize qcp (qam s.1.data.toList) (qam s.2.data.toList)=z at *;generalize s.1=t1 at *;generalize s.2=t2 at *;have eZ:=HCELL.out _ HBD.out;go_wp2_with fail
       go_region_held3 (fun W=>W.cell? ⟨b,o+k*2,none⟩=some (.string t1)∧W.cell? ⟨b,o+k*2+1,none⟩=some (.string t2)) (first|with_reducible exact eC|with_reducible exact eB|with_reducible exact eA|exact eZ)
        (first
         | (go_at_call 31;first
           | ((with_reducible refine(HFL.out _).mono ?_);rintro e wA ⟨rfl,hb⟩;have HBA:=hid (HBD.out.trans (hb.mono HBD.out.size));have eA:=HCELL.out _ HBA.out;clear hb)
           | ((with_reducible refine(HFH.out _).mono ?_);rintro e wB ⟨rfl,hb⟩;have HBB:=hid (HBA.out.trans (hb.mono HBA.out.size));have eB:=HCELL.out _ HBB.out;clear hb))
         | (go_at_call 21;((with_reducible refine(HCM.out _).mono ?_);rintro e wC ⟨rfl,hb⟩;have HBC:=hid (HBB.out.trans (hb.mono HBB.out.size));have eC:=HCELL.out _ HBC.out;clear hb)))
       all_goals
        go_wp2_with fail;go_ret;exact⟨by rw[HN.out];rfl,HBC.out⟩
     ·have h2':qp1 s.2 d=false:=by simpa using h2
      have HN:Hid (r=false):=hid (by rw[←HR.out];exact q4c HSK.out fun e=>h2 e.2.1);rw[h2'] at HFH;clear h1 h2 h2' HT;generalize s.1=t1 at *;generalize s.2=t2 at *;have eZ:=HCELL.out _ HBD.out;go_wp2_with fail;refine wp_region_held_drew (S:=(fun W=>W.cell? ⟨b,o+k*2,none⟩=some (.string t1)∧W.cell? ⟨b,o+k*2+1,none⟩=some (.string t2))) (by kernel_rfl) eZ (fun hHeld0 => ?_)
      refine' tkw 0 (v:=_) rfl (by kernel_rfl) (by kernel_rfl) hHeld0 (fun _ _ _ h=>h) ?q2_y1 ?_
      case q2_y1=>(intro w hSw;(try dsimp only at hSw);go_simp;(try with_reducible rfl))
      try simp only[Act.put,List.setIfInBounds_toArray,List.set_cons_zero,List.set_cons_succ]
      refine' tkw 1 (v:=_) rfl (by kernel_rfl) (by kernel_rfl) hHeld0 (fun _ _ _ h=>h) ?q2_y2 ?_
      case q2_y2=>(intro w hSw;(try dsimp only at hSw);go_simp;(try with_reducible rfl))
      try simp only[Act.put,List.setIfInBounds_toArray,List.set_cons_zero,List.set_cons_succ]
      refine' tkw 2 (v:=_) rfl (by kernel_rfl) (by kernel_rfl) hHeld0 (fun _ _ _ h=>h) ?q2_y3 ?_
      case q2_y3=>(intro w hSw;(try dsimp only at hSw);go_simp;(try with_reducible rfl))
      try simp only[Act.put,List.setIfInBounds_toArray,List.set_cons_zero,List.set_cons_succ]
      refine' tkw 3 (v:=_) rfl (by kernel_rfl) (by kernel_rfl) hHeld0 (fun _ _ _ h=>h) ?q2_y4 ?_
      case q2_y4=>(intro w hSw;(try dsimp only at hSw);go_simp;(try with_reducible rfl))
      try simp only[Act.put,List.setIfInBounds_toArray,List.set_cons_zero,List.set_cons_succ]
      refine' tkw 4 (v:=_) rfl (by kernel_rfl) (by kernel_rfl) hHeld0 (fun _ _ _ h=>h) ?q2_y5 ?_
      case q2_y5=>(intro w hSw;(try dsimp only at hSw);go_simp;(try with_reducible rfl))
      try simp only[Act.put,List.setIfInBounds_toArray,List.set_cons_zero,List.set_cons_succ]
      refine' tkw 5 (v:=_) rfl (by kernel_rfl) (by kernel_rfl) hHeld0 (fun _ _ _ h=>h) ?q2_y6 ?_
      case q2_y6=>(intro w hSw;(try dsimp only at hSw);go_simp;(try with_reducible rfl))
      try simp only[Act.put,List.setIfInBounds_toArray,List.set_cons_zero,List.set_cons_succ]
      refine wpAnyH_ready (rs:=[6]) (by kernel_rfl) (by simp) ?_;refine AllReadyH.cons rfl (fun K hK => ?q2_step7) ?q2_next7
      case q2_step7=>
       go_simp
       go_at_call 31;(with_reducible refine(HFL.out _).mono ?_);rintro e wA ⟨rfl,hb⟩;have HBA:=hid (HBD.out.trans (hb.mono HBD.out.size));have eA:=HCELL.out _ HBA.out;clear hb
       go_wp2_with fail;refine hK.out _ _ ?q2_hS1 (fun hHeld1 => ?q2_more1)
       case q2_hS1=>exact eA
       clear hK
       refine' tkw 7 (v:=_) rfl (by kernel_rfl) (by kernel_rfl) hHeld1 (fun _ _ _ h=>h) ?q2_y8 ?_
       case q2_y8=>(intro w hSw;(try dsimp only at hSw);go_simp;(try with_reducible rfl))
       try simp only[Act.put,List.setIfInBounds_toArray,List.set_cons_zero,List.set_cons_succ]
       refine' tkw 8 (v:=_) rfl (by kernel_rfl) (by kernel_rfl) hHeld1 (fun _ _ _ h=>h) ?q2_y9 ?_
       case q2_y9=>(intro w hSw;(try dsimp only at hSw);go_simp;(try with_reducible rfl))
       try simp only[Act.put,List.setIfInBounds_toArray,List.set_cons_zero,List.set_cons_succ]
       refine' tkw 9 (v:=_) rfl (by kernel_rfl) (by kernel_rfl) hHeld1 (fun _ _ _ h=>h) ?q2_y10 ?_
       case q2_y10=>(intro w hSw;(try dsimp only at hSw);go_simp;(try with_reducible rfl))
       try simp only[Act.put,List.setIfInBounds_toArray,List.set_cons_zero,List.set_cons_succ]
       refine' tkw 10 (v:=_) rfl (by kernel_rfl) (by kernel_rfl) hHeld1 (fun _ _ _ h=>h) ?q2_y11 ?_
       case q2_y11=>(intro w hSw;(try dsimp only at hSw);go_simp;(try with_reducible rfl))
       try simp only[Act.put,List.setIfInBounds_toArray,List.set_cons_zero,List.set_cons_succ]
       refine' tkw 11 (v:=_) rfl (by kernel_rfl) (by kernel_rfl) hHeld1 (fun _ _ _ h=>h) ?q2_y12 ?_
       case q2_y12=>(intro w hSw;(try dsimp only at hSw);go_simp;(try with_reducible rfl))
       try simp only[Act.put,List.setIfInBounds_toArray,List.set_cons_zero,List.set_cons_succ]
       refine' tkw 12 (v:=_) rfl (by kernel_rfl) (by kernel_rfl) hHeld1 (fun _ _ _ h=>h) ?q2_y13 ?_
       case q2_y13=>(intro w hSw;(try dsimp only at hSw);go_simp;(try with_reducible rfl))
       try simp only[Act.put,List.setIfInBounds_toArray,List.set_cons_zero,List.set_cons_succ]
       refine' tkw 13 (v:=_) rfl (by kernel_rfl) (by kernel_rfl) hHeld1 (fun _ _ _ h=>h) ?q2_y14 ?_
       case q2_y14=>(intro w hSw;(try dsimp only at hSw);go_simp;(try with_reducible rfl))
       try simp only[Act.put,List.setIfInBounds_toArray,List.set_cons_zero,List.set_cons_succ]
       refine' tkw 14 (v:=_) rfl (by kernel_rfl) (by kernel_rfl) hHeld1 (fun _ _ _ h=>h) ?q2_y15 ?_
       case q2_y15=>(intro w hSw;(try dsimp only at hSw);go_simp;(try with_reducible rfl))
       try simp only[Act.put,List.setIfInBounds_toArray,List.set_cons_zero,List.set_cons_succ]
       refine wpAnyH_ready (rs:=[15]) (by kernel_rfl) (by simp) ?_;refine AllReadyH.cons rfl (fun K hK => ?q2_step16) ?q2_next16
       case q2_step16=>
        go_simp
        go_at_call 31;(with_reducible refine(HFH.out _).mono ?_);rintro e wB ⟨rfl,hb⟩;have HBB:=hid (HBA.out.trans (hb.mono HBA.out.size));have eB:=HCELL.out _ HBB.out;clear hb
        go_wp2_with fail;refine hK.out _ _ ?q2_hS2 (fun hHeld2 => ?q2_more2)
        case q2_hS2=>exact eB
        clear hK
        refine' tkw 16 (v:=_) rfl (by kernel_rfl) (by kernel_rfl) hHeld2 (fun _ _ _ h=>h) ?q2_y17 ?_
        case q2_y17=>(intro w hSw;(try dsimp only at hSw);go_simp;(try with_reducible rfl))
        try simp only[Act.put,List.setIfInBounds_toArray,List.set_cons_zero,List.set_cons_succ]
        refine' tkw 17 (v:=_) rfl (by kernel_rfl) (by kernel_rfl) hHeld2 (fun _ _ _ h=>h) ?q2_y18 ?_
        case q2_y18=>(intro w hSw;(try dsimp only at hSw);go_simp;(try with_reducible rfl))
        try simp only[Act.put,List.setIfInBounds_toArray,List.set_cons_zero,List.set_cons_succ]
        refine' tkw 18 (v:=_) rfl (by kernel_rfl) (by kernel_rfl) hHeld2 (fun _ _ _ h=>h) ?q2_y19 ?_
        case q2_y19=>(intro w hSw;(try dsimp only at hSw);go_simp;(try with_reducible rfl))
        try simp only[Act.put,List.setIfInBounds_toArray,List.set_cons_zero,List.set_cons_succ]
        refine' tku 19 rfl (by kernel_rfl) (by kernel_rfl) hHeld2 (fun _ _ _ h=>h) ?_
        refine' tku 20 rfl (by kernel_rfl) (by kernel_rfl) hHeld2 (fun _ _ _ h=>h) ?_
        refine' tku 21 rfl (by kernel_rfl) (by kernel_rfl) hHeld2 (fun _ _ _ h=>h) ?_
        refine' tku 22 rfl (by kernel_rfl) (by kernel_rfl) hHeld2 (fun _ _ _ h=>h) ?_
        refine' tku 23 rfl (by kernel_rfl) (by kernel_rfl) hHeld2 (fun _ _ _ h=>h) ?_
        refine' tku 24 rfl (by kernel_rfl) (by kernel_rfl) hHeld2 (fun _ _ _ h=>h) ?_
        refine' tku 25 rfl (by kernel_rfl) (by kernel_rfl) hHeld2 (fun _ _ _ h=>h) ?_
        refine' tku 26 rfl (by kernel_rfl) (by kernel_rfl) hHeld2 (fun _ _ _ h=>h) ?_
        refine' tku 27 rfl (by kernel_rfl) (by kernel_rfl) hHeld2 (fun _ _ _ h=>h) ?_
        refine' tku 28 rfl (by kernel_rfl) (by kernel_rfl) hHeld2 (fun _ _ _ h=>h) ?_
        refine' tku 29 rfl (by kernel_rfl) (by kernel_rfl) hHeld2 (fun _ _ _ h=>h) ?_
        refine' tku 30 rfl (by kernel_rfl) (by kernel_rfl) hHeld2 (fun _ _ _ h=>h) ?_
        try simp only[Act.put,List.setIfInBounds_toArray,List.set_cons_zero,List.set_cons_succ]
        refine' tkw 31 (v:=_) rfl (by kernel_rfl) (by kernel_rfl) hHeld2 (fun _ _ _ h=>h) ?q2_y32 ?_
        case q2_y32=>(intro w hSw;(try dsimp only at hSw);go_simp;(try with_reducible rfl))
        try simp only[Act.put,List.setIfInBounds_toArray,List.set_cons_zero,List.set_cons_succ]
        refine wpAnyH_done (by kernel_rfl) ?_ _;go_wp2_with fail;go_ret;exact⟨by rw[HN.out];rfl,HBB.out⟩
       exact AllReadyH.nil
      exact AllReadyH.nil
    ·have h1':qp1 s.1 d=false:=by simpa using h1
     have HN:Hid (r=false):=hid (by rw[←HR.out];exact q4c HSK.out fun e=>h1 e.1);rw[h1'] at HFL;clear h1 h1' HT;generalize s.1=t1 at *;generalize s.2=t2 at *;have eZ:=HCELL.out _ HBD.out;go_wp2_with fail;refine wp_region_held_drew (S:=(fun W=>W.cell? ⟨b,o+k*2,none⟩=some (.string t1)∧W.cell? ⟨b,o+k*2+1,none⟩=some (.string t2))) (by kernel_rfl) eZ (fun hHeld0 => ?_)
     refine' tkw 0 (v:=_) rfl (by kernel_rfl) (by kernel_rfl) hHeld0 (fun _ _ _ h=>h) ?q1_y1 ?_
     case q1_y1=>(intro w hSw;(try dsimp only at hSw);go_simp;(try with_reducible rfl))
     try simp only[Act.put,List.setIfInBounds_toArray,List.set_cons_zero,List.set_cons_succ]
     refine' tkw 1 (v:=_) rfl (by kernel_rfl) (by kernel_rfl) hHeld0 (fun _ _ _ h=>h) ?q1_y2 ?_
     case q1_y2=>(intro w hSw;(try dsimp only at hSw);go_simp;(try with_reducible rfl))
     try simp only[Act.put,List.setIfInBounds_toArray,List.set_cons_zero,List.set_cons_succ]
     refine' tkw 2 (v:=_) rfl (by kernel_rfl) (by kernel_rfl) hHeld0 (fun _ _ _ h=>h) ?q1_y3 ?_
     case q1_y3=>(intro w hSw;(try dsimp only at hSw);go_simp;(try with_reducible rfl))
     try simp only[Act.put,List.setIfInBounds_toArray,List.set_cons_zero,List.set_cons_succ]
     refine' tkw 3 (v:=_) rfl (by kernel_rfl) (by kernel_rfl) hHeld0 (fun _ _ _ h=>h) ?q1_y4 ?_
     case q1_y4=>(intro w hSw;(try dsimp only at hSw);go_simp;(try with_reducible rfl))
     try simp only[Act.put,List.setIfInBounds_toArray,List.set_cons_zero,List.set_cons_succ]
     refine' tkw 4 (v:=_) rfl (by kernel_rfl) (by kernel_rfl) hHeld0 (fun _ _ _ h=>h) ?q1_y5 ?_
     case q1_y5=>(intro w hSw;(try dsimp only at hSw);go_simp;(try with_reducible rfl))
     try simp only[Act.put,List.setIfInBounds_toArray,List.set_cons_zero,List.set_cons_succ]
     refine' tkw 5 (v:=_) rfl (by kernel_rfl) (by kernel_rfl) hHeld0 (fun _ _ _ h=>h) ?q1_y6 ?_
     case q1_y6=>(intro w hSw;(try dsimp only at hSw);go_simp;(try with_reducible rfl))
     try simp only[Act.put,List.setIfInBounds_toArray,List.set_cons_zero,List.set_cons_succ]
     refine wpAnyH_ready (rs:=[6]) (by kernel_rfl) (by simp) ?_;refine AllReadyH.cons rfl (fun K hK => ?q1_step7) ?q1_next7
     case q1_step7=>
      go_simp
      go_at_call 31;(with_reducible refine(HFL.out _).mono ?_);rintro e wA ⟨rfl,hb⟩;have HBA:=hid (HBD.out.trans (hb.mono HBD.out.size));have eA:=HCELL.out _ HBA.out;clear hb
      go_wp2_with fail;refine hK.out _ _ ?q1_hS1 (fun hHeld1 => ?q1_more1)
      case q1_hS1=>exact eA
      clear hK
      refine' tkw 7 (v:=_) rfl (by kernel_rfl) (by kernel_rfl) hHeld1 (fun _ _ _ h=>h) ?q1_y8 ?_
      case q1_y8=>(intro w hSw;(try dsimp only at hSw);go_simp;(try with_reducible rfl))
      try simp only[Act.put,List.setIfInBounds_toArray,List.set_cons_zero,List.set_cons_succ]
      refine' tkw 8 (v:=_) rfl (by kernel_rfl) (by kernel_rfl) hHeld1 (fun _ _ _ h=>h) ?q1_y9 ?_
      case q1_y9=>(intro w hSw;(try dsimp only at hSw);go_simp;(try with_reducible rfl))
      try simp only[Act.put,List.setIfInBounds_toArray,List.set_cons_zero,List.set_cons_succ]
      refine' tku 9 rfl (by kernel_rfl) (by kernel_rfl) hHeld1 (fun _ _ _ h=>h) ?_
      refine' tku 10 rfl (by kernel_rfl) (by kernel_rfl) hHeld1 (fun _ _ _ h=>h) ?_
      refine' tku 11 rfl (by kernel_rfl) (by kernel_rfl) hHeld1 (fun _ _ _ h=>h) ?_
      refine' tku 12 rfl (by kernel_rfl) (by kernel_rfl) hHeld1 (fun _ _ _ h=>h) ?_
      refine' tku 13 rfl (by kernel_rfl) (by kernel_rfl) hHeld1 (fun _ _ _ h=>h) ?_
      refine' tku 14 rfl (by kernel_rfl) (by kernel_rfl) hHeld1 (fun _ _ _ h=>h) ?_
      refine' tku 15 rfl (by kernel_rfl) (by kernel_rfl) hHeld1 (fun _ _ _ h=>h) ?_
      refine' tku 16 rfl (by kernel_rfl) (by kernel_rfl) hHeld1 (fun _ _ _ h=>h) ?_
      try simp only[Act.put,List.setIfInBounds_toArray,List.set_cons_zero,List.set_cons_succ]
      refine' tkw 17 (v:=_) rfl (by kernel_rfl) (by kernel_rfl) hHeld1 (fun _ _ _ h=>h) ?q1_y18 ?_
      case q1_y18=>(intro w hSw;(try dsimp only at hSw);go_simp;(try with_reducible rfl))
      try simp only[Act.put,List.setIfInBounds_toArray,List.set_cons_zero,List.set_cons_succ]
      refine' tkw 18 (v:=_) rfl (by kernel_rfl) (by kernel_rfl) hHeld1 (fun _ _ _ h=>h) ?q1_y19 ?_
      case q1_y19=>(intro w hSw;(try dsimp only at hSw);go_simp;(try with_reducible rfl))
      try simp only[Act.put,List.setIfInBounds_toArray,List.set_cons_zero,List.set_cons_succ]
      refine' tku 19 rfl (by kernel_rfl) (by kernel_rfl) hHeld1 (fun _ _ _ h=>h) ?_
      refine' tku 20 rfl (by kernel_rfl) (by kernel_rfl) hHeld1 (fun _ _ _ h=>h) ?_
      refine' tku 21 rfl (by kernel_rfl) (by kernel_rfl) hHeld1 (fun _ _ _ h=>h) ?_
      refine' tku 22 rfl (by kernel_rfl) (by kernel_rfl) hHeld1 (fun _ _ _ h=>h) ?_
      refine' tku 23 rfl (by kernel_rfl) (by kernel_rfl) hHeld1 (fun _ _ _ h=>h) ?_
      refine' tku 24 rfl (by kernel_rfl) (by kernel_rfl) hHeld1 (fun _ _ _ h=>h) ?_
      refine' tku 25 rfl (by kernel_rfl) (by kernel_rfl) hHeld1 (fun _ _ _ h=>h) ?_
      refine' tku 26 rfl (by kernel_rfl) (by kernel_rfl) hHeld1 (fun _ _ _ h=>h) ?_
      refine' tku 27 rfl (by kernel_rfl) (by kernel_rfl) hHeld1 (fun _ _ _ h=>h) ?_
      refine' tku 28 rfl (by kernel_rfl) (by kernel_rfl) hHeld1 (fun _ _ _ h=>h) ?_
      refine' tku 29 rfl (by kernel_rfl) (by kernel_rfl) hHeld1 (fun _ _ _ h=>h) ?_
      refine' tku 30 rfl (by kernel_rfl) (by kernel_rfl) hHeld1 (fun _ _ _ h=>h) ?_
      try simp only[Act.put,List.setIfInBounds_toArray,List.set_cons_zero,List.set_cons_succ]
      refine' tkw 31 (v:=_) rfl (by kernel_rfl) (by kernel_rfl) hHeld1 (fun _ _ _ h=>h) ?q1_y32 ?_
      case q1_y32=>(intro w hSw;(try dsimp only at hSw);go_simp;(try with_reducible rfl))
      try simp only[Act.put,List.setIfInBounds_toArray,List.set_cons_zero,List.set_cons_succ]
      refine wpAnyH_done (by kernel_rfl) ?_ _;go_wp2_with fail;go_ret;exact⟨by rw[HN.out];rfl,HBA.out⟩
     exact AllReadyH.nil
   ·have HN:Hid (r=true):=hid (by have:=HT.out;rw[List.take_of_length_le (by omega)] at this;rw[←HR.out];exact this)
    clear HT;go_wp2_with fail;go_ret;exact⟨by rw[HN.out];rfl,HB.out⟩
theorem q0s(w:World)(k s:ByteArray)(t:TypeId):qoa w k s (w.alloc (.cells #[.string k,.string s] t)):=
 ⟨(Below.refl _ _).alloc (Nat.le_refl _) _,qck _ _ _ _⟩
theorem qhg(a lo hi:Rat)(k:Nat)(w:World)(sa:sm a k)(sl:sm lo k)(sh:sm hi k)(hk:k≤2000)(h1:lo≤a)(h2:a≤hi):
  Calls Tryz.prog 11 #[.string (rt a),.agg #[.string (rt lo),.string (rt hi)]] w fun e w'=>e = .returned (.bool true)∧Below w.heap.size w w':=by
 have HC1:Hid (∀W:World,Calls Tryz.prog 21 #[.string (rt lo),.string (rt a)] W fun e w'=>e = .returned (.int .i64 (qcp lo a))∧Below W.heap.size W w'):=hid fun W=>by have h:=qrc lo a k W sl sa hk;rw[qm6] at h;exact h
 have HC2:Hid (∀W:World,Calls Tryz.prog 21 #[.string (rt a),.string (rt hi)] W fun e w'=>e = .returned (.int .i64 (qcp a hi))∧Below W.heap.size W w'):=hid fun W=>by have h:=qrc a hi k W sa sh hk;rw[qm6] at h;exact h
 have g1:qcp lo a≤0:=qf0.2 h1;have g2:qcp a hi≤0:=qf0.2 h2;have HB:=hid (q0s w (rt lo) (rt hi) 24);clear sa sl sh hk h1 h2;generalize qcp lo a=y1 at *;generalize qcp a hi=y2 at *;generalize rt a=ta at *;generalize rt lo=tl at *;generalize rt hi=th at *;obtain⟨c0,c1⟩:=qac HB.out.2;go_enter Tryz.func11,Tryz.ntmps11;go_wp2_with fail;refine(HC1.out _).mono ?_;rintro e w1 ⟨rfl,hb⟩;have HB1:=hid (HB.out.later hb);clear c0 c1 hb HB HC1;obtain⟨c0,c1⟩:=qac HB1.out.2;go_wp2_with fail;refine(HC2.out _).mono ?_;rintro e w2 ⟨rfl,hb⟩;have HB2:=hid (HB1.out.later hb);clear c0 c1 hb HB1 HC2;go_wp2_with fail;go_ret;exact⟨rfl,HB2.out.1⟩
end Go.Proofs.YtlinhlkgdlfefaaGreatDoor
