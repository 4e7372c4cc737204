/- MeasureHelly. -/
import Derived.Test.YtlinhlkgdlfefaaGreatDoorMFewSpans
import Derived.Test.YtlinhlkgdlfefaaGreatDoorMHull
import Derived.Test.YtlinhlkgdlfefaaGreatDoorMSpansAid
set_option linter.all false
namespace Go.Proofs.YtlinhlkgdlfefaaGreatDoor
open Go.RowKit
set_option maxRecDepth 100000
set_option maxHeartbeats 16000000
structure zbd(l:List (ByteArray × ByteArray)):Prop where
 ne:l.map spQ≠[]
 err:qbc l=0
 ok:∀s ∈ l,s=(rt (spQ s).1,rt (spQ s).2)∧sm (spQ s).1 6∧sm (spQ s).2 6∧(spQ s).1≤(spQ s).2
theorem qys{l:List (ByteArray × ByteArray)}(h0:l.length≠0)(h8:l.length≤8)(hf:fsB l 6=true):zbd l:=by
 have hok:∀s ∈ l,s=(rt (spQ s).1,rt (spQ s).2)∧sm (spQ s).1 6∧sm (spQ s).2 6∧(spQ s).1≤(spQ s).2:=fun s hs=>by
  obtain⟨f1,f2,f3⟩:=qm7 hf s hs;obtain⟨-,x1,y1⟩:=qdb f1 (by decide);obtain⟨-,x2,y2⟩:=qdb f2 (by decide);exact⟨Prod.ext x1 x2,y1,y2,f3⟩
 refine⟨fun e=>h0 (by have:=congrArg List.length e;simpa using this), ?_,hok⟩;unfold qbc;rw[if_neg h0,if_neg (by omega)]
 have:∀x ∈ l.map qbf,x=0:=fun x hx=>by
  obtain⟨s,hs,rfl⟩:=List.mem_map.1 hx;obtain⟨f1,f2,f3⟩:=qm7 hf s hs;obtain⟨x1,-,-⟩:=qdb f1 (by decide);obtain⟨x2,-,-⟩:=qdb f2 (by decide);unfold qbf qcl;rw[x1,x2,if_neg (by decide),if_neg (by have:=qf0.2 f3;omega)]
 clear hok hf h8 h0;generalize l.map qbf=es at *
 induction es with
 | nil=>rfl
 | cons e es ih=>
  unfold qad;rw[if_pos (this e (List.mem_cons_self ..))];exact ih fun x hx=>this x (List.mem_cons_of_mem _ hx)
theorem qrj(v:Value)(l:List (ByteArray × ByteArray))(w:World)(hg:GW w)(hv:qb7 w v l)(h:l.length=0∨(l.length≠0∧(decide (l.length≤8)&&fsB l 6)=false)):Calls Tryz.prog 4 #[v] w fun e w'=>e = .returned (.bool true)∧Below w.heap.size w w':=by
 have J:=qu6 hg;have HAW:=hid (qgw J);have HFS:=hid (qbo J fun W hW _=>qgx v l 8 6 W (hv.later hW) (by decide) (by decide) (by decide));have HB:=hid (Below.refl w.heap.size w);obtain⟨p,c,rfl,hc1,hc2,-⟩:=hv;unfold maxLen at hc2;clear J hg;rcases h with h0|⟨h0,hf⟩
 ·have hl:((l.length:Int)==0)=true:=by rw[h0];rfl
  clear h0 HFS;go_enter Tryz.func4,Tryz.ntmps4;go_wp2_with fail;refine kgo HAW.out HB fun wN HB => ?_;go_wp2_with fail;refine kgo HAW.out HB fun wN HB => ?_;clear HAW;go_wp2_with fail;go_ret;exact⟨rfl,HB.out⟩
 ·have hl:((l.length:Int)==0)=false:=beq_eq_false_iff_ne.2 (by omega)
  rw[hf] at HFS;clear h0 hf;go_enter Tryz.func4,Tryz.ntmps4;go_wp2_with fail;refine kgo HAW.out HB fun wN HB => ?_;go_wp2_with fail;refine kgo HFS.out HB fun wN HB => ?_;clear HFS;go_wp2_with fail;refine kgo HAW.out HB fun wN HB => ?_;clear HAW;go_wp2_with fail;go_ret;exact⟨rfl,HB.out⟩
theorem bx2{w W:World}{g1 g2:Nat}{a1 a2 b1 b2:ByteArray}(h:Bxs w [(g1,a1,b1),(g2,a2,b2)] W):
  W.cell? ⟨g1,0,none⟩=some (.string a1)∧W.cell? ⟨g1,1,none⟩=some (.string b1)∧W.cell? ⟨g2,0,none⟩=some (.string a2)∧W.cell? ⟨g2,1,none⟩=some (.string b2):=by
 obtain⟨c0,c1,c2,c3,-⟩:=qcg h;exact⟨c0,c1,c2,c3⟩
theorem q4t(w:World):Bxs w [] w:=⟨Below.refl _ _,fun r hr=>by cases hr⟩
theorem q0z(v:Value)(l:List (ByteArray × ByteArray))(w:World)(hg:GW w)(hv:qb7 w v l)(h0:l.length≠0)(h8:l.length≤8)(hf:fsB l 6=true)(hm:(qcm (l.map spQ)).1≤(qcm (l.map spQ)).2):Calls Tryz.prog 4 #[v] w fun e w'=>e = .returned (.bool true)∧Below w.heap.size w w':=by
 have J:=qsq (w:=w) hg;have HI:=qys h0 h8 hf;obtain⟨hh1,⟨sa,ha,ea⟩,sb,hb,eb⟩:=qvq HI.ne;obtain⟨mm1,⟨sc,hc,ec⟩,sd,hd,ed⟩:=ql9 HI.ne
 have hsm:∀s ∈ l.map spQ,sm s.1 6∧sm s.2 6∧s.1≤s.2:=fun s hs=>by
  obtain⟨t,ht,rfl⟩:=List.mem_map.1 hs;exact(HI.ok t ht).2
 have s1:sm (qdd (l.map spQ)).1 6:=by rw[ea];exact(hsm sa ha).1
 have s2:sm (qdd (l.map spQ)).2 6:=by rw[eb];exact(hsm sb hb).2.1
 have s3:sm (qcm (l.map spQ)).1 6:=by rw[ec];exact(hsm sc hc).1
 have s4:sm (qcm (l.map spQ)).2 6:=by rw[ed];exact(hsm sd hd).2.1
 have hle:(qdd (l.map spQ)).1≤(qdd (l.map spQ)).2:=Rat.le_trans (hh1 sa ha).1 (Rat.le_trans (hsm sa ha).2.2 (hh1 sa ha).2)
 have hsz:∀s ∈ l,s.1.size≤1073741824∧s.2.size≤1073741824:=fun s hs=>by
  obtain⟨e,y1,y2,-⟩:=HI.ok s hs;rw[e];exact⟨by have:=qb5 y1;show(rt (spQ s).1).size≤_;omega,by have:=qb5 y2;show(rt (spQ s).2).size≤_;omega⟩
 have HAW:=hid fun L=>qgw (J L);have QFS:=fun L=>qbo (J L) fun W hW _=>qgx v l 8 6 W (hv.later hW.1) (by decide) (by decide) (by decide);rw[decide_eq_true h8,hf] at QFS;have HFS:Hid (∀L:List (Nat × ByteArray × ByteArray),qgv (Bxs w L) 6 #[v,.int .i64 8,.int .i64 6] (.bool true)):=hid QFS
 have HHU:Hid (∀L:List (Nat × ByteArray × ByteArray),qgv (Bxs w L) 19 #[v] (.tuple #[.agg #[.string (rt (qdd (l.map spQ)).1),.string (rt (qdd (l.map spQ)).2)],.int .i64 0])):=hid fun L=>qbo (J L) fun W hW hgW=>(q4r v l W hgW (hv.later hW.1) hsz HI.err).mono fun _ _ h=>by
  obtain⟨h1,h2⟩:=qjp h;obtain⟨e1,e2,e3⟩:=qis s1 s2 (by decide);rw[e1,e2,e3] at h1;exact⟨h1,h2⟩
 have HME:Hid (∀L:List (Nat × ByteArray × ByteArray),qgv (Bxs w L) 17 #[v] (.tuple #[.agg #[.string (rt (qcm (l.map spQ)).1),.string (rt (qcm (l.map spQ)).2)],.int .i64 0])):=hid fun L=>qbo (J L) fun W hW hgW=>(q4s v l W hgW (hv.later hW.1) hsz HI.err).mono fun _ _ h=>by
  unfold qvs at h;rw[if_pos hm] at h;obtain⟨h1,h2⟩:=qjp h;obtain⟨e1,e2,e3⟩:=qis s3 s4 (by decide);rw[e1,e2,e3] at h1;exact⟨h1,h2⟩
 have HCL:Hid (∀L:List (Nat × ByteArray × ByteArray),qgv (Bxs w L) 18 #[v] (.tuple #[.int .i64 0,.int .i64 0,.int .i64 7])):=hid fun L=>qbo (J L) fun W hW hgW=>(qpg v l W hgW (hv.later hW.1) hsz).mono fun _ _ h=>by
  obtain⟨h1,h2⟩:=h;rw[if_neg (by rw[HI.err];decide)] at h1;rcases h1 with⟨i,k,hfc,-⟩|⟨-,h1⟩
  ·have:=q64 HI.ne hm i k (by have:=hfc.1;have:=hfc.2.1;omega) hfc.2.1
   rw[hfc.2.2.1] at this;cases this
  ·exact⟨h1,h2⟩
 have HCM:Hid (∀L:List (Nat × ByteArray × ByteArray),qgv (Bxs w L) 20 #[.agg #[.string (rt (qcm (l.map spQ)).1),.string (rt (qcm (l.map spQ)).2)]] (.int .i64 0)):=hid fun L=>qbo (J L) fun W _ hW=>(qk9 _ _ W hW (by have:=qb5 s3;omega) (by have:=qb5 s4;omega)).mono fun _ _ ⟨h1,h2⟩=>⟨by
  rw[h1];unfold qcl;rw[qgh (qb8 s3 (by decide)),qgh (qb8 s4 (by decide)),qdh,qdh,if_neg (by decide),if_neg (by have:=qf0.2 hm;omega)]
  rfl,h2.1⟩
 have HCH:Hid (∀L:List (Nat × ByteArray × ByteArray),qgv (Bxs w L) 20 #[.agg #[.string (rt (qdd (l.map spQ)).1),.string (rt (qdd (l.map spQ)).2)]] (.int .i64 0)):=hid fun L=>qbo (J L) fun W _ hW=>(qk9 _ _ W hW (by have:=qb5 s1;omega) (by have:=qb5 s2;omega)).mono fun _ _ ⟨h1,h2⟩=>⟨by
  rw[h1];unfold qcl;rw[qgh (qb8 s1 (by decide)),qgh (qb8 s2 (by decide)),qdh,qdh,if_neg (by decide),if_neg (by have:=qf0.2 hle;omega)]
  rfl,h2.1⟩
 have HIN:Hid (∀(j:Nat) (s:ByteArray × ByteArray),l[j]? = some s→∀W:World,(Calls Tryz.prog 11 #[.string s.1,.agg #[.string (rt (qdd (l.map spQ)).1),.string (rt (qdd (l.map spQ)).2)]] W fun e w'=>e = .returned (.bool true)∧Below W.heap.size W w')∧(Calls Tryz.prog 11 #[.string s.2,.agg #[.string (rt (qdd (l.map spQ)).1),.string (rt (qdd (l.map spQ)).2)]] W fun e w'=>e = .returned (.bool true)∧Below W.heap.size W w')):=hid fun j s hj W=>by
  have hs:=List.mem_of_getElem? hj;obtain⟨e,y1,y2,hle2⟩:=HI.ok s hs;have hb1:=hh1 (spQ s) (List.mem_map_of_mem hs);have e1:s.1=rt (spQ s).1:=congrArg Prod.fst e;have e2:s.2=rt (spQ s).2:=congrArg Prod.snd e;rw[e1,e2];exact⟨qhg _ _ _ 6 W y1 s1 s2 (by decide) hb1.1 (Rat.le_trans hle2 hb1.2),qhg _ _ _ 6 W y2 s1 s2 (by decide) (Rat.le_trans hb1.1 hle2) hb1.2⟩
 have HIM:Hid (∀(j:Nat) (s:ByteArray × ByteArray),l[j]? = some s→∀W:World,(Calls Tryz.prog 11 #[.string (rt (qcm (l.map spQ)).1),.agg #[.string s.1,.string s.2]] W fun e w'=>e = .returned (.bool true)∧Below W.heap.size W w')∧(Calls Tryz.prog 11 #[.string (rt (qcm (l.map spQ)).2),.agg #[.string s.1,.string s.2]] W fun e w'=>e = .returned (.bool true)∧Below W.heap.size W w')):=hid fun j s hj W=>by
  have hs:=List.mem_of_getElem? hj;obtain⟨e,y1,y2,hle2⟩:=HI.ok s hs;have hb1:=mm1 (spQ s) (List.mem_map_of_mem hs);have e1:s.1=rt (spQ s).1:=congrArg Prod.fst e;have e2:s.2=rt (spQ s).2:=congrArg Prod.snd e;rw[e1,e2];exact⟨qhg _ _ _ 6 W s3 y1 y2 (by decide) hb1.1 (Rat.le_trans hm hb1.2),qhg _ _ _ 6 W s4 y1 y2 (by decide) (Rat.le_trans hb1.1 hm) hb1.2⟩
 have HB:=hid (q4t w);obtain⟨p,c,rfl,hc1,hc2,hcells⟩:=hv;obtain⟨b,o,rfl,hrow⟩:=hcells.resolve_left h0
 have HCELL:Hid (∀(j:Nat) (s:ByteArray × ByteArray),l[j]? = some s→∀W,Below w.heap.size w W→W.cell? ⟨b,o+j*2,none⟩=some (.string s.1)∧W.cell? ⟨b,o+j*2+1,none⟩=some (.string s.2)):=hid fun j s hj W hW=>by
  obtain⟨e0,e1⟩:=hrow j s hj;rw[hW.cell (World.block_lt_of_cell? w _ e0),hW.cell (World.block_lt_of_cell? w _ e1)];exact⟨e0,e1⟩
 unfold maxLen at hc2;have hl:((l.length:Int)==0)=false:=beq_eq_false_iff_ne.2 (by omega);clear J HI hh1 mm1 hsm s1 s2 s3 s4 hle hsz hm hf h0 ha hb hc hd ea eb ec ed hg hcells hrow sa sb sc sd QFS;generalize rt (qcm (l.map spQ)).1=m1 at *;generalize rt (qcm (l.map spQ)).2=m2 at *;generalize rt (qdd (l.map spQ)).1=x1 at *;generalize rt (qdd (l.map spQ)).2=x2 at *;go_enter Tryz.func4,Tryz.ntmps4;go_wp2_with fail;refine kgo (HAW.out _) HB fun wN HB => ?_;clear HAW;go_wp2_with fail;refine kgo (HFS.out _) HB fun wN HB => ?_;clear HFS;go_wp2_with fail;refine kgo (HME.out _) HB fun wX HB2 => ?_;clear HME HB;have HB:=hid (qdc HB2.out 24 m1 m2);clear HB2;go_wp2_with fail;refine kgo (HCL.out _) HB fun wN HB => ?_;clear HCL;go_wp2_with fail;refine kgo (HHU.out _) HB fun wY HB2 => ?_;clear HHU HB;have HB:=hid (qdc HB2.out 24 x1 x2);clear HB2;obtain⟨c0,c1,c2,c3⟩:=bx2 HB.out;go_wp2_with fail;refine kgo (HCH.out _) HB fun wN HB => ?_;clear HCH c0 c1 c2 c3;go_wp2_with fail
 go_loopw [10] (fun i wr=>∃k:Nat,k≤l.length∧i = .int .i64 k∧Hid (Bxs w [(wY.heap.size,x1,x2),(wX.heap.size,m1,m2)] wr)) (fun i _=>l.length-(intOf i).toNat)
 case atStart=>exact⟨0,Nat.zero_le _,rfl,HB⟩
 case round=>
  obtain⟨k,hk,rfl,HBW⟩:=hrel;clear HB;by_cases hlt:k<l.length
  ·obtain⟨s,hsk⟩:∃s,l[k]? = some s:=⟨_,List.getElem?_eq_getElem hlt⟩
   have HROW:=hid (HCELL.out k s hsk);have HI1:=hid (fun W=>(HIN.out k s hsk W).1);have HI2:=hid (fun W=>(HIN.out k s hsk W).2);have HI3:=hid (fun W=>(HIM.out k s hsk W).1);have HI4:=hid (fun W=>(HIM.out k s hsk W).2);have hi0:(0:Int)≤(k:Int):=by omega
   have hi1:(k:Int)<(l.length:Int):=by omega
   clear hsk;generalize s.1=t1 at *;generalize s.2=t2 at *;have HBD:=hid (HBW.out.later (Below.refl _ _).drew);clear HBW;have HSS:Hid (∀W,Bxs w [(wY.heap.size,x1,x2),(wX.heap.size,m1,m2)] W→W.cell? ⟨b,o+k*2,none⟩=some (.string t1)∧W.cell? ⟨b,o+k*2+1,none⟩=some (.string t2)∧W.cell? ⟨wY.heap.size,0,none⟩=some (.string x1)∧W.cell? ⟨wY.heap.size,1,none⟩=some (.string x2)∧W.cell? ⟨wX.heap.size,0,none⟩=some (.string m1)∧W.cell? ⟨wX.heap.size,1,none⟩=some (.string m2)):=hid fun W hW=>⟨(HROW.out W hW.1).1,(HROW.out W hW.1).2,(bx2 hW).1,(bx2 hW).2.1,(bx2 hW).2.2.1,(bx2 hW).2.2.2⟩;have QCM:=qb2 (I:=Bxs w [(wY.heap.size,x1,x2),(wX.heap.size,m1,m2)]) (HCM.out _);have eZ:=HSS.out _ HBD.out;go_wp2_with fail
   go_region_held3 (fun W=>W.cell? ⟨b,o+k*2,none⟩=some (.string t1)∧W.cell? ⟨b,o+k*2+1,none⟩=some (.string t2)∧W.cell? ⟨wY.heap.size,0,none⟩=some (.string x1)∧W.cell? ⟨wY.heap.size,1,none⟩=some (.string x2)∧W.cell? ⟨wX.heap.size,0,none⟩=some (.string m1)∧W.cell? ⟨wX.heap.size,1,none⟩=some (.string m2)) (first|with_reducible exact eE|with_reducible exact eD|with_reducible exact eC|with_reducible exact eB|with_reducible exact eA|exact eZ)
    (first
     | (go_at_call 20;((with_reducible refine(QCM.out _ HBB.out).mono ?_);rintro e wC ⟨rfl,hb⟩;have HBC:=hid hb;have eC:=HSS.out _ hb;clear hb))
     | (go_at_call 11;first
       | ((with_reducible refine(HI1.out _).mono ?_);rintro e wA ⟨rfl,hb⟩;have HBA:=hid (HBD.out.later hb);have eA:=HSS.out _ HBA.out;clear hb)
       | ((with_reducible refine(HI2.out _).mono ?_);rintro e wB ⟨rfl,hb⟩;have HBB:=hid (HBA.out.later hb);have eB:=HSS.out _ HBB.out;clear hb)
       | ((with_reducible refine(HI3.out _).mono ?_);rintro e wD ⟨rfl,hb⟩;have HBD2:=hid (HBC.out.later hb);have eD:=HSS.out _ HBD2.out;clear hb)
       | ((with_reducible refine(HI4.out _).mono ?_);rintro e wE ⟨rfl,hb⟩;have HBE:=hid (HBD2.out.later hb);have eE:=HSS.out _ HBE.out;clear hb)))
   all_goals
    go_wp2_with fail;go_roundw
    case rel=>exact⟨k+1,by omega,by go_num,HBE⟩
    case measure=>simp[intOf];omega
  ·go_wp2_with fail
   go_ret;exact⟨rfl,HBW.out.1⟩
theorem q00(v:Value)(l:List (ByteArray × ByteArray))(w:World)(hg:GW w)(hv:qb7 w v l)(h0:l.length≠0)(h8:l.length≤8)(hf:fsB l 6=true)(hm:¬(qcm (l.map spQ)).1≤(qcm (l.map spQ)).2):Calls Tryz.prog 4 #[v] w fun e w'=>e = .returned (.bool true)∧Below w.heap.size w w':=by
 have J:=qsq (w:=w) hg;have HI:=qys h0 h8 hf;obtain⟨hh1,⟨sa,ha,ea⟩,sb,hb,eb⟩:=qvq HI.ne;obtain⟨mm1,⟨sc,hc,ec⟩,sd,hd,ed⟩:=ql9 HI.ne
 have hsm:∀s ∈ l.map spQ,sm s.1 6∧sm s.2 6∧s.1≤s.2:=fun s hs=>by
  obtain⟨t,ht,rfl⟩:=List.mem_map.1 hs;exact(HI.ok t ht).2
 have s1:sm (qdd (l.map spQ)).1 6:=by rw[ea];exact(hsm sa ha).1
 have s2:sm (qdd (l.map spQ)).2 6:=by rw[eb];exact(hsm sb hb).2.1
 have s3:sm (qcm (l.map spQ)).1 6:=by rw[ec];exact(hsm sc hc).1
 have s4:sm (qcm (l.map spQ)).2 6:=by rw[ed];exact(hsm sd hd).2.1
 have hle:(qdd (l.map spQ)).1≤(qdd (l.map spQ)).2:=Rat.le_trans (hh1 sa ha).1 (Rat.le_trans (hsm sa ha).2.2 (hh1 sa ha).2)
 have hsz:∀s ∈ l,s.1.size≤1073741824∧s.2.size≤1073741824:=fun s hs=>by
  obtain⟨e,y1,y2,-⟩:=HI.ok s hs;rw[e];exact⟨by have:=qb5 y1;show(rt (spQ s).1).size≤_;omega,by have:=qb5 y2;show(rt (spQ s).2).size≤_;omega⟩
 have HAW:=hid fun L=>qgw (J L);have QFS:=fun L=>qbo (J L) fun W hW _=>qgx v l 8 6 W (hv.later hW.1) (by decide) (by decide) (by decide);rw[decide_eq_true h8,hf] at QFS;have HFS:Hid (∀L:List (Nat × ByteArray × ByteArray),qgv (Bxs w L) 6 #[v,.int .i64 8,.int .i64 6] (.bool true)):=hid QFS
 have HHU:Hid (∀L:List (Nat × ByteArray × ByteArray),qgv (Bxs w L) 19 #[v] (.tuple #[.agg #[.string (rt (qdd (l.map spQ)).1),.string (rt (qdd (l.map spQ)).2)],.int .i64 0])):=hid fun L=>qbo (J L) fun W hW hgW=>(q4r v l W hgW (hv.later hW.1) hsz HI.err).mono fun _ _ h=>by
  obtain⟨h1,h2⟩:=qjp h;obtain⟨e1,e2,e3⟩:=qis s1 s2 (by decide);rw[e1,e2,e3] at h1;exact⟨h1,h2⟩
 have HME:Hid (∀L:List (Nat × ByteArray × ByteArray),qgv (Bxs w L) 17 #[v] (.tuple #[.agg #[.string ⟨#[]⟩,.string ⟨#[]⟩],.int .i64 15])):=hid fun L=>qbo (J L) fun W hW hgW=>(q4s v l W hgW (hv.later hW.1) hsz HI.err).mono fun _ _ h=>by
  unfold qvs at h;rw[if_neg hm] at h;exact h
 have HCL:Hid (∀(L:List (Nat × ByteArray × ByteArray)) (W:World),Bxs w L W→Calls Tryz.prog 18 #[v] W fun e w'=>(∃i k:Nat,qhw (l.map spQ) i k∧e = .returned (.tuple #[.int .i64 (i:Nat),.int .i64 (k:Nat),.int .i64 0]))∧Hid (Bxs w L w')):=hid fun L W hW=>(qpg v l W ((J L).gw W hW) (hv.later hW.1) hsz).mono fun _ _ h=>by
  obtain⟨h1,h2⟩:=h;rw[if_neg (by rw[HI.err];decide)] at h1;rcases h1 with⟨i,k,hfc,h1⟩|⟨hn,-⟩
  ·exact⟨⟨i,k,hfc,h1⟩,hid (hW.later h2)⟩
  ·exact absurd hn (q4q HI.ne (fun s hs=>(hsm s hs).2.2) hm)
 have HCH:Hid (∀L:List (Nat × ByteArray × ByteArray),qgv (Bxs w L) 20 #[.agg #[.string (rt (qdd (l.map spQ)).1),.string (rt (qdd (l.map spQ)).2)]] (.int .i64 0)):=hid fun L=>qbo (J L) fun W _ hW=>(qk9 _ _ W hW (by have:=qb5 s1;omega) (by have:=qb5 s2;omega)).mono fun _ _ ⟨h1,h2⟩=>⟨by
  rw[h1];unfold qcl;rw[qgh (qb8 s1 (by decide)),qgh (qb8 s2 (by decide)),qdh,qdh,if_neg (by decide),if_neg (by have:=qf0.2 hle;omega)]
  rfl,h2.1⟩
 have HIN:Hid (∀(j:Nat) (s:ByteArray × ByteArray),l[j]? = some s→∀W:World,(Calls Tryz.prog 11 #[.string s.1,.agg #[.string (rt (qdd (l.map spQ)).1),.string (rt (qdd (l.map spQ)).2)]] W fun e w'=>e = .returned (.bool true)∧Below W.heap.size W w')∧(Calls Tryz.prog 11 #[.string s.2,.agg #[.string (rt (qdd (l.map spQ)).1),.string (rt (qdd (l.map spQ)).2)]] W fun e w'=>e = .returned (.bool true)∧Below W.heap.size W w')):=hid fun j s hj W=>by
  have hs:=List.mem_of_getElem? hj;obtain⟨e,y1,y2,hle2⟩:=HI.ok s hs;have hb1:=hh1 (spQ s) (List.mem_map_of_mem hs);have e1:s.1=rt (spQ s).1:=congrArg Prod.fst e;have e2:s.2=rt (spQ s).2:=congrArg Prod.snd e;rw[e1,e2];exact⟨qhg _ _ _ 6 W y1 s1 s2 (by decide) hb1.1 (Rat.le_trans hle2 hb1.2),qhg _ _ _ 6 W y2 s1 s2 (by decide) (Rat.le_trans hb1.1 hle2) hb1.2⟩
 have HCC:Hid (∀i k:Nat,qhw (l.map spQ) i k→∃a b:ByteArray × ByteArray,l[i]? = some a∧l[k]? = some b∧∃z1 z2:Int,(z1<0∨(¬z1<0∧z2<0))∧(∀W:World,Calls Tryz.prog 21 #[.string a.2,.string b.1] W fun e w'=>e = .returned (.int .i64 z1)∧Below W.heap.size W w')∧∀W:World,Calls Tryz.prog 21 #[.string b.2,.string a.1] W fun e w'=>e = .returned (.int .i64 z2)∧Below W.heap.size W w'):=hid fun i k hfc=>by
  have hil:i<l.length:=by have:=hfc.1;have:=hfc.2.1;rw[List.length_map] at this;omega
  have hkl:k<l.length:=by have:=hfc.2.1;rwa [List.length_map] at this
  have gi:(l.map spQ).getD i (0,0)=spQ l[i]:=by rw[List.getD_eq_getElem?_getD,List.getElem?_map,List.getElem?_eq_getElem hil];rfl
  have gk:(l.map spQ).getD k (0,0)=spQ l[k]:=by rw[List.getD_eq_getElem?_getD,List.getElem?_map,List.getElem?_eq_getElem hkl];rfl
  obtain⟨e,y1,y2,-⟩:=HI.ok l[i] (List.getElem_mem _);obtain⟨e',y3,y4,-⟩:=HI.ok l[k] (List.getElem_mem _);have hcl:=hfc.2.2.1;rw[gi,gk] at hcl;have ei1:(l[i]).1=rt (spQ l[i]).1:=congrArg Prod.fst e;have ei2:(l[i]).2=rt (spQ l[i]).2:=congrArg Prod.snd e;have ek1:(l[k]).1=rt (spQ l[k]).1:=congrArg Prod.fst e';have ek2:(l[k]).2=rt (spQ l[k]).2:=congrArg Prod.snd e';refine⟨l[i],l[k],List.getElem?_eq_getElem hil,List.getElem?_eq_getElem hkl,qcp (spQ l[i]).2 (spQ l[k]).1,qcp (spQ l[k]).2 (spQ l[i]).1, ?_,fun W => ?_,fun W => ?_⟩
  ·by_cases hz:qcp (spQ l[i]).2 (spQ l[k]).1<0
   ·exact .inl hz
   ·refine .inr ⟨hz, ?_⟩
    rcases qkc.1 hcl with h|h
    ·exact absurd (qkv.2 h) hz
    ·exact qkv.2 h
  ·have h:=qrc (spQ l[i]).2 (spQ l[k]).1 6 W y2 y3 (by decide)
   rw[qm6,←ei2,←ek1] at h;exact h
  ·have h:=qrc (spQ l[k]).2 (spQ l[i]).1 6 W y4 y1 (by decide)
   rw[qm6,←ek2,←ei1] at h;exact h
 have HB:=hid (q4t w);obtain⟨p,c,rfl,hc1,hc2,hcells⟩:=hv;obtain⟨b,o,rfl,hrow⟩:=hcells.resolve_left h0
 have HCELL:Hid (∀(j:Nat) (s:ByteArray × ByteArray),l[j]? = some s→∀W,Below w.heap.size w W→W.cell? ⟨b,o+j*2,none⟩=some (.string s.1)∧W.cell? ⟨b,o+j*2+1,none⟩=some (.string s.2)):=hid fun j s hj W hW=>by
  obtain⟨e0,e1⟩:=hrow j s hj;rw[hW.cell (World.block_lt_of_cell? w _ e0),hW.cell (World.block_lt_of_cell? w _ e1)];exact⟨e0,e1⟩
 unfold maxLen at hc2;have hl:((l.length:Int)==0)=false:=beq_eq_false_iff_ne.2 (by omega);clear J HI hh1 mm1 hsm s1 s2 s3 s4 hle hsz hm hf h0 ha hb hc hd ea eb ec ed hg hcells hrow sa sb sc sd QFS;generalize rt (qdd (l.map spQ)).1=x1 at *;generalize rt (qdd (l.map spQ)).2=x2 at *;go_enter Tryz.func4,Tryz.ntmps4;go_wp2_with fail;refine kgo (HAW.out _) HB fun wN HB => ?_;clear HAW;go_wp2_with fail;refine kgo (HFS.out _) HB fun wN HB => ?_;clear HFS;go_wp2_with fail;refine kgo (HME.out _) HB fun wX HB2 => ?_;clear HME HB;have HB:=hid (qdc HB2.out 24 ⟨#[]⟩ ⟨#[]⟩);clear HB2;go_wp2_with fail;refine(HCL.out _ _ HB.out).mono ?_;clear HCL HB;rintro e wN ⟨⟨ci,ck,hfc,rfl⟩,HB⟩;have HFC:=hid hfc;have hik:ci<ck:=hfc.1;have hkl:ck<l.length:=by have:=hfc.2.1;rwa [List.length_map] at this
 clear hfc;go_wp2_with fail;refine kgo (HHU.out _) HB fun wY HB2 => ?_;clear HHU HB;have HB:=hid (qdc HB2.out 24 x1 x2);clear HB2;obtain⟨c0,c1,c2,c3⟩:=bx2 HB.out;go_wp2_with fail;refine kgo (HCH.out _) HB fun wN HB => ?_;clear HCH c0 c1 c2 c3;go_wp2_with fail
 go_loopw [10] (fun i wr=>∃k:Nat,k≤l.length∧i = .int .i64 k∧Hid (Bxs w [(wY.heap.size,x1,x2),(wX.heap.size,⟨#[]⟩,⟨#[]⟩)] wr)) (fun i _=>l.length-(intOf i).toNat)
 case atStart=>exact⟨0,Nat.zero_le _,rfl,HB⟩
 case round=>
  obtain⟨k,hk,rfl,HBW⟩:=hrel;clear HB;by_cases hlt:k<l.length
  ·obtain⟨s,hsk⟩:∃s,l[k]? = some s:=⟨_,List.getElem?_eq_getElem hlt⟩
   have HROW:=hid (HCELL.out k s hsk);have HI1:=hid (fun W=>(HIN.out k s hsk W).1);have HI2:=hid (fun W=>(HIN.out k s hsk W).2);have hi0:(0:Int)≤(k:Int):=by omega
   have hi1:(k:Int)<(l.length:Int):=by omega
   clear hsk;generalize s.1=t1 at *;generalize s.2=t2 at *;have HBD:=hid (HBW.out.later (Below.refl _ _).drew);clear HBW;have HSS:Hid (∀W,Bxs w [(wY.heap.size,x1,x2),(wX.heap.size,⟨#[]⟩,⟨#[]⟩)] W→W.cell? ⟨b,o+k*2,none⟩=some (.string t1)∧W.cell? ⟨b,o+k*2+1,none⟩=some (.string t2)∧W.cell? ⟨wY.heap.size,0,none⟩=some (.string x1)∧W.cell? ⟨wY.heap.size,1,none⟩=some (.string x2)∧W.cell? ⟨wX.heap.size,0,none⟩=some (.string ⟨#[]⟩)∧W.cell? ⟨wX.heap.size,1,none⟩=some (.string ⟨#[]⟩)):=hid fun W hW=>⟨(HROW.out W hW.1).1,(HROW.out W hW.1).2,(bx2 hW).1,(bx2 hW).2.1,(bx2 hW).2.2.1,(bx2 hW).2.2.2⟩;have eZ:=HSS.out _ HBD.out;go_wp2_with fail;refine wp_region_held_drew (S:=(fun W=>W.cell? ⟨b,o+k*2,none⟩=some (.string t1)∧W.cell? ⟨b,o+k*2+1,none⟩=some (.string t2)∧W.cell? ⟨wY.heap.size,0,none⟩=some (.string x1)∧W.cell? ⟨wY.heap.size,1,none⟩=some (.string x2)∧W.cell? ⟨wX.heap.size,0,none⟩=some (.string ⟨#[]⟩)∧W.cell? ⟨wX.heap.size,1,none⟩=some (.string ⟨#[]⟩))) (by kernel_rfl) eZ (fun hHeld0 => ?_)
   refine' tkw 0 (v:=_) rfl (by kernel_rfl) (by kernel_rfl) hHeld0 (fun _ _ _ h=>h) ?q4_y1 ?_
   case q4_y1=>(intro w hSw;(try dsimp only at hSw);go_simp;(try with_reducible rfl))
   try simp only[Act.put,List.setIfInBounds_toArray,List.set_cons_zero,List.set_cons_succ]
   refine' tkw 1 (v:=_) rfl (by kernel_rfl) (by kernel_rfl) hHeld0 (fun _ _ _ h=>h) ?q4_y2 ?_
   case q4_y2=>(intro w hSw;(try dsimp only at hSw);go_simp;(try with_reducible rfl))
   try simp only[Act.put,List.setIfInBounds_toArray,List.set_cons_zero,List.set_cons_succ]
   refine' tkw 2 (v:=_) rfl (by kernel_rfl) (by kernel_rfl) hHeld0 (fun _ _ _ h=>h) ?q4_y3 ?_
   case q4_y3=>(intro w hSw;(try dsimp only at hSw);go_simp;(try with_reducible rfl))
   try simp only[Act.put,List.setIfInBounds_toArray,List.set_cons_zero,List.set_cons_succ]
   refine' tkw 3 (v:=_) rfl (by kernel_rfl) (by kernel_rfl) hHeld0 (fun _ _ _ h=>h) ?q4_y4 ?_
   case q4_y4=>(intro w hSw;(try dsimp only at hSw);go_simp;(try with_reducible rfl))
   try simp only[Act.put,List.setIfInBounds_toArray,List.set_cons_zero,List.set_cons_succ]
   refine' tkw 4 (v:=_) rfl (by kernel_rfl) (by kernel_rfl) hHeld0 (fun _ _ _ h=>h) ?q4_y5 ?_
   case q4_y5=>(intro w hSw;(try dsimp only at hSw);go_simp;(try with_reducible rfl))
   try simp only[Act.put,List.setIfInBounds_toArray,List.set_cons_zero,List.set_cons_succ]
   refine' tkw 5 (v:=_) rfl (by kernel_rfl) (by kernel_rfl) hHeld0 (fun _ _ _ h=>h) ?q4_y6 ?_
   case q4_y6=>(intro w hSw;(try dsimp only at hSw);go_simp;(try with_reducible rfl))
   try simp only[Act.put,List.setIfInBounds_toArray,List.set_cons_zero,List.set_cons_succ]
   refine wpAnyH_ready (rs:=[6]) (by kernel_rfl) (by simp) ?_;refine AllReadyH.cons rfl (fun K hK => ?q4_step7) ?q4_next7
   case q4_step7=>
    go_simp
    go_at_call 11;(with_reducible refine(HI1.out _).mono ?_);rintro e wA ⟨rfl,hb⟩;have HBA:=hid (HBD.out.later hb);have eA:=HSS.out _ HBA.out;clear hb
    go_wp2_with fail;refine hK.out _ _ ?q4_hS1 (fun hHeld1 => ?q4_more1)
    case q4_hS1=>exact eA
    clear hK
    refine' tkw 7 (v:=_) rfl (by kernel_rfl) (by kernel_rfl) hHeld1 (fun _ _ _ h=>h) ?q4_y8 ?_
    case q4_y8=>(intro w hSw;(try dsimp only at hSw);go_simp;(try with_reducible rfl))
    try simp only[Act.put,List.setIfInBounds_toArray,List.set_cons_zero,List.set_cons_succ]
    refine' tkw 8 (v:=_) rfl (by kernel_rfl) (by kernel_rfl) hHeld1 (fun _ _ _ h=>h) ?q4_y9 ?_
    case q4_y9=>(intro w hSw;(try dsimp only at hSw);go_simp;(try with_reducible rfl))
    try simp only[Act.put,List.setIfInBounds_toArray,List.set_cons_zero,List.set_cons_succ]
    refine' tkw 9 (v:=_) rfl (by kernel_rfl) (by kernel_rfl) hHeld1 (fun _ _ _ h=>h) ?q4_y10 ?_
    case q4_y10=>(intro w hSw;(try dsimp only at hSw);go_simp;(try with_reducible rfl))
    try simp only[Act.put,List.setIfInBounds_toArray,List.set_cons_zero,List.set_cons_succ]
    refine' tkw 10 (v:=_) rfl (by kernel_rfl) (by kernel_rfl) hHeld1 (fun _ _ _ h=>h) ?q4_y11 ?_
    case q4_y11=>(intro w hSw;(try dsimp only at hSw);go_simp;(try with_reducible rfl))
    try simp only[Act.put,List.setIfInBounds_toArray,List.set_cons_zero,List.set_cons_succ]
    refine' tkw 11 (v:=_) rfl (by kernel_rfl) (by kernel_rfl) hHeld1 (fun _ _ _ h=>h) ?q4_y12 ?_
    case q4_y12=>(intro w hSw;(try dsimp only at hSw);go_simp;(try with_reducible rfl))
    try simp only[Act.put,List.setIfInBounds_toArray,List.set_cons_zero,List.set_cons_succ]
    refine' tkw 12 (v:=_) rfl (by kernel_rfl) (by kernel_rfl) hHeld1 (fun _ _ _ h=>h) ?q4_y13 ?_
    case q4_y13=>(intro w hSw;(try dsimp only at hSw);go_simp;(try with_reducible rfl))
    try simp only[Act.put,List.setIfInBounds_toArray,List.set_cons_zero,List.set_cons_succ]
    refine' tkw 13 (v:=_) rfl (by kernel_rfl) (by kernel_rfl) hHeld1 (fun _ _ _ h=>h) ?q4_y14 ?_
    case q4_y14=>(intro w hSw;(try dsimp only at hSw);go_simp;(try with_reducible rfl))
    try simp only[Act.put,List.setIfInBounds_toArray,List.set_cons_zero,List.set_cons_succ]
    refine' tkw 14 (v:=_) rfl (by kernel_rfl) (by kernel_rfl) hHeld1 (fun _ _ _ h=>h) ?q4_y15 ?_
    case q4_y15=>(intro w hSw;(try dsimp only at hSw);go_simp;(try with_reducible rfl))
    try simp only[Act.put,List.setIfInBounds_toArray,List.set_cons_zero,List.set_cons_succ]
    refine wpAnyH_ready (rs:=[15]) (by kernel_rfl) (by simp) ?_;refine AllReadyH.cons rfl (fun K hK => ?q4_step16) ?q4_next16
    case q4_step16=>
     go_simp
     go_at_call 11;(with_reducible refine(HI2.out _).mono ?_);rintro e wB ⟨rfl,hb⟩;have HBB:=hid (HBA.out.later hb);have eB:=HSS.out _ HBB.out;clear hb
     go_wp2_with fail;refine hK.out _ _ ?q4_hS2 (fun hHeld2 => ?q4_more2)
     case q4_hS2=>exact eB
     clear hK
     refine' tkw 16 (v:=_) rfl (by kernel_rfl) (by kernel_rfl) hHeld2 (fun _ _ _ h=>h) ?q4_y17 ?_
     case q4_y17=>(intro w hSw;(try dsimp only at hSw);go_simp;(try with_reducible rfl))
     try simp only[Act.put,List.setIfInBounds_toArray,List.set_cons_zero,List.set_cons_succ]
     refine' tkw 17 (v:=_) rfl (by kernel_rfl) (by kernel_rfl) hHeld2 (fun _ _ _ h=>h) ?q4_y18 ?_
     case q4_y18=>(intro w hSw;(try dsimp only at hSw);go_simp;(try with_reducible rfl))
     try simp only[Act.put,List.setIfInBounds_toArray,List.set_cons_zero,List.set_cons_succ]
     refine' tkw 18 (v:=_) rfl (by kernel_rfl) (by kernel_rfl) hHeld2 (fun _ _ _ h=>h) ?q4_y19 ?_
     case q4_y19=>(intro w hSw;(try dsimp only at hSw);go_simp;(try with_reducible rfl))
     try simp only[Act.put,List.setIfInBounds_toArray,List.set_cons_zero,List.set_cons_succ]
     refine' tkw 19 (v:=_) rfl (by kernel_rfl) (by kernel_rfl) hHeld2 (fun _ _ _ h=>h) ?q4_y20 ?_
     case q4_y20=>(intro w hSw;(try dsimp only at hSw);go_simp;(try with_reducible rfl))
     try simp only[Act.put,List.setIfInBounds_toArray,List.set_cons_zero,List.set_cons_succ]
     refine' tkw 20 (v:=_) rfl (by kernel_rfl) (by kernel_rfl) hHeld2 (fun _ _ _ h=>h) ?q4_y21 ?_
     case q4_y21=>(intro w hSw;(try dsimp only at hSw);go_simp;(try with_reducible rfl))
     try simp only[Act.put,List.setIfInBounds_toArray,List.set_cons_zero,List.set_cons_succ]
     refine' tkw 21 (v:=_) rfl (by kernel_rfl) (by kernel_rfl) hHeld2 (fun _ _ _ h=>h) ?q4_y22 ?_
     case q4_y22=>(intro w hSw;(try dsimp only at hSw);go_simp;(try with_reducible rfl))
     try simp only[Act.put,List.setIfInBounds_toArray,List.set_cons_zero,List.set_cons_succ]
     refine' tku 22 rfl (by kernel_rfl) (by kernel_rfl) hHeld2 (fun _ _ _ h=>h) ?_
     refine' tku 23 rfl (by kernel_rfl) (by kernel_rfl) hHeld2 (fun _ _ _ h=>h) ?_
     refine' tku 24 rfl (by kernel_rfl) (by kernel_rfl) hHeld2 (fun _ _ _ h=>h) ?_
     refine' tku 25 rfl (by kernel_rfl) (by kernel_rfl) hHeld2 (fun _ _ _ h=>h) ?_
     refine' tku 26 rfl (by kernel_rfl) (by kernel_rfl) hHeld2 (fun _ _ _ h=>h) ?_
     refine' tku 27 rfl (by kernel_rfl) (by kernel_rfl) hHeld2 (fun _ _ _ h=>h) ?_
     refine' tku 28 rfl (by kernel_rfl) (by kernel_rfl) hHeld2 (fun _ _ _ h=>h) ?_
     refine' tku 29 rfl (by kernel_rfl) (by kernel_rfl) hHeld2 (fun _ _ _ h=>h) ?_
     refine' tku 30 rfl (by kernel_rfl) (by kernel_rfl) hHeld2 (fun _ _ _ h=>h) ?_
     refine' tku 31 rfl (by kernel_rfl) (by kernel_rfl) hHeld2 (fun _ _ _ h=>h) ?_
     refine' tku 32 rfl (by kernel_rfl) (by kernel_rfl) hHeld2 (fun _ _ _ h=>h) ?_
     refine' tku 33 rfl (by kernel_rfl) (by kernel_rfl) hHeld2 (fun _ _ _ h=>h) ?_
     refine' tku 34 rfl (by kernel_rfl) (by kernel_rfl) hHeld2 (fun _ _ _ h=>h) ?_
     refine' tku 35 rfl (by kernel_rfl) (by kernel_rfl) hHeld2 (fun _ _ _ h=>h) ?_
     refine' tku 36 rfl (by kernel_rfl) (by kernel_rfl) hHeld2 (fun _ _ _ h=>h) ?_
     refine' tku 37 rfl (by kernel_rfl) (by kernel_rfl) hHeld2 (fun _ _ _ h=>h) ?_
     refine' tku 38 rfl (by kernel_rfl) (by kernel_rfl) hHeld2 (fun _ _ _ h=>h) ?_
     refine' tku 39 rfl (by kernel_rfl) (by kernel_rfl) hHeld2 (fun _ _ _ h=>h) ?_
     refine' tku 40 rfl (by kernel_rfl) (by kernel_rfl) hHeld2 (fun _ _ _ h=>h) ?_
     refine' tku 41 rfl (by kernel_rfl) (by kernel_rfl) hHeld2 (fun _ _ _ h=>h) ?_
     refine' tku 42 rfl (by kernel_rfl) (by kernel_rfl) hHeld2 (fun _ _ _ h=>h) ?_
     refine' tku 43 rfl (by kernel_rfl) (by kernel_rfl) hHeld2 (fun _ _ _ h=>h) ?_
     refine' tku 44 rfl (by kernel_rfl) (by kernel_rfl) hHeld2 (fun _ _ _ h=>h) ?_
     try simp only[Act.put,List.setIfInBounds_toArray,List.set_cons_zero,List.set_cons_succ]
     refine' tkw 45 (v:=_) rfl (by kernel_rfl) (by kernel_rfl) hHeld2 (fun _ _ _ h=>h) ?q4_y46 ?_
     case q4_y46=>(intro w hSw;(try dsimp only at hSw);go_simp;(try with_reducible rfl))
     try simp only[Act.put,List.setIfInBounds_toArray,List.set_cons_zero,List.set_cons_succ]
     refine' tkw 46 (v:=_) rfl (by kernel_rfl) (by kernel_rfl) hHeld2 (fun _ _ _ h=>h) ?q4_y47 ?_
     case q4_y47=>(intro w hSw;(try dsimp only at hSw);go_simp;(try with_reducible rfl))
     try simp only[Act.put,List.setIfInBounds_toArray,List.set_cons_zero,List.set_cons_succ]
     refine wpAnyH_done (by kernel_rfl) ?_ _;go_wp2_with fail;go_roundw
     case rel=>exact⟨k+1,by omega,by go_num,HBB⟩
     case measure=>simp[intOf];omega
    exact AllReadyH.nil
   exact AllReadyH.nil
  ·obtain⟨sa,sb,hsa,hsb,y1,y2,hz,h1,h2⟩:=HCC.out ci ck HFC.out
   have HRA:=hid (HCELL.out ci sa hsa);have HRB:=hid (HCELL.out ck sb hsb);have HC1:=hid h1;have HC2:=hid h2;clear hsa hsb h1 h2 HIN HCC HFC HCELL;have hci:(0:Int)≤(ci:Int):=by omega
   have hcl:ci<l.length:=by omega
   have hcl':(ci:Int)<(l.length:Int):=by omega
   have hck:(0:Int)≤(ck:Int):=by omega
   have hck':(ck:Int)<(l.length:Int):=by omega
   have hcik:(ci:Int)<(ck:Int):=by omega
   generalize sa.1=a1 at *;generalize sa.2=a2 at *;generalize sb.1=b1 at *;generalize sb.2=b2 at *;have HBD:=hid (HBW.out.1.drew);have HSS:Hid (∀W,Below w.heap.size w W→W.cell? ⟨b,o+ci*2,none⟩=some (.string a1)∧W.cell? ⟨b,o+ci*2+1,none⟩=some (.string a2)∧W.cell? ⟨b,o+ck*2,none⟩=some (.string b1)∧W.cell? ⟨b,o+ck*2+1,none⟩=some (.string b2)):=hid fun W hW=>⟨(HRA.out W hW).1,(HRA.out W hW).2,(HRB.out W hW).1,(HRB.out W hW).2⟩;clear HRA HRB;rcases hz with hz|⟨hz1,hz2⟩
   ·have eZ:=HSS.out _ HBD.out
    go_wp2_with fail;refine wp_region_held_drew (S:=(fun W=>W.cell? ⟨b,o+ci*2,none⟩=some (.string a1)∧W.cell? ⟨b,o+ci*2+1,none⟩=some (.string a2)∧W.cell? ⟨b,o+ck*2,none⟩=some (.string b1)∧W.cell? ⟨b,o+ck*2+1,none⟩=some (.string b2))) (by kernel_rfl) eZ (fun hHeld0 => ?_)
    refine' tkw 0 (v:=_) rfl (by kernel_rfl) (by kernel_rfl) hHeld0 (fun _ _ _ h=>h) ?q5_y1 ?_
    case q5_y1=>(intro w hSw;(try dsimp only at hSw);go_simp;(try with_reducible rfl))
    try simp only[Act.put,List.setIfInBounds_toArray,List.set_cons_zero,List.set_cons_succ]
    refine' tkw 1 (v:=_) rfl (by kernel_rfl) (by kernel_rfl) hHeld0 (fun _ _ _ h=>h) ?q5_y2 ?_
    case q5_y2=>(intro w hSw;(try dsimp only at hSw);go_simp;(try with_reducible rfl))
    try simp only[Act.put,List.setIfInBounds_toArray,List.set_cons_zero,List.set_cons_succ]
    refine' tkw 2 (v:=_) rfl (by kernel_rfl) (by kernel_rfl) hHeld0 (fun _ _ _ h=>h) ?q5_y3 ?_
    case q5_y3=>(intro w hSw;(try dsimp only at hSw);go_simp;(try with_reducible rfl))
    try simp only[Act.put,List.setIfInBounds_toArray,List.set_cons_zero,List.set_cons_succ]
    refine' tkw 3 (v:=_) rfl (by kernel_rfl) (by kernel_rfl) hHeld0 (fun _ _ _ h=>h) ?q5_y4 ?_
    case q5_y4=>(intro w hSw;(try dsimp only at hSw);go_simp;(try with_reducible rfl))
    try simp only[Act.put,List.setIfInBounds_toArray,List.set_cons_zero,List.set_cons_succ]
    refine' tkw 4 (v:=_) rfl (by kernel_rfl) (by kernel_rfl) hHeld0 (fun _ _ _ h=>h) ?q5_y5 ?_
    case q5_y5=>(intro w hSw;(try dsimp only at hSw);go_simp;(try with_reducible rfl))
    try simp only[Act.put,List.setIfInBounds_toArray,List.set_cons_zero,List.set_cons_succ]
    refine' tkw 5 (v:=_) rfl (by kernel_rfl) (by kernel_rfl) hHeld0 (fun _ _ _ h=>h) ?q5_y6 ?_
    case q5_y6=>(intro w hSw;(try dsimp only at hSw);go_simp;(try with_reducible rfl))
    try simp only[Act.put,List.setIfInBounds_toArray,List.set_cons_zero,List.set_cons_succ]
    refine' tkw 6 (v:=_) rfl (by kernel_rfl) (by kernel_rfl) hHeld0 (fun _ _ _ h=>h) ?q5_y7 ?_
    case q5_y7=>(intro w hSw;(try dsimp only at hSw);go_simp;(try with_reducible rfl))
    try simp only[Act.put,List.setIfInBounds_toArray,List.set_cons_zero,List.set_cons_succ]
    refine' tkw 7 (v:=_) rfl (by kernel_rfl) (by kernel_rfl) hHeld0 (fun _ _ _ h=>h) ?q5_y8 ?_
    case q5_y8=>(intro w hSw;(try dsimp only at hSw);go_simp;(try with_reducible rfl))
    try simp only[Act.put,List.setIfInBounds_toArray,List.set_cons_zero,List.set_cons_succ]
    refine' tkw 8 (v:=_) rfl (by kernel_rfl) (by kernel_rfl) hHeld0 (fun _ _ _ h=>h) ?q5_y9 ?_
    case q5_y9=>(intro w hSw;(try dsimp only at hSw);go_simp;(try with_reducible rfl))
    try simp only[Act.put,List.setIfInBounds_toArray,List.set_cons_zero,List.set_cons_succ]
    refine' tkw 9 (v:=_) rfl (by kernel_rfl) (by kernel_rfl) hHeld0 (fun _ _ _ h=>h) ?q5_y10 ?_
    case q5_y10=>(intro w hSw;(try dsimp only at hSw);go_simp;(try with_reducible rfl))
    try simp only[Act.put,List.setIfInBounds_toArray,List.set_cons_zero,List.set_cons_succ]
    refine wpAnyH_ready (rs:=[10]) (by kernel_rfl) (by simp) ?_;refine AllReadyH.cons rfl (fun K hK => ?q5_step11) ?q5_next11
    case q5_step11=>
     go_simp
     go_at_call 21;(with_reducible refine(HC1.out _).mono ?_);rintro e wA ⟨rfl,hb⟩;have HBA:=hid (HBD.out.trans (hb.mono HBD.out.size));have eA:=HSS.out _ HBA.out;clear hb
     go_wp2_with fail;refine hK.out _ _ ?q5_hS1 (fun hHeld1 => ?q5_more1)
     case q5_hS1=>exact eA
     clear hK
     refine' tkw 11 (v:=_) rfl (by kernel_rfl) (by kernel_rfl) hHeld1 (fun _ _ _ h=>h) ?q5_y12 ?_
     case q5_y12=>(intro w hSw;(try dsimp only at hSw);go_simp;(try with_reducible rfl))
     try simp only[Act.put,List.setIfInBounds_toArray,List.set_cons_zero,List.set_cons_succ]
     refine' tkw 12 (v:=_) rfl (by kernel_rfl) (by kernel_rfl) hHeld1 (fun _ _ _ h=>h) ?q5_y13 ?_
     case q5_y13=>(intro w hSw;(try dsimp only at hSw);go_simp;(try with_reducible rfl))
     try simp only[Act.put,List.setIfInBounds_toArray,List.set_cons_zero,List.set_cons_succ]
     refine' tku 13 rfl (by kernel_rfl) (by kernel_rfl) hHeld1 (fun _ _ _ h=>h) ?_
     refine' tku 14 rfl (by kernel_rfl) (by kernel_rfl) hHeld1 (fun _ _ _ h=>h) ?_
     refine' tku 15 rfl (by kernel_rfl) (by kernel_rfl) hHeld1 (fun _ _ _ h=>h) ?_
     refine' tku 16 rfl (by kernel_rfl) (by kernel_rfl) hHeld1 (fun _ _ _ h=>h) ?_
     refine' tku 17 rfl (by kernel_rfl) (by kernel_rfl) hHeld1 (fun _ _ _ h=>h) ?_
     refine' tku 18 rfl (by kernel_rfl) (by kernel_rfl) hHeld1 (fun _ _ _ h=>h) ?_
     refine' tku 19 rfl (by kernel_rfl) (by kernel_rfl) hHeld1 (fun _ _ _ h=>h) ?_
     refine' tku 20 rfl (by kernel_rfl) (by kernel_rfl) hHeld1 (fun _ _ _ h=>h) ?_
     refine' tku 21 rfl (by kernel_rfl) (by kernel_rfl) hHeld1 (fun _ _ _ h=>h) ?_
     refine' tku 22 rfl (by kernel_rfl) (by kernel_rfl) hHeld1 (fun _ _ _ h=>h) ?_
     refine' tku 23 rfl (by kernel_rfl) (by kernel_rfl) hHeld1 (fun _ _ _ h=>h) ?_
     refine' tku 24 rfl (by kernel_rfl) (by kernel_rfl) hHeld1 (fun _ _ _ h=>h) ?_
     try simp only[Act.put,List.setIfInBounds_toArray,List.set_cons_zero,List.set_cons_succ]
     refine' tkw 25 (v:=_) rfl (by kernel_rfl) (by kernel_rfl) hHeld1 (fun _ _ _ h=>h) ?q5_y26 ?_
     case q5_y26=>(intro w hSw;(try dsimp only at hSw);go_simp;(try with_reducible rfl))
     try simp only[Act.put,List.setIfInBounds_toArray,List.set_cons_zero,List.set_cons_succ]
     refine' tkw 26 (v:=_) rfl (by kernel_rfl) (by kernel_rfl) hHeld1 (fun _ _ _ h=>h) ?q5_y27 ?_
     case q5_y27=>(intro w hSw;(try dsimp only at hSw);go_simp;(try with_reducible rfl))
     try simp only[Act.put,List.setIfInBounds_toArray,List.set_cons_zero,List.set_cons_succ]
     refine wpAnyH_done (by kernel_rfl) ?_ _;go_wp2_with fail;go_ret;exact⟨rfl,HBA.out⟩
    exact AllReadyH.nil
   ·have eZ:=HSS.out _ HBD.out
    have hzb1:decide (y1<0)=false:=decide_eq_false (by omega);have hzb2:decide (y2<0)=true:=decide_eq_true hz2;go_wp2_with fail
    go_region_held3 (fun W=>W.cell? ⟨b,o+ci*2,none⟩=some (.string a1)∧W.cell? ⟨b,o+ci*2+1,none⟩=some (.string a2)∧W.cell? ⟨b,o+ck*2,none⟩=some (.string b1)∧W.cell? ⟨b,o+ck*2+1,none⟩=some (.string b2)) (first|with_reducible exact eB|with_reducible exact eA|exact eZ)
     ((go_at_call 21;first
      | ((with_reducible refine(HC1.out _).mono ?_);rintro e wA ⟨rfl,hb⟩;have HBA:=hid (HBD.out.trans (hb.mono HBD.out.size));have eA:=HSS.out _ HBA.out;clear hb)
      | ((with_reducible refine(HC2.out _).mono ?_);rintro e wB ⟨rfl,hb⟩;have HBB:=hid (HBA.out.trans (hb.mono HBA.out.size));have eB:=HSS.out _ HBB.out;clear hb)))
    all_goals
     go_wp2_with fail;go_ret;exact⟨rfl,HBB.out⟩
theorem q4u(v:Value)(l:List (ByteArray × ByteArray))(w:World)(hg:GW w)(hv:qb7 w v l):Calls Tryz.prog 4 #[v] w fun e w'=>e = .returned (.bool true)∧Below w.heap.size w w':=by
 by_cases h0:l.length=0
 ·exact qrj v l w hg hv (.inl h0)
 ·by_cases hf:(decide (l.length≤8)&&fsB l 6)=true
  ·have h:=hf
   rw[Bool.and_eq_true] at h;have h8:=of_decide_eq_true h.1;by_cases hm:(qcm (l.map spQ)).1≤(qcm (l.map spQ)).2
   ·exact q0z v l w hg hv h0 h8 h.2 hm
   ·exact q00 v l w hg hv h0 h8 h.2 hm
  ·exact qrj v l w hg hv (.inr ⟨h0,by simpa using hf⟩)
end Go.Proofs.YtlinhlkgdlfefaaGreatDoor
