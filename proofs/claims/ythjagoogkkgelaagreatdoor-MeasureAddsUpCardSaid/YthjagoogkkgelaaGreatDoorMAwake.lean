/- The reference's comparisons, where both are the same; one. -/
import Derived.Test.YthjagoogkkgelaaGreatDoorMEachLayer
import Derived.Test.YthjagoogkkgelaaGreatDoorMBase
import Derived.BigQuiet
import Derived.Test.YthjagoogkkgelaaGreatDoorMNumWalk
import Derived.Test.YthjagoogkkgelaaGreatDoorMSpans
import Derived.Test.YthjagoogkkgelaaGreatDoorMNv
import Derived.Test.YthjagoogkkgelaaGreatDoorMMinMax
import Derived.Test.YthjagoogkkgelaaGreatDoorMRounded
import Derived.Test.YthjagoogkkgelaaGreatDoorMClash
import Derived.Test.YthjagoogkkgelaaGreatDoorMMean
import Derived.Test.YthjagoogkkgelaaGreatDoorMApport
import Derived.Test.YthjagoogkkgelaaGreatDoorMMix
set_option linter.all false
namespace Go.Proofs.YthjagoogkkgelaaGreatDoor
open Go.RowKit
set_option maxRecDepth 100000
set_option maxHeartbeats 8000000
def qhb(W:World)(b o:Nat)(l:List Int):Prop:=∀(j:Nat) (x:Int),l[j]? = some x→W.cell? ⟨b,o+j,none⟩=some (.int .i64 x)
theorem qhb.later{W W':World}{b o:Nat}{l:List Int}(h:qhb W b o l)(hb:Below W.heap.size W W'):qhb W' b o l:=fun j x hj=>by
 rw[hb.cell (World.block_lt_of_cell? W _ (h j x hj))];exact h j x hj
theorem ql7(l:List Int)(b o c b' o' c':Nat)(w:World)(h:qhb w b o l)(h':qhb w b' o' l)(hl:l.length≤1048576):
  Calls Tryz.prog 22 #[.slice (some ⟨b,o,none⟩) l.length c,.slice (some ⟨b',o',none⟩) l.length c'] w fun e w'=>e = .returned (.bool true)∧Below w.heap.size w w':=by
 have HA:=hid h;have HB:=hid h';clear h h';go_enter Tryz.func22,Tryz.ntmps22;go_wp2_with fail
 go_loopw [5] (fun i wr=>∃k:Nat,k≤l.length∧i = .int .i64 k∧Hid (Below w.heap.size w wr)) (fun i _=>l.length-(intOf i).toNat)
 case atStart=>exact⟨0,Nat.zero_le _,rfl,hid (Below.refl _ _)⟩
 case round=>
  obtain⟨k,hk,rfl,HBW⟩:=hrel;by_cases hkl:k<l.length
  ·obtain⟨x,hx⟩:∃x,l[k]? = some x:=⟨l[k],List.getElem?_eq_getElem hkl⟩
   have e0:=HA.out k x hx;have e1:=HB.out k x hx;have c0:wr.cell? ⟨b,o+k,none⟩=some (.int .i64 x):=by rw[HBW.out.cell (World.block_lt_of_cell? w _ e0)];exact e0
   have c1:wr.cell? ⟨b',o'+k,none⟩=some (.int .i64 x):=by rw[HBW.out.cell (World.block_lt_of_cell? w _ e1)];exact e1
   clear e0 e1 hx;go_wp2_with fail
   go_quiet (fail)
   go_wp2_with fail;go_roundw
   case rel=>exact⟨k+1,by omega,by go_num,hid (below_drewN HBW.out _)⟩
   case measure=>simp[intOf];omega
  ·obtain rfl:k=l.length:=by omega
   go_wp2_with fail;go_ret;exact⟨rfl,HBW.out⟩
theorem qpz(l:List (ByteArray × ByteArray))(b o c b' o' c':Nat)(w:World)(h:qfd w b o l)(h':qfd w b' o' l)(hl:l.length≤1048576):
  Calls Tryz.prog 68 #[.slice (some ⟨b,o,none⟩) l.length c,.slice (some ⟨b',o',none⟩) l.length c'] w fun e w'=>e = .returned (.bool true)∧Below w.heap.size w w':=by
 have HA:=hid h;have HB:=hid h';clear h h';go_enter Tryz.func68,Tryz.ntmps68;go_wp2_with fail
 go_loopw [5] (fun i wr=>∃k:Nat,k≤l.length∧i = .int .i64 k∧Hid (Below w.heap.size w wr)) (fun i _=>l.length-(intOf i).toNat)
 case atStart=>exact⟨0,Nat.zero_le _,rfl,hid (Below.refl _ _)⟩
 case round=>
  obtain⟨k,hk,rfl,HBW⟩:=hrel;by_cases hkl:k<l.length
  ·obtain⟨x,hx⟩:∃x,l[k]? = some x:=⟨l[k],List.getElem?_eq_getElem hkl⟩
   obtain⟨e0,f0⟩:=HA.out k x hx;obtain⟨e1,f1⟩:=HB.out k x hx;have c0:wr.cell? ⟨b,o+k*2,none⟩=some (.string x.1):=by rw[HBW.out.cell (World.block_lt_of_cell? w _ e0)];exact e0
   have c1:wr.cell? ⟨b',o'+k*2,none⟩=some (.string x.1):=by rw[HBW.out.cell (World.block_lt_of_cell? w _ e1)];exact e1
   have d0:wr.cell? ⟨b,o+k*2+1,none⟩=some (.string x.2):=by rw[HBW.out.cell (World.block_lt_of_cell? w _ f0)];exact f0
   have d1:wr.cell? ⟨b',o'+k*2+1,none⟩=some (.string x.2):=by rw[HBW.out.cell (World.block_lt_of_cell? w _ f1)];exact f1
   clear e0 e1 f0 f1 hx;go_wp2_with fail
   go_quiet (fail)
   go_wp2_with fail;go_roundw
   case rel=>exact⟨k+1,by omega,by go_num,hid (below_drewN HBW.out _)⟩
   case measure=>simp[intOf];omega
  ·obtain rfl:k=l.length:=by omega
   go_wp2_with fail;go_ret;exact⟨rfl,HBW.out⟩
theorem qqv(l:List (ByteArray × ByteArray))(g0:ByteArray)(ms:Int)(b o c b' o' c':Nat)(w:World)(h:qfd w b o l)(h':qfd w b' o' l)(hl:l.length≤1048576):
  Calls Tryz.prog 30 #[.agg #[.string g0,.int .i64 ms,.slice (some ⟨b,o,none⟩) l.length c],.agg #[.string g0,.int .i64 ms,.slice (some ⟨b',o',none⟩) l.length c']] w fun e w'=>e = .returned (.bool true)∧Below w.heap.size w w':=by
 have HSS:Hid (∀W,Below w.heap.size w W→Calls Tryz.prog 68 #[.slice (some ⟨b,o,none⟩) l.length c,.slice (some ⟨b',o',none⟩) l.length c'] W fun e w'=>e = .returned (.bool true)∧Below W.heap.size W w'):=hid fun W hW=>qpz l b o c b' o' c' W (h.later hW) (h'.later hW) hl;obtain⟨W1,hW1⟩:∃W1,W1=w.alloc (.cells #[.string g0,.int .i64 ms,.slice (some ⟨b,o,none⟩) l.length c] 64):=⟨_,rfl⟩;obtain⟨W2,hW2⟩:∃W2,W2=W1.alloc (.cells #[.string g0,.int .i64 ms,.slice (some ⟨b',o',none⟩) l.length c'] 64):=⟨_,rfl⟩;have hb1:Below w.heap.size w W1:=by rw[hW1];exact(Below.refl _ _).alloc (Nat.le_refl _) _
 have hb2:Below W1.heap.size W1 W2:=by rw[hW2];exact(Below.refl _ _).alloc (Nat.le_refl _) _
 have hs1:W1.heap.size=w.heap.size+1:=by rw[hW1];exact World.size_alloc _ _
 have o1:Own W1 w.heap.size 3 (qh1 (.string g0) (.int .i64 ms) (.slice (some ⟨b,o,none⟩) l.length c)):=by rw[hW1];exact qe5 _ _ _ _ _
 have o2:Own W2 (w.heap.size+1) 3 (qh1 (.string g0) (.int .i64 ms) (.slice (some ⟨b',o',none⟩) l.length c')):=by rw[←hs1,hW2];exact qe5 _ _ _ _ _
 have o1':=o1.later (hb2.mono o1.1);have HBL:=hid (hb1.trans (hb2.mono hb1.size));obtain⟨a0,_⟩:=o1'.2 0 (by omega);obtain⟨a1,_⟩:=o1'.2 1 (by omega);obtain⟨a2,_⟩:=o1'.2 2 (by omega);obtain⟨d0,_⟩:=o2.2 0 (by omega);obtain⟨d1,_⟩:=o2.2 1 (by omega);obtain⟨d2,_⟩:=o2.2 2 (by omega);simp only[qh1,if_pos,Nat.one_ne_zero] at a0 a1 a2 d0 d1 d2;rw[hW1] at hW2;subst hW2;have HC:=hid (HSS.out _ HBL.out);clear hb1 hb2 hs1 o1 o2 o1' hW1 h h' HSS;go_enter Tryz.func30,Tryz.ntmps30;go_wp2_with fail;refine HC.out.mono ?_;rintro e w3 ⟨rfl,hb⟩;have HF:=hid (HBL.out.trans (hb.mono HBL.out.size));clear hb HC;go_wp2_with fail;go_ret;exact⟨rfl,HF.out⟩
theorem q9o(s:ByteArray)(w:World):Calls Tryz.prog 28 #[.string s] w fun e w'=>e = .returned (.slice (some ⟨w.heap.size,0,none⟩) 1 1)∧w'=w.alloc (.cells #[.string s,.string ⟨#[49]⟩] 69):=by
 go_enter Tryz.func28,Tryz.ntmps28;go_wp2_with fail;go_ret;exact⟨rfl,rfl⟩
theorem q0i(W:World):Calls Tryz.prog 94 #[.string ⟨#[48]⟩,.int .i64 2] W fun e w'=>e = .returned (.string ⟨#[48,48]⟩)∧Below W.heap.size W w':=
 (Tryz.strings_Repeat ⟨#[48]⟩ 2 W (by omega) (by decide)).mono fun e w' h=>⟨h.1,h.2⟩
theorem q3b(W:World)(hg:GW W):Calls Tryz.prog 52 #[.string ⟨#[49,50,46,53,48]⟩,.string ⟨#[46]⟩] W fun e w'=>e = .returned (.tuple #[.string ⟨#[49,50]⟩,.string ⟨#[53,48]⟩,.bool true])∧Below W.heap.size W w':=by
 obtain⟨_,m,hm⟩:=hg;refine(Tryz.strings_Cut ⟨#[49,50,46,53,48]⟩ ⟨#[46]⟩ m W (by decide) hm).mono ?_;rintro e w' ⟨h1,k,h2⟩;exact⟨h1,by rw[h2];exact below_drewN (Below.refl _ _) k⟩
theorem q3c(W:World)(hg:GW W):Calls Tryz.prog 52 #[.string ⟨#[49,50,46,53,48]⟩,.string ⟨#[47]⟩] W fun e w'=>e = .returned (.tuple #[.string ⟨#[49,50,46,53,48]⟩,.string ⟨#[]⟩,.bool false])∧Below W.heap.size W w':=by
 obtain⟨_,m,hm⟩:=hg;refine(Tryz.strings_Cut ⟨#[49,50,46,53,48]⟩ ⟨#[47]⟩ m W (by decide) hm).mono ?_;rintro e w' ⟨h1,k,h2⟩;exact⟨h1,by rw[h2];exact below_drewN (Below.refl _ _) k⟩
theorem q3d(w:World)(hg:GW w):Calls Tryz.prog 53 #[.string ⟨#[49,50,46,53,48]⟩] w fun e w'=>e = .returned (.tuple #[.string ⟨#[49,50,53,48]⟩,.string ⟨#[49,48,48]⟩])∧Below w.heap.size w w':=by
 have HC:=hid (q3b w hg);have HR:=hid q0i;clear hg;go_enter Tryz.func53,Tryz.ntmps53;go_wp2_with fail;refine HC.out.mono ?_;rintro e w1 ⟨rfl,hb⟩;have HB:=hid hb;clear hb HC;go_wp2_with fail;refine(HR.out _).mono ?_;rintro e w2 ⟨rfl,hb⟩;have HB2:=hid (HB.out.trans (hb.mono HB.out.size));clear hb HR HB;go_wp2_with fail;go_ret2;exact⟨rfl,HB2.out⟩
theorem q0j(W:World):Calls Tryz.prog 51 #[.string ⟨#[49,50,46,53,48]⟩,.string ⟨#[45]⟩] W fun e w'=>e = .returned (.string ⟨#[49,50,46,53,48]⟩)∧w'=W:=Tryz.strings_TrimPrefix ⟨#[49,50,46,53,48]⟩ ⟨#[45]⟩ W
theorem q3e:qf9 (ByteArray.mk #[49,50,53,48,47,49,48,48]).data.toList=some (25/2):=by kernel_rfl
theorem q0k:rs (25/2)≤Cap:=Nat.le_of_ble_eq_true (by kernel_rfl)
theorem qp0:qc8 (25/2)=⟨#[50,53,47,50]⟩∧qfj (25/2)=0:=by constructor<;>kernel_rfl
theorem q3f(w:World)(hg:GW w):Calls Tryz.prog 24 #[.string ⟨#[49,50,46,53,48]⟩] w fun e w'=>e = .returned (.tuple #[.string ⟨#[50,53,47,50]⟩,.int .i64 0])∧Below w.heap.size w w':=by
 have HT:=hid q0j;have HC:=hid (q3c w hg);have HG:=hid hg;clear hg;go_enter Tryz.func24,Tryz.ntmps24;go_wp2_with fail;refine(HT.out _).mono ?_;rintro e w1 ⟨rfl,rfl⟩;go_wp2_with fail;refine HC.out.mono ?_;rintro e w2 ⟨rfl,hb⟩;have HB:=hid hb;clear hb HC HT;have HP:=hid (q3d w2 (HG.out.later HB.out));go_wp2_with fail;refine HP.out.mono ?_;rintro e w3 ⟨rfl,hb⟩;have HB2:=hid (HB.out.trans (hb.mono HB.out.size));clear hb HP HB;have HA1:=hid (qf8 ⟨#[49,50,53,48]⟩ w3);go_wp2_with fail;refine HA1.out.mono ?_;rintro e w4 ⟨rfl,hb⟩;have HB3:=hid (HB2.out.trans (hb.mono HB2.out.size));clear hb HA1 HB2;have HA2:=hid (qf8 ⟨#[49,48,48]⟩ w4);go_wp2_with fail;refine HA2.out.mono ?_;rintro e w5 ⟨rfl,hb⟩;have HB4:=hid (HB3.out.trans (hb.mono HB3.out.size));clear hb HA2 HB3;have HR:=hid (qx1 (ByteArray.mk #[49,50,53,48,47,49,48,48]) w5 (HG.out.later HB4.out) (by decide));rw[q3e] at HR;go_wp2_with fail;refine HR.out.mono ?_;rintro e w6 ⟨⟨v,rfl,hv⟩,hb⟩;obtain⟨z,rfl⟩:=hv.nv;have hal:Below w6.heap.size w6 (w6.alloc (.cells #[.bool z.b,.slice z.p z.k z.c,.slice z.q z.j z.d] 80)):=(Below.refl _ _).alloc (Nat.le_refl _) _;have HB5:=hid (HB4.out.trans ((hb.trans (hal.mono hb.size)).mono HB4.out.size));have HWR:=hid (qjc _ _ _ (hv.later hal) (by show rs (25/2)≤Cap;exact q0k));obtain⟨⟨z0,z1,z2⟩,_⟩:=One.cells (qgu w6 z);clear hv hb hal HR HB4;go_wp2_with fail;refine HWR.out.mono ?_;rintro e w7 h;obtain⟨rfl,hb⟩:=qm6 h;have HB6:=hid (HB5.out.trans (hb.mono HB5.out.size));clear h hb HWR;rw[qp0.1,qp0.2];go_wp2_with fail;go_ret2;exact⟨rfl,HB6.out⟩
theorem q3g(w:World)(hg:GW w):Calls Tryz.prog 25 #[.string ⟨#[53,47,56]⟩,.agg #[.string ⟨#[104,97,108,102,45,101,118,101,110]⟩,.string ⟨#[49,47,52]⟩]] w fun e w'=>e = .returned (.tuple #[.string ⟨#[49,47,50]⟩,.int .i64 0])∧Below w.heap.size w w':=by
 refine(qtz ⟨#[53,47,56]⟩ ⟨#[104,97,108,102,45,101,118,101,110]⟩ ⟨#[49,47,52]⟩ w hg (by decide) (by decide)).mono fun e w' h => ?_;have c1:qaa (ByteArray.mk #[53,47,56]).data.toList=0:=by kernel_rfl
 have c2:qau (ByteArray.mk #[104,97,108,102,45,101,118,101,110]) (ByteArray.mk #[49,47,52]).data.toList=0:=by kernel_rfl
 have c3:qc8 (qj6 (ByteArray.mk #[53,47,56]).data.toList (ByteArray.mk #[104,97,108,102,45,101,118,101,110]) (ByteArray.mk #[49,47,52]).data.toList)=⟨#[49,47,50]⟩:=by kernel_rfl
 have c4:qfj (qj6 (ByteArray.mk #[53,47,56]).data.toList (ByteArray.mk #[104,97,108,102,45,101,118,101,110]) (ByteArray.mk #[49,47,52]).data.toList)=0:=by kernel_rfl
 unfold qig at h;rw[if_neg (fun h=>h c1),if_neg (fun h=>h c2)] at h;obtain⟨h1,h2⟩:=qm6 h;rw[c3,c4] at h1;exact⟨h1,h2⟩
theorem q3h(w:World)(hg:GW w):Calls Tryz.prog 25 #[.string ⟨#[45,53,47,56]⟩,.agg #[.string ⟨#[104,97,108,102,45,117,112]⟩,.string ⟨#[49,47,52]⟩]] w fun e w'=>e = .returned (.tuple #[.string ⟨#[45,49,47,50]⟩,.int .i64 0])∧Below w.heap.size w w':=by
 refine(qtz ⟨#[45,53,47,56]⟩ ⟨#[104,97,108,102,45,117,112]⟩ ⟨#[49,47,52]⟩ w hg (by decide) (by decide)).mono fun e w' h => ?_;have c1:qaa (ByteArray.mk #[45,53,47,56]).data.toList=0:=by kernel_rfl
 have c2:qau (ByteArray.mk #[104,97,108,102,45,117,112]) (ByteArray.mk #[49,47,52]).data.toList=0:=by kernel_rfl
 have c3:qc8 (qj6 (ByteArray.mk #[45,53,47,56]).data.toList (ByteArray.mk #[104,97,108,102,45,117,112]) (ByteArray.mk #[49,47,52]).data.toList)=⟨#[45,49,47,50]⟩:=by kernel_rfl
 have c4:qfj (qj6 (ByteArray.mk #[45,53,47,56]).data.toList (ByteArray.mk #[104,97,108,102,45,117,112]) (ByteArray.mk #[49,47,52]).data.toList)=0:=by kernel_rfl
 unfold qig at h;rw[if_neg (fun h=>h c1),if_neg (fun h=>h c2)] at h;obtain⟨h1,h2⟩:=qm6 h;rw[c3,c4] at h1;exact⟨h1,h2⟩
theorem za6(w:World)(hg:GW w):Calls Tryz.prog 26 #[.agg #[.string ⟨#[49]⟩,.string ⟨#[50]⟩],.agg #[.string ⟨#[45,49]⟩,.string ⟨#[51]⟩]] w fun e w'=>e = .returned (.tuple #[.agg #[.string ⟨#[45,50]⟩,.string ⟨#[54]⟩],.int .i64 0])∧Below w.heap.size w w':=by
 refine(qt8 (⟨#[49]⟩,⟨#[50]⟩) (⟨#[45,49]⟩,⟨#[51]⟩) w hg (by decide) (by decide)).mono fun e w' h => ?_;unfold qk2 at h;rw[if_neg (fun h=>h (by kernel_rfl))] at h;obtain⟨h1,h2⟩:=h;rw[if_pos (by kernel_rfl)] at h1;refine⟨?_,h2⟩;rw[h1];kernel_rfl
theorem q6z(v:Value)(w:World)(hg:GW w)(hv:qbr w v [((ByteArray.mk #[48]),(ByteArray.mk #[50])),((ByteArray.mk #[49]),(ByteArray.mk #[52])),((ByteArray.mk #[51]),(ByteArray.mk #[53]))]):Calls Tryz.prog 10 #[v] w fun e w'=>e = .returned (.tuple #[.int .i64 0,.int .i64 2,.int .i64 0])∧Below w.heap.size w w':=by
 refine(qpq v [((ByteArray.mk #[48]),(ByteArray.mk #[50])),((ByteArray.mk #[49]),(ByteArray.mk #[52])),((ByteArray.mk #[51]),(ByteArray.mk #[53]))] w hg hv (by decide)).mono fun e w' h => ?_;obtain⟨h1,h2⟩:=h;refine⟨?_,h2⟩;rw[if_neg (fun h=>h (by kernel_rfl))] at h1;have c1:qdy (([((ByteArray.mk #[48]),(ByteArray.mk #[50])),((ByteArray.mk #[49]),(ByteArray.mk #[52])),((ByteArray.mk #[51]),(ByteArray.mk #[53]))].map spQ).getD 0 (0,0)) (([((ByteArray.mk #[48]),(ByteArray.mk #[50])),((ByteArray.mk #[49]),(ByteArray.mk #[52])),((ByteArray.mk #[51]),(ByteArray.mk #[53]))].map spQ).getD 1 (0,0))=false:=by kernel_rfl
 have c2:qdy (([((ByteArray.mk #[48]),(ByteArray.mk #[50])),((ByteArray.mk #[49]),(ByteArray.mk #[52])),((ByteArray.mk #[51]),(ByteArray.mk #[53]))].map spQ).getD 0 (0,0)) (([((ByteArray.mk #[48]),(ByteArray.mk #[50])),((ByteArray.mk #[49]),(ByteArray.mk #[52])),((ByteArray.mk #[51]),(ByteArray.mk #[53]))].map spQ).getD 2 (0,0))=true:=by kernel_rfl
 rcases h1 with⟨i,k,hf,he⟩|⟨hn,_⟩
 ·obtain⟨f1,f2,f3,f4,f5⟩:=hf
  have f2':k<3:=f2;rcases Nat.lt_or_ge 0 i with hi|hi
  ·have h5:=f5 0 2 hi (by omega) (by show 2<3;omega)
   rw[c2] at h5;cases h5
  ·obtain rfl:i=0:=by omega
   rcases Nat.lt_or_ge 1 k with hk|hk
   ·obtain rfl:k=2:=by omega
    rw[he];rfl
   ·obtain rfl:k=1:=by omega
    rw[c1] at f3;cases f3
 ·have h5:=hn 0 2 (by omega) (by show 2<3;omega)
  rw[c2] at h5;cases h5
theorem q9p(v u:Value)(w:World)(hg:GW w)(hv:qbr w v [((ByteArray.mk #[49,48]),(ByteArray.mk #[49,49])),((ByteArray.mk #[49,51]),(ByteArray.mk #[49,53]))])(hu:qjv w u [2,1]):Calls Tryz.prog 11 #[v,u] w fun e w'=>e = .returned (.tuple #[.agg #[.string ⟨#[49,49]⟩,.string ⟨#[51,55,47,51]⟩],.int .i64 0])∧Below w.heap.size w w':=by
 refine(q2x v u [((ByteArray.mk #[49,48]),(ByteArray.mk #[49,49])),((ByteArray.mk #[49,51]),(ByteArray.mk #[49,53]))] [2,1] w hg hv hu (by decide) (by kernel_rfl)).mono fun e w' h => ?_;unfold qt9 at h;rw[if_neg (fun h=>h (by kernel_rfl))] at h;obtain⟨h1,h2⟩:=h;rw[if_pos (by kernel_rfl)] at h1;refine⟨?_,h2⟩;rw[h1];kernel_rfl
theorem quk(u:Value)(w:World)(hu:qjv w u [3,0,1]):Calls Tryz.prog 21 #[.int .i64 7,u] w fun e w'=>(∃g,e = .returned (.tuple #[.slice (some ⟨g,0,none⟩) 3 3,.int .i64 0])∧qhb w' g 0 [5,0,2])∧Below w.heap.size w w':=by
 refine(qe6 7 u [3,0,1] w hu (.inl (by decide))).mono fun e w' h => ?_;obtain⟨h1,h2⟩:=h;rw[if_pos (by kernel_rfl)] at h1;obtain⟨g,_,he,ho⟩:=h1;refine⟨⟨g,he,fun j x hj => ?_⟩,h2⟩;have hap:qal 7 [3,0,1]=[5,0,2]:=by kernel_rfl
 rw[hap] at ho;have hj3:j<3:=(List.getElem?_eq_some_iff.1 hj).1;have:=(ho.2 j hj3).1;rw[Nat.zero_add,this];unfold iv;rw[List.getD_eq_getElem?_getD,hj];rfl
theorem za7(w:World)(hg:GW w):Calls Tryz.prog 29 #[.int .i64 1000,.string ⟨#[50,48]⟩,.string ⟨#[51,54]⟩] w fun e w'=>e = .returned (.tuple #[.string ⟨#[49,50,53,48]⟩,.int .i64 0])∧Below w.heap.size w w':=by
 refine(q6y 1000 ⟨#[50,48]⟩ ⟨#[51,54]⟩ w hg (by omega) (by omega) ⟨by decide,by kernel_rfl,by decide +kernel,by decide +kernel⟩ ⟨by decide,by kernel_rfl,by decide +kernel,by decide +kernel⟩).mono fun e w' h => ?_;refine⟨?_,h.2⟩;rw[h.1];kernel_rfl
theorem q60(w:World):Calls Tryz.prog 31 #[.string ⟨#[108,111,116,45,55]⟩] w fun e w'=>e = .returned (.bool true)∧Below w.heap.size w w':=qj4 ⟨#[108,111,116,45,55]⟩ w
theorem q61(w:World):Calls Tryz.prog 31 #[.string ⟨#[97,32,98]⟩] w fun e w'=>e = .returned (.bool false)∧Below w.heap.size w w':=qj4 ⟨#[97,32,98]⟩ w
def q0l:List Lay:=[⟨(ByteArray.mk #[119,104,101,97,116]),600,[((ByteArray.mk #[97]),(ByteArray.mk #[49]))]⟩,⟨(ByteArray.mk #[119,104,101,97,116]),400,[((ByteArray.mk #[97]),(ByteArray.mk #[49,47,50])),((ByteArray.mk #[98]),(ByteArray.mk #[49,47,50]))]⟩]
def zca:List (ByteArray × ByteArray):=[((ByteArray.mk #[97]),(ByteArray.mk #[52,47,53])),((ByteArray.mk #[98]),(ByteArray.mk #[49,47,53]))]
theorem zcb:qfs q0l=[((ByteArray.mk #[97]),800),((ByteArray.mk #[98]),200)]:=by kernel_rfl
theorem q3i:qca q0l=1000:=by kernel_rfl
theorem q9q:qfj (800/((1000:Int):Rat))=0:=by kernel_rfl
theorem q9r:qfj (200/((1000:Int):Rat))=0:=by kernel_rfl
theorem q62:qfj (0/((1000:Int):Rat))=0:=by kernel_rfl
theorem q63:qcj [[97],[98]]=[(ByteArray.mk #[97]),(ByteArray.mk #[98])]:=by
 have h:([[97],[98]]:List (List UInt8)).mergeSort (fun x y=>decide (x≤y))=[[97],[98]]:=by simp[List.mergeSort,List.MergeSort.Internal.splitInTwo,List.merge];try decide
 unfold qcj;rw[h];rfl
theorem q64:qcj [[98],[97]]=[(ByteArray.mk #[97]),(ByteArray.mk #[98])]:=by
 have h:([[98],[97]]:List (List UInt8)).mergeSort (fun x y=>decide (x≤y))=[[97],[98]]:=by simp[List.mergeSort,List.MergeSort.Internal.splitInTwo,List.merge];try decide
 unfold qcj;rw[h];rfl
theorem q9s(s:ByteArray):qfj (ql6 (qfs q0l) s/((qca q0l:Int):Rat))=0:=by
 rw[zcb,q3i];by_cases ha:(s==(ByteArray.mk #[97]))=true
 ·have:ql6 [((ByteArray.mk #[97]),800),((ByteArray.mk #[98]),200)] s=800:=by unfold ql6;rw[List.find?_cons_of_pos (by exact ha)];rfl
  rw[this];exact q9q
 ·by_cases hb:(s==(ByteArray.mk #[98]))=true
  ·have:ql6 [((ByteArray.mk #[97]),800),((ByteArray.mk #[98]),200)] s=200:=by unfold ql6;rw[List.find?_cons_of_neg (by exact ha),List.find?_cons_of_pos (by exact hb)];rfl
   rw[this];exact q9r
  ·have:ql6 [((ByteArray.mk #[97]),800),((ByteArray.mk #[98]),200)] s=0:=by unfold ql6;rw[List.find?_cons_of_neg (by exact ha),List.find?_cons_of_neg (by exact hb)];rfl
   rw[this];exact q62
theorem q65{α:Type}{x y:α}(hne:x≠y){l:List α}(h:l.Perm [x,y]):l=[x,y]∨l=[y,x]:=by
 have hlen:=h.length_eq
 match l,hlen with
 | [p,q],_=>
  have hp:=h.mem_iff.1 (show p ∈ [p,q] by simp);have hq:=h.mem_iff.1 (show q ∈ [p,q] by simp);have hx:=h.mem_iff.2 (show x ∈ [x,y] by simp);have hy:=h.mem_iff.2 (show y ∈ [x,y] by simp);simp only[List.mem_cons,List.not_mem_nil,or_false] at hp hq hx hy;rcases hp with rfl|rfl<;>rcases hq with rfl|rfl
  ·rcases hy with hy|hy<;>exact absurd hy.symm hne
  ·exact .inl rfl
  ·exact .inr rfl
  ·rcases hx with hx|hx<;>exact absurd hx hne
theorem q9t{ss:List (List UInt8)}(h:ss.Perm ((qfs q0l).map fun p=>p.1.data.toList)):qcj ss=[(ByteArray.mk #[97]),(ByteArray.mk #[98])]:=by
 rw[zcb] at h;rcases q65 (x:=[97]) (y:=[98]) (by decide) h with h1|h1
 ·rw[h1];exact q63
 ·rw[h1];exact q64
theorem q3j:([(ByteArray.mk #[97]),(ByteArray.mk #[98])].map fun s=>(s,qc8 (ql6 (qfs q0l) s/((qca q0l:Int):Rat))))=zca:=by kernel_rfl
theorem za8(b o c:Nat)(w:World)(hg:GW w)(hrow:qfk w b o q0l)(hc:c≤maxLen):Calls Tryz.prog 27 #[.slice (some ⟨b,o,none⟩) 2 c] w fun e w'=>(∃g,e = .returned (.tuple #[.agg #[.string ⟨#[119,104,101,97,116]⟩,.int .i64 1000,.slice (some ⟨g,0,none⟩) 2 2],.int .i64 0])∧qfd w' g 0 zca)∧Below w.heap.size w w':=by
 refine(q6w q0l (ByteArray.mk #[119,104,101,97,116]) b o c w hg hrow (by decide) (by decide) hc ?_ ?_ ?_ (by rw[q3i];decide) (by rw[zcb];decide) q9s).mono fun e w' h => ?_
 ·intro x hx s hs
  simp only[q0l,List.mem_cons,List.not_mem_nil,or_false] at hx;rcases hx with rfl|rfl
  ·simp only[List.mem_cons,List.not_mem_nil,or_false] at hs
   subst hs;decide
  ·simp only[List.mem_cons,List.not_mem_nil,or_false] at hs
   rcases hs with rfl|rfl<;>decide
 ·intro x hx
  simp only[q0l,List.mem_cons,List.not_mem_nil,or_false] at hx;rcases hx with rfl|rfl<;>kernel_rfl
 ·intro x hx
  simp only[q0l,List.mem_cons,List.not_mem_nil,or_false] at hx;rcases hx with rfl|rfl<;>rfl
 ·obtain⟨ss,g,hp,_,he,hr,hb⟩:=h
  rw[q9t hp] at he hr;rw[q3j] at hr;rw[q3i] at he;refine⟨⟨g,he,fun j s hj => ?_⟩,hb⟩;obtain⟨cs,rfl,hcc⟩:=hr.get j s hj;have h0:=hcc 0 _ rfl;have h1:=hcc 1 _ rfl;rw[Nat.zero_add];exact⟨h0,h1⟩
theorem q9u(W:World)(n:Nat)(hn:n=W.heap.size)(t:TypeId)(a b c d e f:ByteArray):qbr (W.alloc (.cells #[.string a,.string b,.string c,.string d,.string e,.string f] t)) (.slice (some ⟨n,0,none⟩) 3 3) [(a,b),(c,d),(e,f)]:=by
 subst hn;refine⟨_,3,rfl,Nat.le_refl _,by decide,.inr ⟨_,_,rfl,fun j s hj => ?_⟩⟩
 match j,hj with
 | 0,hj=>cases hj;constructor<;>simp
 | 1,hj=>cases hj;constructor<;>simp
 | 2,hj=>cases hj;constructor<;>simp
theorem q3k(W:World)(n:Nat)(hn:n=W.heap.size)(t:TypeId)(a b c d:ByteArray):qbr (W.alloc (.cells #[.string a,.string b,.string c,.string d] t)) (.slice (some ⟨n,0,none⟩) 2 2) [(a,b),(c,d)]:=by
 subst hn;refine⟨_,2,rfl,Nat.le_refl _,by decide,.inr ⟨_,_,rfl,fun j s hj => ?_⟩⟩
 match j,hj with
 | 0,hj=>cases hj;constructor<;>simp
 | 1,hj=>cases hj;constructor<;>simp
theorem q9v(W:World)(n:Nat)(hn:n=W.heap.size)(t:TypeId)(a b:ByteArray):qbr (W.alloc (.cells #[.string a,.string b] t)) (.slice (some ⟨n,0,none⟩) 1 1) [(a,b)]:=by
 subst hn;refine⟨_,1,rfl,Nat.le_refl _,by decide,.inr ⟨_,_,rfl,fun j s hj => ?_⟩⟩
 match j,hj with
 | 0,hj=>cases hj;constructor<;>simp
theorem zcc(W:World)(n:Nat)(hn:n=W.heap.size)(t:TypeId)(a b:Int):qjv (W.alloc (.cells #[.int .i64 a,.int .i64 b] t)) (.slice (some ⟨n,0,none⟩) 2 2) [a,b]:=by
 subst hn;refine⟨_,2,rfl,Nat.le_refl _,by decide,.inr ⟨_,_,rfl,fun j hj => ?_⟩⟩
 match j,hj with
 | 0,hj=>simp[iv]
 | 1,hj=>simp[iv]
theorem zcd(W:World)(n:Nat)(hn:n=W.heap.size)(t:TypeId)(a b c:Int):qjv (W.alloc (.cells #[.int .i64 a,.int .i64 b,.int .i64 c] t)) (.slice (some ⟨n,0,none⟩) 3 3) [a,b,c]:=by
 subst hn;refine⟨_,3,rfl,Nat.le_refl _,by decide,.inr ⟨_,_,rfl,fun j hj => ?_⟩⟩
 match j,hj with
 | 0,hj=>simp[iv]
 | 1,hj=>simp[iv]
 | 2,hj=>simp[iv]
theorem q9w(W:World)(n:Nat)(hn:n=W.heap.size)(t:TypeId)(a b c:Int):qhb (W.alloc (.cells #[.int .i64 a,.int .i64 b,.int .i64 c] t)) n 0 [a,b,c]:=by
 subst hn;intro j x hj
 match j,hj with
 | 0,hj=>cases hj;simp
 | 1,hj=>cases hj;simp
 | 2,hj=>cases hj;simp
theorem q66(W:World)(n:Nat)(hn:n=W.heap.size)(t:TypeId)(a b c d:ByteArray):qfd (W.alloc (.cells #[.string a,.string b,.string c,.string d] t)) n 0 [(a,b),(c,d)]:=by
 subst hn;intro j s hj
 match j,hj with
 | 0,hj=>cases hj;constructor<;>simp
 | 1,hj=>cases hj;constructor<;>simp
theorem q9x(W:World)(n:Nat)(hn:n=W.heap.size)(p1 p2:Nat)(hv1:qbr W (.slice (some ⟨p1,0,none⟩) 1 1) [((ByteArray.mk #[97]),(ByteArray.mk #[49]))])(hv2:qbr W (.slice (some ⟨p2,0,none⟩) 2 2) [((ByteArray.mk #[97]),(ByteArray.mk #[49,47,50])),((ByteArray.mk #[98]),(ByteArray.mk #[49,47,50]))]):
  qfk (W.alloc (.cells #[.string ⟨#[119,104,101,97,116]⟩,.int .i64 600,.slice (some ⟨p1,0,none⟩) 1 1,.string ⟨#[119,104,101,97,116]⟩,.int .i64 400,.slice (some ⟨p2,0,none⟩) 2 2] 64)) n 0 q0l:=by
 subst hn;have hal:=(Below.refl W.heap.size W).alloc (Nat.le_refl _) (.cells #[.string ⟨#[119,104,101,97,116]⟩,.int .i64 600,.slice (some ⟨p1,0,none⟩) 1 1,.string ⟨#[119,104,101,97,116]⟩,.int .i64 400,.slice (some ⟨p2,0,none⟩) 2 2] 64);intro j x hj
 match j,hj with
 | 0,hj=>cases hj;exact⟨by simp,by simp,_,1,by simp,hv1.later hal⟩
 | 1,hj=>cases hj;exact⟨by simp,by simp,_,2,by simp,hv2.later hal⟩
theorem qdw(W:World)(o:Obj):Below W.heap.size W (W.alloc o):=(Below.refl _ _).alloc (Nat.le_refl _) _
theorem qd6(w:World)(hg:GW w):Calls Tryz.prog 6 #[] w fun e w'=>e = .returned (.bool true)∧Below w.heap.size w w':=by
 have HG:=hid hg;have H1:=hid (q3f w hg);clear hg;go_enter Tryz.func6,Tryz.ntmps6;go_wp2_with fail;refine H1.out.mono ?_;rintro e w1 ⟨rfl,hb⟩;have HB:=hid hb;clear hb H1;have H2:=hid (q3g w1 (HG.out.later HB.out));go_wp2_with fail;refine H2.out.mono ?_;rintro e w2 ⟨rfl,hb⟩;have HB2:=hid (HB.out.trans (hb.mono HB.out.size));clear hb H2 HB;have H3:=hid (q3h w2 (HG.out.later HB2.out));go_wp2_with fail;refine H3.out.mono ?_;rintro e w3 ⟨rfl,hb⟩;have HB3:=hid (HB2.out.trans (hb.mono HB2.out.size));clear hb H3 HB2;have H4:=hid (za6 w3 (HG.out.later HB3.out));go_wp2_with fail;refine H4.out.mono ?_;rintro e w4 ⟨rfl,hb⟩;have HB4:=hid (HB3.out.trans (hb.mono HB3.out.size));clear hb H4 HB3;have O7:=hid (qbl w4 28 (.string ⟨#[45,50]⟩) (.string ⟨#[54]⟩));have hal:=qdw w4 (.cells #[.string ⟨#[45,50]⟩,.string ⟨#[54]⟩] 28);have hal2:=qdw (w4.alloc (.cells #[.string ⟨#[45,50]⟩,.string ⟨#[54]⟩] 28)) (.cells #[.string ⟨#[48]⟩,.string ⟨#[50]⟩,.string ⟨#[49]⟩,.string ⟨#[52]⟩,.string ⟨#[51]⟩,.string ⟨#[53]⟩] 28);have O7':=hid (O7.out.later (hal2.mono O7.out.1));have HB5:=hid (HB4.out.trans ((hal.trans (hal2.mono hal.size)).mono HB4.out.size));have H5:=hid (q6z _ _ (HG.out.later HB5.out) (q9u (w4.alloc (.cells #[.string ⟨#[45,50]⟩,.string ⟨#[54]⟩] 28)) (w4.heap.size+1) (by simp) 28 ⟨#[48]⟩ ⟨#[50]⟩ ⟨#[49]⟩ ⟨#[52]⟩ ⟨#[51]⟩ ⟨#[53]⟩));clear hal hal2 O7 HB4;go_wp2_with fail;refine H5.out.mono ?_;rintro e w5 ⟨rfl,hb⟩;have HB6:=hid (HB5.out.trans (hb.mono HB5.out.size));have O7:=hid (O7'.out.later (hb.mono O7'.out.1));clear hb H5 HB5 O7';generalize w4.heap.size=n7 at *;have hal:=qdw w5 (.cells #[.string ⟨#[49,48]⟩,.string ⟨#[49,49]⟩,.string ⟨#[49,51]⟩,.string ⟨#[49,53]⟩] 28)
 have hal2:=qdw (w5.alloc (.cells #[.string ⟨#[49,48]⟩,.string ⟨#[49,49]⟩,.string ⟨#[49,51]⟩,.string ⟨#[49,53]⟩] 28)) (.cells #[.int .i64 2,.int .i64 1] 3);have hall:=hal.trans (hal2.mono hal.size);have O7':=hid (O7.out.later (hall.mono O7.out.1));have HB7:=hid (HB6.out.trans (hall.mono HB6.out.size));have H6:=hid (q9p _ _ _ (HG.out.later HB7.out) ((q3k w5 w5.heap.size rfl 28 ⟨#[49,48]⟩ ⟨#[49,49]⟩ ⟨#[49,51]⟩ ⟨#[49,53]⟩).later hal2) (zcc (w5.alloc (.cells #[.string ⟨#[49,48]⟩,.string ⟨#[49,49]⟩,.string ⟨#[49,51]⟩,.string ⟨#[49,53]⟩] 28)) (w5.heap.size+1) (by simp) 3 2 1));clear hal hal2 hall O7 HB6;go_wp2_with fail;refine H6.out.mono ?_;rintro e w6 ⟨rfl,hb⟩;have HB8:=hid (HB7.out.trans (hb.mono HB7.out.size));have O7:=hid (O7'.out.later (hb.mono O7'.out.1));clear hb H6 HB7 O7';have O12:=hid (qbl w6 28 (.string ⟨#[49,49]⟩) (.string ⟨#[51,55,47,51]⟩));have hal:=qdw w6 (.cells #[.string ⟨#[49,49]⟩,.string ⟨#[51,55,47,51]⟩] 28);have hal2:=qdw (w6.alloc (.cells #[.string ⟨#[49,49]⟩,.string ⟨#[51,55,47,51]⟩] 28)) (.cells #[.int .i64 3,.int .i64 0,.int .i64 1] 3);have hall:=hal.trans (hal2.mono hal.size);have O12':=hid (O12.out.later (hal2.mono O12.out.1));have O7':=hid (O7.out.later (hall.mono O7.out.1));have HB9:=hid (HB8.out.trans (hall.mono HB8.out.size));have H7:=hid (quk _ _ (zcd (w6.alloc (.cells #[.string ⟨#[49,49]⟩,.string ⟨#[51,55,47,51]⟩] 28)) (w6.heap.size+1) (by simp) 3 3 0 1));clear hal hal2 hall O7 O12 HB8;go_wp2_with fail;refine H7.out.mono ?_;rintro e w7 ⟨⟨g14,rfl,hI⟩,hb⟩;have HB10:=hid (HB9.out.trans (hb.mono HB9.out.size));have O7:=hid (O7'.out.later (hb.mono O7'.out.1));have O12:=hid (O12'.out.later (hb.mono O12'.out.1));have HI:=hid hI;clear hb hI H7 HB9 O7' O12';generalize w6.heap.size=n12 at *;have HON:=hid (q9o ⟨#[97]⟩ w7);go_wp2_with fail
 refine HON.out.mono ?_;rintro e w8 ⟨rfl,rfl⟩;clear HON;have ha1:=qdw w7 (.cells #[.string ⟨#[97]⟩,.string ⟨#[49]⟩] 69);have ha2:=qdw (w7.alloc (.cells #[.string ⟨#[97]⟩,.string ⟨#[49]⟩] 69)) (.cells #[.string ⟨#[97]⟩,.string ⟨#[49,47,50]⟩,.string ⟨#[98]⟩,.string ⟨#[49,47,50]⟩] 69);have ha3:=qdw ((w7.alloc (.cells #[.string ⟨#[97]⟩,.string ⟨#[49]⟩] 69)).alloc (.cells #[.string ⟨#[97]⟩,.string ⟨#[49,47,50]⟩,.string ⟨#[98]⟩,.string ⟨#[49,47,50]⟩] 69)) (.cells #[.string ⟨#[119,104,101,97,116]⟩,.int .i64 600,.slice (some ⟨w7.heap.size,0,none⟩) 1 1,.string ⟨#[119,104,101,97,116]⟩,.int .i64 400,.slice (some ⟨w7.heap.size+1,0,none⟩) 2 2] 64);have hall:=ha1.trans ((ha2.trans (ha3.mono ha2.size)).mono ha1.size);have HB11:=hid (HB10.out.trans (hall.mono HB10.out.size));have O7':=hid (O7.out.later (hall.mono O7.out.1));have O12':=hid (O12.out.later (hall.mono O12.out.1));have HI':=hid (HI.out.later hall);have H8:=hid (za8 _ 0 2 _ (HG.out.later HB11.out) (q9x ((w7.alloc (.cells #[.string ⟨#[97]⟩,.string ⟨#[49]⟩] 69)).alloc (.cells #[.string ⟨#[97]⟩,.string ⟨#[49,47,50]⟩,.string ⟨#[98]⟩,.string ⟨#[49,47,50]⟩] 69)) (w7.heap.size+1+1) (by simp) w7.heap.size (w7.heap.size+1) ((q9v w7 w7.heap.size rfl 69 ⟨#[97]⟩ ⟨#[49]⟩).later ha2) (q3k (w7.alloc (.cells #[.string ⟨#[97]⟩,.string ⟨#[49]⟩] 69)) (w7.heap.size+1) (by simp) 69 ⟨#[97]⟩ ⟨#[49,47,50]⟩ ⟨#[98]⟩ ⟨#[49,47,50]⟩)) (by decide));clear ha1 ha2 ha3 hall O7 O12 HI HB10;go_wp2_with fail;refine H8.out.mono ?_;rintro e w8 ⟨⟨g16,rfl,hS⟩,hb⟩;have HB12:=hid (HB11.out.trans (hb.mono HB11.out.size));have O7:=hid (O7'.out.later (hb.mono O7'.out.1));have O12:=hid (O12'.out.later (hb.mono O12'.out.1));have HI:=hid (HI'.out.later hb);have HS:=hid hS;clear hb hS H8 HB11 O7' O12' HI'
 have O16:=hid (qe5 w8 64 (.string ⟨#[119,104,101,97,116]⟩) (.int .i64 1000) (.slice (some ⟨g16,0,none⟩) 2 2));have hal:=qdw w8 (.cells #[.string ⟨#[119,104,101,97,116]⟩,.int .i64 1000,.slice (some ⟨g16,0,none⟩) 2 2] 64);have HB13:=hid (HB12.out.trans (hal.mono HB12.out.size));have O7':=hid (O7.out.later (hal.mono O7.out.1));have O12':=hid (O12.out.later (hal.mono O12.out.1));have HI':=hid (HI.out.later hal);have HS':=hid (HS.out.later hal);have H9:=hid (za7 _ (HG.out.later HB13.out));clear hal O7 O12 HI HS HB12;go_wp2_with fail;refine H9.out.mono ?_;rintro e w9 ⟨rfl,hb⟩;have HB14:=hid (HB13.out.trans (hb.mono HB13.out.size));have HI:=hid (HI'.out.later hb);have HS:=hid (HS'.out.later hb);have O16':=hid (O16.out.later (hb.mono O16.out.1));obtain⟨p0,p1⟩:=qag (O7'.out.later (hb.mono O7'.out.1));obtain⟨q0,q1⟩:=qag (O12'.out.later (hb.mono O12'.out.1));clear hb H9 HB13 HI' HS' O16 O7' O12';generalize w8.heap.size=n16 at *;have ha1:=qdw w9 (.cells #[.string ⟨#[97]⟩,.string ⟨#[52,47,53]⟩,.string ⟨#[98]⟩,.string ⟨#[49,47,53]⟩] 69);have ha2:=qdw (w9.alloc (.cells #[.string ⟨#[97]⟩,.string ⟨#[52,47,53]⟩,.string ⟨#[98]⟩,.string ⟨#[49,47,53]⟩] 69)) (.cells #[.string ⟨#[119,104,101,97,116]⟩,.int .i64 1000,.slice (some ⟨w9.heap.size,0,none⟩) 2 2] 64);have ha3:=qdw ((w9.alloc (.cells #[.string ⟨#[97]⟩,.string ⟨#[52,47,53]⟩,.string ⟨#[98]⟩,.string ⟨#[49,47,53]⟩] 69)).alloc (.cells #[.string ⟨#[119,104,101,97,116]⟩,.int .i64 1000,.slice (some ⟨w9.heap.size,0,none⟩) 2 2] 64)) (.cells #[.int .i64 5,.int .i64 0,.int .i64 2] 3);have ha23:=ha2.trans (ha3.mono ha2.size);have hall:=ha1.trans (ha23.mono ha1.size);have HB15:=hid (HB14.out.trans (hall.mono HB14.out.size));have HS2:=hid ((q66 w9 w9.heap.size rfl 69 ⟨#[97]⟩ ⟨#[52,47,53]⟩ ⟨#[98]⟩ ⟨#[49,47,53]⟩).later ha23)
 have o20:=qe5 (w9.alloc (.cells #[.string ⟨#[97]⟩,.string ⟨#[52,47,53]⟩,.string ⟨#[98]⟩,.string ⟨#[49,47,53]⟩] 69)) 64 (.string ⟨#[119,104,101,97,116]⟩) (.int .i64 1000) (.slice (some ⟨w9.heap.size,0,none⟩) 2 2);have O20:=hid (o20.later (ha3.mono o20.1));have HI2:=hid (q9w ((w9.alloc (.cells #[.string ⟨#[97]⟩,.string ⟨#[52,47,53]⟩,.string ⟨#[98]⟩,.string ⟨#[49,47,53]⟩] 69)).alloc (.cells #[.string ⟨#[119,104,101,97,116]⟩,.int .i64 1000,.slice (some ⟨w9.heap.size,0,none⟩) 2 2] 64)) (w9.heap.size+1+1) (by simp) 3 5 0 2);have H10:=hid (ql7 [5,0,2] g14 0 3 (w9.heap.size+1+1) 0 3 _ (HI.out.later hall) HI2.out (by decide));have HS3:=hid (HS.out.later hall);have O16:=hid (O16'.out.later (hall.mono O16'.out.1));clear ha1 ha2 ha3 ha23 hall HB14 HS HI HI2 O16' o20;go_wp2_with fail;refine H10.out.mono ?_;rintro e w10 ⟨rfl,hb⟩;have HB16:=hid (HB15.out.trans (hb.mono HB15.out.size));obtain⟨a0,_⟩:=(O16.out.later (hb.mono O16.out.1)).2 0 (by omega);obtain⟨a1,_⟩:=(O16.out.later (hb.mono O16.out.1)).2 1 (by omega);obtain⟨a2,_⟩:=(O16.out.later (hb.mono O16.out.1)).2 2 (by omega);have O20':=O20.out.later (hb.mono O20.out.1);rw[World.size_alloc] at O20';obtain⟨d0,_⟩:=O20'.2 0 (by omega);obtain⟨d1,_⟩:=O20'.2 1 (by omega);obtain⟨d2,_⟩:=O20'.2 2 (by omega);simp only[qh1,if_pos,Nat.one_ne_zero] at a0 a1 a2 d0 d1 d2;have H11:=hid (qqv zca ⟨#[119,104,101,97,116]⟩ 1000 g16 0 2 w9.heap.size 0 2 w10 (HS3.out.later hb) (HS2.out.later hb) (by decide));have HN1:=hid q60;have HN2:=hid q61;clear hb H10 HB15 HS2 HS3 O16 O20 O20';go_wp2_with fail;refine H11.out.mono ?_;rintro e w11 ⟨rfl,hb⟩;have HB17:=hid (HB16.out.trans (hb.mono HB16.out.size));clear hb H11 HB16 a0 a1 a2 d0 d1 d2 p0 p1 q0 q1;go_wp2_with fail;refine(HN1.out _).mono ?_;rintro e w12 ⟨rfl,hb⟩
 have HB18:=hid (HB17.out.trans (hb.mono HB17.out.size));clear hb HN1 HB17;go_wp2_with fail;refine(HN2.out _).mono ?_;rintro e w13 ⟨rfl,hb⟩;have HB19:=hid (HB18.out.trans (hb.mono HB18.out.size));clear hb HN2 HB18;go_wp2_with fail;go_ret;exact⟨rfl,HB19.out⟩
end Go.Proofs.YthjagoogkkgelaaGreatDoor
