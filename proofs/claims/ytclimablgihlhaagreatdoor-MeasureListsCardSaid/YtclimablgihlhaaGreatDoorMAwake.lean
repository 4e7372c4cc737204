/- The reference's comparisons, where both are the same; one. -/
import Derived.Test.YtclimablgihlhaaGreatDoorMEachLayer
import Derived.Test.YtclimablgihlhaaGreatDoorMBase
import Derived.BigQuiet
import Derived.Test.YtclimablgihlhaaGreatDoorMNumWalk
import Derived.Test.YtclimablgihlhaaGreatDoorMSpans
import Derived.Test.YtclimablgihlhaaGreatDoorMNv
import Derived.Test.YtclimablgihlhaaGreatDoorMMinMax
import Derived.Test.YtclimablgihlhaaGreatDoorMRounded
import Derived.Test.YtclimablgihlhaaGreatDoorMClash
import Derived.Test.YtclimablgihlhaaGreatDoorMMean
import Derived.Test.YtclimablgihlhaaGreatDoorMApport
import Derived.Test.YtclimablgihlhaaGreatDoorMMix
set_option linter.all false
namespace Go.Proofs.YtclimablgihlhaaGreatDoor
open Go.RowKit
set_option maxRecDepth 100000
set_option maxHeartbeats 8000000
def qpe(W:World)(b o:Nat)(l:List Int):Prop:=∀(j:Nat) (x:Int),l[j]? = some x→W.cell? ⟨b,o+j,none⟩=some (.int .i64 x)
theorem qpe.later{W W':World}{b o:Nat}{l:List Int}(h:qpe W b o l)(hb:Below W.heap.size W W'):qpe W' b o l:=fun j x hj=>by
 rw[hb.cell (zaq W _ (h j x hj))];exact h j x hj
theorem qrx(l:List Int)(b o c b' o' c':Nat)(w:World)(h:qpe w b o l)(h':qpe w b' o' l)(hl:l.length≤1048576):
  Calls Tryz.prog 26 #[.slice (some ⟨b,o,none⟩) l.length c,.slice (some ⟨b',o',none⟩) l.length c'] w fun e w'=>e = .returned (.bool true)∧Below w.heap.size w w':=by
 have HA:=hid h;have HB:=hid h';clear h h';go_enter Tryz.func26,Tryz.ntmps26;go_wp2_with fail
 go_loopw [5] (fun i wr=>∃k:Nat,k≤l.length∧i = .int .i64 k∧Hid (Below w.heap.size w wr)) (fun i _=>l.length-(intOf i).toNat)
 case atStart=>exact⟨0,Nat.zero_le _,rfl,hid (zan _ _)⟩
 case round=>
  obtain⟨k,hk,rfl,bR⟩:=hrel;by_cases cV:k<l.length
  ·obtain⟨x,hx⟩:∃x,l[k]? = some x:=⟨l[k],zau cV⟩
   have e0:=HA.out k x hx;have e1:=HB.out k x hx;have c0:wr.cell? ⟨b,o+k,none⟩=some (.int .i64 x):=by rw[bR.out.cell (zaq w _ e0)];exact e0
   have c1:wr.cell? ⟨b',o'+k,none⟩=some (.int .i64 x):=by rw[bR.out.cell (zaq w _ e1)];exact e1
   clear e0 e1 hx;go_wp2_with fail
   go_quiet (fail)
   go_wp2_with fail;go_roundw
   case rel=>exact⟨k+1,by omega,by go_num,hid (below_drewN bR.out _)⟩
   case measure=>simp[intOf];omega
  ·obtain rfl:k=l.length:=by omega
   go_wp2_with fail;go_ret;exact⟨rfl,bR.out⟩
theorem qpf(l:List (BA × BA))(b o c b' o' c':Nat)(w:World)(h:qe4 w b o l)(h':qe4 w b' o' l)(hl:l.length≤1048576):
  Calls Tryz.prog 65 #[.slice (some ⟨b,o,none⟩) l.length c,.slice (some ⟨b',o',none⟩) l.length c'] w fun e w'=>e = .returned (.bool true)∧Below w.heap.size w w':=by
 have HA:=hid h;have HB:=hid h';clear h h';go_enter Tryz.func65,Tryz.ntmps65;go_wp2_with fail
 go_loopw [5] (fun i wr=>∃k:Nat,k≤l.length∧i = .int .i64 k∧Hid (Below w.heap.size w wr)) (fun i _=>l.length-(intOf i).toNat)
 case atStart=>exact⟨0,Nat.zero_le _,rfl,hid (zan _ _)⟩
 case round=>
  obtain⟨k,hk,rfl,bR⟩:=hrel;by_cases cV:k<l.length
  ·obtain⟨x,hx⟩:∃x,l[k]? = some x:=⟨l[k],zau cV⟩
   obtain⟨e0,f0⟩:=HA.out k x hx;obtain⟨e1,f1⟩:=HB.out k x hx;have c0:wr.cell? ⟨b,o+k*2,none⟩=some (.string x.1):=by rw[bR.out.cell (zaq w _ e0)];exact e0
   have c1:wr.cell? ⟨b',o'+k*2,none⟩=some (.string x.1):=by rw[bR.out.cell (zaq w _ e1)];exact e1
   have d0:wr.cell? ⟨b,o+k*2+1,none⟩=some (.string x.2):=by rw[bR.out.cell (zaq w _ f0)];exact f0
   have d1:wr.cell? ⟨b',o'+k*2+1,none⟩=some (.string x.2):=by rw[bR.out.cell (zaq w _ f1)];exact f1
   clear e0 e1 f0 f1 hx;go_wp2_with fail
   go_quiet (fail)
   go_wp2_with fail;go_roundw
   case rel=>exact⟨k+1,by omega,by go_num,hid (below_drewN bR.out _)⟩
   case measure=>simp[intOf];omega
  ·obtain rfl:k=l.length:=by omega
   go_wp2_with fail;go_ret;exact⟨rfl,bR.out⟩
theorem qt3(p p':Option Addr)(n c c':Nat)(g0:BA)(ms:Int)(w:World)
  (Dk:Hid (∀W,Below w.heap.size w W→Calls Tryz.prog 65 #[.slice p n c,.slice p' n c'] W fun e w'=>e = .returned (.bool true)∧Below W.heap.size W w')):
  Calls Tryz.prog 27 #[.agg #[.string g0,.int .i64 ms,.slice p n c],.agg #[.string g0,.int .i64 ms,.slice p' n c']] w fun e w'=>e = .returned (.bool true)∧Below w.heap.size w w':=by
 obtain⟨W1,Uy⟩:∃W1,W1=w.alloc (.cells #[.string g0,.int .i64 ms,.slice p n c] 57):=⟨_,rfl⟩;obtain⟨W2,Ji⟩:∃W2,W2=W1.alloc (.cells #[.string g0,.int .i64 ms,.slice p' n c'] 57):=⟨_,rfl⟩;have bB:Below w.heap.size w W1:=by rw[Uy];exact zam _ _
 have aT:Below W1.heap.size W1 W2:=by rw[Ji];exact zam _ _
 have eW:W1.heap.size=w.heap.size+1:=by rw[Uy];exact zao _ _
 have o1:Own W1 w.heap.size 3 (qhm (.string g0) (.int .i64 ms) (.slice p n c)):=by rw[Uy];exact qev _ _ _ _ _
 have o2:Own W2 (w.heap.size+1) 3 (qhm (.string g0) (.int .i64 ms) (.slice p' n c')):=by rw[←eW,Ji];exact qev _ _ _ _ _
 have o1':=o1.later (aT.mono o1.1);have dV:=hid (bB.trans (aT.mono bB.size));obtain⟨a0,_⟩:=o1'.2 0 (by omega);obtain⟨a1,_⟩:=o1'.2 1 (by omega);obtain⟨a2,_⟩:=o1'.2 2 (by omega);obtain⟨d0,_⟩:=o2.2 0 (by omega);obtain⟨d1,_⟩:=o2.2 1 (by omega);obtain⟨d2,_⟩:=o2.2 2 (by omega);simp only[qhm,if_pos,if_neg,Nat.one_ne_zero] at a0 a1 a2 d0 d1 d2;rw[Uy] at Ji;subst Ji;have HC:=hid (Dk.out _ dV.out);clear bB aT eW o1 o2 o1' Uy Dk;go_enter Tryz.func27,Tryz.ntmps27;go_wp2_with fail;refine HC.out.mono ?_;rintro e w3 ⟨rfl,hb⟩;have HF:=hid (dV.out.trans (hb.mono dV.out.size));clear hb HC;go_wp2_with fail;go_ret;exact⟨rfl,HF.out⟩
theorem qpz(l:List (BA × BA))(g0:BA)(ms:Int)(b o c b' o' c':Nat)(w:World)(h:qe4 w b o l)(h':qe4 w b' o' l)(hl:l.length≤1048576):
  Calls Tryz.prog 27 #[.agg #[.string g0,.int .i64 ms,.slice (some ⟨b,o,none⟩) l.length c],.agg #[.string g0,.int .i64 ms,.slice (some ⟨b',o',none⟩) l.length c']] w fun e w'=>e = .returned (.bool true)∧Below w.heap.size w w':=
 qt3 _ _ _ c c' g0 ms w (hid fun W hW=>qpf l b o c b' o' c' W (h.later hW) (h'.later hW) hl)
theorem q79(s:BA)(w:World):Calls Tryz.prog 24 #[.string s] w fun e w'=>e = .returned (.slice (some ⟨w.heap.size,0,none⟩) 1 1)∧w'=w.alloc (.cells #[.string s,.string ⟨#[49]⟩] 62):=by
 go_enter Tryz.func24,Tryz.ntmps24;go_wp2_with fail;go_ret;exact⟨rfl,rfl⟩
theorem qzc(W:World):Calls Tryz.prog 89 #[.string ⟨#[48]⟩,.int .i64 2] W fun e w'=>e = .returned (.string ⟨#[48,48]⟩)∧Below W.heap.size W w':=
 (Tryz.strings_Repeat ⟨#[48]⟩ 2 W (by omega) (by decide)).mono fun e w' h=>⟨h.1,h.2⟩
theorem q2p(W:World)(hg:GW W):Calls Tryz.prog 46 #[.string ⟨#[49,50,46,53,48]⟩,.string ⟨#[46]⟩] W fun e w'=>e = .returned (.tuple #[.string ⟨#[49,50]⟩,.string ⟨#[53,48]⟩,.bool true])∧Below W.heap.size W w':=by
 obtain⟨_,m,hm⟩:=hg;refine(Tryz.strings_Cut ⟨#[49,50,46,53,48]⟩ ⟨#[46]⟩ m W (by decide) hm).mono ?_;rintro e w' ⟨h1,k,h2⟩;exact⟨h1,by rw[h2];exact below_drewN (zan _ _) k⟩
theorem q2q(W:World)(hg:GW W):Calls Tryz.prog 46 #[.string ⟨#[49,50,46,53,48]⟩,.string ⟨#[47]⟩] W fun e w'=>e = .returned (.tuple #[.string ⟨#[49,50,46,53,48]⟩,.string ⟨#[]⟩,.bool false])∧Below W.heap.size W w':=by
 obtain⟨_,m,hm⟩:=hg;refine(Tryz.strings_Cut ⟨#[49,50,46,53,48]⟩ ⟨#[47]⟩ m W (by decide) hm).mono ?_;rintro e w' ⟨h1,k,h2⟩;exact⟨h1,by rw[h2];exact below_drewN (zan _ _) k⟩
theorem q2r(w:World)(hg:GW w):Calls Tryz.prog 47 #[.string ⟨#[49,50,46,53,48]⟩] w fun e w'=>e = .returned (.tuple #[.string ⟨#[49,50,53,48]⟩,.string ⟨#[49,48,48]⟩])∧Below w.heap.size w w':=by
 have HC:=hid (q2p w hg);have HR:=hid qzc;clear hg;go_enter Tryz.func47,Tryz.ntmps47;go_wp2_with fail;refine HC.out.mono ?_;rintro e w1 ⟨rfl,hb⟩;have HB:=hid hb;clear hb HC;go_wp2_with fail;refine(HR.out _).mono ?_;rintro e w2 ⟨rfl,hb⟩;have aR:=hid (HB.out.trans (hb.mono HB.out.size));clear hb HR HB;go_wp2_with fail;go_ret2;exact⟨rfl,aR.out⟩
theorem qzd(W:World):Calls Tryz.prog 45 #[.string ⟨#[49,50,46,53,48]⟩,.string ⟨#[45]⟩] W fun e w'=>e = .returned (.string ⟨#[49,50,46,53,48]⟩)∧w'=W:=Tryz.strings_TrimPrefix ⟨#[49,50,46,53,48]⟩ ⟨#[45]⟩ W
theorem q2s:qfw (ByteArray.mk #[49,50,53,48,47,49,48,48]).data.toList=some (25/2):=by kernel_rfl
theorem qze:rs (25/2)≤Cap:=Nat.le_of_ble_eq_true (by kernel_rfl)
theorem qpg:qcw (25/2)=⟨#[50,53,47,50]⟩∧qfa (25/2)=0:=by constructor<;>kernel_rfl
theorem q2t(w:World)(hg:GW w):Calls Tryz.prog 19 #[.string ⟨#[49,50,46,53,48]⟩] w fun e w'=>e = .returned (.tuple #[.string ⟨#[50,53,47,50]⟩,.int .i64 0])∧Below w.heap.size w w':=by
 have HT:=hid qzd;have HC:=hid (q2q w hg);have HG:=hid hg;clear hg;go_enter Tryz.func19,Tryz.ntmps19;go_wp2_with fail;refine(HT.out _).mono ?_;rintro e w1 ⟨rfl,rfl⟩;go_wp2_with fail;refine HC.out.mono ?_;rintro e w2 ⟨rfl,hb⟩;have HB:=hid hb;clear hb HC HT;have HP:=hid (q2r w2 (HG.out.later HB.out));go_wp2_with fail;refine HP.out.mono ?_;rintro e w3 ⟨rfl,hb⟩;have aR:=hid (HB.out.trans (hb.mono HB.out.size));clear hb HP HB;have eF:=hid (qfv ⟨#[49,50,53,48]⟩ w3);go_wp2_with fail;refine eF.out.mono ?_;rintro e w4 ⟨rfl,hb⟩;have bY:=hid (aR.out.trans (hb.mono aR.out.size));clear hb eF aR;have lD:=hid (qfv ⟨#[49,48,48]⟩ w4);go_wp2_with fail;refine lD.out.mono ?_;rintro e w5 ⟨rfl,hb⟩;have fA:=hid (bY.out.trans (hb.mono bY.out.size));clear hb lD bY;have HR:=hid (qwo (ByteArray.mk #[49,50,53,48,47,49,48,48]) w5 (HG.out.later fA.out) (by decide));rw[q2s] at HR;go_wp2_with fail;refine HR.out.mono ?_;rintro e w6 ⟨⟨v,rfl,hv⟩,hb⟩;obtain⟨z,rfl⟩:=hv.nv;have aD:Below w6.heap.size w6 (w6.alloc (.cells #[.bool z.b,.slice z.p z.k z.c,.slice z.q z.j z.d] 74)):=zam _ _;have lJ:=hid (fA.out.trans ((hb.trans (aD.mono hb.size)).mono fA.out.size));have sW:=hid (qiv _ _ _ (hv.later aD) (by show rs (25/2)≤Cap;exact qze));obtain⟨⟨z0,z1,z2⟩,_⟩:=One.cells (qgg w6 z);clear hv hb aD HR fA;go_wp2_with fail;refine sW.out.mono ?_;rintro e w7 h;obtain⟨rfl,hb⟩:=qmj h;have lK:=hid (lJ.out.trans (hb.mono lJ.out.size));clear h hb sW;rw[qpg.1,qpg.2];go_wp2_with fail;go_ret2;exact⟨rfl,lK.out⟩
theorem q2u(w:World)(hg:GW w):Calls Tryz.prog 20 #[.string ⟨#[53,47,56]⟩,.agg #[.string ⟨#[104,97,108,102,45,101,118,101,110]⟩,.string ⟨#[49,47,52]⟩]] w fun e w'=>e = .returned (.tuple #[.string ⟨#[49,47,50]⟩,.int .i64 0])∧Below w.heap.size w w':=by
 refine(qs2 ⟨#[53,47,56]⟩ ⟨#[104,97,108,102,45,101,118,101,110]⟩ ⟨#[49,47,52]⟩ w hg (by decide) (by decide)).mono fun e w' h => ?_;have c1:qaa (ByteArray.mk #[53,47,56]).data.toList=0:=by kernel_rfl
 have c2:qau (ByteArray.mk #[104,97,108,102,45,101,118,101,110]) (ByteArray.mk #[49,47,52]).data.toList=0:=by kernel_rfl
 have c3:qcw (qjl (ByteArray.mk #[53,47,56]).data.toList (ByteArray.mk #[104,97,108,102,45,101,118,101,110]) (ByteArray.mk #[49,47,52]).data.toList)=⟨#[49,47,50]⟩:=by kernel_rfl
 have c4:qfa (qjl (ByteArray.mk #[53,47,56]).data.toList (ByteArray.mk #[104,97,108,102,45,101,118,101,110]) (ByteArray.mk #[49,47,52]).data.toList)=0:=by kernel_rfl
 unfold qhz at h;rw[if_neg (fun h=>h c1),if_neg (fun h=>h c2)] at h;obtain⟨h1,h2⟩:=qmj h;rw[c3,c4] at h1;exact⟨h1,h2⟩
theorem q2v(w:World)(hg:GW w):Calls Tryz.prog 20 #[.string ⟨#[45,53,47,56]⟩,.agg #[.string ⟨#[104,97,108,102,45,117,112]⟩,.string ⟨#[49,47,52]⟩]] w fun e w'=>e = .returned (.tuple #[.string ⟨#[45,49,47,50]⟩,.int .i64 0])∧Below w.heap.size w w':=by
 refine(qs2 ⟨#[45,53,47,56]⟩ ⟨#[104,97,108,102,45,117,112]⟩ ⟨#[49,47,52]⟩ w hg (by decide) (by decide)).mono fun e w' h => ?_;have c1:qaa (ByteArray.mk #[45,53,47,56]).data.toList=0:=by kernel_rfl
 have c2:qau (ByteArray.mk #[104,97,108,102,45,117,112]) (ByteArray.mk #[49,47,52]).data.toList=0:=by kernel_rfl
 have c3:qcw (qjl (ByteArray.mk #[45,53,47,56]).data.toList (ByteArray.mk #[104,97,108,102,45,117,112]) (ByteArray.mk #[49,47,52]).data.toList)=⟨#[45,49,47,50]⟩:=by kernel_rfl
 have c4:qfa (qjl (ByteArray.mk #[45,53,47,56]).data.toList (ByteArray.mk #[104,97,108,102,45,117,112]) (ByteArray.mk #[49,47,52]).data.toList)=0:=by kernel_rfl
 unfold qhz at h;rw[if_neg (fun h=>h c1),if_neg (fun h=>h c2)] at h;obtain⟨h1,h2⟩:=qmj h;rw[c3,c4] at h1;exact⟨h1,h2⟩
theorem q9t(w:World)(hg:GW w):Calls Tryz.prog 21 #[.agg #[.string ⟨#[49]⟩,.string ⟨#[50]⟩],.agg #[.string ⟨#[45,49]⟩,.string ⟨#[51]⟩]] w fun e w'=>e = .returned (.tuple #[.agg #[.string ⟨#[45,50]⟩,.string ⟨#[54]⟩],.int .i64 0])∧Below w.heap.size w w':=by
 refine(qtv (⟨#[49]⟩,⟨#[50]⟩) (⟨#[45,49]⟩,⟨#[51]⟩) w hg (by decide) (by decide)).mono fun e w' h => ?_;unfold qkk at h;rw[if_neg (fun h=>h (by kernel_rfl))] at h;obtain⟨h1,h2⟩:=h;rw[if_pos (by kernel_rfl)] at h1;refine⟨?_,h2⟩;rw[h1];kernel_rfl
theorem q5m(v:Value)(w:World)(hg:GW w)(hv:qbq w v [((ByteArray.mk #[48]),(ByteArray.mk #[50])),((ByteArray.mk #[49]),(ByteArray.mk #[52])),((ByteArray.mk #[51]),(ByteArray.mk #[53]))]):Calls Tryz.prog 8 #[v] w fun e w'=>e = .returned (.tuple #[.int .i64 0,.int .i64 2,.int .i64 0])∧Below w.heap.size w w':=by
 refine(qo8 v [((ByteArray.mk #[48]),(ByteArray.mk #[50])),((ByteArray.mk #[49]),(ByteArray.mk #[52])),((ByteArray.mk #[51]),(ByteArray.mk #[53]))] w hg hv (by decide)).mono fun e w' h => ?_;obtain⟨h1,h2⟩:=h;refine⟨?_,h2⟩;rw[if_neg (fun h=>h (by kernel_rfl))] at h1;have c1:qdj (([((ByteArray.mk #[48]),(ByteArray.mk #[50])),((ByteArray.mk #[49]),(ByteArray.mk #[52])),((ByteArray.mk #[51]),(ByteArray.mk #[53]))].map spQ).getD 0 (0,0)) (([((ByteArray.mk #[48]),(ByteArray.mk #[50])),((ByteArray.mk #[49]),(ByteArray.mk #[52])),((ByteArray.mk #[51]),(ByteArray.mk #[53]))].map spQ).getD 1 (0,0))=false:=by kernel_rfl
 have c2:qdj (([((ByteArray.mk #[48]),(ByteArray.mk #[50])),((ByteArray.mk #[49]),(ByteArray.mk #[52])),((ByteArray.mk #[51]),(ByteArray.mk #[53]))].map spQ).getD 0 (0,0)) (([((ByteArray.mk #[48]),(ByteArray.mk #[50])),((ByteArray.mk #[49]),(ByteArray.mk #[52])),((ByteArray.mk #[51]),(ByteArray.mk #[53]))].map spQ).getD 2 (0,0))=true:=by kernel_rfl
 rcases h1 with⟨i,k,hf,he⟩|⟨hn,_⟩
 ·obtain⟨f1,f2,f3,f4,f5⟩:=hf
  have f2':k<3:=f2;rcases Nat.lt_or_ge 0 i with hi|hi
  ·have h5:=f5 0 2 hi (by omega) (by show 2<3;omega)
   rw[c2] at h5;cases h5
  ·obtain rfl:i=0:=by omega
   rcases Nat.lt_or_ge 1 k with hk|hk
   ·obtain rfl:k=2:=by omega
    rw[he];rfl
   ·obtain rfl:k=1:=by omega
    rw[c1] at f3;cases f3
 ·have h5:=hn 0 2 (by omega) (by show 2<3;omega)
  rw[c2] at h5;cases h5
theorem q8a(v u:Value)(w:World)(hg:GW w)(hv:qbq w v [((ByteArray.mk #[49,48]),(ByteArray.mk #[49,49])),((ByteArray.mk #[49,51]),(ByteArray.mk #[49,53]))])(hu:qn4 w u [2,1]):Calls Tryz.prog 9 #[v,u] w fun e w'=>e = .returned (.tuple #[.agg #[.string ⟨#[49,49]⟩,.string ⟨#[51,55,47,51]⟩],.int .i64 0])∧Below w.heap.size w w':=by
 refine(q2h v u [((ByteArray.mk #[49,48]),(ByteArray.mk #[49,49])),((ByteArray.mk #[49,51]),(ByteArray.mk #[49,53]))] [2,1] w hg hv hu (by decide) (by kernel_rfl)).mono fun e w' h => ?_;unfold qtw at h;rw[if_neg (fun h=>h (by kernel_rfl))] at h;obtain⟨h1,h2⟩:=h;rw[if_pos (by kernel_rfl)] at h1;refine⟨?_,h2⟩;rw[h1];kernel_rfl
theorem qt4(u:Value)(w:World)(hu:qn4 w u [3,0,1]):Calls Tryz.prog 22 #[.int .i64 7,u] w fun e w'=>(∃g,e = .returned (.tuple #[.slice (some ⟨g,0,none⟩) 3 3,.int .i64 0])∧qpe w' g 0 [5,0,2])∧Below w.heap.size w w':=by
 refine(qrh 7 u [3,0,1] w hu (.inl (by decide))).mono fun e w' h => ?_;obtain⟨h1,h2⟩:=h;rw[if_pos (by kernel_rfl)] at h1;obtain⟨g,_,he,ho⟩:=h1;refine⟨⟨g,he,fun j x hj => ?_⟩,h2⟩;have hap:qhi 7 [3,0,1]=[5,0,2]:=by kernel_rfl
 rw[hap] at ho;have hj3:j<3:=(List.getElem?_eq_some_iff.1 hj).1;have:=(ho.2 j hj3).1;rw[Nat.zero_add,this];unfold iv;rw[zaw,hj];rfl
theorem q9u(w:World)(hg:GW w):Calls Tryz.prog 25 #[.int .i64 1000,.string ⟨#[50,48]⟩,.string ⟨#[51,54]⟩] w fun e w'=>e = .returned (.tuple #[.string ⟨#[49,50,53,48]⟩,.int .i64 0])∧Below w.heap.size w w':=by
 refine(q5l 1000 ⟨#[50,48]⟩ ⟨#[51,54]⟩ w hg (by omega) (by omega) ⟨by decide,by kernel_rfl,by decide +kernel,by decide +kernel⟩ ⟨by decide,by kernel_rfl,by decide +kernel,by decide +kernel⟩).mono fun e w' h => ?_;refine⟨?_,h.2⟩;rw[h.1];kernel_rfl
theorem q5n(w:World):Calls Tryz.prog 28 #[.string ⟨#[108,111,116,45,55]⟩] w fun e w'=>e = .returned (.bool true)∧Below w.heap.size w w':=qjj ⟨#[108,111,116,45,55]⟩ w
theorem q5o(w:World):Calls Tryz.prog 28 #[.string ⟨#[97,32,98]⟩] w fun e w'=>e = .returned (.bool false)∧Below w.heap.size w w':=qjj ⟨#[97,32,98]⟩ w
def qzf:List Lay:=[⟨(ByteArray.mk #[119,104,101,97,116]),600,[((ByteArray.mk #[97]),(ByteArray.mk #[49]))]⟩,⟨(ByteArray.mk #[119,104,101,97,116]),400,[((ByteArray.mk #[97]),(ByteArray.mk #[49,47,50])),((ByteArray.mk #[98]),(ByteArray.mk #[49,47,50]))]⟩]
def zaf:List (BA × BA):=[((ByteArray.mk #[97]),(ByteArray.mk #[52,47,53])),((ByteArray.mk #[98]),(ByteArray.mk #[49,47,53]))]
theorem zag:qfl qzf=[((ByteArray.mk #[97]),800),((ByteArray.mk #[98]),200)]:=by kernel_rfl
theorem q2w:qb8 qzf=1000:=by kernel_rfl
theorem q8b:qfa (800/((1000:Int):Rat))=0:=by kernel_rfl
theorem q8c:qfa (200/((1000:Int):Rat))=0:=by kernel_rfl
theorem q5p:qfa (0/((1000:Int):Rat))=0:=by kernel_rfl
theorem q5q:qcf [[97],[98]]=[(ByteArray.mk #[97]),(ByteArray.mk #[98])]:=by
 have h:([[97],[98]]:List (List UInt8)).mergeSort (fun x y=>decide (x≤y))=[[97],[98]]:=by simp[List.mergeSort,List.MergeSort.Internal.splitInTwo,List.merge];try decide
 unfold qcf;rw[h];rfl
theorem q5r:qcf [[98],[97]]=[(ByteArray.mk #[97]),(ByteArray.mk #[98])]:=by
 have h:([[98],[97]]:List (List UInt8)).mergeSort (fun x y=>decide (x≤y))=[[97],[98]]:=by simp[List.mergeSort,List.MergeSort.Internal.splitInTwo,List.merge];try decide
 unfold qcf;rw[h];rfl
theorem q8d(s:BA):qfa (qlq (qfl qzf) s/((qb8 qzf:Int):Rat))=0:=by
 rw[zag,q2w];by_cases ha:(s==(ByteArray.mk #[97]))=true
 ·have:qlq [((ByteArray.mk #[97]),800),((ByteArray.mk #[98]),200)] s=800:=by unfold qlq;rw[List.find?_cons_of_pos (by exact ha)];rfl
  rw[this];exact q8b
 ·by_cases hb:(s==(ByteArray.mk #[98]))=true
  ·have:qlq [((ByteArray.mk #[97]),800),((ByteArray.mk #[98]),200)] s=200:=by unfold qlq;rw[List.find?_cons_of_neg (by exact ha),List.find?_cons_of_pos (by exact hb)];rfl
   rw[this];exact q8c
  ·have:qlq [((ByteArray.mk #[97]),800),((ByteArray.mk #[98]),200)] s=0:=by unfold qlq;rw[List.find?_cons_of_neg (by exact ha),List.find?_cons_of_neg (by exact hb)];rfl
   rw[this];exact q5p
theorem q5s{α:Type}{x y:α}(hne:x≠y){l:List α}(h:l.Perm [x,y]):l=[x,y]∨l=[y,x]:=by
 have aF:=h.length_eq
 match l,aF with
 | [p,q],_=>
  have hp:=h.mem_iff.1 (show p ∈ [p,q] by simp);have hq:=h.mem_iff.1 (show q ∈ [p,q] by simp);have hx:=h.mem_iff.2 (show x ∈ [x,y] by simp);have hy:=h.mem_iff.2 (show y ∈ [x,y] by simp);simp only[List.mem_cons,List.not_mem_nil,or_false] at hp hq hx hy;rcases hp with rfl|rfl<;>rcases hq with rfl|rfl
  ·rcases hy with hy|hy<;>exact absurd hy.symm hne
  ·exact .inl rfl
  ·exact .inr rfl
  ·rcases hx with hx|hx<;>exact absurd hx hne
theorem q8e{ss:List (List UInt8)}(h:ss.Perm ((qfl qzf).map fun p=>p.1.data.toList)):qcf ss=[(ByteArray.mk #[97]),(ByteArray.mk #[98])]:=by
 rw[zag] at h;rcases q5s (x:=[97]) (y:=[98]) (by decide) h with h1|h1
 ·rw[h1];exact q5q
 ·rw[h1];exact q5r
theorem q2x:([(ByteArray.mk #[97]),(ByteArray.mk #[98])].map fun s=>(s,qcw (qlq (qfl qzf) s/((qb8 qzf:Int):Rat))))=zaf:=by kernel_rfl
theorem q9v(b o c:Nat)(w:World)(hg:GW w)(aB:qfb w b o qzf)(hc:c≤maxLen):Calls Tryz.prog 23 #[.slice (some ⟨b,o,none⟩) 2 c] w fun e w'=>(∃g,e = .returned (.tuple #[.agg #[.string ⟨#[119,104,101,97,116]⟩,.int .i64 1000,.slice (some ⟨g,0,none⟩) 2 2],.int .i64 0])∧qe4 w' g 0 zaf)∧Below w.heap.size w w':=by
 refine(q5j qzf (ByteArray.mk #[119,104,101,97,116]) b o c w hg aB (by decide) (by decide) hc ?_ ?_ ?_ (by rw[q2w];decide) (by rw[zag];decide) q8d).mono fun e w' h => ?_
 ·intro x hx s hs
  simp only[qzf,List.mem_cons,List.not_mem_nil,or_false] at hx;rcases hx with rfl|rfl
  ·simp only[List.mem_cons,List.not_mem_nil,or_false] at hs
   subst hs;decide
  ·simp only[List.mem_cons,List.not_mem_nil,or_false] at hs
   rcases hs with rfl|rfl<;>decide
 ·intro x hx
  simp only[qzf,List.mem_cons,List.not_mem_nil,or_false] at hx;rcases hx with rfl|rfl<;>kernel_rfl
 ·intro x hx
  simp only[qzf,List.mem_cons,List.not_mem_nil,or_false] at hx;rcases hx with rfl|rfl<;>rfl
 ·obtain⟨ss,g,hp,_,he,hr,hb⟩:=h
  rw[q8e hp] at he hr;rw[q2x] at hr;rw[q2w] at he;refine⟨⟨g,he,fun j s hj => ?_⟩,hb⟩;obtain⟨cs,rfl,gA⟩:=hr.get j s hj;have h0:=gA 0 _ rfl;have h1:=gA 1 _ rfl;rw[Nat.zero_add];exact⟨h0,h1⟩
theorem q8f(W:World)(n:Nat)(hn:n=W.heap.size)(t:TypeId)(a b c d e f:BA):qbq (W.alloc (.cells #[.string a,.string b,.string c,.string d,.string e,.string f] t)) (.slice (some ⟨n,0,none⟩) 3 3) [(a,b),(c,d),(e,f)]:=by
 subst hn;refine⟨_,3,rfl,zap _,by decide,.inr ⟨_,_,rfl,fun j s hj => ?_⟩⟩
 match j,hj with
 | 0,hj=>cases hj;constructor<;>simp
 | 1,hj=>cases hj;constructor<;>simp
 | 2,hj=>cases hj;constructor<;>simp
theorem q2y(W:World)(n:Nat)(hn:n=W.heap.size)(t:TypeId)(a b c d:BA):qbq (W.alloc (.cells #[.string a,.string b,.string c,.string d] t)) (.slice (some ⟨n,0,none⟩) 2 2) [(a,b),(c,d)]:=by
 subst hn;refine⟨_,2,rfl,zap _,by decide,.inr ⟨_,_,rfl,fun j s hj => ?_⟩⟩
 match j,hj with
 | 0,hj=>cases hj;constructor<;>simp
 | 1,hj=>cases hj;constructor<;>simp
theorem q8g(W:World)(n:Nat)(hn:n=W.heap.size)(t:TypeId)(a b:BA):qbq (W.alloc (.cells #[.string a,.string b] t)) (.slice (some ⟨n,0,none⟩) 1 1) [(a,b)]:=by
 subst hn;refine⟨_,1,rfl,zap _,by decide,.inr ⟨_,_,rfl,fun j s hj => ?_⟩⟩
 match j,hj with
 | 0,hj=>cases hj;constructor<;>simp
theorem zah(W:World)(n:Nat)(hn:n=W.heap.size)(t:TypeId)(a b:Int):qn4 (W.alloc (.cells #[.int .i64 a,.int .i64 b] t)) (.slice (some ⟨n,0,none⟩) 2 2) [a,b]:=by
 subst hn;refine⟨_,2,rfl,zap _,by decide,.inr ⟨_,_,rfl,fun j hj => ?_⟩⟩
 match j,hj with
 | 0,hj=>simp[iv]
 | 1,hj=>simp[iv]
theorem zai(W:World)(n:Nat)(hn:n=W.heap.size)(t:TypeId)(a b c:Int):qn4 (W.alloc (.cells #[.int .i64 a,.int .i64 b,.int .i64 c] t)) (.slice (some ⟨n,0,none⟩) 3 3) [a,b,c]:=by
 subst hn;refine⟨_,3,rfl,zap _,by decide,.inr ⟨_,_,rfl,fun j hj => ?_⟩⟩
 match j,hj with
 | 0,hj=>simp[iv]
 | 1,hj=>simp[iv]
 | 2,hj=>simp[iv]
theorem q8h(W:World)(n:Nat)(hn:n=W.heap.size)(t:TypeId)(a b c:Int):qpe (W.alloc (.cells #[.int .i64 a,.int .i64 b,.int .i64 c] t)) n 0 [a,b,c]:=by
 subst hn;intro j x hj
 match j,hj with
 | 0,hj=>cases hj;simp
 | 1,hj=>cases hj;simp
 | 2,hj=>cases hj;simp
theorem q5t(W:World)(n:Nat)(hn:n=W.heap.size)(t:TypeId)(a b c d:BA):qe4 (W.alloc (.cells #[.string a,.string b,.string c,.string d] t)) n 0 [(a,b),(c,d)]:=by
 subst hn;intro j s hj
 match j,hj with
 | 0,hj=>cases hj;constructor<;>simp
 | 1,hj=>cases hj;constructor<;>simp
theorem q8i(W:World)(n:Nat)(hn:n=W.heap.size)(p1 p2:Nat)(lQ:qbq W (.slice (some ⟨p1,0,none⟩) 1 1) [((ByteArray.mk #[97]),(ByteArray.mk #[49]))])(qN:qbq W (.slice (some ⟨p2,0,none⟩) 2 2) [((ByteArray.mk #[97]),(ByteArray.mk #[49,47,50])),((ByteArray.mk #[98]),(ByteArray.mk #[49,47,50]))]):
  qfb (W.alloc (.cells #[.string ⟨#[119,104,101,97,116]⟩,.int .i64 600,.slice (some ⟨p1,0,none⟩) 1 1,.string ⟨#[119,104,101,97,116]⟩,.int .i64 400,.slice (some ⟨p2,0,none⟩) 2 2] 57)) n 0 qzf:=by
 subst hn;have aD:=(zan W.heap.size W).alloc (zap _) (.cells #[.string ⟨#[119,104,101,97,116]⟩,.int .i64 600,.slice (some ⟨p1,0,none⟩) 1 1,.string ⟨#[119,104,101,97,116]⟩,.int .i64 400,.slice (some ⟨p2,0,none⟩) 2 2] 57);intro j x hj
 match j,hj with
 | 0,hj=>cases hj;exact⟨by simp,by simp,_,1,by simp,lQ.later aD⟩
 | 1,hj=>cases hj;exact⟨by simp,by simp,_,2,by simp,qN.later aD⟩
theorem qds(W:World)(o:Obj):Below W.heap.size W (W.alloc o):=zam _ _
theorem q2z(w:World)(hg:GW w):Calls Tryz.prog 4 #[] w fun e w'=>e = .returned (.bool true)∧Below w.heap.size w w':=by
 have HG:=hid hg;have H1:=hid (q2t w hg);clear hg;go_enter Tryz.func4,Tryz.ntmps4;go_wp2_with fail;refine H1.out.mono ?_;rintro e w1 ⟨rfl,hb⟩;have HB:=hid hb;clear hb H1;have H2:=hid (q2u w1 (HG.out.later HB.out));go_wp2_with fail;refine H2.out.mono ?_;rintro e w2 ⟨rfl,hb⟩;have aR:=hid (HB.out.trans (hb.mono HB.out.size));clear hb H2 HB;have H3:=hid (q2v w2 (HG.out.later aR.out));go_wp2_with fail;refine H3.out.mono ?_;rintro e w3 ⟨rfl,hb⟩;have bY:=hid (aR.out.trans (hb.mono aR.out.size));clear hb H3 aR;have H4:=hid (q9t w3 (HG.out.later bY.out));go_wp2_with fail;refine H4.out.mono ?_;rintro e w4 ⟨rfl,hb⟩;have fA:=hid (bY.out.trans (hb.mono bY.out.size));clear hb H4 bY;have O7:=hid (qbg w4 28 (.string ⟨#[45,50]⟩) (.string ⟨#[54]⟩));have aD:=qds w4 (.cells #[.string ⟨#[45,50]⟩,.string ⟨#[54]⟩] 28);have bT:=qds (w4.alloc (.cells #[.string ⟨#[45,50]⟩,.string ⟨#[54]⟩] 28)) (.cells #[.string ⟨#[48]⟩,.string ⟨#[50]⟩,.string ⟨#[49]⟩,.string ⟨#[52]⟩,.string ⟨#[51]⟩,.string ⟨#[53]⟩] 28);have O7':=hid (O7.out.later (bT.mono O7.out.1));have lJ:=hid (fA.out.trans ((aD.trans (bT.mono aD.size)).mono fA.out.size));have H5:=hid (q5m _ _ (HG.out.later lJ.out) (q8f (w4.alloc (.cells #[.string ⟨#[45,50]⟩,.string ⟨#[54]⟩] 28)) (w4.heap.size+1) (by simp) 28 ⟨#[48]⟩ ⟨#[50]⟩ ⟨#[49]⟩ ⟨#[52]⟩ ⟨#[51]⟩ ⟨#[53]⟩));clear aD bT O7 fA;go_wp2_with fail;refine H5.out.mono ?_;rintro e w5 ⟨rfl,hb⟩;have lK:=hid (lJ.out.trans (hb.mono lJ.out.size));have O7:=hid (O7'.out.later (hb.mono O7'.out.1));clear hb H5 lJ O7';generalize w4.heap.size=n7 at *;have aD:=qds w5 (.cells #[.string ⟨#[49,48]⟩,.string ⟨#[49,49]⟩,.string ⟨#[49,51]⟩,.string ⟨#[49,53]⟩] 28);have bT:=qds (w5.alloc (.cells #[.string ⟨#[49,48]⟩,.string ⟨#[49,49]⟩,.string ⟨#[49,51]⟩,.string ⟨#[49,53]⟩] 28)) (.cells #[.int .i64 2,.int .i64 1] 3)
 have gQ:=aD.trans (bT.mono aD.size);have O7':=hid (O7.out.later (gQ.mono O7.out.1));have kX:=hid (lK.out.trans (gQ.mono lK.out.size));have H6:=hid (q8a _ _ _ (HG.out.later kX.out) ((q2y w5 w5.heap.size rfl 28 ⟨#[49,48]⟩ ⟨#[49,49]⟩ ⟨#[49,51]⟩ ⟨#[49,53]⟩).later bT) (zah (w5.alloc (.cells #[.string ⟨#[49,48]⟩,.string ⟨#[49,49]⟩,.string ⟨#[49,51]⟩,.string ⟨#[49,53]⟩] 28)) (w5.heap.size+1) (by simp) 3 2 1));clear aD bT gQ O7 lK;go_wp2_with fail;refine H6.out.mono ?_;rintro e w6 ⟨rfl,hb⟩;have rO:=hid (kX.out.trans (hb.mono kX.out.size));have O7:=hid (O7'.out.later (hb.mono O7'.out.1));clear hb H6 kX O7';have O12:=hid (qbg w6 28 (.string ⟨#[49,49]⟩) (.string ⟨#[51,55,47,51]⟩));have aD:=qds w6 (.cells #[.string ⟨#[49,49]⟩,.string ⟨#[51,55,47,51]⟩] 28);have bT:=qds (w6.alloc (.cells #[.string ⟨#[49,49]⟩,.string ⟨#[51,55,47,51]⟩] 28)) (.cells #[.int .i64 3,.int .i64 0,.int .i64 1] 3);have gQ:=aD.trans (bT.mono aD.size);have O12':=hid (O12.out.later (bT.mono O12.out.1));have O7':=hid (O7.out.later (gQ.mono O7.out.1));have oT:=hid (rO.out.trans (gQ.mono rO.out.size));have H7:=hid (qt4 _ _ (zai (w6.alloc (.cells #[.string ⟨#[49,49]⟩,.string ⟨#[51,55,47,51]⟩] 28)) (w6.heap.size+1) (by simp) 3 3 0 1));clear aD bT gQ O7 O12 rO;go_wp2_with fail;refine H7.out.mono ?_;rintro e w7 ⟨⟨g14,rfl,hI⟩,hb⟩;have Mo:=hid (oT.out.trans (hb.mono oT.out.size));have O7:=hid (O7'.out.later (hb.mono O7'.out.1));have O12:=hid (O12'.out.later (hb.mono O12'.out.1));have HI:=hid hI;clear hb hI H7 oT O7' O12';generalize w6.heap.size=n12 at *;have Dc:=hid (q79 ⟨#[97]⟩ w7);go_wp2_with fail;refine Dc.out.mono ?_;rintro e w8 ⟨rfl,rfl⟩;clear Dc;have dK:=qds w7 (.cells #[.string ⟨#[97]⟩,.string ⟨#[49]⟩] 62)
 have dX:=qds (w7.alloc (.cells #[.string ⟨#[97]⟩,.string ⟨#[49]⟩] 62)) (.cells #[.string ⟨#[97]⟩,.string ⟨#[49,47,50]⟩,.string ⟨#[98]⟩,.string ⟨#[49,47,50]⟩] 62);have Oo:=qds ((w7.alloc (.cells #[.string ⟨#[97]⟩,.string ⟨#[49]⟩] 62)).alloc (.cells #[.string ⟨#[97]⟩,.string ⟨#[49,47,50]⟩,.string ⟨#[98]⟩,.string ⟨#[49,47,50]⟩] 62)) (.cells #[.string ⟨#[119,104,101,97,116]⟩,.int .i64 600,.slice (some ⟨w7.heap.size,0,none⟩) 1 1,.string ⟨#[119,104,101,97,116]⟩,.int .i64 400,.slice (some ⟨w7.heap.size+1,0,none⟩) 2 2] 57);have gQ:=dK.trans ((dX.trans (Oo.mono dX.size)).mono dK.size);have Fn:=hid (Mo.out.trans (gQ.mono Mo.out.size));have O7':=hid (O7.out.later (gQ.mono O7.out.1));have O12':=hid (O12.out.later (gQ.mono O12.out.1));have HI':=hid (HI.out.later gQ);have H8:=hid (q9v _ 0 2 _ (HG.out.later Fn.out) (q8i ((w7.alloc (.cells #[.string ⟨#[97]⟩,.string ⟨#[49]⟩] 62)).alloc (.cells #[.string ⟨#[97]⟩,.string ⟨#[49,47,50]⟩,.string ⟨#[98]⟩,.string ⟨#[49,47,50]⟩] 62)) (w7.heap.size+1+1) (by simp) w7.heap.size (w7.heap.size+1) ((q8g w7 w7.heap.size rfl 62 ⟨#[97]⟩ ⟨#[49]⟩).later dX) (q2y (w7.alloc (.cells #[.string ⟨#[97]⟩,.string ⟨#[49]⟩] 62)) (w7.heap.size+1) (by simp) 62 ⟨#[97]⟩ ⟨#[49,47,50]⟩ ⟨#[98]⟩ ⟨#[49,47,50]⟩)) (by decide));clear dK dX Oo gQ O7 O12 HI Mo;go_wp2_with fail;refine H8.out.mono ?_;rintro e w8 ⟨⟨g16,rfl,hS⟩,hb⟩;have fR:=hid (Fn.out.trans (hb.mono Fn.out.size));have O7:=hid (O7'.out.later (hb.mono O7'.out.1));have O12:=hid (O12'.out.later (hb.mono O12'.out.1));have HI:=hid (HI'.out.later hb);have HS:=hid hS;clear hb hS H8 Fn O7' O12' HI';have O16:=hid (qev w8 57 (.string ⟨#[119,104,101,97,116]⟩) (.int .i64 1000) (.slice (some ⟨g16,0,none⟩) 2 2));have aD:=qds w8 (.cells #[.string ⟨#[119,104,101,97,116]⟩,.int .i64 1000,.slice (some ⟨g16,0,none⟩) 2 2] 57)
 have eN:=hid (fR.out.trans (aD.mono fR.out.size));have O7':=hid (O7.out.later (aD.mono O7.out.1));have O12':=hid (O12.out.later (aD.mono O12.out.1));have HI':=hid (HI.out.later aD);have HS':=hid (HS.out.later aD);have H9:=hid (q9u _ (HG.out.later eN.out));clear aD O7 O12 HI HS fR;go_wp2_with fail;refine H9.out.mono ?_;rintro e w9 ⟨rfl,hb⟩;have Mp:=hid (eN.out.trans (hb.mono eN.out.size));have HI:=hid (HI'.out.later hb);have HS:=hid (HS'.out.later hb);have O16':=hid (O16.out.later (hb.mono O16.out.1));obtain⟨p0,p1⟩:=qag (O7'.out.later (hb.mono O7'.out.1));obtain⟨q0,q1⟩:=qag (O12'.out.later (hb.mono O12'.out.1));clear hb H9 eN HI' HS' O16 O7' O12';generalize w8.heap.size=n16 at *;have dK:=qds w9 (.cells #[.string ⟨#[97]⟩,.string ⟨#[52,47,53]⟩,.string ⟨#[98]⟩,.string ⟨#[49,47,53]⟩] 62);have dX:=qds (w9.alloc (.cells #[.string ⟨#[97]⟩,.string ⟨#[52,47,53]⟩,.string ⟨#[98]⟩,.string ⟨#[49,47,53]⟩] 62)) (.cells #[.string ⟨#[119,104,101,97,116]⟩,.int .i64 1000,.slice (some ⟨w9.heap.size,0,none⟩) 2 2] 57);have Oo:=qds ((w9.alloc (.cells #[.string ⟨#[97]⟩,.string ⟨#[52,47,53]⟩,.string ⟨#[98]⟩,.string ⟨#[49,47,53]⟩] 62)).alloc (.cells #[.string ⟨#[119,104,101,97,116]⟩,.int .i64 1000,.slice (some ⟨w9.heap.size,0,none⟩) 2 2] 57)) (.cells #[.int .i64 5,.int .i64 0,.int .i64 2] 3);have Mq:=dX.trans (Oo.mono dX.size);have gQ:=dK.trans (Mq.mono dK.size);have Mr:=hid (Mp.out.trans (gQ.mono Mp.out.size));have dE:=hid ((q5t w9 w9.heap.size rfl 62 ⟨#[97]⟩ ⟨#[52,47,53]⟩ ⟨#[98]⟩ ⟨#[49,47,53]⟩).later Mq);have o20:=qev (w9.alloc (.cells #[.string ⟨#[97]⟩,.string ⟨#[52,47,53]⟩,.string ⟨#[98]⟩,.string ⟨#[49,47,53]⟩] 62)) 57 (.string ⟨#[119,104,101,97,116]⟩) (.int .i64 1000) (.slice (some ⟨w9.heap.size,0,none⟩) 2 2);have O20:=hid (o20.later (Oo.mono o20.1))
 have kI:=hid (q8h ((w9.alloc (.cells #[.string ⟨#[97]⟩,.string ⟨#[52,47,53]⟩,.string ⟨#[98]⟩,.string ⟨#[49,47,53]⟩] 62)).alloc (.cells #[.string ⟨#[119,104,101,97,116]⟩,.int .i64 1000,.slice (some ⟨w9.heap.size,0,none⟩) 2 2] 57)) (w9.heap.size+1+1) (by simp) 3 5 0 2);have H10:=hid (qrx [5,0,2] g14 0 3 (w9.heap.size+1+1) 0 3 _ (HI.out.later gQ) kI.out (by decide));have zN:=hid (HS.out.later gQ);have O16:=hid (O16'.out.later (gQ.mono O16'.out.1));clear dK dX Oo Mq gQ Mp HS HI kI O16' o20;go_wp2_with fail;refine H10.out.mono ?_;rintro e w10 ⟨rfl,hb⟩;have Ms:=hid (Mr.out.trans (hb.mono Mr.out.size));obtain⟨a0,_⟩:=(O16.out.later (hb.mono O16.out.1)).2 0 (by omega);obtain⟨a1,_⟩:=(O16.out.later (hb.mono O16.out.1)).2 1 (by omega);obtain⟨a2,_⟩:=(O16.out.later (hb.mono O16.out.1)).2 2 (by omega);have O20':=O20.out.later (hb.mono O20.out.1);rw[zao] at O20';obtain⟨d0,_⟩:=O20'.2 0 (by omega);obtain⟨d1,_⟩:=O20'.2 1 (by omega);obtain⟨d2,_⟩:=O20'.2 2 (by omega);simp only[qhm,if_pos,Nat.one_ne_zero] at a0 a1 a2 d0 d1 d2;have H11:=hid (qpz zaf ⟨#[119,104,101,97,116]⟩ 1000 g16 0 2 w9.heap.size 0 2 w10 (zN.out.later hb) (dE.out.later hb) (by decide));have cX:=hid q5n;have fM:=hid q5o;clear hb H10 Mr dE zN O16 O20 O20';go_wp2_with fail;refine H11.out.mono ?_;rintro e w11 ⟨rfl,hb⟩;have Mt:=hid (Ms.out.trans (hb.mono Ms.out.size));clear hb H11 Ms a0 a1 a2 d0 d1 d2 p0 p1 q0 q1;go_wp2_with fail;refine(cX.out _).mono ?_;rintro e w12 ⟨rfl,hb⟩;have Mu:=hid (Mt.out.trans (hb.mono Mt.out.size));clear hb cX Mt;go_wp2_with fail;refine(fM.out _).mono ?_;rintro e w13 ⟨rfl,hb⟩;have HB19:=hid (Mu.out.trans (hb.mono Mu.out.size));clear hb fM Mu;go_wp2_with fail;go_ret;exact⟨rfl,HB19.out⟩
end Go.Proofs.YtclimablgihlhaaGreatDoor
