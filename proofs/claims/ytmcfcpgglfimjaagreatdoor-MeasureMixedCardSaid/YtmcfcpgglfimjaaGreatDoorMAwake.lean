/- The reference's comparisons, where both are the same; one. -/
import Derived.Test.YtmcfcpgglfimjaaGreatDoorMEachLayer
import Derived.Test.YtmcfcpgglfimjaaGreatDoorMBase
import Derived.BigQuiet
import Derived.Test.YtmcfcpgglfimjaaGreatDoorMNumWalk
import Derived.Test.YtmcfcpgglfimjaaGreatDoorMSpans
import Derived.Test.YtmcfcpgglfimjaaGreatDoorMNv
import Derived.Test.YtmcfcpgglfimjaaGreatDoorMMinMax
import Derived.Test.YtmcfcpgglfimjaaGreatDoorMRounded
import Derived.Test.YtmcfcpgglfimjaaGreatDoorMClash
import Derived.Test.YtmcfcpgglfimjaaGreatDoorMMean
import Derived.Test.YtmcfcpgglfimjaaGreatDoorMApport
import Derived.Test.YtmcfcpgglfimjaaGreatDoorMMix
set_option linter.all false
namespace Go.Proofs.YtmcfcpgglfimjaaGreatDoor
open Go.RowKit
set_option maxRecDepth 100000
set_option maxHeartbeats 8000000
def qpj(W:World)(b o:Nat)(l:List Int):Prop:=∀(j:Nat) (x:Int),l[j]? = some x→W.cell? ⟨b,o+j,none⟩=some (.int .i64 x)
theorem qpj.later{W W':World}{b o:Nat}{l:List Int}(h:qpj W b o l)(hb:Below W.heap.size W W'):qpj W' b o l:=fun j x hj=>by
 rw[hb.cell (qaf W _ (h j x hj))];exact h j x hj
theorem qsb(l:List Int)(b o c b' o' c':Nat)(w:World)(h:qpj w b o l)(h':qpj w b' o' l)(hl:l.length≤1048576):
  Calls Tryz.prog 21 #[.slice (some ⟨b,o,none⟩) l.length c,.slice (some ⟨b',o',none⟩) l.length c'] w fun e w'=>e = .returned (.bool true)∧Below w.heap.size w w':=by
 have HA:=hid h;have HB:=hid h';clear h h';go_enter Tryz.func21,Tryz.ntmps21;go_wp2_with fail
 go_loopw [5] (fun i wr=>∃k:Nat,k≤l.length∧i = .int .i64 k∧Hid (Below w.heap.size w wr)) (fun i _=>l.length-(intOf i).toNat)
 case atStart=>exact⟨0,Nat.zero_le _,rfl,hid (qaa _ _)⟩
 case round=>
  obtain⟨k,hk,rfl,bU⟩:=hrel;by_cases cQ:k<l.length
  ·obtain⟨x,hx⟩:∃x,l[k]? = some x:=⟨l[k],qat cQ⟩
   have e0:=HA.out k x hx;have e1:=HB.out k x hx;have c0:wr.cell? ⟨b,o+k,none⟩=some (.int .i64 x):=by rw[bU.out.cell (qaf w _ e0)];exact e0
   have c1:wr.cell? ⟨b',o'+k,none⟩=some (.int .i64 x):=by rw[bU.out.cell (qaf w _ e1)];exact e1
   clear e0 e1 hx;go_wp2_with fail
   go_quiet (fail)
   go_wp2_with fail;go_roundw
   case rel=>exact⟨k+1,by omega,by go_num,hid (below_drewN bU.out _)⟩
   case measure=>simp[intOf];omega
  ·obtain rfl:k=l.length:=by omega
   go_wp2_with fail;go_ret;exact⟨rfl,bU.out⟩
theorem qgm(l:List (BA × BA))(b o c b' o' c':Nat)(w:World)(h:qb0 w b o l)(h':qb0 w b' o' l)(hl:l.length≤1048576):
  Calls Tryz.prog 11 #[.slice (some ⟨b,o,none⟩) l.length c,.slice (some ⟨b',o',none⟩) l.length c'] w fun e w'=>e = .returned (.bool true)∧Below w.heap.size w w':=by
 have HA:=hid h;have HB:=hid h';clear h h';go_enter Tryz.func11,Tryz.ntmps11;go_wp2_with fail
 go_loopw [5] (fun i wr=>∃k:Nat,k≤l.length∧i = .int .i64 k∧Hid (Below w.heap.size w wr)) (fun i _=>l.length-(intOf i).toNat)
 case atStart=>exact⟨0,Nat.zero_le _,rfl,hid (qaa _ _)⟩
 case round=>
  obtain⟨k,hk,rfl,bU⟩:=hrel;by_cases cQ:k<l.length
  ·obtain⟨x,hx⟩:∃x,l[k]? = some x:=⟨l[k],qat cQ⟩
   obtain⟨e0,f0⟩:=HA.out k x hx;obtain⟨e1,f1⟩:=HB.out k x hx;have c0:wr.cell? ⟨b,o+k*2,none⟩=some (.string x.1):=by rw[bU.out.cell (qaf w _ e0)];exact e0
   have c1:wr.cell? ⟨b',o'+k*2,none⟩=some (.string x.1):=by rw[bU.out.cell (qaf w _ e1)];exact e1
   have d0:wr.cell? ⟨b,o+k*2+1,none⟩=some (.string x.2):=by rw[bU.out.cell (qaf w _ f0)];exact f0
   have d1:wr.cell? ⟨b',o'+k*2+1,none⟩=some (.string x.2):=by rw[bU.out.cell (qaf w _ f1)];exact f1
   clear e0 e1 f0 f1 hx;go_wp2_with fail
   go_quiet (fail)
   go_wp2_with fail;go_roundw
   case rel=>exact⟨k+1,by omega,by go_num,hid (below_drewN bU.out _)⟩
   case measure=>simp[intOf];omega
  ·obtain rfl:k=l.length:=by omega
   go_wp2_with fail;go_ret;exact⟨rfl,bU.out⟩
theorem qjl(p p':Option Addr)(n c c':Nat)(g0:BA)(ms:Int)(w:World)
  (Ho:Hid (∀W,Below w.heap.size w W→Calls Tryz.prog 11 #[.slice p n c,.slice p' n c'] W fun e w'=>e = .returned (.bool true)∧Below W.heap.size W w')):
  Calls Tryz.prog 12 #[.agg #[.string g0,.int .i64 ms,.slice p n c],.agg #[.string g0,.int .i64 ms,.slice p' n c']] w fun e w'=>e = .returned (.bool true)∧Below w.heap.size w w':=by
 obtain⟨W1,Rs⟩:∃W1,W1=w.alloc (.cells #[.string g0,.int .i64 ms,.slice p n c] 28):=⟨_,rfl⟩;obtain⟨W2,Gl⟩:∃W2,W2=W1.alloc (.cells #[.string g0,.int .i64 ms,.slice p' n c'] 28):=⟨_,rfl⟩;have aY:Below w.heap.size w W1:=by rw[Rs];exact qad _ _
 have aR:Below W1.heap.size W1 W2:=by rw[Gl];exact qad _ _
 have dL:W1.heap.size=w.heap.size+1:=by rw[Rs];exact qab _ _
 have o1:Own W1 w.heap.size 3 (qfv (.string g0) (.int .i64 ms) (.slice p n c)):=by rw[Rs];exact qdr _ _ _ _ _
 have o2:Own W2 (w.heap.size+1) 3 (qfv (.string g0) (.int .i64 ms) (.slice p' n c')):=by rw[←dL,Gl];exact qdr _ _ _ _ _
 have o1':=o1.later (aR.mono o1.1);have dW:=hid (aY.trans (aR.mono aY.size));obtain⟨a0,_⟩:=o1'.2 0 (by omega);obtain⟨a1,_⟩:=o1'.2 1 (by omega);obtain⟨a2,_⟩:=o1'.2 2 (by omega);obtain⟨d0,_⟩:=o2.2 0 (by omega);obtain⟨d1,_⟩:=o2.2 1 (by omega);obtain⟨d2,_⟩:=o2.2 2 (by omega);simp only[qfv,if_pos,if_neg,Nat.one_ne_zero] at a0 a1 a2 d0 d1 d2;rw[Rs] at Gl;subst Gl;have HC:=hid (Ho.out _ dW.out);clear aY aR dL o1 o2 o1' Rs Ho;go_enter Tryz.func12,Tryz.ntmps12;go_wp2_with fail;refine HC.out.mono ?_;rintro e w3 ⟨rfl,hb⟩;have HF:=hid (dW.out.trans (hb.mono dW.out.size));clear hb HC;go_wp2_with fail;go_ret;exact⟨rfl,HF.out⟩
theorem qqb(l:List (BA × BA))(g0:BA)(ms:Int)(b o c b' o' c':Nat)(w:World)(h:qb0 w b o l)(h':qb0 w b' o' l)(hl:l.length≤1048576):
  Calls Tryz.prog 12 #[.agg #[.string g0,.int .i64 ms,.slice (some ⟨b,o,none⟩) l.length c],.agg #[.string g0,.int .i64 ms,.slice (some ⟨b',o',none⟩) l.length c']] w fun e w'=>e = .returned (.bool true)∧Below w.heap.size w w':=
 qjl _ _ _ c c' g0 ms w (hid fun W hW=>qgm l b o c b' o' c' W (h.later hW) (h'.later hW) hl)
theorem q8v(s:BA)(w:World):Calls Tryz.prog 19 #[.string s] w fun e w'=>e = .returned (.slice (some ⟨w.heap.size,0,none⟩) 1 1)∧w'=w.alloc (.cells #[.string s,.string ⟨#[49]⟩] 32):=by
 go_enter Tryz.func19,Tryz.ntmps19;go_wp2_with fail;go_ret;exact⟨rfl,rfl⟩
theorem qz6(W:World):Calls Tryz.prog 82 #[.string ⟨#[48]⟩,.int .i64 2] W fun e w'=>e = .returned (.string ⟨#[48,48]⟩)∧Below W.heap.size W w':=
 (Tryz.strings_Repeat ⟨#[48]⟩ 2 W (by omega) (by decide)).mono fun e w' h=>⟨h.1,h.2⟩
theorem q3m(W:World)(hg:GW W):Calls Tryz.prog 38 #[.string ⟨#[49,50,46,53,48]⟩,.string ⟨#[46]⟩] W fun e w'=>e = .returned (.tuple #[.string ⟨#[49,50]⟩,.string ⟨#[53,48]⟩,.bool true])∧Below W.heap.size W w':=by
 obtain⟨_,m,hm⟩:=hg;refine(Tryz.strings_Cut ⟨#[49,50,46,53,48]⟩ ⟨#[46]⟩ m W (by decide) hm).mono ?_;rintro e w' ⟨h1,k,h2⟩;exact⟨h1,by rw[h2];exact below_drewN (qaa _ _) k⟩
theorem q3n(W:World)(hg:GW W):Calls Tryz.prog 38 #[.string ⟨#[49,50,46,53,48]⟩,.string ⟨#[47]⟩] W fun e w'=>e = .returned (.tuple #[.string ⟨#[49,50,46,53,48]⟩,.string ⟨#[]⟩,.bool false])∧Below W.heap.size W w':=by
 obtain⟨_,m,hm⟩:=hg;refine(Tryz.strings_Cut ⟨#[49,50,46,53,48]⟩ ⟨#[47]⟩ m W (by decide) hm).mono ?_;rintro e w' ⟨h1,k,h2⟩;exact⟨h1,by rw[h2];exact below_drewN (qaa _ _) k⟩
theorem q3o(w:World)(hg:GW w):Calls Tryz.prog 39 #[.string ⟨#[49,50,46,53,48]⟩] w fun e w'=>e = .returned (.tuple #[.string ⟨#[49,50,53,48]⟩,.string ⟨#[49,48,48]⟩])∧Below w.heap.size w w':=by
 have HC:=hid (q3m w hg);have HR:=hid qz6;clear hg;go_enter Tryz.func39,Tryz.ntmps39;go_wp2_with fail;refine HC.out.mono ?_;rintro e w1 ⟨rfl,hb⟩;have HB:=hid hb;clear hb HC;go_wp2_with fail;refine(HR.out _).mono ?_;rintro e w2 ⟨rfl,hb⟩;have aK:=hid (HB.out.trans (hb.mono HB.out.size));clear hb HR HB;go_wp2_with fail;go_ret2;exact⟨rfl,aK.out⟩
theorem qz7(W:World):Calls Tryz.prog 37 #[.string ⟨#[49,50,46,53,48]⟩,.string ⟨#[45]⟩] W fun e w'=>e = .returned (.string ⟨#[49,50,46,53,48]⟩)∧w'=W:=Tryz.strings_TrimPrefix ⟨#[49,50,46,53,48]⟩ ⟨#[45]⟩ W
theorem q3p:qf1 (ByteArray.mk #[49,50,53,48,47,49,48,48]).data.toList=some (25/2):=by kernel_rfl
theorem qz8:rs (25/2)≤Cap:=Nat.le_of_ble_eq_true (by kernel_rfl)
theorem qpk:qcz (25/2)=⟨#[50,53,47,50]⟩∧qgi (25/2)=0:=by constructor<;>kernel_rfl
theorem q3q(w:World)(hg:GW w):Calls Tryz.prog 13 #[.string ⟨#[49,50,46,53,48]⟩] w fun e w'=>e = .returned (.tuple #[.string ⟨#[50,53,47,50]⟩,.int .i64 0])∧Below w.heap.size w w':=by
 have HT:=hid qz7;have HC:=hid (q3n w hg);have HG:=hid hg;clear hg;go_enter Tryz.func13,Tryz.ntmps13;go_wp2_with fail;refine(HT.out _).mono ?_;rintro e w1 ⟨rfl,rfl⟩;go_wp2_with fail;refine HC.out.mono ?_;rintro e w2 ⟨rfl,hb⟩;have HB:=hid hb;clear hb HC HT;have HP:=hid (q3o w2 (HG.out.later HB.out));go_wp2_with fail;refine HP.out.mono ?_;rintro e w3 ⟨rfl,hb⟩;have aK:=hid (HB.out.trans (hb.mono HB.out.size));clear hb HP HB;have eM:=hid (qfz ⟨#[49,50,53,48]⟩ w3);go_wp2_with fail;refine eM.out.mono ?_;rintro e w4 ⟨rfl,hb⟩;have bR:=hid (aK.out.trans (hb.mono aK.out.size));clear hb eM aK;have lD:=hid (qfz ⟨#[49,48,48]⟩ w4);go_wp2_with fail;refine lD.out.mono ?_;rintro e w5 ⟨rfl,hb⟩;have eG:=hid (bR.out.trans (hb.mono bR.out.size));clear hb lD bR;have HR:=hid (qxa (ByteArray.mk #[49,50,53,48,47,49,48,48]) w5 (HG.out.later eG.out) (by decide));rw[q3p] at HR;go_wp2_with fail;refine HR.out.mono ?_;rintro e w6 ⟨⟨v,rfl,hv⟩,hb⟩;obtain⟨z,rfl⟩:=hv.nv;have aD:Below w6.heap.size w6 (w6.alloc (.cells #[.bool z.b,.slice z.p z.k z.c,.slice z.q z.j z.d] 85)):=qad _ _;have nC:=hid (eG.out.trans ((hb.trans (aD.mono hb.size)).mono eG.out.size));have zJ:=hid (qjc _ _ _ (hv.later aD) (by show rs (25/2)≤Cap;exact qz8));obtain⟨⟨z0,z1,z2⟩,_⟩:=One.cells (qgj w6 z);clear hv hb aD HR eG;go_wp2_with fail;refine zJ.out.mono ?_;rintro e w7 h;obtain⟨rfl,hb⟩:=qmt h;have oM:=hid (nC.out.trans (hb.mono nC.out.size));clear h hb zJ;rw[qpk.1,qpk.2];go_wp2_with fail;go_ret2;exact⟨rfl,oM.out⟩
theorem q3r(w:World)(hg:GW w):Calls Tryz.prog 14 #[.string ⟨#[53,47,56]⟩,.agg #[.string ⟨#[104,97,108,102,45,101,118,101,110]⟩,.string ⟨#[49,47,52]⟩]] w fun e w'=>e = .returned (.tuple #[.string ⟨#[49,47,50]⟩,.int .i64 0])∧Below w.heap.size w w':=by
 refine(qtu ⟨#[53,47,56]⟩ ⟨#[104,97,108,102,45,101,118,101,110]⟩ ⟨#[49,47,52]⟩ w hg (by decide) (by decide)).mono fun e w' h => ?_;have c1:qah (ByteArray.mk #[53,47,56]).data.toList=0:=by kernel_rfl
 have c2:qa5 (ByteArray.mk #[104,97,108,102,45,101,118,101,110]) (ByteArray.mk #[49,47,52]).data.toList=0:=by kernel_rfl
 have c3:qcz (qjz (ByteArray.mk #[53,47,56]).data.toList (ByteArray.mk #[104,97,108,102,45,101,118,101,110]) (ByteArray.mk #[49,47,52]).data.toList)=⟨#[49,47,50]⟩:=by kernel_rfl
 have c4:qgi (qjz (ByteArray.mk #[53,47,56]).data.toList (ByteArray.mk #[104,97,108,102,45,101,118,101,110]) (ByteArray.mk #[49,47,52]).data.toList)=0:=by kernel_rfl
 unfold qh9 at h;rw[if_neg (fun h=>h c1),if_neg (fun h=>h c2)] at h;obtain⟨h1,h2⟩:=qmt h;rw[c3,c4] at h1;exact⟨h1,h2⟩
theorem q3s(w:World)(hg:GW w):Calls Tryz.prog 14 #[.string ⟨#[45,53,47,56]⟩,.agg #[.string ⟨#[104,97,108,102,45,117,112]⟩,.string ⟨#[49,47,52]⟩]] w fun e w'=>e = .returned (.tuple #[.string ⟨#[45,49,47,50]⟩,.int .i64 0])∧Below w.heap.size w w':=by
 refine(qtu ⟨#[45,53,47,56]⟩ ⟨#[104,97,108,102,45,117,112]⟩ ⟨#[49,47,52]⟩ w hg (by decide) (by decide)).mono fun e w' h => ?_;have c1:qah (ByteArray.mk #[45,53,47,56]).data.toList=0:=by kernel_rfl
 have c2:qa5 (ByteArray.mk #[104,97,108,102,45,117,112]) (ByteArray.mk #[49,47,52]).data.toList=0:=by kernel_rfl
 have c3:qcz (qjz (ByteArray.mk #[45,53,47,56]).data.toList (ByteArray.mk #[104,97,108,102,45,117,112]) (ByteArray.mk #[49,47,52]).data.toList)=⟨#[45,49,47,50]⟩:=by kernel_rfl
 have c4:qgi (qjz (ByteArray.mk #[45,53,47,56]).data.toList (ByteArray.mk #[104,97,108,102,45,117,112]) (ByteArray.mk #[49,47,52]).data.toList)=0:=by kernel_rfl
 unfold qh9 at h;rw[if_neg (fun h=>h c1),if_neg (fun h=>h c2)] at h;obtain⟨h1,h2⟩:=qmt h;rw[c3,c4] at h1;exact⟨h1,h2⟩
theorem zae(w:World)(hg:GW w):Calls Tryz.prog 15 #[.agg #[.string ⟨#[49]⟩,.string ⟨#[50]⟩],.agg #[.string ⟨#[45,49]⟩,.string ⟨#[51]⟩]] w fun e w'=>e = .returned (.tuple #[.agg #[.string ⟨#[45,50]⟩,.string ⟨#[54]⟩],.int .i64 0])∧Below w.heap.size w w':=by
 refine(qt3 (⟨#[49]⟩,⟨#[50]⟩) (⟨#[45,49]⟩,⟨#[51]⟩) w hg (by decide) (by decide)).mono fun e w' h => ?_;unfold qku at h;rw[if_neg (fun h=>h (by kernel_rfl))] at h;obtain⟨h1,h2⟩:=h;rw[if_pos (by kernel_rfl)] at h1;refine⟨?_,h2⟩;rw[h1];kernel_rfl
theorem q6g(v:Value)(w:World)(hg:GW w)(hv:qdc w v [((ByteArray.mk #[48]),(ByteArray.mk #[50])),((ByteArray.mk #[49]),(ByteArray.mk #[52])),((ByteArray.mk #[51]),(ByteArray.mk #[53]))]):Calls Tryz.prog 16 #[v] w fun e w'=>e = .returned (.tuple #[.int .i64 0,.int .i64 2,.int .i64 0])∧Below w.heap.size w w':=by
 refine(q3c v [((ByteArray.mk #[48]),(ByteArray.mk #[50])),((ByteArray.mk #[49]),(ByteArray.mk #[52])),((ByteArray.mk #[51]),(ByteArray.mk #[53]))] w hg hv (by decide)).mono fun e w' h => ?_;obtain⟨h1,h2⟩:=h;refine⟨?_,h2⟩;rw[if_neg (fun h=>h (by kernel_rfl))] at h1;have c1:qio (([((ByteArray.mk #[48]),(ByteArray.mk #[50])),((ByteArray.mk #[49]),(ByteArray.mk #[52])),((ByteArray.mk #[51]),(ByteArray.mk #[53]))].map spQ).getD 0 (0,0)) (([((ByteArray.mk #[48]),(ByteArray.mk #[50])),((ByteArray.mk #[49]),(ByteArray.mk #[52])),((ByteArray.mk #[51]),(ByteArray.mk #[53]))].map spQ).getD 1 (0,0))=false:=by kernel_rfl
 have c2:qio (([((ByteArray.mk #[48]),(ByteArray.mk #[50])),((ByteArray.mk #[49]),(ByteArray.mk #[52])),((ByteArray.mk #[51]),(ByteArray.mk #[53]))].map spQ).getD 0 (0,0)) (([((ByteArray.mk #[48]),(ByteArray.mk #[50])),((ByteArray.mk #[49]),(ByteArray.mk #[52])),((ByteArray.mk #[51]),(ByteArray.mk #[53]))].map spQ).getD 2 (0,0))=true:=by kernel_rfl
 rcases h1 with⟨i,k,hf,he⟩|⟨hn,_⟩
 ·obtain⟨f1,f2,f3,f4,f5⟩:=hf
  have f2':k<3:=f2;rcases Nat.lt_or_ge 0 i with hi|hi
  ·have h5:=f5 0 2 hi (by omega) (by show 2<3;omega)
   rw[c2] at h5;cases h5
  ·obtain rfl:i=0:=by omega
   rcases Nat.lt_or_ge 1 k with hk|hk
   ·obtain rfl:k=2:=by omega
    rw[he];rfl
   ·obtain rfl:k=1:=by omega
    rw[c1] at f3;cases f3
 ·have h5:=hn 0 2 (by omega) (by show 2<3;omega)
  rw[c2] at h5;cases h5
theorem q8w(v u:Value)(w:World)(hg:GW w)(hv:qdc w v [((ByteArray.mk #[49,48]),(ByteArray.mk #[49,49])),((ByteArray.mk #[49,51]),(ByteArray.mk #[49,53]))])(hu:qwx w u [2,1]):Calls Tryz.prog 17 #[v,u] w fun e w'=>e = .returned (.tuple #[.agg #[.string ⟨#[49,49]⟩,.string ⟨#[51,55,47,51]⟩],.int .i64 0])∧Below w.heap.size w w':=by
 refine(q8r v u [((ByteArray.mk #[49,48]),(ByteArray.mk #[49,49])),((ByteArray.mk #[49,51]),(ByteArray.mk #[49,53]))] [2,1] w hg hv hu (by decide) (by kernel_rfl)).mono fun e w' h => ?_;unfold qxt at h;rw[if_neg (fun h=>h (by kernel_rfl))] at h;obtain⟨h1,h2⟩:=h;rw[if_pos (by kernel_rfl)] at h1;refine⟨?_,h2⟩;rw[h1];kernel_rfl
theorem qua(u:Value)(w:World)(hu:qwx w u [3,0,1]):Calls Tryz.prog 18 #[.int .i64 7,u] w fun e w'=>(∃g,e = .returned (.tuple #[.slice (some ⟨g,0,none⟩) 3 3,.int .i64 0])∧qpj w' g 0 [5,0,2])∧Below w.heap.size w w':=by
 refine(qrl 7 u [3,0,1] w hu (.inl (by decide))).mono fun e w' h => ?_;obtain⟨h1,h2⟩:=h;rw[if_pos (by kernel_rfl)] at h1;obtain⟨g,_,he,ho⟩:=h1;refine⟨⟨g,he,fun j x hj => ?_⟩,h2⟩;have hap:qhj 7 [3,0,1]=[5,0,2]:=by kernel_rfl
 rw[hap] at ho;have hj3:j<3:=(List.getElem?_eq_some_iff.1 hj).1;have:=(ho.2 j hj3).1;rw[Nat.zero_add,this];unfold iv;rw[qba,hj];rfl
theorem zaf(w:World)(hg:GW w):Calls Tryz.prog 20 #[.int .i64 1000,.string ⟨#[50,48]⟩,.string ⟨#[51,54]⟩] w fun e w'=>e = .returned (.tuple #[.string ⟨#[49,50,53,48]⟩,.int .i64 0])∧Below w.heap.size w w':=by
 refine(q6f 1000 ⟨#[50,48]⟩ ⟨#[51,54]⟩ w hg (by omega) (by omega) ⟨by decide,by kernel_rfl,by decide +kernel,by decide +kernel⟩ ⟨by decide,by kernel_rfl,by decide +kernel,by decide +kernel⟩).mono fun e w' h => ?_;refine⟨?_,h.2⟩;rw[h.1];kernel_rfl
theorem q6h(w:World):Calls Tryz.prog 22 #[.string ⟨#[108,111,116,45,55]⟩] w fun e w'=>e = .returned (.bool true)∧Below w.heap.size w w':=qjw ⟨#[108,111,116,45,55]⟩ w
theorem q6i(w:World):Calls Tryz.prog 22 #[.string ⟨#[97,32,98]⟩] w fun e w'=>e = .returned (.bool false)∧Below w.heap.size w w':=qjw ⟨#[97,32,98]⟩ w
def qz9:List Lay:=[⟨(ByteArray.mk #[119,104,101,97,116]),600,[((ByteArray.mk #[97]),(ByteArray.mk #[49]))]⟩,⟨(ByteArray.mk #[119,104,101,97,116]),400,[((ByteArray.mk #[97]),(ByteArray.mk #[49,47,50])),((ByteArray.mk #[98]),(ByteArray.mk #[49,47,50]))]⟩]
def za2:List (BA × BA):=[((ByteArray.mk #[97]),(ByteArray.mk #[52,47,53])),((ByteArray.mk #[98]),(ByteArray.mk #[49,47,53]))]
theorem za3:qcu qz9=[((ByteArray.mk #[97]),800),((ByteArray.mk #[98]),200)]:=by kernel_rfl
theorem q3t:qaq qz9=1000:=by kernel_rfl
theorem q8x:qgi (800/((1000:Int):Rat))=0:=by kernel_rfl
theorem q8y:qgi (200/((1000:Int):Rat))=0:=by kernel_rfl
theorem q6j:qgi (0/((1000:Int):Rat))=0:=by kernel_rfl
theorem q6k:qcd [[97],[98]]=[(ByteArray.mk #[97]),(ByteArray.mk #[98])]:=by
 have h:([[97],[98]]:List (List UInt8)).mergeSort (fun x y=>decide (x≤y))=[[97],[98]]:=by simp[List.mergeSort,List.MergeSort.Internal.splitInTwo,List.merge];try decide
 unfold qcd;rw[h];rfl
theorem q6l:qcd [[98],[97]]=[(ByteArray.mk #[97]),(ByteArray.mk #[98])]:=by
 have h:([[98],[97]]:List (List UInt8)).mergeSort (fun x y=>decide (x≤y))=[[97],[98]]:=by simp[List.mergeSort,List.MergeSort.Internal.splitInTwo,List.merge];try decide
 unfold qcd;rw[h];rfl
theorem q8z(s:BA):qgi (qgp (qcu qz9) s/((qaq qz9:Int):Rat))=0:=by
 rw[za3,q3t];by_cases ha:(s==(ByteArray.mk #[97]))=true
 ·have:qgp [((ByteArray.mk #[97]),800),((ByteArray.mk #[98]),200)] s=800:=by unfold qgp;rw[List.find?_cons_of_pos (by exact ha)];rfl
  rw[this];exact q8x
 ·by_cases hb:(s==(ByteArray.mk #[98]))=true
  ·have:qgp [((ByteArray.mk #[97]),800),((ByteArray.mk #[98]),200)] s=200:=by unfold qgp;rw[List.find?_cons_of_neg (by exact ha),List.find?_cons_of_pos (by exact hb)];rfl
   rw[this];exact q8y
  ·have:qgp [((ByteArray.mk #[97]),800),((ByteArray.mk #[98]),200)] s=0:=by unfold qgp;rw[List.find?_cons_of_neg (by exact ha),List.find?_cons_of_neg (by exact hb)];rfl
   rw[this];exact q6j
theorem q6m{α:Type}{x y:α}(hne:x≠y){l:List α}(h:l.Perm [x,y]):l=[x,y]∨l=[y,x]:=by
 have aE:=h.length_eq
 match l,aE with
 | [p,q],_=>
  have hp:=h.mem_iff.1 (show p ∈ [p,q] by simp);have hq:=h.mem_iff.1 (show q ∈ [p,q] by simp);have hx:=h.mem_iff.2 (show x ∈ [x,y] by simp);have hy:=h.mem_iff.2 (show y ∈ [x,y] by simp);simp only[List.mem_cons,List.not_mem_nil,or_false] at hp hq hx hy;rcases hp with rfl|rfl<;>rcases hq with rfl|rfl
  ·rcases hy with hy|hy<;>exact absurd hy.symm hne
  ·exact .inl rfl
  ·exact .inr rfl
  ·rcases hx with hx|hx<;>exact absurd hx hne
theorem q80{ss:List (List UInt8)}(h:ss.Perm ((qcu qz9).map fun p=>p.1.data.toList)):qcd ss=[(ByteArray.mk #[97]),(ByteArray.mk #[98])]:=by
 rw[za3] at h;rcases q6m (x:=[97]) (y:=[98]) (by decide) h with h1|h1
 ·rw[h1];exact q6k
 ·rw[h1];exact q6l
theorem q3u:([(ByteArray.mk #[97]),(ByteArray.mk #[98])].map fun s=>(s,qcz (qgp (qcu qz9) s/((qaq qz9:Int):Rat))))=za2:=by kernel_rfl
theorem zag(b o c:Nat)(w:World)(hg:GW w)(aB:qec w b o qz9)(hc:c≤maxLen):Calls Tryz.prog 8 #[.slice (some ⟨b,o,none⟩) 2 c] w fun e w'=>(∃g,e = .returned (.tuple #[.agg #[.string ⟨#[119,104,101,97,116]⟩,.int .i64 1000,.slice (some ⟨g,0,none⟩) 2 2],.int .i64 0])∧qb0 w' g 0 za2)∧Below w.heap.size w w':=by
 refine(qxw qz9 (ByteArray.mk #[119,104,101,97,116]) b o c w hg aB (by decide) (by decide) hc ?_ ?_ ?_ (by rw[q3t];decide) (by rw[za3];decide) q8z).mono fun e w' h => ?_
 ·intro x hx s hs
  simp only[qz9,List.mem_cons,List.not_mem_nil,or_false] at hx;rcases hx with rfl|rfl
  ·simp only[List.mem_cons,List.not_mem_nil,or_false] at hs
   subst hs;decide
  ·simp only[List.mem_cons,List.not_mem_nil,or_false] at hs
   rcases hs with rfl|rfl<;>decide
 ·intro x hx
  simp only[qz9,List.mem_cons,List.not_mem_nil,or_false] at hx;rcases hx with rfl|rfl<;>kernel_rfl
 ·intro x hx
  simp only[qz9,List.mem_cons,List.not_mem_nil,or_false] at hx;rcases hx with rfl|rfl<;>rfl
 ·obtain⟨ss,g,hp,_,he,hr,hb⟩:=h
  rw[q80 hp] at he hr;rw[q3u] at hr;rw[q3t] at he;refine⟨⟨g,he,fun j s hj => ?_⟩,hb⟩;obtain⟨cs,rfl,fL⟩:=hr.get j s hj;have h0:=fL 0 _ rfl;have h1:=fL 1 _ rfl;rw[Nat.zero_add];exact⟨h0,h1⟩
theorem q81(W:World)(n:Nat)(hn:n=W.heap.size)(t:TypeId)(a b c d e f:BA):qdc (W.alloc (.cells #[.string a,.string b,.string c,.string d,.string e,.string f] t)) (.slice (some ⟨n,0,none⟩) 3 3) [(a,b),(c,d),(e,f)]:=by
 subst hn;refine⟨_,3,rfl,qac _,by decide,.inr ⟨_,_,rfl,fun j s hj => ?_⟩⟩
 match j,hj with
 | 0,hj=>cases hj;constructor<;>simp
 | 1,hj=>cases hj;constructor<;>simp
 | 2,hj=>cases hj;constructor<;>simp
theorem q3v(W:World)(n:Nat)(hn:n=W.heap.size)(t:TypeId)(a b c d:BA):qdc (W.alloc (.cells #[.string a,.string b,.string c,.string d] t)) (.slice (some ⟨n,0,none⟩) 2 2) [(a,b),(c,d)]:=by
 subst hn;refine⟨_,2,rfl,qac _,by decide,.inr ⟨_,_,rfl,fun j s hj => ?_⟩⟩
 match j,hj with
 | 0,hj=>cases hj;constructor<;>simp
 | 1,hj=>cases hj;constructor<;>simp
theorem q82(W:World)(n:Nat)(hn:n=W.heap.size)(t:TypeId)(a b:BA):qdc (W.alloc (.cells #[.string a,.string b] t)) (.slice (some ⟨n,0,none⟩) 1 1) [(a,b)]:=by
 subst hn;refine⟨_,1,rfl,qac _,by decide,.inr ⟨_,_,rfl,fun j s hj => ?_⟩⟩
 match j,hj with
 | 0,hj=>cases hj;constructor<;>simp
theorem za4(W:World)(n:Nat)(hn:n=W.heap.size)(t:TypeId)(a b:Int):qwx (W.alloc (.cells #[.int .i64 a,.int .i64 b] t)) (.slice (some ⟨n,0,none⟩) 2 2) [a,b]:=by
 subst hn;refine⟨_,2,rfl,qac _,by decide,.inr ⟨_,_,rfl,fun j hj => ?_⟩⟩
 match j,hj with
 | 0,hj=>simp[iv]
 | 1,hj=>simp[iv]
theorem za5(W:World)(n:Nat)(hn:n=W.heap.size)(t:TypeId)(a b c:Int):qwx (W.alloc (.cells #[.int .i64 a,.int .i64 b,.int .i64 c] t)) (.slice (some ⟨n,0,none⟩) 3 3) [a,b,c]:=by
 subst hn;refine⟨_,3,rfl,qac _,by decide,.inr ⟨_,_,rfl,fun j hj => ?_⟩⟩
 match j,hj with
 | 0,hj=>simp[iv]
 | 1,hj=>simp[iv]
 | 2,hj=>simp[iv]
theorem q83(W:World)(n:Nat)(hn:n=W.heap.size)(t:TypeId)(a b c:Int):qpj (W.alloc (.cells #[.int .i64 a,.int .i64 b,.int .i64 c] t)) n 0 [a,b,c]:=by
 subst hn;intro j x hj
 match j,hj with
 | 0,hj=>cases hj;simp
 | 1,hj=>cases hj;simp
 | 2,hj=>cases hj;simp
theorem q6n(W:World)(n:Nat)(hn:n=W.heap.size)(t:TypeId)(a b c d:BA):qb0 (W.alloc (.cells #[.string a,.string b,.string c,.string d] t)) n 0 [(a,b),(c,d)]:=by
 subst hn;intro j s hj
 match j,hj with
 | 0,hj=>cases hj;constructor<;>simp
 | 1,hj=>cases hj;constructor<;>simp
theorem q84(W:World)(n:Nat)(hn:n=W.heap.size)(p1 p2:Nat)(lM:qdc W (.slice (some ⟨p1,0,none⟩) 1 1) [((ByteArray.mk #[97]),(ByteArray.mk #[49]))])(pJ:qdc W (.slice (some ⟨p2,0,none⟩) 2 2) [((ByteArray.mk #[97]),(ByteArray.mk #[49,47,50])),((ByteArray.mk #[98]),(ByteArray.mk #[49,47,50]))]):
  qec (W.alloc (.cells #[.string ⟨#[119,104,101,97,116]⟩,.int .i64 600,.slice (some ⟨p1,0,none⟩) 1 1,.string ⟨#[119,104,101,97,116]⟩,.int .i64 400,.slice (some ⟨p2,0,none⟩) 2 2] 28)) n 0 qz9:=by
 subst hn;have aD:=(qaa W.heap.size W).alloc (qac _) (.cells #[.string ⟨#[119,104,101,97,116]⟩,.int .i64 600,.slice (some ⟨p1,0,none⟩) 1 1,.string ⟨#[119,104,101,97,116]⟩,.int .i64 400,.slice (some ⟨p2,0,none⟩) 2 2] 28);intro j x hj
 match j,hj with
 | 0,hj=>cases hj;exact⟨by simp,by simp,_,1,by simp,lM.later aD⟩
 | 1,hj=>cases hj;exact⟨by simp,by simp,_,2,by simp,pJ.later aD⟩
theorem qdy(W:World)(o:Obj):Below W.heap.size W (W.alloc o):=qad _ _
theorem q3w(w:World)(hg:GW w):Calls Tryz.prog 4 #[] w fun e w'=>e = .returned (.bool true)∧Below w.heap.size w w':=by
 have HG:=hid hg;have H1:=hid (q3q w hg);clear hg;go_enter Tryz.func4,Tryz.ntmps4;go_wp2_with fail;refine H1.out.mono ?_;rintro e w1 ⟨rfl,hb⟩;have HB:=hid hb;clear hb H1;have H2:=hid (q3r w1 (HG.out.later HB.out));go_wp2_with fail;refine H2.out.mono ?_;rintro e w2 ⟨rfl,hb⟩;have aK:=hid (HB.out.trans (hb.mono HB.out.size));clear hb H2 HB;have H3:=hid (q3s w2 (HG.out.later aK.out));go_wp2_with fail;refine H3.out.mono ?_;rintro e w3 ⟨rfl,hb⟩;have bR:=hid (aK.out.trans (hb.mono aK.out.size));clear hb H3 aK;have H4:=hid (zae w3 (HG.out.later bR.out));go_wp2_with fail;refine H4.out.mono ?_;rintro e w4 ⟨rfl,hb⟩;have eG:=hid (bR.out.trans (hb.mono bR.out.size));clear hb H4 bR;have O7:=hid (qd2 w4 47 (.string ⟨#[45,50]⟩) (.string ⟨#[54]⟩));have aD:=qdy w4 (.cells #[.string ⟨#[45,50]⟩,.string ⟨#[54]⟩] 47);have bL:=qdy (w4.alloc (.cells #[.string ⟨#[45,50]⟩,.string ⟨#[54]⟩] 47)) (.cells #[.string ⟨#[48]⟩,.string ⟨#[50]⟩,.string ⟨#[49]⟩,.string ⟨#[52]⟩,.string ⟨#[51]⟩,.string ⟨#[53]⟩] 47);have O7':=hid (O7.out.later (bL.mono O7.out.1));have nC:=hid (eG.out.trans ((aD.trans (bL.mono aD.size)).mono eG.out.size));have H5:=hid (q6g _ _ (HG.out.later nC.out) (q81 (w4.alloc (.cells #[.string ⟨#[45,50]⟩,.string ⟨#[54]⟩] 47)) (w4.heap.size+1) (by simp) 47 ⟨#[48]⟩ ⟨#[50]⟩ ⟨#[49]⟩ ⟨#[52]⟩ ⟨#[51]⟩ ⟨#[53]⟩));clear aD bL O7 eG;go_wp2_with fail;refine H5.out.mono ?_;rintro e w5 ⟨rfl,hb⟩;have oM:=hid (nC.out.trans (hb.mono nC.out.size));have O7:=hid (O7'.out.later (hb.mono O7'.out.1));clear hb H5 nC O7';generalize w4.heap.size=n7 at *;have aD:=qdy w5 (.cells #[.string ⟨#[49,48]⟩,.string ⟨#[49,49]⟩,.string ⟨#[49,51]⟩,.string ⟨#[49,53]⟩] 47);have bL:=qdy (w5.alloc (.cells #[.string ⟨#[49,48]⟩,.string ⟨#[49,49]⟩,.string ⟨#[49,51]⟩,.string ⟨#[49,53]⟩] 47)) (.cells #[.int .i64 2,.int .i64 1] 3)
 have fV:=aD.trans (bL.mono aD.size);have O7':=hid (O7.out.later (fV.mono O7.out.1));have nR:=hid (oM.out.trans (fV.mono oM.out.size));have H6:=hid (q8w _ _ _ (HG.out.later nR.out) ((q3v w5 w5.heap.size rfl 47 ⟨#[49,48]⟩ ⟨#[49,49]⟩ ⟨#[49,51]⟩ ⟨#[49,53]⟩).later bL) (za4 (w5.alloc (.cells #[.string ⟨#[49,48]⟩,.string ⟨#[49,49]⟩,.string ⟨#[49,51]⟩,.string ⟨#[49,53]⟩] 47)) (w5.heap.size+1) (by simp) 3 2 1));clear aD bL fV O7 oM;go_wp2_with fail;refine H6.out.mono ?_;rintro e w6 ⟨rfl,hb⟩;have tS:=hid (nR.out.trans (hb.mono nR.out.size));have O7:=hid (O7'.out.later (hb.mono O7'.out.1));clear hb H6 nR O7';have O12:=hid (qd2 w6 47 (.string ⟨#[49,49]⟩) (.string ⟨#[51,55,47,51]⟩));have aD:=qdy w6 (.cells #[.string ⟨#[49,49]⟩,.string ⟨#[51,55,47,51]⟩] 47);have bL:=qdy (w6.alloc (.cells #[.string ⟨#[49,49]⟩,.string ⟨#[51,55,47,51]⟩] 47)) (.cells #[.int .i64 3,.int .i64 0,.int .i64 1] 3);have fV:=aD.trans (bL.mono aD.size);have O12':=hid (O12.out.later (bL.mono O12.out.1));have O7':=hid (O7.out.later (fV.mono O7.out.1));have nM:=hid (tS.out.trans (fV.mono tS.out.size));have H7:=hid (qua _ _ (za5 (w6.alloc (.cells #[.string ⟨#[49,49]⟩,.string ⟨#[51,55,47,51]⟩] 47)) (w6.heap.size+1) (by simp) 3 3 0 1));clear aD bL fV O7 O12 tS;go_wp2_with fail;refine H7.out.mono ?_;rintro e w7 ⟨⟨g14,rfl,hI⟩,hb⟩;have Jo:=hid (nM.out.trans (hb.mono nM.out.size));have O7:=hid (O7'.out.later (hb.mono O7'.out.1));have O12:=hid (O12'.out.later (hb.mono O12'.out.1));have HI:=hid hI;clear hb hI H7 nM O7' O12';generalize w6.heap.size=n12 at *;have Ah:=hid (q8v ⟨#[97]⟩ w7);go_wp2_with fail;refine Ah.out.mono ?_;rintro e w8 ⟨rfl,rfl⟩;clear Ah;have dM:=qdy w7 (.cells #[.string ⟨#[97]⟩,.string ⟨#[49]⟩] 32)
 have eO:=qdy (w7.alloc (.cells #[.string ⟨#[97]⟩,.string ⟨#[49]⟩] 32)) (.cells #[.string ⟨#[97]⟩,.string ⟨#[49,47,50]⟩,.string ⟨#[98]⟩,.string ⟨#[49,47,50]⟩] 32);have Lh:=qdy ((w7.alloc (.cells #[.string ⟨#[97]⟩,.string ⟨#[49]⟩] 32)).alloc (.cells #[.string ⟨#[97]⟩,.string ⟨#[49,47,50]⟩,.string ⟨#[98]⟩,.string ⟨#[49,47,50]⟩] 32)) (.cells #[.string ⟨#[119,104,101,97,116]⟩,.int .i64 600,.slice (some ⟨w7.heap.size,0,none⟩) 1 1,.string ⟨#[119,104,101,97,116]⟩,.int .i64 400,.slice (some ⟨w7.heap.size+1,0,none⟩) 2 2] 28);have fV:=dM.trans ((eO.trans (Lh.mono eO.size)).mono dM.size);have Cq:=hid (Jo.out.trans (fV.mono Jo.out.size));have O7':=hid (O7.out.later (fV.mono O7.out.1));have O12':=hid (O12.out.later (fV.mono O12.out.1));have HI':=hid (HI.out.later fV);have H8:=hid (zag _ 0 2 _ (HG.out.later Cq.out) (q84 ((w7.alloc (.cells #[.string ⟨#[97]⟩,.string ⟨#[49]⟩] 32)).alloc (.cells #[.string ⟨#[97]⟩,.string ⟨#[49,47,50]⟩,.string ⟨#[98]⟩,.string ⟨#[49,47,50]⟩] 32)) (w7.heap.size+1+1) (by simp) w7.heap.size (w7.heap.size+1) ((q82 w7 w7.heap.size rfl 32 ⟨#[97]⟩ ⟨#[49]⟩).later eO) (q3v (w7.alloc (.cells #[.string ⟨#[97]⟩,.string ⟨#[49]⟩] 32)) (w7.heap.size+1) (by simp) 32 ⟨#[97]⟩ ⟨#[49,47,50]⟩ ⟨#[98]⟩ ⟨#[49,47,50]⟩)) (by decide));clear dM eO Lh fV O7 O12 HI Jo;go_wp2_with fail;refine H8.out.mono ?_;rintro e w8 ⟨⟨g16,rfl,hS⟩,hb⟩;have fG:=hid (Cq.out.trans (hb.mono Cq.out.size));have O7:=hid (O7'.out.later (hb.mono O7'.out.1));have O12:=hid (O12'.out.later (hb.mono O12'.out.1));have HI:=hid (HI'.out.later hb);have HS:=hid hS;clear hb hS H8 Cq O7' O12' HI';have O16:=hid (qdr w8 28 (.string ⟨#[119,104,101,97,116]⟩) (.int .i64 1000) (.slice (some ⟨g16,0,none⟩) 2 2));have aD:=qdy w8 (.cells #[.string ⟨#[119,104,101,97,116]⟩,.int .i64 1000,.slice (some ⟨g16,0,none⟩) 2 2] 28)
 have eI:=hid (fG.out.trans (aD.mono fG.out.size));have O7':=hid (O7.out.later (aD.mono O7.out.1));have O12':=hid (O12.out.later (aD.mono O12.out.1));have HI':=hid (HI.out.later aD);have HS':=hid (HS.out.later aD);have H9:=hid (zaf _ (HG.out.later eI.out));clear aD O7 O12 HI HS fG;go_wp2_with fail;refine H9.out.mono ?_;rintro e w9 ⟨rfl,hb⟩;have Jp:=hid (eI.out.trans (hb.mono eI.out.size));have HI:=hid (HI'.out.later hb);have HS:=hid (HS'.out.later hb);have O16':=hid (O16.out.later (hb.mono O16.out.1));obtain⟨p0,p1⟩:=qap (O7'.out.later (hb.mono O7'.out.1));obtain⟨q0,q1⟩:=qap (O12'.out.later (hb.mono O12'.out.1));clear hb H9 eI HI' HS' O16 O7' O12';generalize w8.heap.size=n16 at *;have dM:=qdy w9 (.cells #[.string ⟨#[97]⟩,.string ⟨#[52,47,53]⟩,.string ⟨#[98]⟩,.string ⟨#[49,47,53]⟩] 32);have eO:=qdy (w9.alloc (.cells #[.string ⟨#[97]⟩,.string ⟨#[52,47,53]⟩,.string ⟨#[98]⟩,.string ⟨#[49,47,53]⟩] 32)) (.cells #[.string ⟨#[119,104,101,97,116]⟩,.int .i64 1000,.slice (some ⟨w9.heap.size,0,none⟩) 2 2] 28);have Lh:=qdy ((w9.alloc (.cells #[.string ⟨#[97]⟩,.string ⟨#[52,47,53]⟩,.string ⟨#[98]⟩,.string ⟨#[49,47,53]⟩] 32)).alloc (.cells #[.string ⟨#[119,104,101,97,116]⟩,.int .i64 1000,.slice (some ⟨w9.heap.size,0,none⟩) 2 2] 28)) (.cells #[.int .i64 5,.int .i64 0,.int .i64 2] 3);have Jq:=eO.trans (Lh.mono eO.size);have fV:=dM.trans (Jq.mono dM.size);have Jr:=hid (Jp.out.trans (fV.mono Jp.out.size));have cO:=hid ((q6n w9 w9.heap.size rfl 32 ⟨#[97]⟩ ⟨#[52,47,53]⟩ ⟨#[98]⟩ ⟨#[49,47,53]⟩).later Jq);have o20:=qdr (w9.alloc (.cells #[.string ⟨#[97]⟩,.string ⟨#[52,47,53]⟩,.string ⟨#[98]⟩,.string ⟨#[49,47,53]⟩] 32)) 28 (.string ⟨#[119,104,101,97,116]⟩) (.int .i64 1000) (.slice (some ⟨w9.heap.size,0,none⟩) 2 2);have O20:=hid (o20.later (Lh.mono o20.1))
 have jE:=hid (q83 ((w9.alloc (.cells #[.string ⟨#[97]⟩,.string ⟨#[52,47,53]⟩,.string ⟨#[98]⟩,.string ⟨#[49,47,53]⟩] 32)).alloc (.cells #[.string ⟨#[119,104,101,97,116]⟩,.int .i64 1000,.slice (some ⟨w9.heap.size,0,none⟩) 2 2] 28)) (w9.heap.size+1+1) (by simp) 3 5 0 2);have H10:=hid (qsb [5,0,2] g14 0 3 (w9.heap.size+1+1) 0 3 _ (HI.out.later fV) jE.out (by decide));have Ag:=hid (HS.out.later fV);have O16:=hid (O16'.out.later (fV.mono O16'.out.1));clear dM eO Lh Jq fV Jp HS HI jE O16' o20;go_wp2_with fail;refine H10.out.mono ?_;rintro e w10 ⟨rfl,hb⟩;have Js:=hid (Jr.out.trans (hb.mono Jr.out.size));obtain⟨a0,_⟩:=(O16.out.later (hb.mono O16.out.1)).2 0 (by omega);obtain⟨a1,_⟩:=(O16.out.later (hb.mono O16.out.1)).2 1 (by omega);obtain⟨a2,_⟩:=(O16.out.later (hb.mono O16.out.1)).2 2 (by omega);have O20':=O20.out.later (hb.mono O20.out.1);rw[qab] at O20';obtain⟨d0,_⟩:=O20'.2 0 (by omega);obtain⟨d1,_⟩:=O20'.2 1 (by omega);obtain⟨d2,_⟩:=O20'.2 2 (by omega);simp only[qfv,if_pos,Nat.one_ne_zero] at a0 a1 a2 d0 d1 d2;have H11:=hid (qqb za2 ⟨#[119,104,101,97,116]⟩ 1000 g16 0 2 w9.heap.size 0 2 w10 (Ag.out.later hb) (cO.out.later hb) (by decide));have dI:=hid q6h;have fX:=hid q6i;clear hb H10 Jr cO Ag O16 O20 O20';go_wp2_with fail;refine H11.out.mono ?_;rintro e w11 ⟨rfl,hb⟩;have Jt:=hid (Js.out.trans (hb.mono Js.out.size));clear hb H11 Js a0 a1 a2 d0 d1 d2 p0 p1 q0 q1;go_wp2_with fail;refine(dI.out _).mono ?_;rintro e w12 ⟨rfl,hb⟩;have Ju:=hid (Jt.out.trans (hb.mono Jt.out.size));clear hb dI Jt;go_wp2_with fail;refine(fX.out _).mono ?_;rintro e w13 ⟨rfl,hb⟩;have HB19:=hid (Ju.out.trans (hb.mono Ju.out.size));clear hb fX Ju;go_wp2_with fail;go_ret;exact⟨rfl,HB19.out⟩
end Go.Proofs.YtmcfcpgglfimjaaGreatDoor
