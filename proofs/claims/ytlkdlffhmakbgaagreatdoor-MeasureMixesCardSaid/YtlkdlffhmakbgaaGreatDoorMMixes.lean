/- MeasureMixes. -/
import Derived.Test.YtlkdlffhmakbgaaGreatDoorMRefMix
import Derived.Test.YtlkdlffhmakbgaaGreatDoorMMixShares
set_option linter.all false
namespace Go.Proofs.YtlkdlffhmakbgaaGreatDoor
open Go.RowKit
set_option maxRecDepth 100000
set_option maxHeartbeats 16000000
def ShR(W:World)(p:Option Addr)(n:Nat)(R:List (BA × BA)):Prop:=n=R.length∧(R=[]∨∃g,p=some ⟨g,0,none⟩∧qbm W g 0 R)
theorem ShR.later{W W':World}{p:Option Addr}{n:Nat}{R:List (BA × BA)}(h:ShR W p n R)(hb:Below W.heap.size W W'):ShR W' p n R:=by
 obtain⟨h0,h|⟨g,h1,h2⟩⟩:=h
 ·exact⟨h0,.inl h⟩
 ·exact⟨h0,.inr ⟨g,h1,h2.later hb⟩⟩
theorem q4f{W:World}{p:Option Addr}{n g:Nat}{R:List (BA × BA)}{a b:Value}{z:Int}(h:ShR W p n R)(hb:Own W g 3 (qep a (.int .i64 z) b))(x y u:Value):ShR (((W.setCell ⟨g,0,none⟩ x).setCell ⟨g,1,none⟩ y).setCell ⟨g,2,none⟩ u) p n R:=by
 obtain⟨h0,h|⟨g',h1,h2⟩⟩:=h
 ·exact⟨h0,.inl h⟩
 ·by_cases hR:R=[]
  ·exact⟨h0,.inl hR⟩
  ·obtain⟨s,hs⟩:∃s,R[0]? = some s:=⟨_,qap (List.length_pos_iff.2 hR)⟩
   obtain⟨-,e1⟩:=h2 0 s hs
   have hne:g'≠g:=fun e=>by
    have h3:=(qay hb).2.2.1;rw[e,show(0+0*2+1:Nat)=1 from rfl,h3] at e1;cases e1
   exact⟨h0,.inr ⟨g',h1,qfr (qfr (qfr h2 hne) hne) hne⟩⟩
theorem qun(p p':Option Addr)(c c':Nat)(w:World):Calls Tryz.prog 38 #[.slice p 0 c,.slice p' 0 c'] w fun e w'=>e = .returned (.bool true)∧Below w.heap.size w w':=by
 have HB:=hid (qaa w.heap.size w);go_enter Tryz.func38,Tryz.ntmps38;go_wp2_with fail
 go_loop [5] (fun i=>i = .int .i64 0) (fun _=>0)
 case atStart=>rfl
 case round=>
  subst hrel;go_wp2_with fail;go_ret;exact⟨rfl,HB.out⟩
theorem za2(p p':Option Addr)(n n' c c':Nat)(g0:BA)(ms:Int)(R:List (BA × BA))(w:World)(h:ShR w p n R)(h':ShR w p' n' R)(hl:R.length≤1048576):
  Calls Tryz.prog 13 #[.agg #[.string g0,.int .i64 ms,.slice p n c],.agg #[.string g0,.int .i64 ms,.slice p' n' c']] w fun e w'=>e = .returned (.bool true)∧Below w.heap.size w w':=by
 obtain⟨rfl,h⟩:=h;obtain⟨rfl,h'⟩:=h';refine qnq p p' _ c c' g0 ms w (hid fun W hW => ?_);rcases h with rfl|⟨g,rfl,h⟩
 ·exact qun p p' c c' W
 ·rcases h' with rfl|⟨g',rfl,h'⟩
  ·exact qun _ _ c c' W
  ·exact qjj R g 0 c g' 0 c' W (h.later hW) (h'.later hW) hl
def za4(f:FuncId)(v:Value)(g1:BA)(m1 e1:Int)(R:List (BA × BA))(W:World):Prop:=
 Calls Tryz.prog f #[v] W fun e w'=>(∃p n c,e = .returned (.tuple #[.agg #[.string g1,.int .i64 m1,.slice p n c],.int .i64 e1])∧ShR w' p n R)∧Below W.heap.size W w'
theorem q0e(p:Option Addr)(n c:Nat)(w:World)
  (Cd:Hid (qj6 (Below w.heap.size w) 4 #[] (.bool true))) (Bh:Hid (qj6 (Below w.heap.size w) 5 #[.slice p n c] (.bool false))):
  Calls Tryz.prog 3 #[.slice p n c] w fun e w'=>e = .returned (.bool true)∧Below w.heap.size w w':=by
 have HB:=hid (qaa w.heap.size w);go_enter Tryz.func3,Tryz.ntmps3;go_wp2_with fail;refine kgo Cd.out HB fun wN HB => ?_;go_wp2_with fail;refine kgo Bh.out HB fun wN HB => ?_;clear Bh;go_wp2_with fail;refine kgo Cd.out HB fun wN HB => ?_;clear Cd;go_wp2_with fail;go_ret;exact⟨rfl,HB.out⟩
theorem qq8(p:Option Addr)(n c:Nat)(g1:BA)(m1 e1 bad:Int)(R:List (BA × BA))(w:World)(hR:R.length≤1048576)(hn:n≤1000)
  (Cd:Hid (qj6 (Below w.heap.size w) 4 #[] (.bool true))) (Bh:Hid (qj6 (Below w.heap.size w) 5 #[.slice p n c] (.bool true)))
  (uX:Hid (∀k,k<n→∃(b o:Nat) (g:BA) (m:Int) (q:Option Addr) (nq cq:Nat) (se le:Int),p=some ⟨b,o,none⟩∧Hid (∀W,Below w.heap.size w W→W.cell? ⟨b,o+k*3,none⟩=some (.string g)∧W.cell? ⟨b,o+k*3+1,none⟩=some (.int .i64 m)∧W.cell? ⟨b,o+k*3+2,none⟩=some (.slice q nq cq))∧
   Hid (qj6 (Below w.heap.size w) 6 #[.slice q nq cq] (.int .i64 se))∧Hid (qj6 (Below w.heap.size w) 7 #[.slice q nq cq] (.int .i64 se))∧
   Hid (qj6 (Below w.heap.size w) 8 #[.agg #[.string g,.int .i64 m,.slice q nq cq]] (.int .i64 le))∧Hid (qj6 (Below w.heap.size w) 9 #[.agg #[.string g,.int .i64 m,.slice q nq cq]] (.int .i64 le))))
  (oN:Hid (∀W,Below w.heap.size w W→za4 10 (.slice p n c) g1 m1 e1 R W)) (oV:Hid (∀W,Below w.heap.size w W→Calls Tryz.prog 11 #[.slice p n c] W fun e w'=>e = .returned (.int .i64 bad)∧Below W.heap.size W w'))
  (oW:(bad≠0∧e1=bad∧g1=⟨#[]⟩∧m1=0∧R=[])∨(bad=0∧e1=0∧Hid (∀W,Below w.heap.size w W→za4 12 (.slice p n c) g1 m1 0 R W))):
  Calls Tryz.prog 3 #[.slice p n c] w fun e w'=>e = .returned (.bool true)∧Below w.heap.size w w':=by
 have dM:=hid (qaa w.heap.size w);have Qz:=hid oW;have aT:=hid fun p p' n n' c c' W h h'=>za2 p p' n n' c c' g1 m1 R W h h' hR;clear oW hR;go_enter Tryz.func3,Tryz.ntmps3;go_wp2_with fail;refine kgo Cd.out dM fun wN HB => ?_;go_wp2_with fail;refine kgo Bh.out HB fun wM HB => ?_;clear Bh Cd dM;go_wp2_with fail
 go_loopw [3] (fun i wr=>∃k:Nat,k≤n∧k≤6∧i = .int .i64 k∧Hid (Below w.heap.size w wr)) (fun i _=>6-(intOf i).toNat)
 case atStart=>exact⟨0,Nat.zero_le _,Nat.zero_le _,rfl,HB⟩
 case round=>
  obtain⟨k,hk,Cb,rfl,Ta⟩:=hrel;clear HB;by_cases aY:k<n∧k<6
  ·obtain⟨aY,hlt6⟩:=aY
   obtain⟨b,o,g,m,q,nq,cq,se,le,rfl,HC,K1,K2,K3,K4⟩:=uX.out k aY;have Q1:=qj5 (I:=Below w.heap.size w) K1.out;have Q2:=qj5 (I:=Below w.heap.size w) K2.out;have Q3:=qj5 (I:=Below w.heap.size w) K3.out;have Q4:=qj5 (I:=Below w.heap.size w) K4.out;have cH:=hid Ta.out.drew;have eZ:=HC.out _ cH.out;have Cc:(0:Int)≤(k:Int):=by omega
   have tO:(k:Int)<(n:Int):=by omega
   have hi6:(k:Int)<6:=by omega
   have d1:decide ((k:Int)<(n:Int))=true:=qag tO;clear K1 K2 K3 K4;go_wp2_with fail
   go_region_held3 (fun W=>W.cell? ⟨b,o+k*3,none⟩=some (.string g)∧W.cell? ⟨b,o+k*3+1,none⟩=some (.int .i64 m)∧W.cell? ⟨b,o+k*3+2,none⟩=some (.slice q nq cq)) (exact HC.out _ cH.out)
    (first
     | (go_at_call 6;(with_reducible refine(Q1.out _ cH.out).mono ?_);rintro e wD ⟨rfl,hb⟩;have cH:=hid hb;clear hb)
     | (go_at_call 7;(with_reducible refine(Q2.out _ cH.out).mono ?_);rintro e wD ⟨rfl,hb⟩;have cH:=hid hb;clear hb)
     | (go_at_call 8;(with_reducible refine(Q3.out _ cH.out).mono ?_);rintro e wD ⟨rfl,hb⟩;have cH:=hid hb;clear hb)
     | (go_at_call 9;(with_reducible refine(Q4.out _ cH.out).mono ?_);rintro e wD ⟨rfl,hb⟩;have cH:=hid hb;clear hb))
   all_goals
    go_wp2_with fail;go_roundw
    case rel=>exact⟨k+1,by omega,by omega,by go_num,cH⟩
    case measure=>simp[intOf];omega
  ·have hex:¬(k:Int)<(n:Int)∨((k:Int)<(n:Int)∧¬(k:Int)<6):=by omega
   clear aY uX;rcases hex with h1|⟨h1,h2⟩
   all_goals
    go_wp2_with fail;refine(oN.out _ Ta.out).mono ?_;rintro e wX ⟨⟨px,nx,cx,rfl,uR⟩,hb⟩;have fM:=hid (Ta.out.trans (hb.mono Ta.out.size));have HSX:=hid (uR.later ((qaa _ _).alloc (qac _) (.cells #[.string g1,.int .i64 m1,.slice px nx cx] 29)));have HOX:=hid (qb4 wX 29 (.string g1) (.int .i64 m1) (.slice px nx cx));have qE:=hid (fM.out.alloc fM.out.size (.cells #[.string g1,.int .i64 m1,.slice px nx cx] 29));clear uR hb oN Ta;go_wp2_with fail;refine(oV.out _ qE.out).mono ?_;rintro e wC ⟨rfl,hb⟩;have Tb:=hid (HSX.out.later hb);have Ec:=hid (HOX.out.later (hb.mono HOX.out.1));have gJ:=hid (qE.out.trans (hb.mono qE.out.size));have HWC:=hid gJ.out.size;clear hb oV HSX HOX qE fM;have aD:Below wC.heap.size wC (wC.alloc (.cells #[.string ⟨#[]⟩,.int .i64 0,.slice none 0 0] 29)):=qad _ _;have Kw:=hid (Tb.out.later aD);have Ed:=hid (Ec.out.later (aD.mono Ec.out.1));have lT:=hid (qb4 wC 29 (.string ⟨#[]⟩) (.int .i64 0) (.slice none 0 0));have bM:=hid (gJ.out.trans (aD.mono gJ.out.size));have yG:=hid Ec.out.1;clear aD Tb Ec gJ;obtain⟨a0,-,a1,-,a2,-⟩:=qay Ed.out;obtain⟨b0,f0,b1,f1,b2,f2⟩:=qay lT.out;rcases Qz.out with⟨h0,rfl,rfl,rfl,rfl⟩|⟨rfl,rfl,Ex⟩
    ·have pK:(e1==0)=false:=qam h0
     clear Qz h0;go_wp2_with fail;refine(aT.out _ _ _ _ _ _ _ Kw.out ⟨rfl,.inl rfl⟩).mono ?_;rintro e wD ⟨rfl,hb⟩;have eO:=hid (bM.out.trans (hb.mono bM.out.size));clear hb aT a0 a1 a2 b0 b1 b2 f0 f1 f2;go_wp2_with fail;go_ret;exact⟨rfl,eO.out⟩
    ·clear Qz
     go_wp2_with fail;refine(Ex.out _ bM.out).mono ?_;rintro e wD ⟨⟨py,ny,cy,rfl,hsy⟩,hb⟩;have eO:=hid (bM.out.trans (hb.mono bM.out.size));have HSX3:=hid (Kw.out.later hb);have HSY:=hid hsy;have Tc:=hid (Ed.out.later (hb.mono Ed.out.1));have qC:=hid (lT.out.later (hb.mono lT.out.1));clear hsy hb Ex a0 a1 a2 b0 b1 b2 f0 f1 f2 Kw Ed lT bM;obtain⟨a0,-,a1,-,a2,-⟩:=qay Tc.out;obtain⟨b0,f0,b1,f1,b2,f2⟩:=qay qC.out;have gO:wC.heap.size≠wX.heap.size:=by have:=yG.out;omega
     have HOXS:=hid (((Tc.out.setOther gO 0 (.string g1)).setOther gO 1 (.int .i64 m1)).setOther gO 2 (.slice py ny cy))
     have HOWS:Hid (Own (((wD.setCell ⟨wC.heap.size,0,none⟩ (.string g1)).setCell ⟨wC.heap.size,1,none⟩ (.int .i64 m1)).setCell ⟨wC.heap.size,2,none⟩ (.slice py ny cy)) wC.heap.size 3 (qep (.string g1) (.int .i64 m1) (.slice py ny cy))):=hid ((((qC.out.set 0 (by omega) _).set 1 (by omega) _).set 2 (by omega) _).congr fun i hi=>by
      match i,hi with
      | 0,_=>rfl
      | 1,_=>rfl
      | 2,_=>rfl)
     have HSX4:=hid (q4f HSX3.out qC.out (.string g1) (.int .i64 m1) (.slice py ny cy));have HSY4:=hid (q4f HSY.out qC.out (.string g1) (.int .i64 m1) (.slice py ny cy));have HBS:Hid (Below w.heap.size w (((wD.setCell ⟨wC.heap.size,0,none⟩ (.string g1)).setCell ⟨wC.heap.size,1,none⟩ (.int .i64 m1)).setCell ⟨wC.heap.size,2,none⟩ (.slice py ny cy))):=hid (((eO.out.setCell (p:=⟨wC.heap.size,0,none⟩) HWC.out _).setCell (p:=⟨wC.heap.size,1,none⟩) HWC.out _).setCell (p:=⟨wC.heap.size,2,none⟩) HWC.out _);obtain⟨x0,-,x1,-,x2,-⟩:=qay HOXS.out;obtain⟨y0,-,y1,-,y2,-⟩:=qay HOWS.out;clear gO a0 a1 a2;go_wp2_with fail;refine(aT.out _ _ _ _ _ _ _ HSX4.out HSY4.out).mono ?_;rintro e wE ⟨rfl,hb⟩;have nD:=hid (HBS.out.trans (hb.mono HBS.out.size));clear hb aT x0 x1 x2 y0 y1 y2 b0 b1 b2 f0 f1 f2;go_wp2_with fail;go_ret;exact⟨rfl,nD.out⟩
theorem qwm{W:World}{g cap:Nat}{l:List (BA × BA)}(h:qdg shK W g cap l):qbm W g 0 l:=fun j s hj=>by
 obtain⟨cs,rfl,hc⟩:=h.get j s hj;rw[Nat.zero_add];exact⟨hc 0 _ rfl,hc 1 _ rfl⟩
theorem quo{l:List Lay}(h:qke l=true):(l.length≤6∨64<l.length)∧l.length≤66∧∀x ∈ l,zah x∧x.shares.length≤70:=by
 unfold qke at h;rw[Bool.and_eq_true,Bool.and_eq_true,Bool.or_eq_true,List.all_eq_true] at h;obtain⟨⟨h1,h2⟩,h3⟩:=h;refine⟨h1.imp of_decide_eq_true of_decide_eq_true,of_decide_eq_true h2,fun x hx => ?_⟩;have h4:=h3 x hx;unfold ql2 qps at h4;rw[Bool.and_eq_true,Bool.and_eq_true,List.all_eq_true] at h4;obtain⟨h5,h6,h7⟩:=h4;refine⟨⟨of_decide_eq_true h5,fun s hs => ?_⟩,of_decide_eq_true h6⟩;have h8:=h7 s hs;unfold qwk at h8;rw[Bool.and_eq_true] at h8;exact⟨of_decide_eq_true h8.1,of_decide_eq_true h8.2⟩
theorem qx9{q:Rat}{k:Nat}(h:sm q k)(hk:k+1≤600):qc7 q=rt q∧qgf q=0:=by
 unfold qc7 qgf;rw[if_pos (qm4 h hk),if_pos (qm4 h hk)];exact⟨rfl,rfl⟩
theorem q82{l:List Lay}{k:Nat}(h:SmL (qd7 l) k)(hk:1≤k)(s:BA):sm (qg4 (qci l) s) k:=by
 unfold qg4;cases hf:(qci l).find? (fun q=>s==q.1) with
 | none=>exact⟨Nat.pow_pos (by decide),Nat.one_lt_pow (by omega) (by decide)⟩
 | some q=>exact h q ((qij l).2.mem_iff.2 (List.mem_of_find?_eq_some hf))
theorem q83(l:List Lay)(p:Option Addr)(c:Nat)(w:World)(hg:GW w)(hv:qpa w (.slice p l.length c) l)(hs:∀x ∈ l,∀s ∈ x.shares,s.1.size≤1073741824∧s.2.size≤1073741824)(h:qdc l≠0):
  Calls Tryz.prog 10 #[.slice p l.length c] w (qx8 (qdc l) w):=by
 obtain⟨p',c',Dd,bO,bG,aA⟩:=hv;cases Dd
 unfold maxLen at bG;by_cases h0:l.length=0
 ·exact q4c p l.length c _ w (by omega) (.inl ⟨h0,by unfold qdc;rw[if_pos h0]⟩)
 by_cases h1:64<l.length
 ·exact q4c p l.length c _ w (by omega) (.inr ⟨h1,by unfold qdc;rw[if_neg h0,if_pos h1]⟩)
 obtain⟨b,o,rfl,aB⟩:=aA.resolve_left h0;by_cases h2:qaj (l.map qbj)=0
 ·have cM:∀x ∈ l,qbj x=0:=fun x hx=>qjz h2 _ (List.mem_map_of_mem hx)
  have hm:qdc l=if(l.all fun x=>decide (x.grain=qck l))=false then 16 else if 999999999<qav l then 4 else if 64<(qci l).length then 5 else 0:=by
   unfold qdc;rw[if_neg h0,if_neg h1,if_neg (by rw[h2];simp)]
  refine q6l l (qck l) b o c _ w hg aB (by omega) (by omega) hs cM rfl ?_;cases Rw:l.all fun x=>decide (x.grain=qck l) with
  | false=>
   obtain⟨x,hx,Rn⟩:=List.all_eq_false.1 Rw;exact .inl ⟨⟨x,hx,fun e=>Rn (qag e)⟩,by rw[hm,if_pos Rw]⟩
  | true=>
   rw[if_neg (by rw[Rw];simp)] at hm;have nN:=ql8.1 Rw;by_cases h3:999999999<qav l
   ·exact .inr (.inl ⟨nN,h3,by rw[hm,if_pos h3]⟩)
   ·rw[if_neg h3] at hm
    by_cases h4:64<(qci l).length
    ·exact .inr (.inr ⟨nN,by omega,h4,by rw[hm,if_pos h4]⟩)
    ·rw[if_neg h4] at hm
     exact absurd hm h
 ·exact q80 l b o c _ w hg aB (by omega) (by omega) (fun x hx s eT=>(hs x hx s eT).2) (by unfold qdc;rw[if_neg h0,if_neg h1,if_pos h2]) h
theorem qwn{l:List Lay}(h:qdc l=0):1≤l.length∧l.length≤64∧(∀x ∈ l,qbj x=0)∧(∀x ∈ l,x.grain=qck l)∧qav l≤999999999∧(qci l).length≤64:=by
 unfold qdc at h;split at h
 ·cases h
 split at h
 ·cases h
 split at h
 ·rename_i h1;exact absurd h h1
 split at h
 ·cases h
 split at h
 ·cases h
 split at h
 ·cases h
 rename_i h1 h2 h3 h4 h5 h6;have h3':qaj (l.map qbj)=0:=Classical.byContradiction h3;exact⟨by omega,by omega,fun x hx=>qjz h3' _ (List.mem_map_of_mem hx),ql8.1 (by simpa using h4),by omega,by omega⟩
theorem q4g(v:Value)(l:List Lay)(w:World)(hg:GW w)(hv:qpa w v l):Calls Tryz.prog 3 #[v] w fun e w'=>e = .returned (.bool true)∧Below w.heap.size w w':=by
 have lU:=hv;obtain⟨p,c,rfl,bO,bG,aA⟩:=lU;have J:=q3x hg;have Cd:=hid (qwg J);have Bh:=hid (qj3 J fun W hW _=>zaf _ l W (hv.later hW));cases cS:qke l with
 | false=>
  rw[cS] at Bh;exact q0e p l.length c w Cd Bh
 | true=>
  rw[cS] at Bh;obtain⟨hl6,hl66,hx⟩:=quo cS;have hs:∀x ∈ l,zah x:=fun x h=>(hx x h).1;have Md:∀x ∈ l,∀s ∈ x.shares,s.1.size≤1073741824∧s.2.size≤1073741824:=fun x h s h2=>by have:=(hs x h).2 s h2;omega
  have uX:Hid (∀k,k<l.length→∃(b o:Nat) (g:BA) (m:Int) (q:Option Addr) (nq cq:Nat) (se le:Int),p=some ⟨b,o,none⟩∧Hid (∀W,Below w.heap.size w W→W.cell? ⟨b,o+k*3,none⟩=some (.string g)∧W.cell? ⟨b,o+k*3+1,none⟩=some (.int .i64 m)∧W.cell? ⟨b,o+k*3+2,none⟩=some (.slice q nq cq))∧
    Hid (qj6 (Below w.heap.size w) 6 #[.slice q nq cq] (.int .i64 se))∧Hid (qj6 (Below w.heap.size w) 7 #[.slice q nq cq] (.int .i64 se))∧
    Hid (qj6 (Below w.heap.size w) 8 #[.agg #[.string g,.int .i64 m,.slice q nq cq]] (.int .i64 le))∧Hid (qj6 (Below w.heap.size w) 9 #[.agg #[.string g,.int .i64 m,.slice q nq cq]] (.int .i64 le))):=hid fun k hk=>by
   rcases aA with h0|⟨b,o,hp,aB⟩
   ·omega
   obtain⟨x,bV⟩:∃x,l[k]? = some x:=⟨_,qap hk⟩;obtain⟨e0,e1,q,cq,e2,yM⟩:=aB k x bV;have eF:=qbh bV;have h5:∀s ∈ x.shares,s.1.size≤5000∧s.2.size≤20:=fun s h=>by have:=(hs x eF).2 s h;omega
   refine⟨b,o,x.grain,x.mass,q,x.shares.length,cq,(qbe x.shares:Nat),(qbj x:Nat),hp,hid fun W hW => ?_,hid (qj3 J fun W hW hgW=>q6h _ x.shares W hgW (yM.later hW) fun s h=>(Md x eF s h).2),hid (qj3 J fun W hW _=>qq3 _ x.shares W (yM.later hW) h5),
    hid (qj3 J fun W hW hgW=>q8v x q cq W hgW (yM.later hW) fun s h=>(Md x eF s h).2),hid (qj3 J fun W hW _=>qui x q cq W (yM.later hW) (by have:=(hs x eF).1;omega) h5)⟩
   rw[hW.cell (qae w _ e0),hW.cell (qae w _ e1),hW.cell (qae w _ e2)];exact⟨e0,e1,e2⟩
  have oV:=hid fun W hW=>qum _ l W (hv.later hW) hl6 hs;by_cases h0:qdc l=0
  ·obtain⟨a1,a2,cM,nN,bZ,fU⟩:=qwn h0
   have hl6':l.length≤6:=by omega
   obtain⟨b,o,rfl,aB⟩:=aA.resolve_left (by omega);obtain⟨eU,fL⟩:=qfc l cM;have Td:=(qsi cM hl6' hs).1;have hS:SmL (qd7 l) 200:=fun q hq=>qek (qsg l cM (fun x hx s eT=>((Td x hx).2.2.2 s eT).2) q hq) (by omega);have jM:sm ((qav l:Int):Rat) 9:=⟨by show(qav l).natAbs<10^9;omega,by show 1<10^9;decide⟩;have pE:((qav l:Int):Rat).num≠0:=by show qav l≠0;omega
   have bU:∀s,sm (qg4 (qci l) s/((qav l:Int):Rat)) 209:=fun s=>q62 (q82 hS (by decide) s) jM pE
   have nJ:∀ss:List (List UInt8),ss.Perm ((qci l).map fun p=>p.1.data.toList)→((qcc ss).map fun s=>(s,qc7 (qg4 (qci l) s/((qav l:Int):Rat))))=(qkx l).map rtS:=fun ss hp=>by
    rw[q35 hp];unfold qkx;rw[List.map_map,List.map_map];refine List.map_congr_left fun q hq => ?_;show(q.1,qc7 (qg4 (qci l) q.1/((qav l:Int):Rat)))=(q.1,rt (q.2/((qav l:Int):Rat)));rw[(qx9 (bU q.1) (by decide)).1,q36 q hq]
   rw[h0] at oV
   have Ba:((qkx l).map rtS).length≤1048576:=by
    unfold qkx;rw[List.length_map,List.length_map];have:=qpw l fun x hx=>(Td x hx).1;omega
   refine qq8 _ l.length c (qck l) (qav l) 0 0 ((qkx l).map rtS) w Ba (by omega) Cd Bh uX (hid fun W hW => ?_) oV (.inr ⟨rfl,rfl,hid fun W hW => ?_⟩)
   ·refine(qxv l (qck l) b o c W (hg.later hW) (aB.later hW) a1 a2 bG Md cM nN bZ fU fun s=>(qx9 (bU s) (by decide)).2).mono fun e w' h => ?_
    obtain⟨ss,g,hp,_,he,hr,hb⟩:=h;have cT:(qcc ss).length=((qkx l).map rtS).length:=by rw[←nJ ss hp,List.length_map]
    rw[nJ ss hp] at hr;exact⟨⟨_,_,_,he,cT,.inr ⟨g,rfl,qwm hr⟩⟩,hb⟩
   ·refine(q81 l b o c W (hv.later hW) (aB.later hW) a1 hl6' hs cM bZ).mono fun e w' h => ?_
    obtain⟨⟨v',he,hlv⟩,hb⟩:=h;rcases hlv with⟨h1,rfl⟩|⟨g,c',rfl,_,_,_,h5⟩
    ·exact⟨⟨_,_,_,he,by rw[h1];rfl,.inl (by rw[h1];rfl)⟩,hb⟩
    ·exact⟨⟨_,_,_,he,by rw[List.length_map],.inr ⟨g,rfl,h5⟩⟩,hb⟩
  ·refine qq8 p l.length c ⟨#[]⟩ 0 (qdc l:Nat) (qdc l:Nat) [] w (by decide) (by omega) Cd Bh uX (hid fun W hW => ?_) oV (.inl ⟨by omega,rfl,rfl,rfl,rfl⟩)
   refine(q83 l p c W (hg.later hW) (hv.later hW) Md h0).mono fun e w' h => ?_;obtain⟨he,hb⟩:=h;exact⟨⟨_,_,_,he,rfl,.inl rfl⟩,hb⟩
end Go.Proofs.YtlkdlffhmakbgaaGreatDoor
