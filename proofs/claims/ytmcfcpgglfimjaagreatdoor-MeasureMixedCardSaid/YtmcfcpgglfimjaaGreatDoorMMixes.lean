/- MeasureMixes. -/
import Derived.Test.YtmcfcpgglfimjaaGreatDoorMRefMix
import Derived.Test.YtmcfcpgglfimjaaGreatDoorMMixShares
set_option linter.all false
namespace Go.Proofs.YtmcfcpgglfimjaaGreatDoor
open Go.RowKit
set_option maxRecDepth 100000
def ShR(W:World)(p:Option Addr)(n:Nat)(R:List (BA × BA)):Prop:=n=R.length∧(R=[]∨∃g,p=some ⟨g,0,none⟩∧qb0 W g 0 R)
theorem ShR.later{W W':World}{p:Option Addr}{n:Nat}{R:List (BA × BA)}(h:ShR W p n R)(hb:Below W.heap.size W W'):ShR W' p n R:=by
 obtain⟨h0,h|⟨g,h1,h2⟩⟩:=h
 ·exact⟨h0,.inl h⟩
 ·exact⟨h0,.inr ⟨g,h1,h2.later hb⟩⟩
theorem qpt(p p':Option Addr)(c c':Nat)(w:World):Calls Tryz.prog 11 #[.slice p 0 c,.slice p' 0 c'] w fun e w'=>e = .returned (.bool true)∧Below w.heap.size w w':=by
 have HB:=hid (qaa w.heap.size w);go_enter Tryz.func11,Tryz.ntmps11;go_wp2_with fail
 go_loop [5] (fun i=>i = .int .i64 0) (fun _=>0)
 case atStart=>rfl
 case round=>
  subst hrel;go_wp2_with fail;go_ret;exact⟨rfl,HB.out⟩
theorem zbb(p p':Option Addr)(n n' c c':Nat)(g0:BA)(ms:Int)(R:List (BA × BA))(w:World)(h:ShR w p n R)(h':ShR w p' n' R)(hl:R.length≤1048576):
  Calls Tryz.prog 12 #[.agg #[.string g0,.int .i64 ms,.slice p n c],.agg #[.string g0,.int .i64 ms,.slice p' n' c']] w fun e w'=>e = .returned (.bool true)∧Below w.heap.size w w':=by
 obtain⟨rfl,h⟩:=h;obtain⟨rfl,h'⟩:=h';refine qjl p p' _ c c' g0 ms w (hid fun W hW => ?_);rcases h with rfl|⟨g,rfl,h⟩
 ·exact qpt p p' c c' W
 ·rcases h' with rfl|⟨g',rfl,h'⟩
  ·exact qpt _ _ c c' W
  ·exact qgm R g 0 c g' 0 c' W (h.later hW) (h'.later hW) hl
def zbg(f:FuncId)(v:Value)(g1:BA)(m1 e1:Int)(R:List (BA × BA))(W:World):Prop:=
 Calls Tryz.prog f #[v] W fun e w'=>(∃p n c,e = .returned (.tuple #[.agg #[.string g1,.int .i64 m1,.slice p n c],.int .i64 e1])∧ShR w' p n R)∧Below W.heap.size W w'
theorem qwj{W:World}{g cap:Nat}{l:List (BA × BA)}(h:qdk shK W g cap l):qb0 W g 0 l:=fun j s hj=>by
 obtain⟨cs,rfl,hc⟩:=h.get j s hj;rw[Nat.zero_add];exact⟨hc 0 _ rfl,hc 1 _ rfl⟩
theorem quj{l:List Lay}(h:qlv l=true):(l.length≤6∨64<l.length)∧l.length≤66∧∀x ∈ l,za9 x∧x.shares.length≤70:=by
 unfold qlv at h;rw[Bool.and_eq_true,Bool.and_eq_true,Bool.or_eq_true,List.all_eq_true] at h;obtain⟨⟨h1,h2⟩,h3⟩:=h;refine⟨h1.imp of_decide_eq_true of_decide_eq_true,of_decide_eq_true h2,fun x hx => ?_⟩;have h4:=h3 x hx;unfold qlu qpn at h4;rw[Bool.and_eq_true,Bool.and_eq_true,List.all_eq_true] at h4;obtain⟨h5,h6,h7⟩:=h4;refine⟨⟨of_decide_eq_true h5,fun s hs => ?_⟩,of_decide_eq_true h6⟩;have h8:=h7 s hs;unfold qwh at h8;rw[Bool.and_eq_true] at h8;exact⟨of_decide_eq_true h8.1,of_decide_eq_true h8.2⟩
theorem qx6{q:Rat}{k:Nat}(h:sm q k)(hk:k+1≤600):qcz q=rt q∧qgi q=0:=by
 unfold qcz qgi;rw[if_pos (qm2 h hk),if_pos (qm2 h hk)];exact⟨rfl,rfl⟩
theorem q88{l:List Lay}{k:Nat}(h:SmL (qci l) k)(hk:1≤k)(s:BA):sm (qgp (qcu l) s) k:=by
 unfold qgp;cases hf:(qcu l).find? (fun q=>s==q.1) with
 | none=>exact⟨Nat.pow_pos (by decide),Nat.one_lt_pow (by omega) (by decide)⟩
 | some q=>exact h q ((qdz l).2.mem_iff.2 (List.mem_of_find?_eq_some hf))
theorem qwk{l:List Lay}(h:qfw l=0):1≤l.length∧l.length≤64∧(∀x ∈ l,qbc x=0)∧(∀x ∈ l,x.grain=qct l)∧qaq l≤999999999∧(qcu l).length≤64:=by
 unfold qfw at h;split at h
 ·cases h
 split at h
 ·cases h
 split at h
 ·rename_i h1;exact absurd h h1
 split at h
 ·cases h
 split at h
 ·cases h
 split at h
 ·cases h
 rename_i h1 h2 h3 h4 h5 h6;have h3':qai (l.map qbc)=0:=Classical.byContradiction h3;exact⟨by omega,by omega,fun x hx=>qmz h3' _ (List.mem_map_of_mem hx),qlz.1 (by simpa using h4),by omega,by omega⟩
end Go.Proofs.YtmcfcpgglfimjaaGreatDoor
