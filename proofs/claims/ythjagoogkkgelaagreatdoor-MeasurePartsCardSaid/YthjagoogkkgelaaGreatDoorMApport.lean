/- The stable sort of places by their remainders. -/
import Derived.Test.YthjagoogkkgelaaGreatDoorMMaths
import Derived.Test.YthjagoogkkgelaaGreatDoorMBase
import Derived.RegionTactic
import Derived.ChangeAlike
import Derived.Outline
import Derived.Deep.DeepCutAuto
set_option linter.all false
namespace Go.Proofs.YthjagoogkkgelaaGreatDoor
open Go.RowKit
set_option maxRecDepth 100000
set_option maxHeartbeats 4000000
theorem q6l(i k:Nat)(a:Addr)(g n c:Nat)(rs:List Int)(w:World)(ha:w.cell? a=some (.slice (some ⟨g,0,none⟩) n c))(hrow:∀j,j<n→w.cell? ⟨g,j,none⟩=some (iv rs j))(hi:i<n)(hk:k<n)(_hn:n≤1048576):
  Calls Tryz.prog 49 #[.int .i64 i,.int .i64 k,.pointer (some a)] w fun e w'=>e = .returned (.int .i64 (qql (rs.getD k 0) (rs.getD i 0)))∧∃q,w'=w.drewN q:=by
 have hci:=hrow i hi;have hck:=hrow k hk;unfold iv at hci hck;generalize rs.getD i 0=x at *;generalize rs.getD k 0=y at *;clear hrow;go_enter Tryz.func49,Tryz.ntmps49;go_wp2_with fail
 go_quiet ((go_at_call 50;exact Calls.quiet_of_same (qju _ _ _)))
 go_wp2_with fail;go_ret;exact⟨rfl,_,rfl⟩
theorem za4(l:List Int)(i:Nat)(x:Int)(hi:i<l.length):(fun k=>if k=i then Value.int .i64 x else iv l k)=iv (l.set i x):=by
 funext k
 unfold iv;by_cases e:k=i
 ·subst e;simp[hi]
 ·rw[if_neg e];simp[Ne.symm e]
theorem Own.setInt{w:World}{g n:Nat}{l:List Int}(h:Own w g n (iv l))(i:Nat)(hi:i<n)(hl:n=l.length)(x:Int):Own (w.setCell ⟨g,i,none⟩ (.int .i64 x)) g n (iv (l.set i x)):=by
 rw[←za4 l i x (by omega)];exact h.set i hi _
private theorem Own.drewN{w:World}{g n:Nat}{f:Nat→Value}(h:Own w g n f)(q:Nat):Own (w.drewN q) g n f:=h.later (below_drewN (Below.refl _ _) q)
def q2y(F:FuncId)(caps:Array Value)(c:Int→Int→Int)(D:Int→Prop)(W:World):Prop:=
 ∀x y,D x→D y→Calls Tryz.prog F (#[.int .i64 x,.int .i64 y]++caps) W fun e w'=>e = .returned (.int .i64 (c x y))∧∃q,w'=W.drewN q
def qk5(c:Int→Int→Int)(x y:Int):Bool:=decide (c x y<0)
theorem q2z(lt:Int→Int→Bool)(xs:List Int):qeq lt (xs.take 1)++xs.drop 1=xs:=by
 cases xs with
 | nil=>rfl
 | cons x xs=>simp[qeq,qi4]
theorem qsj(g n cap:Nat)(xs:List Int)(a:Addr)(c:Int→Int→Int)(D:Int→Prop)(w:World)(ho:Own w g n (iv xs))(hn:xs.length=n)(hn1:1≤n)(_hn2:n≤1048576)(hD:∀x ∈ xs,D x)
  (hc:∀W,qfh g w W→q2y 49 #[.pointer (some a)] c D W) (hcap:n≤cap) (hcap2:cap≤maxLen):
  Calls Tryz.prog 142 #[.slice (some ⟨g,0,none⟩) n cap,.int .i64 0,.int .i64 n,.func (.func 49) #[] #[.pointer (some a)]] w
   fun e w'=>e = .returned (.tuple #[])∧Own w' g n (iv (qeq (qk5 c) xs))∧qfh g w w':=by
 unfold maxLen at hcap2;have HO:=hid ho;have HN:=hid hn;have HC:=hid hc;have HD:=hid hD;clear ho hn hc hD;go_enter Tryz.func142,Tryz.ntmps142;go_wp2_with fail
 go_loopw [8] (fun i wr=>∃k:Nat,1≤k∧k≤n∧i = .int .i64 k∧Hid (Own wr g n (iv (qeq (qk5 c) (xs.take k)++xs.drop k)))∧Hid (qfh g w wr)) (fun i _=>n-(intOf i).toNat)
 case atStart=>exact⟨1,Nat.le_refl _,hn1,rfl,hid (HO.out.congr fun q hq=>by rw[q2z _ xs]),hid (qfh.refl _ _)⟩
 case round=>
  obtain⟨k,hk1,hk,rfl,HR,HB⟩:=hrel;by_cases hlt:k<n
  ·obtain⟨s,hs⟩:∃s,s=qeq (qk5 c) (xs.take k):=⟨_,rfl⟩
   have hsl:s.length=k:=by rw[hs,qnl,List.length_take,HN.out];omega
   have hkx:k<xs.length:=by rw[HN.out];exact hlt
   obtain⟨x,hx⟩:∃x,x=xs[k]:=⟨_,rfl⟩;obtain⟨tl,htl⟩:∃tl,tl=xs.drop (k+1):=⟨_,rfl⟩;have hdrop:xs.drop k=x::tl:=by rw[hx,htl];exact List.drop_eq_getElem_cons hkx
   have HDX:Hid (D x):=hid (HD.out x (by rw[hx];exact List.getElem_mem _))
   have HDS:Hid (∀m,m<k→D (s.getD m 0)):=hid fun m hm=>HD.out _ (by
    have h1:m<s.length:=by omega
    rw[List.getD_eq_getElem?_getD,List.getElem?_eq_getElem h1,Option.getD_some];have h2:s[m] ∈ qeq (qk5 c) (xs.take k):=by rw[←hs];exact List.getElem_mem _
    exact List.mem_of_mem_take ((qgi _ _).mem_iff.1 h2))
   have HSTEP:Hid (qeq (qk5 c) (xs.take (k+1))++xs.drop (k+1)=qi4 (qk5 c) s x k++tl):=hid (by
    rw[List.take_succ_eq_append_getElem hkx,qmn,←hs,←htl,←hx,hsl])
   have HR0:Hid (Own wr g n (iv (s.take k++x::s.drop k++tl))):=hid (HR.out.congr fun q hq=>by
    rw[←hs,hdrop,←hsl,List.take_length,List.drop_length];simp)
   have HSL:=hid hsl;have HLEN:Hid (n=s.length+1+tl.length):=hid (by rw[htl,hsl,List.length_drop,HN.out];omega);clear hs hsl hx htl hdrop hkx HR;obtain⟨wo,rfl⟩:∃wo:World,wo=wr:=⟨_,rfl⟩;go_wp2_with fail
   go_loopw [9] (fun j wr=>∃m:Nat,m≤k∧j = .int .i64 m∧Hid (Own wr g n (iv (s.take m++x::s.drop m++tl)))∧Hid (qi4 (qk5 c) s x k=qi4 (qk5 c) s x m)∧Hid (qfh g w wr)) (fun j _=>(intOf j).toNat)
   case atStart=>exact⟨k,Nat.le_refl _,rfl,HR0,hid rfl,HB⟩
   case round=>
    obtain⟨m,hm,rfl,HV,HI,HB2⟩:=hrel;by_cases hm0:m=0
    ·subst hm0
     have HF:Hid (Own wr g n (iv (qeq (qk5 c) (xs.take (k+1))++xs.drop (k+1)))):=hid (by rw[HSTEP.out,HI.out,qyz];exact HV.out);go_wp2_with fail
     go_quiet (fail)
     go_wp2_with fail;go_roundw
     case rel=>exact⟨k+1,by omega,by omega,by go_num,hid (HF.out.drewN _),hid (HB2.out.drewN _)⟩
     case measure=>simp[intOf];omega
    ·obtain⟨p,rfl⟩:∃p,m=p+1:=⟨m-1,by omega⟩
     have hps:p<s.length:=by have:=HSL.out;omega
     have hpn:p<n:=by omega
     have hpn1:p+1<n:=by omega
     obtain⟨hc0,hf0⟩:=HV.out.2 p hpn;obtain⟨hc1,hf1⟩:=HV.out.2 (p+1) hpn1
     have e0:iv (s.take (p+1)++x::s.drop (p+1)++tl) p = .int .i64 (s.getD p 0):=by
      unfold iv;rw[qvn s tl x p hps]
     have e1:iv (s.take (p+1)++x::s.drop (p+1)++tl) (p+1) = .int .i64 x:=by
      unfold iv;rw[qs6 s tl x (p+1) (by omega)]
     rw[e0] at hc0;rw[e1] at hc1;have HCALL:=hid (fun q=>(HC.out (wr.drewN q) (HB2.out.drewN q)) x (s.getD p 0) HDX.out (HDS.out p (by omega)));have HY:=hid (q1c (qk5 c) s x p);have HNO:=hid (q5i (qk5 c) s x p);have HLT:Hid (qk5 c x (s.getD p 0)=decide (c x (s.getD p 0)<0)):=hid rfl;have HSW:=hid (q1b s tl x p hps)
     have HLN:Hid (n=(s.take (p+1)++x::s.drop (p+1)++tl).length):=hid (by
      rw[List.length_append,List.length_append,List.length_take,List.length_cons,List.length_drop,Nat.min_eq_left (by omega)]
      have:=HLEN.out;omega)
     clear e0 e1;generalize s.getD p 0=y at *;generalize c x y=r at *;by_cases hr:r<0
     ·have HE:Hid (qi4 (qk5 c) s x k=qi4 (qk5 c) s x p):=hid (by rw[HI.out,HY.out (by rw[HLT.out];exact decide_eq_true hr)])
      have HV2:Hid (∀W,Own W g n (iv (s.take (p+1)++x::s.drop (p+1)++tl))→Own ((W.setCell ⟨g,p+1,none⟩ (.int .i64 y)).setCell ⟨g,p,none⟩ (.int .i64 x)) g n (iv (s.take p++x::s.drop p++tl))):=hid fun W hW=>by
       rw[←HSW.out];exact(hW.setInt (p+1) hpn1 HLN.out y).setInt p hpn (by rw[List.length_set];exact HLN.out) x
      clear hps;go_wp2_with fail
      go_quiet ((go_at_call 49;exact Calls.quiet_of (HCALL.out _)))
      go_wp2_with fail
      go_region
      go_wp2_with fail;go_roundw
      case rel=>exact⟨p,by omega,by go_num,hid (HV2.out _ (HV.out.drewN _)),HE,hid (((HB2.out.drewN _).set _ _).set _ _)⟩
      case measure=>simp[intOf]
     ·have HE:Hid (Own wr g n (iv (qeq (qk5 c) (xs.take (k+1))++xs.drop (k+1)))):=hid (by
       rw[HSTEP.out,HI.out,HNO.out (by rw[HLT.out];exact decide_eq_false hr)];exact HV.out)
      clear hps;go_wp2_with fail
      go_quiet ((go_at_call 49;exact Calls.quiet_of (HCALL.out _)))
      go_wp2_with fail;go_roundw
      case rel=>exact⟨k+1,by omega,by omega,by go_num,hid (HE.out.drewN _),hid (HB2.out.drewN _)⟩
      case measure=>simp[intOf];omega
  ·have hkn:k=n:=by omega
   have HF:Hid (Own wr g n (iv (qeq (qk5 c) xs))):=hid (HR.out.congr fun q hq=>by
    rw[hkn,←HN.out,List.take_length,List.drop_length,List.append_nil])
   go_wp2_with fail
   go_end0
   exact⟨rfl,HF.out,HB.out⟩
theorem qz6(g n cap:Nat)(xs:List Int)(a:Addr)(c:Int→Int→Int)(D:Int→Prop)(w:World)(ho:Own w g n (iv xs))(hn:xs.length=n)(hn1:1≤n)(hn2:n≤19)(hD:∀x ∈ xs,D x)
  (hc:∀W,qfh g w W→q2y 49 #[.pointer (some a)] c D W) (hcap:n≤cap) (hcap2:cap≤maxLen):
  Calls Tryz.prog 90 #[.slice (some ⟨g,0,none⟩) n cap,.int .i64 n,.func (.func 49) #[] #[.pointer (some a)]] w
   fun e w'=>e = .returned (.tuple #[])∧Own w' g n (iv (qeq (qk5 c) xs))∧qfh g w w':=by
 have HI:=hid (qsj g n cap xs a c D w ho hn hn1 (by omega) hD hc hcap hcap2);clear ho hn hc hD hcap2;go_enter Tryz.func90,Tryz.ntmps90;go_wp2_with fail
 go_loopw [7,8] (fun i j wr=>i = .int .i64 0∧j = .int .i64 20∧wr=w) (fun _ _ _=>0)
 case atStart=>exact⟨rfl,rfl,rfl⟩
 case round=>
  obtain⟨rfl,rfl,rfl⟩:=hrel;go_wp2_with fail;refine HI.out.mono ?_;rintro e w1 ⟨rfl,hs,ho⟩;have HS:=hid hs;have HO:=hid ho;clear hs ho;go_wp2_with fail
  go_loopw [6] (fun i wr=>i = .int .i64 20∧wr=w1) (fun _ _=>0)
  case atStart=>exact⟨rfl,rfl⟩
  case round=>
   obtain⟨rfl,rfl⟩:=hrel;go_wp2_with fail
   go_end0
   exact⟨rfl,HS.out,HO.out⟩
theorem qqu(g n cap:Nat)(xs:List Int)(a:Addr)(c:Int→Int→Int)(D:Int→Prop)(w:World)(ho:Own w g n (iv xs))(hn:xs.length=n)(hn1:1≤n)(hn2:n≤19)(hD:∀x ∈ xs,D x)
  (hc:∀W,qfh g w W→q2y 49 #[.pointer (some a)] c D W) (hcap:n≤cap) (hcap2:cap≤maxLen):
  Calls Tryz.prog 48 #[.slice (some ⟨g,0,none⟩) n cap,.func (.func 49) #[] #[.pointer (some a)]] w
   fun e w'=>e = .returned (.tuple #[])∧Own w' g n (iv (qeq (qk5 c) xs))∧qfh g w w':=by
 have HI:=hid (qz6 g n cap xs a c D w ho hn hn1 hn2 hD hc hcap hcap2);clear ho hn hc hD hcap2;go_enter Tryz.func48,Tryz.ntmps48;go_wp2_with fail;refine HI.out.mono ?_;rintro e w1 ⟨rfl,hs,ho⟩;have HS:=hid hs;have HO:=hid ho;clear hs ho;go_wp2_with fail
 go_end0
 exact⟨rfl,HS.out,HO.out⟩
def qed(n:Nat):Obj := .cells (madeCells #[.int .i64 0] n) 3
theorem qyd(w:World)(n:Nat):Own (w.alloc (qed n)) w.heap.size n (iv (List.replicate n 0)):=by
 refine⟨by rw[World.size_alloc];omega,fun i hi => ?_⟩;unfold qed;rw[World.cell?_alloc_at _ _ _ _ rfl,World.frozen?_alloc_at _ _ _ _ rfl];refine⟨?_,rfl⟩;rw[←Array.getElem?_toList,toList_madeCells_one];unfold iv;simp[hi]
theorem qji(n:Nat)(h:n≤1048576)(w:World):
  (Instr.makeSlice 23 (.int .i64 (n:Int)) (.int .i64 (n:Int))).run Tryz.prog w = .ok (.slice (some ⟨w.heap.size,0,none⟩) n n) (w.alloc (qed n)):=
 run_make_row' (P:=Tryz.prog) 23 3 (.int .i64 0) 8 Tryz.underlying23 (by kernel_rfl) rfl .i64 .i64 n (by omega) (by omega) w
def q9h(w:World)(n:Nat)(s8 s9 s10:Value)(W:World):Prop:=
 ∃gp gr go ga:Nat,s8 = .slice (some ⟨gp,0,none⟩) n n∧s9 = .pointer (some ⟨ga,0,none⟩)∧s10 = .slice (some ⟨go,0,none⟩) n n∧Below w.heap.size w W∧
  (w.heap.size≤gp∧w.heap.size≤gr∧w.heap.size≤go∧w.heap.size≤ga)∧(gp≠gr∧gp≠go∧gp≠ga∧gr≠go∧gr≠ga∧go≠ga)∧
  Own W gp n (iv (List.replicate n 0))∧Own W gr n (iv (List.replicate n 0))∧Own W go n (iv (List.replicate n 0))∧Own W ga 1 (fun _ => .slice (some ⟨gr,0,none⟩) n n)
theorem qua{W:World}{g n:Nat}{cs:Array Value}{t:TypeId}{f:Nat→Value}(h:W.heap[g]? = some (.cells cs t (0,0)))(hf:∀i,i<n→cs[i]? = some (f i)):Own W g n f:=by
 refine⟨(Array.getElem?_eq_some_iff.1 h).1,fun i hi=>⟨?_, ?_⟩⟩
 ·rw[cell_of_row W g i cs t (0,0) h];exact hf i hi
 ·simp[World.frozen?,h]
theorem qa9{W:World}{g n:Nat}(h:W.heap[g]? = some (qed n)):Own W g n (iv (List.replicate n 0)):=
 qua h fun i hi=>by
  rw[←Array.getElem?_toList,toList_madeCells_one];unfold iv;simp[hi]
theorem qd1{W:World}{g:Nat}{v:Value}{t:TypeId}(h:W.heap[g]? = some (.cells #[v] t)):Own W g 1 (fun _=>v):=
 qua h fun i hi=>by
  obtain rfl:i=0:=by omega
  rfl
theorem qwj(w:World)(o0 o1 o2 o3:Obj):
  (((((w.alloc o0).alloc o1).alloc o2).alloc o3).drew.heap[w.heap.size]? = some o0∧((((w.alloc o0).alloc o1).alloc o2).alloc o3).drew.heap[w.heap.size+1]? = some o1∧
   ((((w.alloc o0).alloc o1).alloc o2).alloc o3).drew.heap[w.heap.size+1+1]? = some o2∧((((w.alloc o0).alloc o1).alloc o2).alloc o3).drew.heap[w.heap.size+1+1+1]? = some o3)∧
  Below w.heap.size w ((((w.alloc o0).alloc o1).alloc o2).alloc o3).drew:=by
 refine⟨?_,((((Below.refl _ _).alloc (Nat.le_refl _) _).alloc (by simp) _).alloc (by simp;omega) _ |>.alloc (by simp;omega) _).drew⟩
 have key:∀(V:World) (o:Obj) (k:Nat),k≠V.heap.size→(V.alloc o).heap[k]? = V.heap[k]? := fun V o k hk=>by
  show(V.heap.push o)[k]? = _;rw[Array.getElem?_push,if_neg hk]
 show(((((w.alloc o0).alloc o1).alloc o2).alloc o3).heap[w.heap.size]? = some o0)∧((((w.alloc o0).alloc o1).alloc o2).alloc o3).heap[w.heap.size+1]? = some o1∧((((w.alloc o0).alloc o1).alloc o2).alloc o3).heap[w.heap.size+1+1]? = some o2∧((((w.alloc o0).alloc o1).alloc o2).alloc o3).heap[w.heap.size+1+1+1]? = some o3;have s1:(w.alloc o0).heap.size=w.heap.size+1:=World.size_alloc _ _;have s2:((w.alloc o0).alloc o1).heap.size=w.heap.size+1+1:=by rw[World.size_alloc,s1]
 have s3:(((w.alloc o0).alloc o1).alloc o2).heap.size=w.heap.size+1+1+1:=by rw[World.size_alloc,s2]
 refine⟨?_, ?_, ?_, ?_⟩
 ·rw[key _ _ _ (by omega),key _ _ _ (by omega),key _ _ _ (by omega)];exact heap_alloc_new _ _
 ·rw[key _ _ _ (by omega),key _ _ _ (by omega),←s1];exact heap_alloc_new _ _
 ·rw[key _ _ _ (by omega),←s2];exact heap_alloc_new _ _
 ·rw[←s3];exact heap_alloc_new _ _
def upTo(L:List Int)(k:Nat):List Int:=L.take k++List.replicate (L.length-k) 0
theorem ql3(L:List Int):upTo L 0=List.replicate L.length 0:=by simp[upTo]
theorem qoi(L:List Int):upTo L L.length=L:=by simp[upTo]
theorem qwk(L:List Int)(k:Nat)(h:k≤L.length):(upTo L k).length=L.length:=by simp[upTo];omega
theorem q6m(L:List Int)(k:Nat)(h:k<L.length):(upTo L k).set k (L.getD k 0)=upTo L (k+1):=by
 unfold upTo;have hl:(L.take k).length=k:=by rw[List.length_take];omega
 obtain⟨m,hm⟩:∃m,L.length-k=m+1:=⟨L.length-k-1,by omega⟩;have hm2:L.length-(k+1)=m:=by omega
 rw[List.set_append_right _ _ (by omega),hl,Nat.sub_self,hm,hm2,List.replicate_succ,List.set_cons_zero,List.take_succ_eq_append_getElem h,List.getD_eq_getElem?_getD,List.getElem?_eq_getElem h,Option.getD_some,List.append_assoc];rfl
theorem Own.upTo{W:World}{g n:Nat}{L:List Int}{k:Nat}(h:Own W g n (iv (Go.Proofs.YthjagoogkkgelaaGreatDoor.upTo L k)))(hn:L.length=n)(hk:k<n){x:Int}(hx:L.getD k 0=x):Own (W.setCell ⟨g,k,none⟩ (.int .i64 x)) g n (iv (Go.Proofs.YthjagoogkkgelaaGreatDoor.upTo L (k+1))):=by
 rw[←q6m L k (by omega),hx];exact h.setInt k hk (by rw[qwk _ _ (by omega),hn]) x
def qnb(w:World)(n:Nat)(gp gr go ga:Nat)(P R O:List Int)(W:World):Prop:=
 Below w.heap.size w W∧Own W gp n (iv P)∧Own W gr n (iv R)∧Own W go n (iv O)∧Own W ga 1 (fun _ => .slice (some ⟨gr,0,none⟩) n n)
def qfq(t S:Int)(l:List Int):List Int:=l.map fun x=>t*x/S
def qs4(t S:Int)(l:List Int):List Int:=l.map fun x=>t*x % S
def places(n:Nat):List Int:=(List.range n).map fun i:Nat=>(i:Int)
theorem ql4(t S:Int)(l:List Int)(k:Nat)(h:k<l.length):(qfq t S l).getD k 0=t*l.getD k 0/S:=by simp[qfq,h]
theorem qsk(t S:Int)(l:List Int)(k:Nat)(h:k<l.length):(qs4 t S l).getD k 0=t*l.getD k 0 % S:=by simp[qs4,h]
theorem qz7(n k:Nat)(h:k<n):(places n).getD k 0=k:=by simp[places,h]
theorem Own.setOther{W:World}{g g' n:Nat}{f:Nat→Value}(h:Own W g n f)(hne:g'≠g)(o:Nat)(v:Value):Own (W.setCell ⟨g',o,none⟩ v) g n f:=
 ((qfh.refl g' W).set o v).own h (Ne.symm hne)
theorem qub{w W:World}{n gp gr go ga k:Nat}{P R O:List Int}{q r:Int}{k':Int}(h:qnb w n gp gr go ga (upTo P k) (upTo R k) (upTo O k) W)(hn:w.heap.size≤gp∧w.heap.size≤gr∧w.heap.size≤go∧w.heap.size≤ga)
  (hd:gp≠gr∧gp≠go∧gp≠ga∧gr≠go∧gr≠ga∧go≠ga) (hP:P.length=n) (hR:R.length=n) (hO:O.length=n) (hk:k<n) (hq:P.getD k 0=q) (hr:R.getD k 0=r) (ho:O.getD k 0=k'):
  qnb w n gp gr go ga (upTo P (k+1)) (upTo R (k+1)) (upTo O (k+1)) ((((W.setCell ⟨gp,k,none⟩ (.int .i64 q)).setCell ⟨gr,k,none⟩ (.int .i64 r)).setCell ⟨go,k,none⟩ (.int .i64 k')).drew):=by
 obtain⟨h1,h2,h3,h4,h5⟩:=h;obtain⟨d1,d2,d3,d4,d5,d6⟩:=hd;obtain⟨n1,n2,n3,n4⟩:=hn;have hdr:∀(V:World) (B:Nat),Below B V V.drew:=fun V B=>(Below.refl _ _).drew;refine⟨(((h1.setCell (p:=⟨gp,k,none⟩) n1 _).setCell (p:=⟨gr,k,none⟩) n2 _).setCell (p:=⟨go,k,none⟩) n3 _).drew, ?_, ?_, ?_, ?_⟩
 ·exact Own.later (((h2.upTo hP hk hq).setOther (Ne.symm d1) _ _).setOther (Ne.symm d2) _ _) (hdr _ _)
 ·exact Own.later (((h3.setOther d1 _ _).upTo hR hk hr).setOther (Ne.symm d4) _ _) (hdr _ _)
 ·exact Own.later (((h4.setOther d2 _ _).setOther d4 _ _).upTo hO hk ho) (hdr _ _)
 ·exact Own.later (((h5.setOther d3 _ _).setOther d5 _ _).setOther d6 _ _) (hdr _ _)
theorem qye(t S:Int)(l:List Int)(ht:0≤t)(hS:0<S)(hl:∀x ∈ l,wIn x=true):0≤(qfq t S l).sum∧S*(qfq t S l).sum≤t*l.sum∧t*l.sum≤S*(qfq t S l).sum+l.length*(S-1):=by
 induction l with
 | nil=>simp[qfq]
 | cons x l ih=>
  obtain⟨h1,h2,h3⟩:=ih fun y hy=>hl y (by simp[hy]);have hx:=qgn.1 (hl x (by simp));have hm0:0≤t*x:=Int.mul_nonneg ht hx.1;have hq0:0≤t*x/S:=Int.ediv_nonneg hm0 (by omega);have hd:=Int.mul_ediv_add_emod (t*x) S;have hr0:=Int.emod_nonneg (t*x) (show S≠0 by omega);have hr1:=Int.emod_lt_of_pos (t*x) hS;show 0≤(t*x/S::qfq t S l).sum∧S*(t*x/S::qfq t S l).sum≤t*(x::l).sum∧t*(x::l).sum≤S*(t*x/S::qfq t S l).sum+((x::l).length:Nat)*(S-1);simp only[List.sum_cons,List.length_cons];have e1:S*(t*x/S+(qfq t S l).sum)=S*(t*x/S)+S*(qfq t S l).sum:=Int.mul_add _ _ _;have e2:t*(x+l.sum)=t*x+t*l.sum:=Int.mul_add _ _ _
  have e3:((l.length+1:Nat):Int)*(S-1)=(l.length:Int)*(S-1)+(S-1):=by
   rw[Int.natCast_add,Int.add_mul];simp
  rw[e1,e2,e3];generalize S*(t*x/S)=a at *;generalize S*(qfq t S l).sum=b at *;generalize t*l.sum=c at *;generalize (l.length:Int)*(S-1)=d at *;omega
theorem qk6(l:List Int)(hl:∀x ∈ l,wIn x=true)(k:Nat):(l.take k).sum≤l.sum:=by
 conv=>rhs;rw[←List.take_append_drop k l,List.sum_append]
 have:=(qcy (l.drop k) fun x hx=>hl x (List.mem_of_mem_drop hx)).1;omega
theorem q20(t S:Int)(l:List Int)(k:Nat):(qfq t S l).take k=qfq t S (l.take k):=by unfold qfq;rw[List.map_take]
theorem qij(t S:Int)(l:List Int)(ht:0≤t)(hS:0<S)(hl:∀x ∈ l,wIn x=true)(hs:l.sum=S)(k:Nat):0≤((qfq t S l).take k).sum∧((qfq t S l).take k).sum≤t:=by
 rw[q20];have hlk:∀x ∈ l.take k,wIn x=true:=fun x hx=>hl x (List.mem_of_mem_take hx);obtain⟨h1,h2,_⟩:=qye t S (l.take k) ht hS hlk;refine⟨h1, ?_⟩;have h3:=qk6 l hl k;rw[hs] at h3;have h4:t*(l.take k).sum≤t*S:=Int.mul_le_mul_of_nonneg_left h3 ht;rw[Int.mul_comm t S] at h4;exact Int.le_of_mul_le_mul_left (Int.le_trans h2 h4) hS
theorem qwl(t S:Int)(l:List Int)(ht:0≤t)(hS:0<S)(hl:∀x ∈ l,wIn x=true)(hs:l.sum=S)(hl1:1≤l.length):t-(qfq t S l).sum<l.length:=by
 obtain⟨h1,h2,h3⟩:=qye t S l ht hS hl;rw[hs] at h3;rcases Int.lt_or_le (t-(qfq t S l).sum) l.length with h|h
 ·exact h
 ·exfalso
  have h4:S*((qfq t S l).sum+l.length)≤S*t:=Int.mul_le_mul_of_nonneg_left (by omega) (by omega);rw[Int.mul_add,Int.mul_comm S t] at h4;have h5:(l.length:Int)*(S-1)=S*l.length-l.length:=by rw[Int.mul_sub,Int.mul_comm];simp
  rw[h5] at h3;omega
def ql5(R:List Int)(x y:Int):Int:=qql (R.getD y.toNat 0) (R.getD x.toNat 0)
def qb0(qs:List Int)(is:List Int):List Int:=is.foldl (fun l i=>l.set i.toNat (l.getD i.toNat 0+1)) qs
theorem qh2(qs is:List Int)(i:Int):qb0 qs (is++[i])=(qb0 qs is).set i.toNat ((qb0 qs is).getD i.toNat 0+1):=by
 unfold qb0;rw[List.foldl_append];rfl
theorem qdn(qs is:List Int):(qb0 qs is).length=qs.length:=by
 induction is using qer with
 | h0=>rfl
 | h1 l x ih=>rw[qh2,List.length_set,ih]
def qal(t:Int)(l:List Int):List Int:=
 qb0 (qfq t l.sum l) ((qeq (qk5 (ql5 (qs4 t l.sum l))) (places l.length)).take (t-(qfq t l.sum l).sum).toNat)
theorem quc(t:Int)(v:Value)(l:List Int)(w:World)(h:qjv w v l)(hl:l.length≤19)(hl1:1≤l.length)(ht0:0≤t)(ht1:t≤999999999)(he:qg3 l=0):
  Calls Tryz.prog 21 #[.int .i64 t,v] w fun e w'=>(∃g,w.heap.size≤g∧e = .returned (.tuple #[.slice (some ⟨g,0,none⟩) l.length l.length,.int .i64 0])∧Own w' g l.length (iv (qal t l)))∧Below w.heap.size w w':=by
 have hsum:=(qeb v l w h (by omega)).mono (R':=fun e w'=>e = .returned (.tuple #[.int .i64 l.sum,.int .i64 0])∧w=w') (fun e w' ⟨h1,h2⟩=>by
  unfold qoy at h1;rw[he] at h1;exact⟨h1,h2⟩)
 obtain⟨hw,hs0⟩:=qli he;have HS:=hid hsum;have HW:=hid hw;obtain⟨p,c,rfl,hc1,hc2,hcells⟩:=h;obtain⟨b,o,rfl,hrow⟩:=hcells.resolve_left (by omega);unfold maxLen at hc2;have HROW:=hid hrow;have hsb:=qcy l hw;have hmk:=qji l.length (by omega);generalize hS:l.sum=S at *;have HSS:=hid hS;clear hS hsum hw hcells hrow he;generalize hN:l.length=n at *;have HN:=hid hN;clear hN;go_enter Tryz.func21,Tryz.ntmps21;go_wp2_with fail;refine HS.out.mono ?_;rintro e w1 ⟨rfl,rfl⟩;clear HS
 go_upto_region 10 with fail
 go_cut [8,9,10] (fun s8 s9 s10 wx=>q9h w n s8 s9 s10 wx)
 case first=>
  go_region
  all_goals(go_wp2_with fail;go_meet)
  all_goals
   obtain⟨⟨b0,b1,b2,b3⟩,hb⟩:=qwj w _ _ _ _
   first
    | exact⟨_,w.heap.size,_,_,rfl,rfl,rfl,hb,⟨by omega,by omega,by omega,by omega⟩,⟨by omega,by omega,by omega,by omega,by omega,by omega⟩,by first|exact qa9 b0|exact qa9 b1|exact qa9 b2|exact qa9 b3,by first|exact qa9 b0|exact qa9 b1|exact qa9 b2|exact qa9 b3,by first|exact qa9 b0|exact qa9 b1|exact qa9 b2|exact qa9 b3,by first|exact qd1 b0|exact qd1 b1|exact qd1 b2|exact qd1 b3⟩
    | exact⟨_,w.heap.size+1,_,_,rfl,rfl,rfl,hb,⟨by omega,by omega,by omega,by omega⟩,⟨by omega,by omega,by omega,by omega,by omega,by omega⟩,by first|exact qa9 b0|exact qa9 b1|exact qa9 b2|exact qa9 b3,by first|exact qa9 b0|exact qa9 b1|exact qa9 b2|exact qa9 b3,by first|exact qa9 b0|exact qa9 b1|exact qa9 b2|exact qa9 b3,by first|exact qd1 b0|exact qd1 b1|exact qd1 b2|exact qd1 b3⟩
    | exact⟨_,w.heap.size+1+1,_,_,rfl,rfl,rfl,hb,⟨by omega,by omega,by omega,by omega⟩,⟨by omega,by omega,by omega,by omega,by omega,by omega⟩,by first|exact qa9 b0|exact qa9 b1|exact qa9 b2|exact qa9 b3,by first|exact qa9 b0|exact qa9 b1|exact qa9 b2|exact qa9 b3,by first|exact qa9 b0|exact qa9 b1|exact qa9 b2|exact qa9 b3,by first|exact qd1 b0|exact qd1 b1|exact qd1 b2|exact qd1 b3⟩
    | exact⟨_,w.heap.size+1+1+1,_,_,rfl,rfl,rfl,hb,⟨by omega,by omega,by omega,by omega⟩,⟨by omega,by omega,by omega,by omega,by omega,by omega⟩,by first|exact qa9 b0|exact qa9 b1|exact qa9 b2|exact qa9 b3,by first|exact qa9 b0|exact qa9 b1|exact qa9 b2|exact qa9 b3,by first|exact qa9 b0|exact qa9 b1|exact qa9 b2|exact qa9 b3,by first|exact qd1 b0|exact qd1 b1|exact qd1 b2|exact qd1 b3⟩
 case rest=>
  obtain⟨gp,gr,go,ga,rfl,rfl,rfl,hb,⟨n1,n2,n3,n4⟩,⟨d1,d2,d3,d4,d5,d6⟩,o1,o2,o3,o4⟩:=hcut;have HQL:Hid ((qfq t S l).length=n):=hid (by unfold qfq;rw[List.length_map];exact HN.out);have HRL:Hid ((qs4 t S l).length=n):=hid (by unfold qs4;rw[List.length_map];exact HN.out);have HPL:Hid ((places n).length=n):=hid (by unfold places;simp);have HL0:Hid (qnb w n gp gr go ga (upTo (qfq t S l) 0) (upTo (qs4 t S l) 0) (upTo (places n) 0) wc):=hid ⟨hb,by rw[ql3,HQL.out];exact o1,by rw[ql3,HRL.out];exact o2,by rw[ql3,HPL.out];exact o3,o4⟩;clear hb o1 o2 o3 o4;have hS1:1≤S:=by omega
  go_wp2_with fail
  go_loopw [11,51] (fun lf i wr=>∃k:Nat,k≤n∧i = .int .i64 k∧(∃z:Int,lf = .int .i64 z∧0≤z∧z≤t∧Hid (z=t-((qfq t S l).take k).sum))∧Hid (qnb w n gp gr go ga (upTo (qfq t S l) k) (upTo (qs4 t S l) k) (upTo (places n) k) wr)) (fun _ i _=>n-(intOf i).toNat)
  case atStart=>exact⟨0,Nat.zero_le _,rfl,⟨t,rfl,ht0,Int.le_refl _,hid (by simp)⟩,HL0⟩
  case round=>
   obtain⟨k,hk,rfl,⟨z,rfl,hz0,hz1,HZ⟩,HL⟩:=hrel;by_cases hlt:k<n
   ·have hcell:wr.cell? ⟨b,o+k,none⟩=some (iv l k):=by
     have h1:=HROW.out k hlt;rw[HL.out.1.cell (p:=⟨b,o+k,none⟩) (World.block_lt_of_cell? w _ h1)];exact h1
    unfold iv at hcell
    have HX:Hid (wIn (l.getD k 0)=true):=hid (HW.out _ (by
     have hkl:k<l.length:=by rw[HN.out];exact hlt
     rw[List.getD_eq_getElem?_getD,List.getElem?_eq_getElem hkl,Option.getD_some]
     exact List.getElem_mem _))
    have HQ:=hid (ql4 t S l k (by rw[HN.out];exact hlt));have HR:=hid (qsk t S l k (by rw[HN.out];exact hlt));have HP:=hid (qz7 n k hlt);have hxb:=qgn.1 HX.out;obtain⟨hcp,hfp⟩:=HL.out.2.1.2 k hlt;obtain⟨hcr,hfr⟩:=HL.out.2.2.1.2 k hlt;obtain⟨hco,hfo⟩:=HL.out.2.2.2.1.2 k hlt;obtain⟨hca,hfa⟩:=HL.out.2.2.2.2.2 0 (by omega);generalize l.getD k 0=x at *;obtain⟨hx0,hx1⟩:=hxb;have hm0:0≤t*x:=Int.mul_nonneg ht0 hx0;have hm1:t*x≤999999998000000001:=Int.le_trans (Int.mul_le_mul ht1 hx1 hx0 (by omega)) (by omega);have HSU:=hid (qcd (qfq t S l) k (by rw[HQL.out];exact hlt));have hts:=qij t S l ht0 (by omega) HW.out HSS.out (k+1);have hq0:0≤t*x/S:=Int.ediv_nonneg hm0 (by omega);have hz2:0≤z-t*x/S:=by have h1:=HSU.out;have h2:=HQ.out;have h3:=HZ.out;rw[h1,h2] at hts;omega
    have HZ2:Hid (z-t*x/S=t-((qfq t S l).take (k+1)).sum):=hid (by rw[HSU.out,HQ.out,HZ.out];omega);have HLN:Hid (qnb w n gp gr go ga (upTo (qfq t S l) (k+1)) (upTo (qs4 t S l) (k+1)) (upTo (places n) (k+1)) ((((wr.setCell ⟨gp,k,none⟩ (.int .i64 (t*x/S))).setCell ⟨gr,k,none⟩ (.int .i64 (t*x % S))).setCell ⟨go,k,none⟩ (.int .i64 (k:Int))).drew)):=hid (qub HL.out ⟨n1,n2,n3,n4⟩ ⟨d1,d2,d3,d4,d5,d6⟩ HQL.out HRL.out HPL.out hlt HQ.out HR.out HP.out);clear hts;go_wp2_with fail
    go_region
    go_wp2_with fail;go_roundw
    case rel=>exact⟨k+1,by omega,by go_num,⟨_,rfl,hz2,by omega,HZ2⟩,HLN⟩
    case measure=>simp[intOf];omega
   ·have hkn:k=n:=by omega
    have hge:¬(k:Int)<(n:Int):=by omega
    obtain⟨R,hR⟩:∃R,R=qs4 t S l:=⟨_,rfl⟩;obtain⟨Q,hQ⟩:∃Q,Q=qfq t S l:=⟨_,rfl⟩
    have HLL:Hid (qnb w n gp gr go ga Q R (places n) wr):=hid (by
     have h1:=HL.out;rw[hkn,←hR,←hQ] at h1;rw[←hR] at HRL;rw[←hQ] at HQL;have e1:upTo Q n=Q:=by rw[←HQL.out,qoi]
     have e2:upTo R n=R:=by rw[←HRL.out,qoi]
     have e3:upTo (places n) n=places n:=by
      have:=qoi (places n)
      rwa [HPL.out] at this
     rw[e1,e2,e3] at h1
     exact h1)
    have HZL:Hid (z=t-Q.sum):=hid (by rw[HZ.out,hkn,hQ,←HQL.out,List.take_length])
    have hzn:z<n:=by
     have h1:=qwl t S l ht0 (by omega) HW.out HSS.out (by rw[HN.out];exact hl1);have h2:=HZL.out;rw[←hQ,HN.out] at h1;omega
    have HQB:Hid (∀i,i<n→0≤Q.getD i 0∧Q.getD i 0≤999999999):=hid fun i hi=>by
     have hil:i<l.length:=by rw[HN.out];exact hi
     rw[hQ,ql4 t S l i hil]
     have hx:=qgn.1 (HW.out (l.getD i 0) (by
      rw[List.getD_eq_getElem?_getD,List.getElem?_eq_getElem hil,Option.getD_some];exact List.getElem_mem _))
     have hxs:l.getD i 0≤S:=by
      have h1:=qcd l i hil;have h2:=qk6 l HW.out (i+1);have h3:=(qcy (l.take i) fun x hx=>HW.out x (List.mem_of_mem_take hx)).1;have h4:=HSS.out;omega
     generalize l.getD i 0=x at *;have h0:0≤t*x:=Int.mul_nonneg ht0 hx.1;refine⟨Int.ediv_nonneg h0 (by omega), ?_⟩;have h1:t*x≤t*S:=Int.mul_le_mul_of_nonneg_left hxs ht0;have h2:t*x/S≤t*S/S:=Int.ediv_le_ediv (by omega) h1;rw[Int.mul_ediv_cancel _ (by omega)] at h2;omega
    have HFINAL:Hid (qal t l=qb0 Q ((qeq (qk5 (ql5 R)) (places n)).take z.toNat)):=hid (by
     have e1:=HSS.out;have e2:=HN.out;unfold qal
     rw[e1,e2,←hQ,←hR,←HZL.out])
    have HOB:Hid (∀j x,(qeq (qk5 (ql5 R)) (places n))[j]? = some x→∃i:Nat,i<n∧x=(i:Int)):=hid fun j x hj=>by
     have h1:=(qgi (qk5 (ql5 R)) (places n)).mem_iff.1 (List.mem_of_getElem? hj);unfold places at h1;simp only[List.mem_map,List.mem_range] at h1;obtain⟨i,hi,rfl⟩:=h1;exact⟨i,hi,rfl⟩
    have HOL:Hid ((qeq (qk5 (ql5 R)) (places n)).length=n):=hid (by rw[qnl];exact HPL.out)
    have HSORT:=hid (qqu go n n (places n) ⟨ga,0,none⟩ (ql5 R) (fun x=>∃i:Nat,i<n∧x=(i:Int)) wr HLL.out.2.2.2.1 HPL.out hl1 hl (fun x hx=>by
     unfold places at hx;simp only[List.mem_map,List.mem_range] at hx;obtain⟨i,hi,rfl⟩:=hx
     exact⟨i,hi,rfl⟩) (fun W hW x y hx hy=>by
     obtain⟨i,hi,rfl⟩:=hx;obtain⟨j,hj,rfl⟩:=hy;have h1:=hW.own HLL.out.2.2.2.2 (Ne.symm d6);have h2:=hW.own HLL.out.2.2.1 d4;have h3:=q6l i j ⟨ga,0,none⟩ gr n n R W (h1.2 0 (by omega)).1 (fun q hq=>(h2.2 q hq).1) hi hj (by omega)
     exact h3) (Nat.le_refl _) (by unfold maxLen;omega))
    have HQL2:Hid (Q.length=n):=hid (by rw[hQ];exact HQL.out);generalize qeq (qk5 (ql5 R)) (places n)=OS at *;clear hQ hR HZ HL HQL HRL hkn;go_wp2_with fail;refine HSORT.out.mono ?_;rintro e w1 ⟨rfl,ho,hb⟩;have HO1:=hid ho;have HP1:=hid (hb.own HLL.out.2.1 d2);have HB1:=hid (HLL.out.1.trans (hb.below n3));clear ho hb HSORT;obtain⟨m,rfl⟩:∃m:Nat,z=m:=⟨z.toNat,by omega⟩;have hmn:m≤n:=by omega
    go_wp2_with fail;clear hz0 hz1
    go_loopw [90] (fun i wr=>∃k:Nat,k≤m∧i = .int .i64 k∧Hid (Own wr gp n (iv (qb0 Q (OS.take k))))∧Hid (∀i,i<n→0≤(qb0 Q (OS.take k)).getD i 0∧(qb0 Q (OS.take k)).getD i 0≤999999999+k)∧Hid (qfh gp w1 wr)) (fun i _=>m-(intOf i).toNat)
    case atStart=>exact⟨0,Nat.zero_le _,rfl,HP1,hid (fun i hi=>by have:=HQB.out i hi;show 0≤Q.getD i 0∧Q.getD i 0≤999999999+((0:Nat):Int);omega),hid (qfh.refl _ _)⟩
    case round=>
     obtain⟨j,hj,rfl,HBU,HBB,HON⟩:=hrel;by_cases hjm:j<m
     ·have hjn:j<n:=by omega
      obtain⟨hco,_⟩:=(HON.out.own HO1.out (Ne.symm d2)).2 j hjn;have hol:j<OS.length:=by rw[HOL.out];exact hjn
      have hget:OS[j]? = some OS[j]:=List.getElem?_eq_getElem hol;obtain⟨i,hin,hi⟩:=HOB.out j _ hget
      have hiv:iv OS j = .int .i64 (i:Int):=by
       unfold iv;rw[List.getD_eq_getElem?_getD,hget,Option.getD_some,hi]
      have HST:Hid (OS.take (j+1)=OS.take j++[(i:Int)]):=hid (by rw[List.take_succ_eq_append_getElem hol,hi]);rw[hiv] at hco;obtain⟨hcp,hfp⟩:=HBU.out.2 i hin;have hbd:=HBB.out i hin;unfold iv at hcp;have HSET:=hid (HBU.out.setInt i hin (by rw[qdn];exact HQL2.out.symm) ((qb0 Q (OS.take j)).getD i 0+1));have HSTEP:Hid (qb0 Q (OS.take (j+1))=(qb0 Q (OS.take j)).set i ((qb0 Q (OS.take j)).getD i 0+1)):=hid (by rw[HST.out,qh2];rfl)
      have HBB2:Hid (∀i,i<n→0≤(qb0 Q (OS.take (j+1))).getD i 0∧(qb0 Q (OS.take (j+1))).getD i 0≤999999999+((j+1:Nat):Int)):=hid fun q hq=>by
       have h1:=HBB.out q hq;rw[HSTEP.out];by_cases e:q=i
       ·subst e
        have hql:q<(qb0 Q (OS.take j)).length:=by rw[qdn,HQL2.out];exact hq
        have:((qb0 Q (OS.take j)).set q ((qb0 Q (OS.take j)).getD q 0+1)).getD q 0=(qb0 Q (OS.take j)).getD q 0+1:=by simp[hql]
        rw[this];omega
       ·have:((qb0 Q (OS.take j)).set i ((qb0 Q (OS.take j)).getD i 0+1)).getD q 0=(qb0 Q (OS.take j)).getD q 0:=by simp[Ne.symm e]
        rw[this];omega
      clear hget hiv hi hol;generalize (qb0 Q (OS.take j)).getD i 0=y at *;obtain⟨hy0,hy1⟩:=hbd;go_wp2_with fail;go_roundw
      case rel=>exact⟨j+1,by omega,by go_num,hid (by rw[HSTEP.out];exact HSET.out),HBB2,hid (HON.out.set _ _)⟩
      case measure=>simp[intOf];omega
     ·have hjm2:j=m:=by omega
      have HFIN:Hid (Own wr gp n (iv (qal t l))):=hid (by
       rw[HFINAL.out,←hjm2]
       exact HBU.out)
      have HBE:Hid (Below w.heap.size w wr):=hid (HB1.out.trans (HON.out.below n1));go_wp2_with fail;go_ret2;exact⟨⟨gp,n1,rfl,HFIN.out⟩,HBE.out⟩
def qfr(t:Int)(l:List Int):Nat:=
 if t<0∨999999999<t then 3 else if l.length=0 then 2 else if 256<l.length then 5 else qg3 l
def q21(t:Int)(l:List Int)(w:World)(e:Ending)(w':World):Prop:=
 (if qfr t l=0 then ∃g,w.heap.size≤g∧e = .returned (.tuple #[.slice (some ⟨g,0,none⟩) l.length l.length,.int .i64 0])∧Own w' g l.length (iv (qal t l))
  else e = .returned (.tuple #[.slice none 0 0,.int .i64 (qfr t l:Nat)]))∧Below w.heap.size w w'
theorem qoj{t:Int}{l:List Int}{w:World}{k:Nat}{z:Int}(h:qfr t l=k)(hk:k≠0)(hz:z=k):q21 t l w (.returned (.tuple #[.slice none 0 0,.int .i64 z])) w:=by
 unfold q21;rw[h,if_neg hk,hz];exact⟨rfl,Below.refl _ _⟩
theorem qps(t:Int)(v:Value)(l:List Int)(w:World)(_h:qjv w v l)(ht:t<0∨999999999<t):Calls Tryz.prog 21 #[.int .i64 t,v] w (q21 t l w):=by
 have HF:Hid (q21 t l w (.returned (.tuple #[.slice none 0 0,.int .i64 3])) w):=hid (qoj (k:=3) (by unfold qfr;rw[if_pos ht]) (by omega) rfl);clear _h;rcases ht with ht|ht
 ·go_enter Tryz.func21,Tryz.ntmps21
  go_wp2_with fail;go_ret2;exact HF.out
 ·have ht2:¬t<0:=by omega
  go_enter Tryz.func21,Tryz.ntmps21;go_wp2_with fail;go_ret2;exact HF.out
theorem qsl(t:Int)(v:Value)(l:List Int)(w:World)(h:qjv w v l)(ht0:0≤t)(ht1:t≤999999999)(hl:l.length=0∨256<l.length):Calls Tryz.prog 21 #[.int .i64 t,v] w (q21 t l w):=by
 obtain⟨p,c,rfl,hc1,hc2,hcells⟩:=h;unfold maxLen at hc2;clear hcells;rcases hl with hl|hl
 ·have HF:Hid (q21 t l w (.returned (.tuple #[.slice none 0 0,.int .i64 2])) w):=hid (qoj (k:=2) (by unfold qfr;rw[if_neg (by omega),if_pos hl]) (by omega) rfl)
  have hb:((l.length:Int)==0)=true:=by rw[hl];rfl
  clear hl;go_enter Tryz.func21,Tryz.ntmps21;go_wp2_with fail;go_ret2;exact HF.out
 ·have HF:Hid (q21 t l w (.returned (.tuple #[.slice none 0 0,.int .i64 5])) w):=hid (qoj (k:=5) (by unfold qfr;rw[if_neg (by omega),if_neg (by omega),if_pos hl]) (by omega) rfl)
  have hb:((l.length:Int)==0)=false:=beq_eq_false_iff_ne.2 (by omega);go_enter Tryz.func21,Tryz.ntmps21;go_wp2_with fail;go_ret2;exact HF.out
theorem qnc(t:Int)(v:Value)(l:List Int)(w:World)(h:qjv w v l)(ht0:0≤t)(ht1:t≤999999999)(hl0:l.length≠0)(hl1:l.length≤256)(he:qg3 l≠0):Calls Tryz.prog 21 #[.int .i64 t,v] w (q21 t l w):=by
 have HS:=hid ((qeb v l w h (by omega)).mono (R':=fun e w'=>e = .returned (.tuple #[.int .i64 0,.int .i64 (qg3 l:Nat)])∧w=w') (fun e w' ⟨h1,h2⟩=>by
  unfold qoy at h1;rw[if_neg he] at h1;exact⟨h1,h2⟩))
 obtain⟨p,c,rfl,hc1,hc2,hcells⟩:=h;unfold maxLen at hc2;clear hcells;have HF:Hid (q21 t l w (.returned (.tuple #[.slice none 0 0,.int .i64 (qg3 l:Nat)])) w):=hid (qoj (by unfold qfr;rw[if_neg (by omega),if_neg hl0,if_neg (by omega)]) he rfl);have hb:((l.length:Int)==0)=false:=beq_eq_false_iff_ne.2 (by omega);have hb0:(((qg3 l:Nat):Int)==0)=false:=beq_eq_false_iff_ne.2 (by omega);clear he hl0;generalize qg3 l=k at *;go_enter Tryz.func21,Tryz.ntmps21;go_wp2_with fail;refine HS.out.mono ?_;rintro e w1 ⟨rfl,rfl⟩;clear HS;go_wp2_with fail;go_ret2;exact HF.out
theorem qe6(t:Int)(v:Value)(l:List Int)(w:World)(h:qjv w v l)(hl:l.length≤19∨qfr t l≠0):Calls Tryz.prog 21 #[.int .i64 t,v] w (q21 t l w):=by
 by_cases ht:t<0∨999999999<t
 ·exact qps t v l w h ht
 by_cases hn:l.length=0∨256<l.length
 ·exact qsl t v l w h (by omega) (by omega) hn
 by_cases he:qg3 l=0
 ·have h0:qfr t l=0:=by unfold qfr;rw[if_neg ht,if_neg (by omega),if_neg (by omega),he]
  refine(quc t v l w h (hl.resolve_right (fun h=>h h0)) (by omega) (by omega) (by omega) he).mono fun e w' h1 => ?_;unfold q21;rw[if_pos h0];exact h1
 ·exact qnc t v l w h (by omega) (by omega) (by omega) (by omega) he
end Go.Proofs.YthjagoogkkgelaaGreatDoor
namespace Go.Proofs.YthjagoogkkgelaaGreatDoor
set_option maxRecDepth 100000
set_option maxHeartbeats 4000000
theorem q6n{α:Type}{l m:List α}(h:l.Perm m)(f:α→Int):(l.map f).sum=(m.map f).sum:=by
 induction h with
 | nil=>rfl
 | cons x _ ih=>simp only[List.map_cons,List.sum_cons,ih]
 | swap x y l=>simp only[List.map_cons,List.sum_cons];omega
 | trans _ _ h1 h2=>exact h1.trans h2
theorem q9i(l:List Int)(i:Nat)(h:i<l.length):(l.set i (l.getD i 0+1)).sum=l.sum+1:=by
 induction l generalizing i with
 | nil=>cases h
 | cons x l ih=>
  cases i with
  | zero=>simp[List.getD_eq_getElem?_getD];omega
  | succ i=>
   have h1:=ih i (by simpa using h);simp only[List.set_cons_succ,List.sum_cons,List.getD_cons_succ];rw[h1];omega
theorem q23(qs is:List Int)(h:∀i ∈ is,0≤i∧i.toNat<qs.length):(qb0 qs is).sum=qs.sum+is.length:=by
 induction is using qer with
 | h0=>simp[qb0]
 | h1 l x ih=>
  rw[qh2,q9i _ _ (by rw[qdn];exact(h x (by simp)).2),ih fun i hi=>h i (List.mem_append_left _ hi),List.length_append];simp;omega
theorem qud(qs is:List Int)(h:∀i ∈ is,0≤i∧i.toNat<qs.length)(k:Nat)(hk:k<qs.length):(qb0 qs is).getD k 0=qs.getD k 0+(is.count (k:Int):Nat):=by
 induction is using qer with
 | h0=>simp[qb0]
 | h1 l x ih=>
  have ihh:=ih fun i hi=>h i (List.mem_append_left _ hi);obtain⟨hx0,hx1⟩:=h x (by simp);rw[qh2,List.count_append];by_cases e:x=(k:Int)
  ·subst e
   have:((qb0 qs l).set (k:Int).toNat ((qb0 qs l).getD (k:Int).toNat 0+1)).getD k 0=(qb0 qs l).getD k 0+1:=by
    simp[List.getD_eq_getElem?_getD,qdn,hk]
   rw[this,ihh];simp;omega
  ·have hne:x.toNat≠k:=by omega
   have:((qb0 qs l).set x.toNat ((qb0 qs l).getD x.toNat 0+1)).getD k 0=(qb0 qs l).getD k 0:=by
    simp[List.getD_eq_getElem?_getD,hne]
   rw[this,ihh];have:List.count (k:Int) [x]=0:=by simp[e]
   omega
theorem qnd{n:Nat}{x:Int}(h:x ∈ places n):0≤x∧x.toNat<n:=by
 unfold places at h;rw[List.mem_map] at h;obtain⟨i,hi,rfl⟩:=h;have:=List.mem_range.1 hi;omega
theorem qjj(n:Nat):(places n).Nodup:=by
 unfold places;refine List.Pairwise.map _ ?_ List.nodup_range;intro a b h e;exact h (by omega)
theorem qz8(R:List Int):((places R.length).map fun x=>R.getD x.toNat 0).sum=R.sum:=by
 congr 1
 unfold places;rw[List.map_map];refine List.ext_getElem (by simp) fun i h1 h2 => ?_;simp[h2]
theorem qnv(l:List Int)(f:Int→Int)(M:Int)(h:∀x ∈ l,f x≤M):(l.map f).sum≤M*l.length:=by
 induction l with
 | nil=>simp
 | cons x l ih=>
  have h1:=h x (by simp);have h2:=ih fun y hy=>h y (by simp[hy]);simp only[List.map_cons,List.sum_cons,List.length_cons];have:M*((l.length+1:Nat):Int)=M*(l.length:Int)+M:=by rw[Int.natCast_add,Int.mul_add];simp
  omega
theorem qpt(l:List Int)(f:Int→Int)(M:Int)(h:∀x ∈ l,f x≤M)(x:Int)(hx:x ∈ l)(h0:f x=0):(l.map f).sum≤M*((l.length:Int)-1):=by
 induction l with
 | nil=>cases hx
 | cons y l ih=>
  have h1:=h y (by simp);simp only[List.map_cons,List.sum_cons,List.length_cons];have e:((l.length+1:Nat):Int)-1=l.length:=by omega
  rw[e];rcases List.mem_cons.1 hx with rfl|hx
  ·have:=qnv l f M fun z hz=>h z (by simp[hz])
   omega
  ·have h2:=ih (fun z hz=>h z (by simp[hz])) hx
   have:M*((l.length:Int)-1)=M*(l.length:Int)-M:=by rw[Int.mul_sub];simp
   omega
theorem q6o(t S:Int)(l:List Int):S*(qfq t S l).sum+(qs4 t S l).sum=t*l.sum:=by
 induction l with
 | nil=>simp[qfq,qs4]
 | cons x l ih=>
  show S*(t*x/S::qfq t S l).sum+(t*x % S::qs4 t S l).sum=t*(x::l).sum;simp only[List.sum_cons,Int.mul_add];have:=Int.mul_ediv_add_emod (t*x) S;omega
structure q9j(t:Int)(l:List Int)(c:Nat→Int):Prop where
 len:(qal t l).length=l.length
 get:∀k,k<l.length→(qal t l).getD k 0=t*l.getD k 0/l.sum+c k
 one:∀k,k<l.length→c k=0∨c k=1∧0<t*l.getD k 0 % l.sum
 mono:∀i k,i<l.length→k<l.length→t*l.getD k 0 % l.sum<t*l.getD i 0 % l.sum→c k≤c i
 sum:(qal t l).sum=t
theorem qpu(t:Int)(l:List Int)(ht:0≤t)(hl:∀x ∈ l,wIn x=true)(hS:0<l.sum)(hl1:1≤l.length):∃c,q9j t l c:=by
 obtain⟨S,hSe⟩:∃S,S=l.sum:=⟨_,rfl⟩;rw[←hSe] at hS;obtain⟨R,hR⟩:∃R,R=qs4 t S l:=⟨_,rfl⟩;have hRl:R.length=l.length:=by rw[hR];simp[qs4]
 have hQl:(qfq t S l).length=l.length:=by simp[qfq]
 obtain⟨s,hs⟩:∃s,s=qeq (qk5 (ql5 R)) (places l.length):=⟨_,rfl⟩;have hperm:s.Perm (places l.length):=by rw[hs];exact qgi _ _
 have hnd:s.Nodup:=hperm.nodup_iff.2 (qjj _);have hmem:∀x ∈ s,0≤x∧x.toNat<l.length:=fun x hx=>qnd (hperm.mem_iff.1 hx);have hsl:s.length=l.length:=by rw[hperm.length_eq];simp[places]
 obtain⟨L,hL⟩:∃L,L=(t-(qfq t S l).sum).toNat:=⟨_,rfl⟩;have hq:=qij t S l ht hS hl hSe.symm l.length;rw[List.take_of_length_le (by rw[hQl];exact Nat.le_refl _)] at hq;have hLi:(L:Int)=t-(qfq t S l).sum:=by rw[hL];omega
 have hLn:L<l.length:=by
  have:=qwl t S l ht hS hl hSe.symm hl1;omega
 have hap:qal t l=qb0 (qfq t S l) (s.take L):=by
  unfold qal;rw[←hSe,←hR,←hs,←hL]
 have hval:∀i ∈ s.take L,0≤i∧i.toNat<(qfq t S l).length:=fun i hi=>by rw[hQl];exact hmem i (List.mem_of_mem_take hi)
 have hR0:∀k,k<l.length→R.getD k 0=t*l.getD k 0 % S:=fun k hk=>by rw[hR];exact qsk t S l k hk
 have hRb:∀k,k<l.length→0≤R.getD k 0∧R.getD k 0≤S-1:=fun k hk=>by
  rw[hR0 k hk];exact⟨Int.emod_nonneg _ (by omega),by have:=Int.emod_lt_of_pos (t*l.getD k 0) hS;omega⟩
 have hsort:s.Pairwise fun a b=>R.getD b.toNat 0≤R.getD a.toNat 0:=by
  rw[hs];refine qnm (qk5 (ql5 R)) (fun a b=>R.getD b.toNat 0≤R.getD a.toNat 0) (fun a b c h1 h2=>Int.le_trans h2 h1) (places l.length) fun i k x y _ _ _ => ?_;have hc:ql5 R y x=qql (R.getD x.toNat 0) (R.getD y.toNat 0):=rfl;unfold qk5;rw[hc];unfold qql;constructor
  ·intro h
   simp only[decide_eq_true_eq] at h;split at h
   ·omega
   ·split at h<;>omega
  ·intro h
   simp only[decide_eq_false_iff_not] at h;split at h
   ·omega
   ·omega
 have hcross:∀x ∈ s.take L,∀y ∈ s.drop L,R.getD y.toNat 0≤R.getD x.toNat 0:=by
  have h1:(s.take L++s.drop L).Pairwise fun a b=>R.getD b.toNat 0≤R.getD a.toNat 0:=by rw[List.take_append_drop];exact hsort
  exact(List.pairwise_append.1 h1).2.2
 have hsplit:∀k:Nat,k<l.length→(k:Int) ∈ s.take L∨(k:Int) ∈ s.drop L:=fun k hk=>by
  have:(k:Int) ∈ s:=hperm.mem_iff.2 (by unfold places;exact List.mem_map_of_mem (f:=fun i:Nat=>(i:Int)) (List.mem_range.2 hk));rw[←List.take_append_drop L s,List.mem_append] at this;exact this
 have htl:(s.take L).length=L:=by rw[List.length_take];omega
 have hpos:∀x ∈ s.take L,0<R.getD x.toNat 0:=by
  intro x hx;obtain⟨hx0,hx1⟩:=hmem x (List.mem_of_mem_take hx);have hb:=hRb x.toNat hx1;rcases Int.lt_or_le 0 (R.getD x.toNat 0) with h|h
  ·exact h
  ·exfalso
   have hz:R.getD x.toNat 0=0:=by omega
   have hL1:1≤L:=by
    rcases Nat.eq_zero_or_pos L with e|e
    ·rw[e] at hx;simp at hx
    ·exact e
   have s1:=qpt (s.take L) (fun x=>R.getD x.toNat 0) (S-1) (fun y hy=>(hRb y.toNat (hmem y (List.mem_of_mem_take hy)).2).2) x hx hz
   have s2:=qnv (s.drop L) (fun x=>R.getD x.toNat 0) 0 (fun y hy=>by
    have:=hcross x hx y hy;show R.getD y.toNat 0≤0
    omega)
   have s3:(s.map fun x=>R.getD x.toNat 0).sum=R.sum:=by
    rw[q6n hperm,←hRl];exact qz8 R
   have s4:=q6o t S l;rw[←hR,←hSe] at s4;rw[←List.take_append_drop L s,List.map_append,List.sum_append] at s3;rw[htl] at s1
   have s5:S*(L:Int)=R.sum:=by
    rw[hLi,Int.mul_sub];have:S*t=t*S:=Int.mul_comm _ _;omega
   have s6:(S-1)*((L:Int)-1)=S*(L:Int)-S-(L:Int)+1:=by
    rw[Int.sub_mul,Int.mul_sub];simp;omega
   omega
 have hget:∀k,k<l.length→(qal t l).getD k 0=t*l.getD k 0/S+((s.take L).count (k:Int):Nat):=fun k hk=>by
  rw[hap,qud _ _ hval k (by rw[hQl];exact hk),ql4 t S l k hk]
 have hndt:(s.take L).Nodup:=hnd.sublist (List.take_sublist _ _);refine⟨fun k=>((s.take L).count (k:Int):Nat),⟨?_, ?_, ?_, ?_, ?_⟩⟩
 ·rw[hap,qdn,hQl]
 ·rw[←hSe];exact hget
 ·intro k hk
  rw[←hSe];by_cases hm:(k:Int) ∈ s.take L
  ·right
   have h1:(s.take L).count (k:Int)=1:=by rw[hndt.count,if_pos hm]
   refine⟨by rw[h1];rfl, ?_⟩;have:=hpos _ hm;rw[←hR0 k hk];exact this
  ·left
   rw[List.count_eq_zero_of_not_mem hm];rfl
 ·intro i k hi hk hlt
  rw[←hSe,←hR0 k hk,←hR0 i hi] at hlt;rcases hsplit i hi with h1|h1
  ·have h2:(s.take L).count (i:Int)=1:=by rw[hndt.count,if_pos h1]
   have h3:(s.take L).count (k:Int)≤1:=List.nodup_iff_count.1 hndt _;show(((s.take L).count (k:Int):Nat):Int)≤(((s.take L).count (i:Int):Nat):Int);omega
  ·rcases hsplit k hk with h2|h2
   ·have:=hcross _ h2 _ h1
    exfalso;have e1:((i:Int)).toNat=i:=by omega
    have e2:((k:Int)).toNat=k:=by omega
    rw[e1,e2] at this;omega
   ·have hnk:(k:Int) ∉ s.take L:=fun hm=>by
     have h3:(s.take L++s.drop L).Nodup:=by rw[List.take_append_drop];exact hnd
     exact(List.nodup_append.1 h3).2.2 _ hm _ h2 rfl
    show(((s.take L).count (k:Int):Nat):Int)≤_;rw[List.count_eq_zero_of_not_mem hnk];omega
 ·rw[hap,q23 _ _ hval,htl,hLi];omega
end Go.Proofs.YthjagoogkkgelaaGreatDoor
