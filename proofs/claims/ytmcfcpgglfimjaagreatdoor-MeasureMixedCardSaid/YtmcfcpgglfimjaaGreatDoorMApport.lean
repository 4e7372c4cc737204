/- The stable sort of places by their remainders. -/
import Derived.Test.YtmcfcpgglfimjaaGreatDoorMMaths
import Derived.Test.YtmcfcpgglfimjaaGreatDoorMBase
import Derived.RegionTactic
import Derived.ChangeAlike
import Derived.Outline
import Derived.Deep.DeepCutAuto
set_option linter.all false
namespace Go.Proofs.YtmcfcpgglfimjaaGreatDoor
open Go.RowKit
set_option maxRecDepth 100000
set_option maxHeartbeats 4000000
theorem q5i(i k:Nat)(a:Addr)(g n c:Nat)(rs:List Int)(w:World)(ha:w.cell? a=some (.slice (some ⟨g,0,none⟩) n c))(aB:∀j,j<n→w.cell? ⟨g,j,none⟩=some (iv rs j))(hi:i<n)(hk:k<n)(_hn:n≤1048576):
  Calls Tryz.prog 57 #[.int .i64 i,.int .i64 k,.pointer (some a)] w fun e w'=>e = .returned (.int .i64 (qsn (rs.getD k 0) (rs.getD i 0)))∧∃q,w'=w.drewN q:=by
 have oG:=aB i hi;have nE:=aB k hk;unfold iv at oG nE;generalize rs.getD i 0=x at *;generalize rs.getD k 0=y at *;clear aB;go_enter Tryz.func57,Tryz.ntmps57;go_wp2_with fail
 go_quiet ((go_at_call 58;exact Calls.quiet_of_same (qjp _ _ _)))
 go_wp2_with fail;go_ret;exact⟨rfl,_,rfl⟩
theorem q9s(l:List Int)(i:Nat)(x:Int)(hi:i<l.length):(fun k=>if k=i then Value.int .i64 x else iv l k)=iv (l.set i x):=by
 funext k
 unfold iv;by_cases e:k=i
 ·subst e;simp[hi]
 ·rw[if_neg e];simp[Ne.symm e]
theorem Own.setInt{w:World}{g n:Nat}{l:List Int}(h:Own w g n (iv l))(i:Nat)(hi:i<n)(hl:n=l.length)(x:Int):Own (w.setCell ⟨g,i,none⟩ (.int .i64 x)) g n (iv (l.set i x)):=by
 rw[←q9s l i x (by omega)];exact h.set i hi _
private theorem Own.drewN{w:World}{g n:Nat}{f:Nat→Value}(h:Own w g n f)(q:Nat):Own (w.drewN q) g n f:=h.later (below_drewN (qaa _ _) q)
def q1k(F:FuncId)(caps:Array Value)(c:Int→Int→Int)(D:Int→Prop)(W:World):Prop:=
 ∀x y,D x→D y→Calls Tryz.prog F (#[.int .i64 x,.int .i64 y]++caps) W fun e w'=>e = .returned (.int .i64 (c x y))∧∃q,w'=W.drewN q
def qnu(c:Int→Int→Int)(x y:Int):Bool:=decide (c x y<0)
theorem q1l(lt:Int→Int→Bool)(xs:List Int):qga lt (xs.take 1)++xs.drop 1=xs:=by
 cases xs with
 | nil=>rfl
 | cons x xs=>simp[qga,qiy]
theorem qrh(g n cap:Nat)(xs:List Int)(a:Addr)(c:Int→Int→Int)(D:Int→Prop)(w:World)(ho:Own w g n (iv xs))(hn:xs.length=n)(dT:1≤n)(_hn2:n≤1048576)(hD:∀x ∈ xs,D x)
  (hc:∀W,qfb g w W→q1k 57 #[.pointer (some a)] c D W) (aQ:n≤cap) (iE:cap≤maxLen):
  Calls Tryz.prog 157 #[.slice (some ⟨g,0,none⟩) n cap,.int .i64 0,.int .i64 n,.func (.func 57) #[] #[.pointer (some a)]] w
   fun e w'=>e = .returned (.tuple #[])∧Own w' g n (iv (qga (qnu c) xs))∧qfb g w w':=by
 unfold maxLen at iE;have HO:=hid ho;have HN:=hid hn;have HC:=hid hc;have HD:=hid hD;clear ho hn hc hD;go_enter Tryz.func157,Tryz.ntmps157;go_wp2_with fail
 go_loopw [8] (fun i wr=>∃k:Nat,1≤k∧k≤n∧i = .int .i64 k∧Hid (Own wr g n (iv (qga (qnu c) (xs.take k)++xs.drop k)))∧Hid (qfb g w wr)) (fun i _=>n-(intOf i).toNat)
 case atStart=>exact⟨1,qac _,dT,rfl,hid (HO.out.congr fun q hq=>by rw[q1l _ xs]),hid (qfb.refl _ _)⟩
 case round=>
  obtain⟨k,lA,hk,rfl,HR,HB⟩:=hrel;by_cases bC:k<n
  ·obtain⟨s,hs⟩:∃s,s=qga (qnu c) (xs.take k):=⟨_,rfl⟩
   have eQ:s.length=k:=by rw[hs,qm4,List.length_take,HN.out];omega
   have hkx:k<xs.length:=by rw[HN.out];exact bC
   obtain⟨x,hx⟩:∃x,x=xs[k]:=⟨_,rfl⟩;obtain⟨tl,rQ⟩:∃tl,tl=xs.drop (k+1):=⟨_,rfl⟩;have Em:xs.drop k=x::tl:=by rw[hx,rQ];exact List.drop_eq_getElem_cons hkx
   have HDX:Hid (D x):=hid (HD.out x (by rw[hx];exact List.getElem_mem _))
   have HDS:Hid (∀m,m<k→D (s.getD m 0)):=hid fun m hm=>HD.out _ (by
    have h1:m<s.length:=by omega
    rw[qba,qat h1,Option.getD_some];have h2:s[m] ∈ qga (qnu c) (xs.take k):=by rw[←hs];exact List.getElem_mem _
    exact List.mem_of_mem_take ((ql4 _ _).mem_iff.1 h2))
   have iF:Hid (qga (qnu c) (xs.take (k+1))++xs.drop (k+1)=qiy (qnu c) s x k++tl):=hid (by
    rw[List.take_succ_eq_append_getElem hkx,qqe,←hs,←rQ,←hx,eQ])
   have rN:Hid (Own wr g n (iv (s.take k++x::s.drop k++tl))):=hid (HR.out.congr fun q hq=>by
    rw[←hs,Em,←eQ,List.take_length,List.drop_length];simp)
   have aU:=hid eQ;have aW:Hid (n=s.length+1+tl.length):=hid (by rw[rQ,eQ,List.length_drop,HN.out];omega);clear hs eQ hx rQ Em hkx HR;obtain⟨wo,rfl⟩:∃wo:World,wo=wr:=⟨_,rfl⟩;go_wp2_with fail
   go_loopw [9] (fun j wr=>∃m:Nat,m≤k∧j = .int .i64 m∧Hid (Own wr g n (iv (s.take m++x::s.drop m++tl)))∧Hid (qiy (qnu c) s x k=qiy (qnu c) s x m)∧Hid (qfb g w wr)) (fun j _=>(intOf j).toNat)
   case atStart=>exact⟨k,qac _,rfl,rN,hid rfl,HB⟩
   case round=>
    obtain⟨m,hm,rfl,HV,HI,aK⟩:=hrel;by_cases mC:m=0
    ·subst mC
     have HF:Hid (Own wr g n (iv (qga (qnu c) (xs.take (k+1))++xs.drop (k+1)))):=hid (by rw[iF.out,HI.out,qyf];exact HV.out);go_wp2_with fail
     go_quiet (fail)
     go_wp2_with fail;go_roundw
     case rel=>exact⟨k+1,by omega,by omega,by go_num,hid (HF.out.drewN _),hid (aK.out.drewN _)⟩
     case measure=>simp[intOf];omega
    ·obtain⟨p,rfl⟩:∃p,m=p+1:=⟨m-1,by omega⟩
     have Kb:p<s.length:=by have:=aU.out;omega
     have hpn:p<n:=by omega
     have Ov:p+1<n:=by omega
     obtain⟨fA,hf0⟩:=HV.out.2 p hpn;obtain⟨bO,hf1⟩:=HV.out.2 (p+1) Ov
     have e0:iv (s.take (p+1)++x::s.drop (p+1)++tl) p = .int .i64 (s.getD p 0):=by
      unfold iv;rw[qut s tl x p Kb]
     have e1:iv (s.take (p+1)++x::s.drop (p+1)++tl) (p+1) = .int .i64 x:=by
      unfold iv;rw[qsm s tl x (p+1) (by omega)]
     rw[e0] at fA;rw[e1] at bO;have eU:=hid (fun q=>(HC.out (wr.drewN q) (aK.out.drewN q)) x (s.getD p 0) HDX.out (HDS.out p (by omega)));have HY:=hid (q0n (qnu c) s x p);have rR:=hid (q4v (qnu c) s x p);have kY:Hid (qnu c x (s.getD p 0)=decide (c x (s.getD p 0)<0)):=hid rfl;have rV:=hid (q0m s tl x p Kb)
     have mO:Hid (n=(s.take (p+1)++x::s.drop (p+1)++tl).length):=hid (by
      rw[List.length_append,List.length_append,List.length_take,List.length_cons,List.length_drop,Nat.min_eq_left (by omega)]
      have:=aW.out;omega)
     clear e0 e1;generalize s.getD p 0=y at *;generalize c x y=r at *;by_cases hr:r<0
     ·have HE:Hid (qiy (qnu c) s x k=qiy (qnu c) s x p):=hid (by rw[HI.out,HY.out (by rw[kY.out];exact qag hr)])
      have cK:Hid (∀W,Own W g n (iv (s.take (p+1)++x::s.drop (p+1)++tl))→Own ((W.setCell ⟨g,p+1,none⟩ (.int .i64 y)).setCell ⟨g,p,none⟩ (.int .i64 x)) g n (iv (s.take p++x::s.drop p++tl))):=hid fun W hW=>by
       rw[←rV.out];exact(hW.setInt (p+1) Ov mO.out y).setInt p hpn (by rw[List.length_set];exact mO.out) x
      clear Kb;go_wp2_with fail
      go_quiet ((go_at_call 57;exact Calls.quiet_of (eU.out _)))
      go_wp2_with fail
      go_region
      go_wp2_with fail;go_roundw
      case rel=>exact⟨p,by omega,by go_num,hid (cK.out _ (HV.out.drewN _)),HE,hid (((aK.out.drewN _).set _ _).set _ _)⟩
      case measure=>simp[intOf]
     ·have HE:Hid (Own wr g n (iv (qga (qnu c) (xs.take (k+1))++xs.drop (k+1)))):=hid (by
       rw[iF.out,HI.out,rR.out (by rw[kY.out];exact qae hr)];exact HV.out)
      clear Kb;go_wp2_with fail
      go_quiet ((go_at_call 57;exact Calls.quiet_of (eU.out _)))
      go_wp2_with fail;go_roundw
      case rel=>exact⟨k+1,by omega,by omega,by go_num,hid (HE.out.drewN _),hid (aK.out.drewN _)⟩
      case measure=>simp[intOf];omega
  ·have kT:k=n:=by omega
   have HF:Hid (Own wr g n (iv (qga (qnu c) xs))):=hid (HR.out.congr fun q hq=>by
    rw[kT,←HN.out,List.take_length,List.drop_length,List.append_nil])
   go_wp2_with fail
   go_end0
   exact⟨rfl,HF.out,HB.out⟩
theorem qy6(g n cap:Nat)(xs:List Int)(a:Addr)(c:Int→Int→Int)(D:Int→Prop)(w:World)(ho:Own w g n (iv xs))(hn:xs.length=n)(dT:1≤n)(lC:n≤19)(hD:∀x ∈ xs,D x)
  (hc:∀W,qfb g w W→q1k 57 #[.pointer (some a)] c D W) (aQ:n≤cap) (iE:cap≤maxLen):
  Calls Tryz.prog 105 #[.slice (some ⟨g,0,none⟩) n cap,.int .i64 n,.func (.func 57) #[] #[.pointer (some a)]] w
   fun e w'=>e = .returned (.tuple #[])∧Own w' g n (iv (qga (qnu c) xs))∧qfb g w w':=by
 have HI:=hid (qrh g n cap xs a c D w ho hn dT (by omega) hD hc aQ iE);clear ho hn hc hD iE;go_enter Tryz.func105,Tryz.ntmps105;go_wp2_with fail
 go_loopw [7,8] (fun i j wr=>i = .int .i64 0∧j = .int .i64 20∧wr=w) (fun _ _ _=>0)
 case atStart=>exact⟨rfl,rfl,rfl⟩
 case round=>
  obtain⟨rfl,rfl,rfl⟩:=hrel;go_wp2_with fail;refine HI.out.mono ?_;rintro e w1 ⟨rfl,hs,ho⟩;have HS:=hid hs;have HO:=hid ho;clear hs ho;go_wp2_with fail
  go_loopw [6] (fun i wr=>i = .int .i64 20∧wr=w1) (fun _ _=>0)
  case atStart=>exact⟨rfl,rfl⟩
  case round=>
   obtain⟨rfl,rfl⟩:=hrel;go_wp2_with fail
   go_end0
   exact⟨rfl,HS.out,HO.out⟩
theorem qp3(g n cap:Nat)(xs:List Int)(a:Addr)(c:Int→Int→Int)(D:Int→Prop)(w:World)(ho:Own w g n (iv xs))(hn:xs.length=n)(dT:1≤n)(lC:n≤19)(hD:∀x ∈ xs,D x)
  (hc:∀W,qfb g w W→q1k 57 #[.pointer (some a)] c D W) (aQ:n≤cap) (iE:cap≤maxLen):
  Calls Tryz.prog 56 #[.slice (some ⟨g,0,none⟩) n cap,.func (.func 57) #[] #[.pointer (some a)]] w
   fun e w'=>e = .returned (.tuple #[])∧Own w' g n (iv (qga (qnu c) xs))∧qfb g w w':=by
 have HI:=hid (qy6 g n cap xs a c D w ho hn dT lC hD hc aQ iE);clear ho hn hc hD iE;go_enter Tryz.func56,Tryz.ntmps56;go_wp2_with fail;refine HI.out.mono ?_;rintro e w1 ⟨rfl,hs,ho⟩;have HS:=hid hs;have HO:=hid ho;clear hs ho;go_wp2_with fail
 go_end0
 exact⟨rfl,HS.out,HO.out⟩
def qff(n:Nat):Obj := .cells (madeCells #[.int .i64 0] n) 3
theorem q5j(w:World)(n:Nat):Own (w.alloc (qff n)) w.heap.size n (iv (List.replicate n 0)):=by
 refine⟨by rw[qab];omega,fun i hi => ?_⟩;unfold qff;rw[World.cell?_alloc_at _ _ _ _ rfl,World.frozen?_alloc_at _ _ _ _ rfl];refine⟨?_,rfl⟩;rw[←Array.getElem?_toList,toList_madeCells_one];unfold iv;simp[hi]
theorem qlf(n:Nat)(h:n≤1048576)(w:World):
  (Instr.makeSlice 54 (.int .i64 (n:Int)) (.int .i64 (n:Int))).run Tryz.prog w = .ok (.slice (some ⟨w.heap.size,0,none⟩) n n) (w.alloc (qff n)):=
 run_make_row' (P:=Tryz.prog) 54 3 (.int .i64 0) 8 Tryz.underlying54 (by kernel_rfl) rfl .i64 .i64 n (by omega) (by omega) w
def q7u(w:World)(n:Nat)(s8 s9 s10:Value)(W:World):Prop:=
 ∃gp gr go ga:Nat,s8 = .slice (some ⟨gp,0,none⟩) n n∧s9 = .pointer (some ⟨ga,0,none⟩)∧s10 = .slice (some ⟨go,0,none⟩) n n∧Below w.heap.size w W∧
  (w.heap.size≤gp∧w.heap.size≤gr∧w.heap.size≤go∧w.heap.size≤ga)∧(gp≠gr∧gp≠go∧gp≠ga∧gr≠go∧gr≠ga∧go≠ga)∧
  Own W gp n (iv (List.replicate n 0))∧Own W gr n (iv (List.replicate n 0))∧Own W go n (iv (List.replicate n 0))∧Own W ga 1 (fun _ => .slice (some ⟨gr,0,none⟩) n n)
theorem qta{W:World}{g n:Nat}{cs:Array Value}{t:TypeId}{f:Nat→Value}(h:W.heap[g]? = some (.cells cs t (0,0)))(hf:∀i,i<n→cs[i]? = some (f i)):Own W g n f:=by
 refine⟨(Array.getElem?_eq_some_iff.1 h).1,fun i hi=>⟨?_, ?_⟩⟩
 ·rw[cell_of_row W g i cs t (0,0) h];exact hf i hi
 ·simp[World.frozen?,h]
theorem qbm{W:World}{g n:Nat}(h:W.heap[g]? = some (qff n)):Own W g n (iv (List.replicate n 0)):=
 qta h fun i hi=>by
  rw[←Array.getElem?_toList,toList_madeCells_one];unfold iv;simp[hi]
theorem qd0{W:World}{g:Nat}{v:Value}{t:TypeId}(h:W.heap[g]? = some (.cells #[v] t)):Own W g 1 (fun _=>v):=
 qta h fun i hi=>by
  obtain rfl:i=0:=by omega
  rfl
theorem qu8(w:World)(o0 o1 o2 o3:Obj):
  (((((w.alloc o0).alloc o1).alloc o2).alloc o3).drew.heap[w.heap.size]? = some o0∧((((w.alloc o0).alloc o1).alloc o2).alloc o3).drew.heap[w.heap.size+1]? = some o1∧
   ((((w.alloc o0).alloc o1).alloc o2).alloc o3).drew.heap[w.heap.size+1+1]? = some o2∧((((w.alloc o0).alloc o1).alloc o2).alloc o3).drew.heap[w.heap.size+1+1+1]? = some o3)∧
  Below w.heap.size w ((((w.alloc o0).alloc o1).alloc o2).alloc o3).drew:=by
 refine⟨?_,(((qad _ _).alloc (by simp) _).alloc (by simp;omega) _ |>.alloc (by simp;omega) _).drew⟩
 have key:∀(V:World) (o:Obj) (k:Nat),k≠V.heap.size→(V.alloc o).heap[k]? = V.heap[k]? := fun V o k hk=>by
  show(V.heap.push o)[k]? = _;rw[Array.getElem?_push,if_neg hk]
 show(((((w.alloc o0).alloc o1).alloc o2).alloc o3).heap[w.heap.size]? = some o0)∧((((w.alloc o0).alloc o1).alloc o2).alloc o3).heap[w.heap.size+1]? = some o1∧((((w.alloc o0).alloc o1).alloc o2).alloc o3).heap[w.heap.size+1+1]? = some o2∧((((w.alloc o0).alloc o1).alloc o2).alloc o3).heap[w.heap.size+1+1+1]? = some o3;have s1:(w.alloc o0).heap.size=w.heap.size+1:=qab _ _;have s2:((w.alloc o0).alloc o1).heap.size=w.heap.size+1+1:=by rw[qab,s1]
 have s3:(((w.alloc o0).alloc o1).alloc o2).heap.size=w.heap.size+1+1+1:=by rw[qab,s2]
 refine⟨?_, ?_, ?_, ?_⟩
 ·rw[key _ _ _ (by omega),key _ _ _ (by omega),key _ _ _ (by omega)];exact heap_alloc_new _ _
 ·rw[key _ _ _ (by omega),key _ _ _ (by omega),←s1];exact heap_alloc_new _ _
 ·rw[key _ _ _ (by omega),←s2];exact heap_alloc_new _ _
 ·rw[←s3];exact heap_alloc_new _ _
def upTo(L:List Int)(k:Nat):List Int:=L.take k++List.replicate (L.length-k) 0
theorem qor(L:List Int):upTo L 0=List.replicate L.length 0:=by simp[upTo]
theorem qri(L:List Int):upTo L L.length=L:=by simp[upTo]
theorem qu9(L:List Int)(k:Nat)(h:k≤L.length):(upTo L k).length=L.length:=by simp[upTo];omega
theorem q5k(L:List Int)(k:Nat)(h:k<L.length):(upTo L k).set k (L.getD k 0)=upTo L (k+1):=by
 unfold upTo;have hl:(L.take k).length=k:=by rw[List.length_take];omega
 obtain⟨m,hm⟩:∃m,L.length-k=m+1:=⟨L.length-k-1,by omega⟩;have fP:L.length-(k+1)=m:=by omega
 rw[List.set_append_right _ _ (by omega),hl,Nat.sub_self,hm,fP,List.replicate_succ,List.set_cons_zero,List.take_succ_eq_append_getElem h,qba,qat h,Option.getD_some,List.append_assoc];rfl
theorem Own.upTo{W:World}{g n:Nat}{L:List Int}{k:Nat}(h:Own W g n (iv (Go.Proofs.YtmcfcpgglfimjaaGreatDoor.upTo L k)))(hn:L.length=n)(hk:k<n){x:Int}(hx:L.getD k 0=x):Own (W.setCell ⟨g,k,none⟩ (.int .i64 x)) g n (iv (Go.Proofs.YtmcfcpgglfimjaaGreatDoor.upTo L (k+1))):=by
 rw[←q5k L k (by omega),hx];exact h.setInt k hk (by rw[qu9 _ _ (by omega),hn]) x
def qmj(w:World)(n:Nat)(gp gr go ga:Nat)(P R O:List Int)(W:World):Prop:=
 Below w.heap.size w W∧Own W gp n (iv P)∧Own W gr n (iv R)∧Own W go n (iv O)∧Own W ga 1 (fun _ => .slice (some ⟨gr,0,none⟩) n n)
def qkm(t S:Int)(l:List Int):List Int:=l.map fun x=>t*x/S
def q5l(t S:Int)(l:List Int):List Int:=l.map fun x=>t*x % S
def places(n:Nat):List Int:=(List.range n).map fun i:Nat=>(i:Int)
theorem qxd(t S:Int)(l:List Int)(k:Nat)(h:k<l.length):(qkm t S l).getD k 0=t*l.getD k 0/S:=by simp[qkm,h]
theorem q5m(t S:Int)(l:List Int)(k:Nat)(h:k<l.length):(q5l t S l).getD k 0=t*l.getD k 0 % S:=by simp[q5l,h]
theorem qy7(n k:Nat)(h:k<n):(places n).getD k 0=k:=by simp[places,h]
theorem Own.setOther{W:World}{g g' n:Nat}{f:Nat→Value}(h:Own W g n f)(hne:g'≠g)(o:Nat)(v:Value):Own (W.setCell ⟨g',o,none⟩ v) g n f:=
 ((qfb.refl g' W).set o v).own h (Ne.symm hne)
theorem qtb{w W:World}{n gp gr go ga k:Nat}{P R O:List Int}{q r:Int}{k':Int}(h:qmj w n gp gr go ga (upTo P k) (upTo R k) (upTo O k) W)(hn:w.heap.size≤gp∧w.heap.size≤gr∧w.heap.size≤go∧w.heap.size≤ga)
  (hd:gp≠gr∧gp≠go∧gp≠ga∧gr≠go∧gr≠ga∧go≠ga) (hP:P.length=n) (hR:R.length=n) (hO:O.length=n) (hk:k<n) (hq:P.getD k 0=q) (hr:R.getD k 0=r) (ho:O.getD k 0=k'):
  qmj w n gp gr go ga (upTo P (k+1)) (upTo R (k+1)) (upTo O (k+1)) ((((W.setCell ⟨gp,k,none⟩ (.int .i64 q)).setCell ⟨gr,k,none⟩ (.int .i64 r)).setCell ⟨go,k,none⟩ (.int .i64 k')).drew):=by
 obtain⟨h1,h2,h3,h4,h5⟩:=h;obtain⟨d1,d2,d3,d4,d5,d6⟩:=hd;obtain⟨n1,n2,n3,n4⟩:=hn;have He:∀(V:World) (B:Nat),Below B V V.drew:=fun V B=>(qaa _ _).drew;refine⟨(((h1.setCell (p:=⟨gp,k,none⟩) n1 _).setCell (p:=⟨gr,k,none⟩) n2 _).setCell (p:=⟨go,k,none⟩) n3 _).drew, ?_, ?_, ?_, ?_⟩
 ·exact Own.later (((h2.upTo hP hk hq).setOther (Ne.symm d1) _ _).setOther (Ne.symm d2) _ _) (He _ _)
 ·exact Own.later (((h3.setOther d1 _ _).upTo hR hk hr).setOther (Ne.symm d4) _ _) (He _ _)
 ·exact Own.later (((h4.setOther d2 _ _).setOther d4 _ _).upTo hO hk ho) (He _ _)
 ·exact Own.later (((h5.setOther d3 _ _).setOther d5 _ _).setOther d6 _ _) (He _ _)
theorem qxe(t S:Int)(l:List Int)(ht:0≤t)(hS:0<S)(hl:∀x ∈ l,wIn x=true):0≤(qkm t S l).sum∧S*(qkm t S l).sum≤t*l.sum∧t*l.sum≤S*(qkm t S l).sum+l.length*(S-1):=by
 induction l with
 | nil=>simp[qkm]
 | cons x l ih=>
  obtain⟨h1,h2,h3⟩:=ih fun y hy=>hl y (by simp[hy]);have hx:=ql8.1 (hl x (by simp));have mC:0≤t*x:=Int.mul_nonneg ht hx.1;have oU:0≤t*x/S:=Int.ediv_nonneg mC (by omega);have hd:=Int.mul_ediv_add_emod (t*x) S;have qM:=Int.emod_nonneg (t*x) (show S≠0 by omega);have hr1:=Int.emod_lt_of_pos (t*x) hS;show 0≤(t*x/S::qkm t S l).sum∧S*(t*x/S::qkm t S l).sum≤t*(x::l).sum∧t*(x::l).sum≤S*(t*x/S::qkm t S l).sum+((x::l).length:Nat)*(S-1);simp only[List.sum_cons,List.length_cons];have e1:S*(t*x/S+(qkm t S l).sum)=S*(t*x/S)+S*(qkm t S l).sum:=Int.mul_add _ _ _;have e2:t*(x+l.sum)=t*x+t*l.sum:=Int.mul_add _ _ _
  have e3:((l.length+1:Nat):Int)*(S-1)=(l.length:Int)*(S-1)+(S-1):=by
   rw[Int.natCast_add,Int.add_mul];simp
  rw[e1,e2,e3];generalize S*(t*x/S)=a at *;generalize S*(qkm t S l).sum=b at *;generalize t*l.sum=c at *;generalize (l.length:Int)*(S-1)=d at *;omega
theorem qos(l:List Int)(hl:∀x ∈ l,wIn x=true)(k:Nat):(l.take k).sum≤l.sum:=by
 conv=>rhs;rw[←List.take_append_drop k l,List.sum_append]
 have:=(qi2 (l.drop k) fun x hx=>hl x (List.mem_of_mem_drop hx)).1;omega
theorem q1m(t S:Int)(l:List Int)(k:Nat):(qkm t S l).take k=qkm t S (l.take k):=by unfold qkm;rw[List.map_take]
theorem qrj(t S:Int)(l:List Int)(ht:0≤t)(hS:0<S)(hl:∀x ∈ l,wIn x=true)(hs:l.sum=S)(k:Nat):0≤((qkm t S l).take k).sum∧((qkm t S l).take k).sum≤t:=by
 rw[q1m];have pW:∀x ∈ l.take k,wIn x=true:=fun x hx=>hl x (List.mem_of_mem_take hx);obtain⟨h1,h2,_⟩:=qxe t S (l.take k) ht hS pW;refine⟨h1, ?_⟩;have h3:=qos l hl k;rw[hs] at h3;have h4:t*(l.take k).sum≤t*S:=Int.mul_le_mul_of_nonneg_left h3 ht;rw[Int.mul_comm t S] at h4;exact Int.le_of_mul_le_mul_left (Int.le_trans h2 h4) hS
theorem q7v(t S:Int)(l:List Int)(ht:0≤t)(hS:0<S)(hl:∀x ∈ l,wIn x=true)(hs:l.sum=S)(oK:1≤l.length):t-(qkm t S l).sum<l.length:=by
 obtain⟨h1,h2,h3⟩:=qxe t S l ht hS hl;rw[hs] at h3;rcases Int.lt_or_le (t-(qkm t S l).sum) l.length with h|h
 ·exact h
 ·exfalso
  have h4:S*((qkm t S l).sum+l.length)≤S*t:=Int.mul_le_mul_of_nonneg_left (by omega) (by omega);rw[Int.mul_add,Int.mul_comm S t] at h4;have h5:(l.length:Int)*(S-1)=S*l.length-l.length:=by rw[Int.mul_sub,Int.mul_comm];simp
  rw[h5] at h3;omega
def qva(R:List Int)(x y:Int):Int:=qsn (R.getD y.toNat 0) (R.getD x.toNat 0)
def qf2(qs:List Int)(is:List Int):List Int:=is.foldl (fun l i=>l.set i.toNat (l.getD i.toNat 0+1)) qs
theorem qqp(qs is:List Int)(i:Int):qf2 qs (is++[i])=(qf2 qs is).set i.toNat ((qf2 qs is).getD i.toNat 0+1):=by
 unfold qf2;rw[List.foldl_append];rfl
theorem qm8(qs is:List Int):(qf2 qs is).length=qs.length:=by
 induction is using qk1 with
 | h0=>rfl
 | h1 l x ih=>rw[qqp,List.length_set,ih]
def qhj(t:Int)(l:List Int):List Int:=
 qf2 (qkm t l.sum l) ((qga (qnu (qva (q5l t l.sum l))) (places l.length)).take (t-(qkm t l.sum l).sum).toNat)
theorem qtc(t:Int)(v:Value)(l:List Int)(w:World)(h:qwx w v l)(hl:l.length≤19)(oK:1≤l.length)(iT:0≤t)(fI:t≤999999999)(he:qsi l=0):
  Calls Tryz.prog 18 #[.int .i64 t,v] w fun e w'=>(∃g,w.heap.size≤g∧e = .returned (.tuple #[.slice (some ⟨g,0,none⟩) l.length l.length,.int .i64 0])∧Own w' g l.length (iv (qhj t l)))∧Below w.heap.size w w':=by
 have bX:=(qfp v l w h (by omega)).mono (R':=fun e w'=>e = .returned (.tuple #[.int .i64 l.sum,.int .i64 0])∧w=w') (fun e w' ⟨h1,h2⟩=>by
  unfold qp0 at h1;rw[he] at h1;exact⟨h1,h2⟩)
 obtain⟨hw,hG⟩:=qsr he;have HS:=hid bX;have HW:=hid hw;obtain⟨p,c,rfl,bO,bJ,aA⟩:=h;obtain⟨b,o,rfl,aB⟩:=aA.resolve_left (by omega);unfold maxLen at bJ;have bP:=hid aB;have hsb:=qi2 l hw;have kX:=qlf l.length (by omega);generalize hS:l.sum=S at *;have Ho:=hid hS;clear hS bX hw aA aB he;generalize hN:l.length=n at *;have HN:=hid hN;clear hN;go_enter Tryz.func18,Tryz.ntmps18;go_wp2_with fail;refine HS.out.mono ?_;rintro e w1 ⟨rfl,rfl⟩;clear HS
 go_upto_region 10 with fail
 go_cut [8,9,10] (fun s8 s9 s10 wx=>q7u w n s8 s9 s10 wx)
 case first=>
  go_region
  all_goals(go_wp2_with fail;go_meet)
  all_goals
   obtain⟨⟨b0,b1,b2,b3⟩,hb⟩:=qu8 w _ _ _ _
   first
    | exact⟨_,w.heap.size,_,_,rfl,rfl,rfl,hb,⟨by omega,by omega,by omega,by omega⟩,⟨by omega,by omega,by omega,by omega,by omega,by omega⟩,by first|exact qbm b0|exact qbm b1|exact qbm b2|exact qbm b3,by first|exact qbm b0|exact qbm b1|exact qbm b2|exact qbm b3,by first|exact qbm b0|exact qbm b1|exact qbm b2|exact qbm b3,by first|exact qd0 b0|exact qd0 b1|exact qd0 b2|exact qd0 b3⟩
    | exact⟨_,w.heap.size+1,_,_,rfl,rfl,rfl,hb,⟨by omega,by omega,by omega,by omega⟩,⟨by omega,by omega,by omega,by omega,by omega,by omega⟩,by first|exact qbm b0|exact qbm b1|exact qbm b2|exact qbm b3,by first|exact qbm b0|exact qbm b1|exact qbm b2|exact qbm b3,by first|exact qbm b0|exact qbm b1|exact qbm b2|exact qbm b3,by first|exact qd0 b0|exact qd0 b1|exact qd0 b2|exact qd0 b3⟩
    | exact⟨_,w.heap.size+1+1,_,_,rfl,rfl,rfl,hb,⟨by omega,by omega,by omega,by omega⟩,⟨by omega,by omega,by omega,by omega,by omega,by omega⟩,by first|exact qbm b0|exact qbm b1|exact qbm b2|exact qbm b3,by first|exact qbm b0|exact qbm b1|exact qbm b2|exact qbm b3,by first|exact qbm b0|exact qbm b1|exact qbm b2|exact qbm b3,by first|exact qd0 b0|exact qd0 b1|exact qd0 b2|exact qd0 b3⟩
    | exact⟨_,w.heap.size+1+1+1,_,_,rfl,rfl,rfl,hb,⟨by omega,by omega,by omega,by omega⟩,⟨by omega,by omega,by omega,by omega,by omega,by omega⟩,by first|exact qbm b0|exact qbm b1|exact qbm b2|exact qbm b3,by first|exact qbm b0|exact qbm b1|exact qbm b2|exact qbm b3,by first|exact qbm b0|exact qbm b1|exact qbm b2|exact qbm b3,by first|exact qd0 b0|exact qd0 b1|exact qd0 b2|exact qd0 b3⟩
 case rest=>
  obtain⟨gp,gr,go,ga,rfl,rfl,rfl,hb,⟨n1,n2,n3,n4⟩,⟨d1,d2,d3,d4,d5,d6⟩,o1,o2,o3,o4⟩:=hcut;have jI:Hid ((qkm t S l).length=n):=hid (by unfold qkm;rw[List.length_map];exact HN.out);have lE:Hid ((q5l t S l).length=n):=hid (by unfold q5l;rw[List.length_map];exact HN.out);have iA:Hid ((places n).length=n):=hid (by unfold places;simp);have HL0:Hid (qmj w n gp gr go ga (upTo (qkm t S l) 0) (upTo (q5l t S l) 0) (upTo (places n) 0) wc):=hid ⟨hb,by rw[qor,jI.out];exact o1,by rw[qor,lE.out];exact o2,by rw[qor,iA.out];exact o3,o4⟩;clear hb o1 o2 o3 o4;have hS1:1≤S:=by omega
  go_wp2_with fail
  go_loopw [11,51] (fun lf i wr=>∃k:Nat,k≤n∧i = .int .i64 k∧(∃z:Int,lf = .int .i64 z∧0≤z∧z≤t∧Hid (z=t-((qkm t S l).take k).sum))∧Hid (qmj w n gp gr go ga (upTo (qkm t S l) k) (upTo (q5l t S l) k) (upTo (places n) k) wr)) (fun _ i _=>n-(intOf i).toNat)
  case atStart=>exact⟨0,Nat.zero_le _,rfl,⟨t,rfl,iT,Int.le_refl _,hid (by simp)⟩,HL0⟩
  case round=>
   obtain⟨k,hk,rfl,⟨z,rfl,cP,dV,HZ⟩,HL⟩:=hrel;by_cases bC:k<n
   ·have aC:wr.cell? ⟨b,o+k,none⟩=some (iv l k):=by
     have h1:=bP.out k bC;rw[HL.out.1.cell (p:=⟨b,o+k,none⟩) (qaf w _ h1)];exact h1
    unfold iv at aC
    have HX:Hid (wIn (l.getD k 0)=true):=hid (HW.out _ (by
     have cQ:k<l.length:=by rw[HN.out];exact bC
     rw[qba,qat cQ,Option.getD_some]
     exact List.getElem_mem _))
    have HQ:=hid (qxd t S l k (by rw[HN.out];exact bC));have HR:=hid (q5m t S l k (by rw[HN.out];exact bC));have HP:=hid (qy7 n k bC);have Kr:=ql8.1 HX.out;obtain⟨Ow,hfp⟩:=HL.out.2.1.2 k bC;obtain⟨hcr,hfr⟩:=HL.out.2.2.1.2 k bC;obtain⟨hco,hfo⟩:=HL.out.2.2.2.1.2 k bC;obtain⟨hca,hfa⟩:=HL.out.2.2.2.2.2 0 (by omega);generalize l.getD k 0=x at *;obtain⟨oZ,oY⟩:=Kr;have mC:0≤t*x:=Int.mul_nonneg iT oZ;have fD:t*x≤999999998000000001:=Int.le_trans (Int.mul_le_mul fI oY oZ (by omega)) (by omega);have uH:=hid (qhu (qkm t S l) k (by rw[jI.out];exact bC));have pZ:=qrj t S l iT (by omega) HW.out Ho.out (k+1);have oU:0≤t*x/S:=Int.ediv_nonneg mC (by omega);have eF:0≤z-t*x/S:=by have h1:=uH.out;have h2:=HQ.out;have h3:=HZ.out;rw[h1,h2] at pZ;omega
    have kG:Hid (z-t*x/S=t-((qkm t S l).take (k+1)).sum):=hid (by rw[uH.out,HQ.out,HZ.out];omega);have mO:Hid (qmj w n gp gr go ga (upTo (qkm t S l) (k+1)) (upTo (q5l t S l) (k+1)) (upTo (places n) (k+1)) ((((wr.setCell ⟨gp,k,none⟩ (.int .i64 (t*x/S))).setCell ⟨gr,k,none⟩ (.int .i64 (t*x % S))).setCell ⟨go,k,none⟩ (.int .i64 (k:Int))).drew)):=hid (qtb HL.out ⟨n1,n2,n3,n4⟩ ⟨d1,d2,d3,d4,d5,d6⟩ jI.out lE.out iA.out bC HQ.out HR.out HP.out);clear pZ;go_wp2_with fail
    go_region
    go_wp2_with fail;go_roundw
    case rel=>exact⟨k+1,by omega,by go_num,⟨_,rfl,eF,by omega,kG⟩,mO⟩
    case measure=>simp[intOf];omega
   ·have kT:k=n:=by omega
    have Ae:¬(k:Int)<(n:Int):=by omega
    obtain⟨R,hR⟩:∃R,R=q5l t S l:=⟨_,rfl⟩;obtain⟨Q,hQ⟩:∃Q,Q=qkm t S l:=⟨_,rfl⟩
    have qB:Hid (qmj w n gp gr go ga Q R (places n) wr):=hid (by
     have h1:=HL.out;rw[kT,←hR,←hQ] at h1;rw[←hR] at lE;rw[←hQ] at jI;have e1:upTo Q n=Q:=by rw[←jI.out,qri]
     have e2:upTo R n=R:=by rw[←lE.out,qri]
     have e3:upTo (places n) n=places n:=by
      have:=qri (places n)
      rwa [iA.out] at this
     rw[e1,e2,e3] at h1
     exact h1)
    have HZL:Hid (z=t-Q.sum):=hid (by rw[HZ.out,kT,hQ,←jI.out,List.take_length])
    have Km:z<n:=by
     have h1:=q7v t S l iT (by omega) HW.out Ho.out (by rw[HN.out];exact oK);have h2:=HZL.out;rw[←hQ,HN.out] at h1;omega
    have nH:Hid (∀i,i<n→0≤Q.getD i 0∧Q.getD i 0≤999999999):=hid fun i hi=>by
     have Cu:i<l.length:=by rw[HN.out];exact hi
     rw[hQ,qxd t S l i Cu]
     have hx:=ql8.1 (HW.out (l.getD i 0) (by
      rw[qba,qat Cu,Option.getD_some];exact List.getElem_mem _))
     have hxs:l.getD i 0≤S:=by
      have h1:=qhu l i Cu;have h2:=qos l HW.out (i+1);have h3:=(qi2 (l.take i) fun x hx=>HW.out x (List.mem_of_mem_take hx)).1;have h4:=Ho.out;omega
     generalize l.getD i 0=x at *;have h0:0≤t*x:=Int.mul_nonneg iT hx.1;refine⟨Int.ediv_nonneg h0 (by omega), ?_⟩;have h1:t*x≤t*S:=Int.mul_le_mul_of_nonneg_left hxs iT;have h2:t*x/S≤t*S/S:=Int.ediv_le_ediv (by omega) h1;rw[Int.mul_ediv_cancel _ (by omega)] at h2;omega
    have Hp:Hid (qhj t l=qf2 Q ((qga (qnu (qva R)) (places n)).take z.toNat)):=hid (by
     have e1:=Ho.out;have e2:=HN.out;unfold qhj
     rw[e1,e2,←hQ,←hR,←HZL.out])
    have uT:Hid (∀j x,(qga (qnu (qva R)) (places n))[j]? = some x→∃i:Nat,i<n∧x=(i:Int)):=hid fun j x hj=>by
     have h1:=(ql4 (qnu (qva R)) (places n)).mem_iff.1 (qbj hj);unfold places at h1;simp only[List.mem_map,List.mem_range] at h1;obtain⟨i,hi,rfl⟩:=h1;exact⟨i,hi,rfl⟩
    have HOL:Hid ((qga (qnu (qva R)) (places n)).length=n):=hid (by rw[qm4];exact iA.out)
    have En:=hid (qp3 go n n (places n) ⟨ga,0,none⟩ (qva R) (fun x=>∃i:Nat,i<n∧x=(i:Int)) wr qB.out.2.2.2.1 iA.out oK hl (fun x hx=>by
     unfold places at hx;simp only[List.mem_map,List.mem_range] at hx;obtain⟨i,hi,rfl⟩:=hx
     exact⟨i,hi,rfl⟩) (fun W hW x y hx hy=>by
     obtain⟨i,hi,rfl⟩:=hx;obtain⟨j,hj,rfl⟩:=hy;have h1:=hW.own qB.out.2.2.2.2 (Ne.symm d6);have h2:=hW.own qB.out.2.2.1 d4;have h3:=q5i i j ⟨ga,0,none⟩ gr n n R W (h1.2 0 (by omega)).1 (fun q hq=>(h2.2 q hq).1) hi hj (by omega)
     exact h3) (qac _) (by unfold maxLen;omega))
    have qY:Hid (Q.length=n):=hid (by rw[hQ];exact jI.out);generalize qga (qnu (qva R)) (places n)=OS at *;clear hQ hR HZ HL jI lE kT;go_wp2_with fail;refine En.out.mono ?_;rintro e w1 ⟨rfl,ho,hb⟩;have iI:=hid ho;have wS:=hid (hb.own qB.out.2.1 d2);have aP:=hid (qB.out.1.trans (hb.below n3));clear ho hb En;obtain⟨m,rfl⟩:∃m:Nat,z=m:=⟨z.toNat,by omega⟩;have Cx:m≤n:=by omega
    go_wp2_with fail;clear cP dV
    go_loopw [90] (fun i wr=>∃k:Nat,k≤m∧i = .int .i64 k∧Hid (Own wr gp n (iv (qf2 Q (OS.take k))))∧Hid (∀i,i<n→0≤(qf2 Q (OS.take k)).getD i 0∧(qf2 Q (OS.take k)).getD i 0≤999999999+k)∧Hid (qfb gp w1 wr)) (fun i _=>m-(intOf i).toNat)
    case atStart=>exact⟨0,Nat.zero_le _,rfl,wS,hid (fun i hi=>by have:=nH.out i hi;show 0≤Q.getD i 0∧Q.getD i 0≤999999999+((0:Nat):Int);omega),hid (qfb.refl _ _)⟩
    case round=>
     obtain⟨j,hj,rfl,HBU,aV,Ah⟩:=hrel;by_cases hjm:j<m
     ·have kN:j<n:=by omega
      obtain⟨hco,_⟩:=(Ah.out.own iI.out (Ne.symm d2)).2 j kN;have hol:j<OS.length:=by rw[HOL.out];exact kN
      have Hs:OS[j]? = some OS[j]:=qat hol;obtain⟨i,Dc,hi⟩:=uT.out j _ Hs
      have hiv:iv OS j = .int .i64 (i:Int):=by
       unfold iv;rw[qba,Hs,Option.getD_some,hi]
      have mW:Hid (OS.take (j+1)=OS.take j++[(i:Int)]):=hid (by rw[List.take_succ_eq_append_getElem hol,hi]);rw[hiv] at hco;obtain⟨Ow,hfp⟩:=HBU.out.2 i Dc;have rS:=aV.out i Dc;unfold iv at Ow;have bY:=hid (HBU.out.setInt i Dc (by rw[qm8];exact qY.out.symm) ((qf2 Q (OS.take j)).getD i 0+1));have iF:Hid (qf2 Q (OS.take (j+1))=(qf2 Q (OS.take j)).set i ((qf2 Q (OS.take j)).getD i 0+1)):=hid (by rw[mW.out,qqp];rfl)
      have jF:Hid (∀i,i<n→0≤(qf2 Q (OS.take (j+1))).getD i 0∧(qf2 Q (OS.take (j+1))).getD i 0≤999999999+((j+1:Nat):Int)):=hid fun q hq=>by
       have h1:=aV.out q hq;rw[iF.out];by_cases e:q=i
       ·subst e
        have gT:q<(qf2 Q (OS.take j)).length:=by rw[qm8,qY.out];exact hq
        have:((qf2 Q (OS.take j)).set q ((qf2 Q (OS.take j)).getD q 0+1)).getD q 0=(qf2 Q (OS.take j)).getD q 0+1:=by simp[gT]
        rw[this];omega
       ·have:((qf2 Q (OS.take j)).set i ((qf2 Q (OS.take j)).getD i 0+1)).getD q 0=(qf2 Q (OS.take j)).getD q 0:=by simp[Ne.symm e]
        rw[this];omega
      clear Hs hiv hi hol;generalize (qf2 Q (OS.take j)).getD i 0=y at *;obtain⟨Ll,uF⟩:=rS;go_wp2_with fail;go_roundw
      case rel=>exact⟨j+1,by omega,by go_num,hid (by rw[iF.out];exact bY.out),jF,hid (Ah.out.set _ _)⟩
      case measure=>simp[intOf];omega
     ·have hjm2:j=m:=by omega
      have aF:Hid (Own wr gp n (iv (qhj t l))):=hid (by
       rw[Hp.out,←hjm2]
       exact HBU.out)
      have nL:Hid (Below w.heap.size w wr):=hid (aP.out.trans (Ah.out.below n1));go_wp2_with fail;go_ret2;exact⟨⟨gp,n1,rfl,aF.out⟩,nL.out⟩
def qp4(t:Int)(l:List Int):Nat:=
 if t<0∨999999999<t then 3 else if l.length=0 then 2 else if 256<l.length then 5 else qsi l
def q1n(t:Int)(l:List Int)(w:World)(e:Ending)(w':World):Prop:=
 (if qp4 t l=0 then ∃g,w.heap.size≤g∧e = .returned (.tuple #[.slice (some ⟨g,0,none⟩) l.length l.length,.int .i64 0])∧Own w' g l.length (iv (qhj t l))
  else e = .returned (.tuple #[.slice none 0 0,.int .i64 (qp4 t l:Nat)]))∧Below w.heap.size w w'
theorem qnv{t:Int}{l:List Int}{w:World}{k:Nat}{z:Int}(h:qp4 t l=k)(hk:k≠0)(hz:z=k):q1n t l w (.returned (.tuple #[.slice none 0 0,.int .i64 z])) w:=by
 unfold q1n;rw[h,if_neg hk,hz];exact⟨rfl,qaa _ _⟩
theorem qot(t:Int)(v:Value)(l:List Int)(w:World)(_h:qwx w v l)(ht:t<0∨999999999<t):Calls Tryz.prog 18 #[.int .i64 t,v] w (q1n t l w):=by
 have HF:Hid (q1n t l w (.returned (.tuple #[.slice none 0 0,.int .i64 3])) w):=hid (qnv (k:=3) (by unfold qp4;rw[if_pos ht]) (by omega) rfl);clear _h;rcases ht with ht|ht
 ·go_enter Tryz.func18,Tryz.ntmps18
  go_wp2_with fail;go_ret2;exact HF.out
 ·have jM:¬t<0:=by omega
  go_enter Tryz.func18,Tryz.ntmps18;go_wp2_with fail;go_ret2;exact HF.out
theorem qrk(t:Int)(v:Value)(l:List Int)(w:World)(h:qwx w v l)(iT:0≤t)(fI:t≤999999999)(hl:l.length=0∨256<l.length):Calls Tryz.prog 18 #[.int .i64 t,v] w (q1n t l w):=by
 obtain⟨p,c,rfl,bO,bJ,aA⟩:=h;unfold maxLen at bJ;clear aA;rcases hl with hl|hl
 ·have HF:Hid (q1n t l w (.returned (.tuple #[.slice none 0 0,.int .i64 2])) w):=hid (qnv (k:=2) (by unfold qp4;rw[if_neg (by omega),if_pos hl]) (by omega) rfl)
  have hb:((l.length:Int)==0)=true:=by rw[hl];rfl
  clear hl;go_enter Tryz.func18,Tryz.ntmps18;go_wp2_with fail;go_ret2;exact HF.out
 ·have HF:Hid (q1n t l w (.returned (.tuple #[.slice none 0 0,.int .i64 5])) w):=hid (qnv (k:=5) (by unfold qp4;rw[if_neg (by omega),if_neg (by omega),if_pos hl]) (by omega) rfl)
  have hb:((l.length:Int)==0)=false:=qan (by omega);go_enter Tryz.func18,Tryz.ntmps18;go_wp2_with fail;go_ret2;exact HF.out
theorem qmk(t:Int)(v:Value)(l:List Int)(w:World)(h:qwx w v l)(iT:0≤t)(fI:t≤999999999)(kK:l.length≠0)(oK:l.length≤256)(he:qsi l≠0):Calls Tryz.prog 18 #[.int .i64 t,v] w (q1n t l w):=by
 have HS:=hid ((qfp v l w h (by omega)).mono (R':=fun e w'=>e = .returned (.tuple #[.int .i64 0,.int .i64 (qsi l:Nat)])∧w=w') (fun e w' ⟨h1,h2⟩=>by
  unfold qp0 at h1;rw[if_neg he] at h1;exact⟨h1,h2⟩))
 obtain⟨p,c,rfl,bO,bJ,aA⟩:=h;unfold maxLen at bJ;clear aA;have HF:Hid (q1n t l w (.returned (.tuple #[.slice none 0 0,.int .i64 (qsi l:Nat)])) w):=hid (qnv (by unfold qp4;rw[if_neg (by omega),if_neg kK,if_neg (by omega)]) he rfl);have hb:((l.length:Int)==0)=false:=qan (by omega);have eE:(((qsi l:Nat):Int)==0)=false:=qan (by omega);clear he kK;generalize qsi l=k at *;go_enter Tryz.func18,Tryz.ntmps18;go_wp2_with fail;refine HS.out.mono ?_;rintro e w1 ⟨rfl,rfl⟩;clear HS;go_wp2_with fail;go_ret2;exact HF.out
theorem qrl(t:Int)(v:Value)(l:List Int)(w:World)(h:qwx w v l)(hl:l.length≤19∨qp4 t l≠0):Calls Tryz.prog 18 #[.int .i64 t,v] w (q1n t l w):=by
 by_cases ht:t<0∨999999999<t
 ·exact qot t v l w h ht
 by_cases hn:l.length=0∨256<l.length
 ·exact qrk t v l w h (by omega) (by omega) hn
 by_cases he:qsi l=0
 ·have h0:qp4 t l=0:=by unfold qp4;rw[if_neg ht,if_neg (by omega),if_neg (by omega),he]
  refine(qtc t v l w h (hl.resolve_right (fun h=>h h0)) (by omega) (by omega) (by omega) he).mono fun e w' h1 => ?_;unfold q1n;rw[if_pos h0];exact h1
 ·exact qmk t v l w h (by omega) (by omega) (by omega) (by omega) he
end Go.Proofs.YtmcfcpgglfimjaaGreatDoor
namespace Go.Proofs.YtmcfcpgglfimjaaGreatDoor
set_option maxRecDepth 100000
set_option maxHeartbeats 4000000
end Go.Proofs.YtmcfcpgglfimjaaGreatDoor
