/- The stable sort of places by their remainders. -/
import Derived.Test.YtclimablgihlhaaGreatDoorMMaths
import Derived.Test.YtclimablgihlhaaGreatDoorMBase
import Derived.RegionTactic
import Derived.ChangeAlike
import Derived.Outline
import Derived.Deep.DeepCutAuto
set_option linter.all false
namespace Go.Proofs.YtclimablgihlhaaGreatDoor
open Go.RowKit
set_option maxRecDepth 100000
set_option maxHeartbeats 4000000
theorem q4o(i k:Nat)(a:Addr)(g n c:Nat)(rs:List Int)(w:World)(ha:w.cell? a=some (.slice (some ⟨g,0,none⟩) n c))(aB:∀j,j<n→w.cell? ⟨g,j,none⟩=some (iv rs j))(hi:i<n)(hk:k<n)(_hn:n≤1048576):
  Calls Tryz.prog 57 #[.int .i64 i,.int .i64 k,.pointer (some a)] w fun e w'=>e = .returned (.int .i64 (qr9 (rs.getD k 0) (rs.getD i 0)))∧∃q,w'=w.drewN q:=by
 have vS:=aB i hi;have oF:=aB k hk;unfold iv at vS oF;generalize rs.getD i 0=x at *;generalize rs.getD k 0=y at *;clear aB;go_enter Tryz.func57,Tryz.ntmps57;go_wp2_with fail
 go_quiet ((go_at_call 58;exact Calls.quiet_of_same (qja _ _ _)))
 go_wp2_with fail;go_ret;exact⟨rfl,_,rfl⟩
theorem q85(l:List Int)(i:Nat)(x:Int)(hi:i<l.length):(fun k=>if k=i then Value.int .i64 x else iv l k)=iv (l.set i x):=by
 funext k
 unfold iv;by_cases e:k=i
 ·subst e;simp[hi]
 ·rw[if_neg e];simp[Ne.symm e]
theorem Own.setInt{w:World}{g n:Nat}{l:List Int}(h:Own w g n (iv l))(i:Nat)(hi:i<n)(hl:n=l.length)(x:Int):Own (w.setCell ⟨g,i,none⟩ (.int .i64 x)) g n (iv (l.set i x)):=by
 rw[←q85 l i x (by omega)];exact h.set i hi _
private theorem Own.drewN{w:World}{g n:Nat}{f:Nat→Value}(h:Own w g n f)(q:Nat):Own (w.drewN q) g n f:=h.later (below_drewN (zan _ _) q)
def q0v(F:FuncId)(caps:Array Value)(c:Int→Int→Int)(D:Int→Prop)(W:World):Prop:=
 ∀x y,D x→D y→Calls Tryz.prog F (#[.int .i64 x,.int .i64 y]++caps) W fun e w'=>e = .returned (.int .i64 (c x y))∧∃q,w'=W.drewN q
def qnn(c:Int→Int→Int)(x y:Int):Bool:=decide (c x y<0)
theorem q0w(lt:Int→Int→Bool)(xs:List Int):qf9 lt (xs.take 1)++xs.drop 1=xs:=by
 cases xs with
 | nil=>rfl
 | cons x xs=>simp[qf9,qim]
theorem qrd(g n cap:Nat)(xs:List Int)(a:Addr)(c:Int→Int→Int)(D:Int→Prop)(w:World)(ho:Own w g n (iv xs))(hn:xs.length=n)(dR:1≤n)(_hn2:n≤1048576)(hD:∀x ∈ xs,D x)
  (hc:∀W,qe6 g w W→q0v 57 #[.pointer (some a)] c D W) (aP:n≤cap) (jJ:cap≤maxLen):
  Calls Tryz.prog 156 #[.slice (some ⟨g,0,none⟩) n cap,.int .i64 0,.int .i64 n,.func (.func 57) #[] #[.pointer (some a)]] w
   fun e w'=>e = .returned (.tuple #[])∧Own w' g n (iv (qf9 (qnn c) xs))∧qe6 g w w':=by
 unfold maxLen at jJ;have HO:=hid ho;have HN:=hid hn;have HC:=hid hc;have HD:=hid hD;clear ho hn hc hD;go_enter Tryz.func156,Tryz.ntmps156;go_wp2_with fail
 go_loopw [8] (fun i wr=>∃k:Nat,1≤k∧k≤n∧i = .int .i64 k∧Hid (Own wr g n (iv (qf9 (qnn c) (xs.take k)++xs.drop k)))∧Hid (qe6 g w wr)) (fun i _=>n-(intOf i).toNat)
 case atStart=>exact⟨1,zap _,dR,rfl,hid (HO.out.congr fun q hq=>by rw[q0w _ xs]),hid (qe6.refl _ _)⟩
 case round=>
  obtain⟨k,kA,hk,rfl,HR,HB⟩:=hrel;by_cases bI:k<n
  ·obtain⟨s,hs⟩:∃s,s=qf9 (qnn c) (xs.take k):=⟨_,rfl⟩
   have iD:s.length=k:=by rw[hs,qms,List.length_take,HN.out];omega
   have hkx:k<xs.length:=by rw[HN.out];exact bI
   obtain⟨x,hx⟩:∃x,x=xs[k]:=⟨_,rfl⟩;obtain⟨tl,tR⟩:∃tl,tl=xs.drop (k+1):=⟨_,rfl⟩;have Hk:xs.drop k=x::tl:=by rw[hx,tR];exact List.drop_eq_getElem_cons hkx
   have HDX:Hid (D x):=hid (HD.out x (by rw[hx];exact List.getElem_mem _))
   have HDS:Hid (∀m,m<k→D (s.getD m 0)):=hid fun m hm=>HD.out _ (by
    have h1:m<s.length:=by omega
    rw[zaw,zau h1,Option.getD_some];have h2:s[m] ∈ qf9 (qnn c) (xs.take k):=by rw[←hs];exact List.getElem_mem _
    exact List.mem_of_mem_take ((qlw _ _).mem_iff.1 h2))
   have jK:Hid (qf9 (qnn c) (xs.take (k+1))++xs.drop (k+1)=qim (qnn c) s x k++tl):=hid (by
    rw[List.take_succ_eq_append_getElem hkx,qp2,←hs,←tR,←hx,iD])
   have tE:Hid (Own wr g n (iv (s.take k++x::s.drop k++tl))):=hid (HR.out.congr fun q hq=>by
    rw[←hs,Hk,←iD,List.take_length,List.drop_length];simp)
   have bH:=hid iD;have aU:Hid (n=s.length+1+tl.length):=hid (by rw[tR,iD,List.length_drop,HN.out];omega);clear hs iD hx tR Hk hkx HR;obtain⟨wo,rfl⟩:∃wo:World,wo=wr:=⟨_,rfl⟩;go_wp2_with fail
   go_loopw [9] (fun j wr=>∃m:Nat,m≤k∧j = .int .i64 m∧Hid (Own wr g n (iv (s.take m++x::s.drop m++tl)))∧Hid (qim (qnn c) s x k=qim (qnn c) s x m)∧Hid (qe6 g w wr)) (fun j _=>(intOf j).toNat)
   case atStart=>exact⟨k,zap _,rfl,tE,hid rfl,HB⟩
   case round=>
    obtain⟨m,hm,rfl,HV,HI,aR⟩:=hrel;by_cases pU:m=0
    ·subst pU
     have HF:Hid (Own wr g n (iv (qf9 (qnn c) (xs.take (k+1))++xs.drop (k+1)))):=hid (by rw[jK.out,HI.out,qxk];exact HV.out);go_wp2_with fail
     go_quiet (fail)
     go_wp2_with fail;go_roundw
     case rel=>exact⟨k+1,by omega,by omega,by go_num,hid (HF.out.drewN _),hid (aR.out.drewN _)⟩
     case measure=>simp[intOf];omega
    ·obtain⟨p,rfl⟩:∃p,m=p+1:=⟨m-1,by omega⟩
     have Ny:p<s.length:=by have:=bH.out;omega
     have hpn:p<n:=by omega
     have Sq:p+1<n:=by omega
     obtain⟨fC,hf0⟩:=HV.out.2 p hpn;obtain⟨bP,hf1⟩:=HV.out.2 (p+1) Sq
     have e0:iv (s.take (p+1)++x::s.drop (p+1)++tl) p = .int .i64 (s.getD p 0):=by
      unfold iv;rw[qui s tl x p Ny]
     have e1:iv (s.take (p+1)++x::s.drop (p+1)++tl) (p+1) = .int .i64 x:=by
      unfold iv;rw[qr8 s tl x (p+1) (by omega)]
     rw[e0] at fC;rw[e1] at bP;have fJ:=hid (fun q=>(HC.out (wr.drewN q) (aR.out.drewN q)) x (s.getD p 0) HDX.out (HDS.out p (by omega)));have HY:=hid (qzr (qnn c) s x p);have yN:=hid (q3v (qnn c) s x p);have lV:Hid (qnn c x (s.getD p 0)=decide (c x (s.getD p 0)<0)):=hid rfl;have pX:=hid (qzq s tl x p Ny)
     have oE:Hid (n=(s.take (p+1)++x::s.drop (p+1)++tl).length):=hid (by
      rw[List.length_append,List.length_append,List.length_take,List.length_cons,List.length_drop,Nat.min_eq_left (by omega)]
      have:=aU.out;omega)
     clear e0 e1;generalize s.getD p 0=y at *;generalize c x y=r at *;by_cases hr:r<0
     ·have HE:Hid (qim (qnn c) s x k=qim (qnn c) s x p):=hid (by rw[HI.out,HY.out (by rw[lV.out];exact zas hr)])
      have cO:Hid (∀W,Own W g n (iv (s.take (p+1)++x::s.drop (p+1)++tl))→Own ((W.setCell ⟨g,p+1,none⟩ (.int .i64 y)).setCell ⟨g,p,none⟩ (.int .i64 x)) g n (iv (s.take p++x::s.drop p++tl))):=hid fun W hW=>by
       rw[←pX.out];exact(hW.setInt (p+1) Sq oE.out y).setInt p hpn (by rw[List.length_set];exact oE.out) x
      clear Ny;go_wp2_with fail
      go_quiet ((go_at_call 57;exact Calls.quiet_of (fJ.out _)))
      go_wp2_with fail
      go_region
      go_wp2_with fail;go_roundw
      case rel=>exact⟨p,by omega,by go_num,hid (cO.out _ (HV.out.drewN _)),HE,hid (((aR.out.drewN _).set _ _).set _ _)⟩
      case measure=>simp[intOf]
     ·have HE:Hid (Own wr g n (iv (qf9 (qnn c) (xs.take (k+1))++xs.drop (k+1)))):=hid (by
       rw[jK.out,HI.out,yN.out (by rw[lV.out];exact zar hr)];exact HV.out)
      clear Ny;go_wp2_with fail
      go_quiet ((go_at_call 57;exact Calls.quiet_of (fJ.out _)))
      go_wp2_with fail;go_roundw
      case rel=>exact⟨k+1,by omega,by omega,by go_num,hid (HE.out.drewN _),hid (aR.out.drewN _)⟩
      case measure=>simp[intOf];omega
  ·have jG:k=n:=by omega
   have HF:Hid (Own wr g n (iv (qf9 (qnn c) xs))):=hid (HR.out.congr fun q hq=>by
    rw[jG,←HN.out,List.take_length,List.drop_length,List.append_nil])
   go_wp2_with fail
   go_end0
   exact⟨rfl,HF.out,HB.out⟩
theorem qyf(g n cap:Nat)(xs:List Int)(a:Addr)(c:Int→Int→Int)(D:Int→Prop)(w:World)(ho:Own w g n (iv xs))(hn:xs.length=n)(dR:1≤n)(jC:n≤19)(hD:∀x ∈ xs,D x)
  (hc:∀W,qe6 g w W→q0v 57 #[.pointer (some a)] c D W) (aP:n≤cap) (jJ:cap≤maxLen):
  Calls Tryz.prog 101 #[.slice (some ⟨g,0,none⟩) n cap,.int .i64 n,.func (.func 57) #[] #[.pointer (some a)]] w
   fun e w'=>e = .returned (.tuple #[])∧Own w' g n (iv (qf9 (qnn c) xs))∧qe6 g w w':=by
 have HI:=hid (qrd g n cap xs a c D w ho hn dR (by omega) hD hc aP jJ);clear ho hn hc hD jJ;go_enter Tryz.func101,Tryz.ntmps101;go_wp2_with fail
 go_loopw [7,8] (fun i j wr=>i = .int .i64 0∧j = .int .i64 20∧wr=w) (fun _ _ _=>0)
 case atStart=>exact⟨rfl,rfl,rfl⟩
 case round=>
  obtain⟨rfl,rfl,rfl⟩:=hrel;go_wp2_with fail;refine HI.out.mono ?_;rintro e w1 ⟨rfl,hs,ho⟩;have HS:=hid hs;have HO:=hid ho;clear hs ho;go_wp2_with fail
  go_loopw [6] (fun i wr=>i = .int .i64 20∧wr=w1) (fun _ _=>0)
  case atStart=>exact⟨rfl,rfl⟩
  case round=>
   obtain⟨rfl,rfl⟩:=hrel;go_wp2_with fail
   go_end0
   exact⟨rfl,HS.out,HO.out⟩
theorem qpt(g n cap:Nat)(xs:List Int)(a:Addr)(c:Int→Int→Int)(D:Int→Prop)(w:World)(ho:Own w g n (iv xs))(hn:xs.length=n)(dR:1≤n)(jC:n≤19)(hD:∀x ∈ xs,D x)
  (hc:∀W,qe6 g w W→q0v 57 #[.pointer (some a)] c D W) (aP:n≤cap) (jJ:cap≤maxLen):
  Calls Tryz.prog 56 #[.slice (some ⟨g,0,none⟩) n cap,.func (.func 57) #[] #[.pointer (some a)]] w
   fun e w'=>e = .returned (.tuple #[])∧Own w' g n (iv (qf9 (qnn c) xs))∧qe6 g w w':=by
 have HI:=hid (qyf g n cap xs a c D w ho hn dR jC hD hc aP jJ);clear ho hn hc hD jJ;go_enter Tryz.func56,Tryz.ntmps56;go_wp2_with fail;refine HI.out.mono ?_;rintro e w1 ⟨rfl,hs,ho⟩;have HS:=hid hs;have HO:=hid ho;clear hs ho;go_wp2_with fail
 go_end0
 exact⟨rfl,HS.out,HO.out⟩
def qe8(n:Nat):Obj := .cells (madeCells #[.int .i64 0] n) 3
theorem q4p(w:World)(n:Nat):Own (w.alloc (qe8 n)) w.heap.size n (iv (List.replicate n 0)):=by
 refine⟨by rw[zao];omega,fun i hi => ?_⟩;unfold qe8;rw[World.cell?_alloc_at _ _ _ _ rfl,World.frozen?_alloc_at _ _ _ _ rfl];refine⟨?_,rfl⟩;rw[←Array.getElem?_toList,toList_madeCells_one];unfold iv;simp[hi]
theorem qlb(n:Nat)(h:n≤1048576)(w:World):
  (Instr.makeSlice 23 (.int .i64 (n:Int)) (.int .i64 (n:Int))).run Tryz.prog w = .ok (.slice (some ⟨w.heap.size,0,none⟩) n n) (w.alloc (qe8 n)):=
 run_make_row' (P:=Tryz.prog) 23 3 (.int .i64 0) 8 Tryz.underlying23 (by kernel_rfl) rfl .i64 .i64 n (by omega) (by omega) w
def q7i(w:World)(n:Nat)(s8 s9 s10:Value)(W:World):Prop:=
 ∃gp gr go ga:Nat,s8 = .slice (some ⟨gp,0,none⟩) n n∧s9 = .pointer (some ⟨ga,0,none⟩)∧s10 = .slice (some ⟨go,0,none⟩) n n∧Below w.heap.size w W∧
  (w.heap.size≤gp∧w.heap.size≤gr∧w.heap.size≤go∧w.heap.size≤ga)∧(gp≠gr∧gp≠go∧gp≠ga∧gr≠go∧gr≠ga∧go≠ga)∧
  Own W gp n (iv (List.replicate n 0))∧Own W gr n (iv (List.replicate n 0))∧Own W go n (iv (List.replicate n 0))∧Own W ga 1 (fun _ => .slice (some ⟨gr,0,none⟩) n n)
theorem qs3{W:World}{g n:Nat}{cs:Array Value}{t:TypeId}{f:Nat→Value}(h:W.heap[g]? = some (.cells cs t (0,0)))(hf:∀i,i<n→cs[i]? = some (f i)):Own W g n f:=by
 refine⟨(Array.getElem?_eq_some_iff.1 h).1,fun i hi=>⟨?_, ?_⟩⟩
 ·rw[cell_of_row W g i cs t (0,0) h];exact hf i hi
 ·simp[World.frozen?,h]
theorem qa8{W:World}{g n:Nat}(h:W.heap[g]? = some (qe8 n)):Own W g n (iv (List.replicate n 0)):=
 qs3 h fun i hi=>by
  rw[←Array.getElem?_toList,toList_madeCells_one];unfold iv;simp[hi]
theorem qdu{W:World}{g:Nat}{v:Value}{t:TypeId}(h:W.heap[g]? = some (.cells #[v] t)):Own W g 1 (fun _=>v):=
 qs3 h fun i hi=>by
  obtain rfl:i=0:=by omega
  rfl
theorem qu4(w:World)(o0 o1 o2 o3:Obj):
  (((((w.alloc o0).alloc o1).alloc o2).alloc o3).drew.heap[w.heap.size]? = some o0∧((((w.alloc o0).alloc o1).alloc o2).alloc o3).drew.heap[w.heap.size+1]? = some o1∧
   ((((w.alloc o0).alloc o1).alloc o2).alloc o3).drew.heap[w.heap.size+1+1]? = some o2∧((((w.alloc o0).alloc o1).alloc o2).alloc o3).drew.heap[w.heap.size+1+1+1]? = some o3)∧
  Below w.heap.size w ((((w.alloc o0).alloc o1).alloc o2).alloc o3).drew:=by
 refine⟨?_,(((zam _ _).alloc (by simp) _).alloc (by simp;omega) _ |>.alloc (by simp;omega) _).drew⟩
 have key:∀(V:World) (o:Obj) (k:Nat),k≠V.heap.size→(V.alloc o).heap[k]? = V.heap[k]? := fun V o k hk=>by
  show(V.heap.push o)[k]? = _;rw[Array.getElem?_push,if_neg hk]
 show(((((w.alloc o0).alloc o1).alloc o2).alloc o3).heap[w.heap.size]? = some o0)∧((((w.alloc o0).alloc o1).alloc o2).alloc o3).heap[w.heap.size+1]? = some o1∧((((w.alloc o0).alloc o1).alloc o2).alloc o3).heap[w.heap.size+1+1]? = some o2∧((((w.alloc o0).alloc o1).alloc o2).alloc o3).heap[w.heap.size+1+1+1]? = some o3;have s1:(w.alloc o0).heap.size=w.heap.size+1:=zao _ _;have s2:((w.alloc o0).alloc o1).heap.size=w.heap.size+1+1:=by rw[zao,s1]
 have s3:(((w.alloc o0).alloc o1).alloc o2).heap.size=w.heap.size+1+1+1:=by rw[zao,s2]
 refine⟨?_, ?_, ?_, ?_⟩
 ·rw[key _ _ _ (by omega),key _ _ _ (by omega),key _ _ _ (by omega)];exact heap_alloc_new _ _
 ·rw[key _ _ _ (by omega),key _ _ _ (by omega),←s1];exact heap_alloc_new _ _
 ·rw[key _ _ _ (by omega),←s2];exact heap_alloc_new _ _
 ·rw[←s3];exact heap_alloc_new _ _
def upTo(L:List Int)(k:Nat):List Int:=L.take k++List.replicate (L.length-k) 0
theorem qos(L:List Int):upTo L 0=List.replicate L.length 0:=by simp[upTo]
theorem qre(L:List Int):upTo L L.length=L:=by simp[upTo]
theorem qu5(L:List Int)(k:Nat)(h:k≤L.length):(upTo L k).length=L.length:=by simp[upTo];omega
theorem q4q(L:List Int)(k:Nat)(h:k<L.length):(upTo L k).set k (L.getD k 0)=upTo L (k+1):=by
 unfold upTo;have hl:(L.take k).length=k:=by rw[List.length_take];omega
 obtain⟨m,hm⟩:∃m,L.length-k=m+1:=⟨L.length-k-1,by omega⟩;have hU:L.length-(k+1)=m:=by omega
 rw[List.set_append_right _ _ (by omega),hl,Nat.sub_self,hm,hU,List.replicate_succ,List.set_cons_zero,List.take_succ_eq_append_getElem h,zaw,zau h,Option.getD_some,List.append_assoc];rfl
theorem Own.upTo{W:World}{g n:Nat}{L:List Int}{k:Nat}(h:Own W g n (iv (Go.Proofs.YtclimablgihlhaaGreatDoor.upTo L k)))(hn:L.length=n)(hk:k<n){x:Int}(hx:L.getD k 0=x):Own (W.setCell ⟨g,k,none⟩ (.int .i64 x)) g n (iv (Go.Proofs.YtclimablgihlhaaGreatDoor.upTo L (k+1))):=by
 rw[←q4q L k (by omega),hx];exact h.setInt k hk (by rw[qu5 _ _ (by omega),hn]) x
def qmf(w:World)(n:Nat)(gp gr go ga:Nat)(P R O:List Int)(W:World):Prop:=
 Below w.heap.size w W∧Own W gp n (iv P)∧Own W gr n (iv R)∧Own W go n (iv O)∧Own W ga 1 (fun _ => .slice (some ⟨gr,0,none⟩) n n)
def qkd(t S:Int)(l:List Int):List Int:=l.map fun x=>t*x/S
def q4r(t S:Int)(l:List Int):List Int:=l.map fun x=>t*x % S
def places(n:Nat):List Int:=(List.range n).map fun i:Nat=>(i:Int)
theorem qwv(t S:Int)(l:List Int)(k:Nat)(h:k<l.length):(qkd t S l).getD k 0=t*l.getD k 0/S:=by simp[qkd,h]
theorem q4s(t S:Int)(l:List Int)(k:Nat)(h:k<l.length):(q4r t S l).getD k 0=t*l.getD k 0 % S:=by simp[q4r,h]
theorem qyg(n k:Nat)(h:k<n):(places n).getD k 0=k:=by simp[places,h]
theorem Own.setOther{W:World}{g g' n:Nat}{f:Nat→Value}(h:Own W g n f)(hne:g'≠g)(o:Nat)(v:Value):Own (W.setCell ⟨g',o,none⟩ v) g n f:=
 ((qe6.refl g' W).set o v).own h (Ne.symm hne)
theorem qs4{w W:World}{n gp gr go ga k:Nat}{P R O:List Int}{q r:Int}{k':Int}(h:qmf w n gp gr go ga (upTo P k) (upTo R k) (upTo O k) W)(hn:w.heap.size≤gp∧w.heap.size≤gr∧w.heap.size≤go∧w.heap.size≤ga)
  (hd:gp≠gr∧gp≠go∧gp≠ga∧gr≠go∧gr≠ga∧go≠ga) (hP:P.length=n) (hR:R.length=n) (hO:O.length=n) (hk:k<n) (hq:P.getD k 0=q) (hr:R.getD k 0=r) (ho:O.getD k 0=k'):
  qmf w n gp gr go ga (upTo P (k+1)) (upTo R (k+1)) (upTo O (k+1)) ((((W.setCell ⟨gp,k,none⟩ (.int .i64 q)).setCell ⟨gr,k,none⟩ (.int .i64 r)).setCell ⟨go,k,none⟩ (.int .i64 k')).drew):=by
 obtain⟨h1,h2,h3,h4,h5⟩:=h;obtain⟨d1,d2,d3,d4,d5,d6⟩:=hd;obtain⟨n1,n2,n3,n4⟩:=hn;have Kc:∀(V:World) (B:Nat),Below B V V.drew:=fun V B=>(zan _ _).drew;refine⟨(((h1.setCell (p:=⟨gp,k,none⟩) n1 _).setCell (p:=⟨gr,k,none⟩) n2 _).setCell (p:=⟨go,k,none⟩) n3 _).drew, ?_, ?_, ?_, ?_⟩
 ·exact Own.later (((h2.upTo hP hk hq).setOther (Ne.symm d1) _ _).setOther (Ne.symm d2) _ _) (Kc _ _)
 ·exact Own.later (((h3.setOther d1 _ _).upTo hR hk hr).setOther (Ne.symm d4) _ _) (Kc _ _)
 ·exact Own.later (((h4.setOther d2 _ _).setOther d4 _ _).upTo hO hk ho) (Kc _ _)
 ·exact Own.later (((h5.setOther d3 _ _).setOther d5 _ _).setOther d6 _ _) (Kc _ _)
theorem qww(t S:Int)(l:List Int)(ht:0≤t)(hS:0<S)(hl:∀x ∈ l,wIn x=true):0≤(qkd t S l).sum∧S*(qkd t S l).sum≤t*l.sum∧t*l.sum≤S*(qkd t S l).sum+l.length*(S-1):=by
 induction l with
 | nil=>simp[qkd]
 | cons x l ih=>
  obtain⟨h1,h2,h3⟩:=ih fun y hy=>hl y (by simp[hy]);have hx:=qiq.1 (hl x (by simp));have pU:0≤t*x:=Int.mul_nonneg ht hx.1;have iC:0≤t*x/S:=Int.ediv_nonneg pU (by omega);have hd:=Int.mul_ediv_add_emod (t*x) S;have rX:=Int.emod_nonneg (t*x) (show S≠0 by omega);have hr1:=Int.emod_lt_of_pos (t*x) hS;show 0≤(t*x/S::qkd t S l).sum∧S*(t*x/S::qkd t S l).sum≤t*(x::l).sum∧t*(x::l).sum≤S*(t*x/S::qkd t S l).sum+((x::l).length:Nat)*(S-1);simp only[List.sum_cons,List.length_cons];have e1:S*(t*x/S+(qkd t S l).sum)=S*(t*x/S)+S*(qkd t S l).sum:=Int.mul_add _ _ _;have e2:t*(x+l.sum)=t*x+t*l.sum:=Int.mul_add _ _ _
  have e3:((l.length+1:Nat):Int)*(S-1)=(l.length:Int)*(S-1)+(S-1):=by
   rw[Int.natCast_add,Int.add_mul];simp
  rw[e1,e2,e3];generalize S*(t*x/S)=a at *;generalize S*(qkd t S l).sum=b at *;generalize t*l.sum=c at *;generalize (l.length:Int)*(S-1)=d at *;omega
theorem qot(l:List Int)(hl:∀x ∈ l,wIn x=true)(k:Nat):(l.take k).sum≤l.sum:=by
 conv=>rhs;rw[←List.take_append_drop k l,List.sum_append]
 have:=(qfd (l.drop k) fun x hx=>hl x (List.mem_of_mem_drop hx)).1;omega
theorem q0x(t S:Int)(l:List Int)(k:Nat):(qkd t S l).take k=qkd t S (l.take k):=by unfold qkd;rw[List.map_take]
theorem qrf(t S:Int)(l:List Int)(ht:0≤t)(hS:0<S)(hl:∀x ∈ l,wIn x=true)(hs:l.sum=S)(k:Nat):0≤((qkd t S l).take k).sum∧((qkd t S l).take k).sum≤t:=by
 rw[q0x];have qG:∀x ∈ l.take k,wIn x=true:=fun x hx=>hl x (List.mem_of_mem_take hx);obtain⟨h1,h2,_⟩:=qww t S (l.take k) ht hS qG;refine⟨h1, ?_⟩;have h3:=qot l hl k;rw[hs] at h3;have h4:t*(l.take k).sum≤t*S:=Int.mul_le_mul_of_nonneg_left h3 ht;rw[Int.mul_comm t S] at h4;exact Int.le_of_mul_le_mul_left (Int.le_trans h2 h4) hS
theorem q7j(t S:Int)(l:List Int)(ht:0≤t)(hS:0<S)(hl:∀x ∈ l,wIn x=true)(hs:l.sum=S)(mC:1≤l.length):t-(qkd t S l).sum<l.length:=by
 obtain⟨h1,h2,h3⟩:=qww t S l ht hS hl;rw[hs] at h3;rcases Int.lt_or_le (t-(qkd t S l).sum) l.length with h|h
 ·exact h
 ·exfalso
  have h4:S*((qkd t S l).sum+l.length)≤S*t:=Int.mul_le_mul_of_nonneg_left (by omega) (by omega);rw[Int.mul_add,Int.mul_comm S t] at h4;have h5:(l.length:Int)*(S-1)=S*l.length-l.length:=by rw[Int.mul_sub,Int.mul_comm];simp
  rw[h5] at h3;omega
def qu6(R:List Int)(x y:Int):Int:=qr9 (R.getD y.toNat 0) (R.getD x.toNat 0)
def qfz(qs:List Int)(is:List Int):List Int:=is.foldl (fun l i=>l.set i.toNat (l.getD i.toNat 0+1)) qs
theorem qqd(qs is:List Int)(i:Int):qfz qs (is++[i])=(qfz qs is).set i.toNat ((qfz qs is).getD i.toNat 0+1):=by
 unfold qfz;rw[List.foldl_append];rfl
theorem qm0(qs is:List Int):(qfz qs is).length=qs.length:=by
 induction is using qkt with
 | h0=>rfl
 | h1 l x ih=>rw[qqd,List.length_set,ih]
def qhi(t:Int)(l:List Int):List Int:=
 qfz (qkd t l.sum l) ((qf9 (qnn (qu6 (q4r t l.sum l))) (places l.length)).take (t-(qkd t l.sum l).sum).toNat)
theorem qs5(t:Int)(v:Value)(l:List Int)(w:World)(h:qn4 w v l)(hl:l.length≤19)(mC:1≤l.length)(kB:0≤t)(fB:t≤999999999)(he:qii l=0):
  Calls Tryz.prog 22 #[.int .i64 t,v] w fun e w'=>(∃g,w.heap.size≤g∧e = .returned (.tuple #[.slice (some ⟨g,0,none⟩) l.length l.length,.int .i64 0])∧Own w' g l.length (iv (qhi t l)))∧Below w.heap.size w w':=by
 have cN:=(qd4 v l w h (by omega)).mono (R':=fun e w'=>e = .returned (.tuple #[.int .i64 l.sum,.int .i64 0])∧w=w') (fun e w' ⟨h1,h2⟩=>by
  unfold qn6 at h1;rw[he] at h1;exact⟨h1,h2⟩)
 obtain⟨hw,gF⟩:=qn5 he;have HS:=hid cN;have HW:=hid hw;obtain⟨p,c,rfl,bP,bK,aA⟩:=h;obtain⟨b,o,rfl,aB⟩:=aA.resolve_left (by omega);unfold maxLen at bK;have bN:=hid aB;have hsb:=qfd l hw;have lS:=qlb l.length (by omega);generalize hS:l.sum=S at *;have Dk:=hid hS;clear hS cN hw aA aB he;generalize hN:l.length=n at *;have HN:=hid hN;clear hN;go_enter Tryz.func22,Tryz.ntmps22;go_wp2_with fail;refine HS.out.mono ?_;rintro e w1 ⟨rfl,rfl⟩;clear HS
 go_upto_region 10 with fail
 go_cut [8,9,10] (fun s8 s9 s10 wx=>q7i w n s8 s9 s10 wx)
 case first=>
  go_region
  all_goals(go_wp2_with fail;go_meet)
  all_goals
   obtain⟨⟨b0,b1,b2,b3⟩,hb⟩:=qu4 w _ _ _ _
   first
    | exact⟨_,w.heap.size,_,_,rfl,rfl,rfl,hb,⟨by omega,by omega,by omega,by omega⟩,⟨by omega,by omega,by omega,by omega,by omega,by omega⟩,by first|exact qa8 b0|exact qa8 b1|exact qa8 b2|exact qa8 b3,by first|exact qa8 b0|exact qa8 b1|exact qa8 b2|exact qa8 b3,by first|exact qa8 b0|exact qa8 b1|exact qa8 b2|exact qa8 b3,by first|exact qdu b0|exact qdu b1|exact qdu b2|exact qdu b3⟩
    | exact⟨_,w.heap.size+1,_,_,rfl,rfl,rfl,hb,⟨by omega,by omega,by omega,by omega⟩,⟨by omega,by omega,by omega,by omega,by omega,by omega⟩,by first|exact qa8 b0|exact qa8 b1|exact qa8 b2|exact qa8 b3,by first|exact qa8 b0|exact qa8 b1|exact qa8 b2|exact qa8 b3,by first|exact qa8 b0|exact qa8 b1|exact qa8 b2|exact qa8 b3,by first|exact qdu b0|exact qdu b1|exact qdu b2|exact qdu b3⟩
    | exact⟨_,w.heap.size+1+1,_,_,rfl,rfl,rfl,hb,⟨by omega,by omega,by omega,by omega⟩,⟨by omega,by omega,by omega,by omega,by omega,by omega⟩,by first|exact qa8 b0|exact qa8 b1|exact qa8 b2|exact qa8 b3,by first|exact qa8 b0|exact qa8 b1|exact qa8 b2|exact qa8 b3,by first|exact qa8 b0|exact qa8 b1|exact qa8 b2|exact qa8 b3,by first|exact qdu b0|exact qdu b1|exact qdu b2|exact qdu b3⟩
    | exact⟨_,w.heap.size+1+1+1,_,_,rfl,rfl,rfl,hb,⟨by omega,by omega,by omega,by omega⟩,⟨by omega,by omega,by omega,by omega,by omega,by omega⟩,by first|exact qa8 b0|exact qa8 b1|exact qa8 b2|exact qa8 b3,by first|exact qa8 b0|exact qa8 b1|exact qa8 b2|exact qa8 b3,by first|exact qa8 b0|exact qa8 b1|exact qa8 b2|exact qa8 b3,by first|exact qdu b0|exact qdu b1|exact qdu b2|exact qdu b3⟩
 case rest=>
  obtain⟨gp,gr,go,ga,rfl,rfl,rfl,hb,⟨n1,n2,n3,n4⟩,⟨d1,d2,d3,d4,d5,d6⟩,o1,o2,o3,o4⟩:=hcut;have kS:Hid ((qkd t S l).length=n):=hid (by unfold qkd;rw[List.length_map];exact HN.out);have mG:Hid ((q4r t S l).length=n):=hid (by unfold q4r;rw[List.length_map];exact HN.out);have iH:Hid ((places n).length=n):=hid (by unfold places;simp);have Nm:Hid (qmf w n gp gr go ga (upTo (qkd t S l) 0) (upTo (q4r t S l) 0) (upTo (places n) 0) wc):=hid ⟨hb,by rw[qos,kS.out];exact o1,by rw[qos,mG.out];exact o2,by rw[qos,iH.out];exact o3,o4⟩;clear hb o1 o2 o3 o4;have Od:1≤S:=by omega
  go_wp2_with fail
  go_loopw [11,51] (fun lf i wr=>∃k:Nat,k≤n∧i = .int .i64 k∧(∃z:Int,lf = .int .i64 z∧0≤z∧z≤t∧Hid (z=t-((qkd t S l).take k).sum))∧Hid (qmf w n gp gr go ga (upTo (qkd t S l) k) (upTo (q4r t S l) k) (upTo (places n) k) wr)) (fun _ i _=>n-(intOf i).toNat)
  case atStart=>exact⟨0,Nat.zero_le _,rfl,⟨t,rfl,kB,Int.le_refl _,hid (by simp)⟩,Nm⟩
  case round=>
   obtain⟨k,hk,rfl,⟨z,rfl,cT,dT,HZ⟩,HL⟩:=hrel;by_cases bI:k<n
   ·have aC:wr.cell? ⟨b,o+k,none⟩=some (iv l k):=by
     have h1:=bN.out k bI;rw[HL.out.1.cell (p:=⟨b,o+k,none⟩) (zaq w _ h1)];exact h1
    unfold iv at aC
    have HX:Hid (wIn (l.getD k 0)=true):=hid (HW.out _ (by
     have cV:k<l.length:=by rw[HN.out];exact bI
     rw[zaw,zau cV,Option.getD_some]
     exact List.getElem_mem _))
    have HQ:=hid (qwv t S l k (by rw[HN.out];exact bI));have HR:=hid (q4s t S l k (by rw[HN.out];exact bI));have HP:=hid (qyg n k bI);have Oe:=qiq.1 HX.out;obtain⟨Sg,hfp⟩:=HL.out.2.1.2 k bI;obtain⟨hcr,hfr⟩:=HL.out.2.2.1.2 k bI;obtain⟨hco,hfo⟩:=HL.out.2.2.2.1.2 k bI;obtain⟨hca,hfa⟩:=HL.out.2.2.2.2.2 0 (by omega);generalize l.getD k 0=x at *;obtain⟨oH,pL⟩:=Oe;have pU:0≤t*x:=Int.mul_nonneg kB oH;have gI:t*x≤999999998000000001:=Int.le_trans (Int.mul_le_mul fB pL oH (by omega)) (by omega);have Nd:=hid (qej (qkd t S l) k (by rw[kS.out];exact bI));have rQ:=qrf t S l kB (by omega) HW.out Dk.out (k+1);have iC:0≤t*x/S:=Int.ediv_nonneg pU (by omega);have dU:0≤z-t*x/S:=by have h1:=Nd.out;have h2:=HQ.out;have h3:=HZ.out;rw[h1,h2] at rQ;omega
    have fY:Hid (z-t*x/S=t-((qkd t S l).take (k+1)).sum):=hid (by rw[Nd.out,HQ.out,HZ.out];omega);have oE:Hid (qmf w n gp gr go ga (upTo (qkd t S l) (k+1)) (upTo (q4r t S l) (k+1)) (upTo (places n) (k+1)) ((((wr.setCell ⟨gp,k,none⟩ (.int .i64 (t*x/S))).setCell ⟨gr,k,none⟩ (.int .i64 (t*x % S))).setCell ⟨go,k,none⟩ (.int .i64 (k:Int))).drew)):=hid (qs4 HL.out ⟨n1,n2,n3,n4⟩ ⟨d1,d2,d3,d4,d5,d6⟩ kS.out mG.out iH.out bI HQ.out HR.out HP.out);clear rQ;go_wp2_with fail
    go_region
    go_wp2_with fail;go_roundw
    case rel=>exact⟨k+1,by omega,by go_num,⟨_,rfl,dU,by omega,fY⟩,oE⟩
    case measure=>simp[intOf];omega
   ·have jG:k=n:=by omega
    have xE:¬(k:Int)<(n:Int):=by omega
    obtain⟨R,hR⟩:∃R,R=q4r t S l:=⟨_,rfl⟩;obtain⟨Q,hQ⟩:∃Q,Q=qkd t S l:=⟨_,rfl⟩
    have rK:Hid (qmf w n gp gr go ga Q R (places n) wr):=hid (by
     have h1:=HL.out;rw[jG,←hR,←hQ] at h1;rw[←hR] at mG;rw[←hQ] at kS;have e1:upTo Q n=Q:=by rw[←kS.out,qre]
     have e2:upTo R n=R:=by rw[←mG.out,qre]
     have e3:upTo (places n) n=places n:=by
      have:=qre (places n)
      rwa [iH.out] at this
     rw[e1,e2,e3] at h1
     exact h1)
    have HZL:Hid (z=t-Q.sum):=hid (by rw[HZ.out,jG,hQ,←kS.out,List.take_length])
    have Nt:z<n:=by
     have h1:=q7j t S l kB (by omega) HW.out Dk.out (by rw[HN.out];exact mC);have h2:=HZL.out;rw[←hQ,HN.out] at h1;omega
    have oK:Hid (∀i,i<n→0≤Q.getD i 0∧Q.getD i 0≤999999999):=hid fun i hi=>by
     have Pb:i<l.length:=by rw[HN.out];exact hi
     rw[hQ,qwv t S l i Pb]
     have hx:=qiq.1 (HW.out (l.getD i 0) (by
      rw[zaw,zau Pb,Option.getD_some];exact List.getElem_mem _))
     have hxs:l.getD i 0≤S:=by
      have h1:=qej l i Pb;have h2:=qot l HW.out (i+1);have h3:=(qfd (l.take i) fun x hx=>HW.out x (List.mem_of_mem_take hx)).1;have h4:=Dk.out;omega
     generalize l.getD i 0=x at *;have h0:0≤t*x:=Int.mul_nonneg kB hx.1;refine⟨Int.ediv_nonneg h0 (by omega), ?_⟩;have h1:t*x≤t*S:=Int.mul_le_mul_of_nonneg_left hxs kB;have h2:t*x/S≤t*S/S:=Int.ediv_le_ediv (by omega) h1;rw[Int.mul_ediv_cancel _ (by omega)] at h2;omega
    have Kv:Hid (qhi t l=qfz Q ((qf9 (qnn (qu6 R)) (places n)).take z.toNat)):=hid (by
     have e1:=Dk.out;have e2:=HN.out;unfold qhi
     rw[e1,e2,←hQ,←hR,←HZL.out])
    have yI:Hid (∀j x,(qf9 (qnn (qu6 R)) (places n))[j]? = some x→∃i:Nat,i<n∧x=(i:Int)):=hid fun j x hj=>by
     have h1:=(qlw (qnn (qu6 R)) (places n)).mem_iff.1 (zax hj);unfold places at h1;simp only[List.mem_map,List.mem_range] at h1;obtain⟨i,hi,rfl⟩:=h1;exact⟨i,hi,rfl⟩
    have HOL:Hid ((qf9 (qnn (qu6 R)) (places n)).length=n):=hid (by rw[qms];exact iH.out)
    have Hl:=hid (qpt go n n (places n) ⟨ga,0,none⟩ (qu6 R) (fun x=>∃i:Nat,i<n∧x=(i:Int)) wr rK.out.2.2.2.1 iH.out mC hl (fun x hx=>by
     unfold places at hx;simp only[List.mem_map,List.mem_range] at hx;obtain⟨i,hi,rfl⟩:=hx
     exact⟨i,hi,rfl⟩) (fun W hW x y hx hy=>by
     obtain⟨i,hi,rfl⟩:=hx;obtain⟨j,hj,rfl⟩:=hy;have h1:=hW.own rK.out.2.2.2.2 (Ne.symm d6);have h2:=hW.own rK.out.2.2.1 d4;have h3:=q4o i j ⟨ga,0,none⟩ gr n n R W (h1.2 0 (by omega)).1 (fun q hq=>(h2.2 q hq).1) hi hj (by omega)
     exact h3) (zap _) (by unfold maxLen;omega))
    have sK:Hid (Q.length=n):=hid (by rw[hQ];exact kS.out);generalize qf9 (qnn (qu6 R)) (places n)=OS at *;clear hQ hR HZ HL kS mG jG;go_wp2_with fail;refine Hl.out.mono ?_;rintro e w1 ⟨rfl,ho,hb⟩;have jS:=hid ho;have zP:=hid (hb.own rK.out.2.1 d2);have aQ:=hid (rK.out.1.trans (hb.below n3));clear ho hb Hl;obtain⟨m,rfl⟩:∃m:Nat,z=m:=⟨z.toNat,by omega⟩;have Fv:m≤n:=by omega
    go_wp2_with fail;clear cT dT
    go_loopw [90] (fun i wr=>∃k:Nat,k≤m∧i = .int .i64 k∧Hid (Own wr gp n (iv (qfz Q (OS.take k))))∧Hid (∀i,i<n→0≤(qfz Q (OS.take k)).getD i 0∧(qfz Q (OS.take k)).getD i 0≤999999999+k)∧Hid (qe6 gp w1 wr)) (fun i _=>m-(intOf i).toNat)
    case atStart=>exact⟨0,Nat.zero_le _,rfl,zP,hid (fun i hi=>by have:=oK.out i hi;show 0≤Q.getD i 0∧Q.getD i 0≤999999999+((0:Nat):Int);omega),hid (qe6.refl _ _)⟩
    case round=>
     obtain⟨j,hj,rfl,HBU,aX,Dc⟩:=hrel;by_cases hjm:j<m
     ·have pM:j<n:=by omega
      obtain⟨hco,_⟩:=(Dc.out.own jS.out (Ne.symm d2)).2 j pM;have hol:j<OS.length:=by rw[HOL.out];exact pM
      have yU:OS[j]? = some OS[j]:=zau hol;obtain⟨i,Kl,hi⟩:=yI.out j _ yU
      have hiv:iv OS j = .int .i64 (i:Int):=by
       unfold iv;rw[zaw,yU,Option.getD_some,hi]
      have nY:Hid (OS.take (j+1)=OS.take j++[(i:Int)]):=hid (by rw[List.take_succ_eq_append_getElem hol,hi]);rw[hiv] at hco;obtain⟨Sg,hfp⟩:=HBU.out.2 i Kl;have tH:=aX.out i Kl;unfold iv at Sg;have cJ:=hid (HBU.out.setInt i Kl (by rw[qm0];exact sK.out.symm) ((qfz Q (OS.take j)).getD i 0+1));have jK:Hid (qfz Q (OS.take (j+1))=(qfz Q (OS.take j)).set i ((qfz Q (OS.take j)).getD i 0+1)):=hid (by rw[nY.out,qqd];rfl)
      have kK:Hid (∀i,i<n→0≤(qfz Q (OS.take (j+1))).getD i 0∧(qfz Q (OS.take (j+1))).getD i 0≤999999999+((j+1:Nat):Int)):=hid fun q hq=>by
       have h1:=aX.out q hq;rw[jK.out];by_cases e:q=i
       ·subst e
        have jB:q<(qfz Q (OS.take j)).length:=by rw[qm0,sK.out];exact hq
        have:((qfz Q (OS.take j)).set q ((qfz Q (OS.take j)).getD q 0+1)).getD q 0=(qfz Q (OS.take j)).getD q 0+1:=by simp[jB]
        rw[this];omega
       ·have:((qfz Q (OS.take j)).set i ((qfz Q (OS.take j)).getD i 0+1)).getD q 0=(qfz Q (OS.take j)).getD q 0:=by simp[Ne.symm e]
        rw[this];omega
      clear yU hiv hi hol;generalize (qfz Q (OS.take j)).getD i 0=y at *;obtain⟨Ov,rT⟩:=tH;go_wp2_with fail;go_roundw
      case rel=>exact⟨j+1,by omega,by go_num,hid (by rw[jK.out];exact cJ.out),kK,hid (Dc.out.set _ _)⟩
      case measure=>simp[intOf];omega
     ·have hjm2:j=m:=by omega
      have aG:Hid (Own wr gp n (iv (qhi t l))):=hid (by
       rw[Kv.out,←hjm2]
       exact HBU.out)
      have pG:Hid (Below w.heap.size w wr):=hid (aQ.out.trans (Dc.out.below n1));go_wp2_with fail;go_ret2;exact⟨⟨gp,n1,rfl,aG.out⟩,pG.out⟩
def qpu(t:Int)(l:List Int):Nat:=
 if t<0∨999999999<t then 3 else if l.length=0 then 2 else if 256<l.length then 5 else qii l
def q0y(t:Int)(l:List Int)(w:World)(e:Ending)(w':World):Prop:=
 (if qpu t l=0 then ∃g,w.heap.size≤g∧e = .returned (.tuple #[.slice (some ⟨g,0,none⟩) l.length l.length,.int .i64 0])∧Own w' g l.length (iv (qhi t l))
  else e = .returned (.tuple #[.slice none 0 0,.int .i64 (qpu t l:Nat)]))∧Below w.heap.size w w'
theorem qno{t:Int}{l:List Int}{w:World}{k:Nat}{z:Int}(h:qpu t l=k)(hk:k≠0)(hz:z=k):q0y t l w (.returned (.tuple #[.slice none 0 0,.int .i64 z])) w:=by
 unfold q0y;rw[h,if_neg hk,hz];exact⟨rfl,zan _ _⟩
theorem qou(t:Int)(v:Value)(l:List Int)(w:World)(_h:qn4 w v l)(ht:t<0∨999999999<t):Calls Tryz.prog 22 #[.int .i64 t,v] w (q0y t l w):=by
 have HF:Hid (q0y t l w (.returned (.tuple #[.slice none 0 0,.int .i64 3])) w):=hid (qno (k:=3) (by unfold qpu;rw[if_pos ht]) (by omega) rfl);clear _h;rcases ht with ht|ht
 ·go_enter Tryz.func22,Tryz.ntmps22
  go_wp2_with fail;go_ret2;exact HF.out
 ·have iS:¬t<0:=by omega
  go_enter Tryz.func22,Tryz.ntmps22;go_wp2_with fail;go_ret2;exact HF.out
theorem qrg(t:Int)(v:Value)(l:List Int)(w:World)(h:qn4 w v l)(kB:0≤t)(fB:t≤999999999)(hl:l.length=0∨256<l.length):Calls Tryz.prog 22 #[.int .i64 t,v] w (q0y t l w):=by
 obtain⟨p,c,rfl,bP,bK,aA⟩:=h;unfold maxLen at bK;clear aA;rcases hl with hl|hl
 ·have HF:Hid (q0y t l w (.returned (.tuple #[.slice none 0 0,.int .i64 2])) w):=hid (qno (k:=2) (by unfold qpu;rw[if_neg (by omega),if_pos hl]) (by omega) rfl)
  have hb:((l.length:Int)==0)=true:=by rw[hl];rfl
  clear hl;go_enter Tryz.func22,Tryz.ntmps22;go_wp2_with fail;go_ret2;exact HF.out
 ·have HF:Hid (q0y t l w (.returned (.tuple #[.slice none 0 0,.int .i64 5])) w):=hid (qno (k:=5) (by unfold qpu;rw[if_neg (by omega),if_neg (by omega),if_pos hl]) (by omega) rfl)
  have hb:((l.length:Int)==0)=false:=zat (by omega);go_enter Tryz.func22,Tryz.ntmps22;go_wp2_with fail;go_ret2;exact HF.out
theorem qmg(t:Int)(v:Value)(l:List Int)(w:World)(h:qn4 w v l)(kB:0≤t)(fB:t≤999999999)(lT:l.length≠0)(mC:l.length≤256)(he:qii l≠0):Calls Tryz.prog 22 #[.int .i64 t,v] w (q0y t l w):=by
 have HS:=hid ((qd4 v l w h (by omega)).mono (R':=fun e w'=>e = .returned (.tuple #[.int .i64 0,.int .i64 (qii l:Nat)])∧w=w') (fun e w' ⟨h1,h2⟩=>by
  unfold qn6 at h1;rw[if_neg he] at h1;exact⟨h1,h2⟩))
 obtain⟨p,c,rfl,bP,bK,aA⟩:=h;unfold maxLen at bK;clear aA;have HF:Hid (q0y t l w (.returned (.tuple #[.slice none 0 0,.int .i64 (qii l:Nat)])) w):=hid (qno (by unfold qpu;rw[if_neg (by omega),if_neg lT,if_neg (by omega)]) he rfl);have hb:((l.length:Int)==0)=false:=zat (by omega);have dL:(((qii l:Nat):Int)==0)=false:=zat (by omega);clear he lT;generalize qii l=k at *;go_enter Tryz.func22,Tryz.ntmps22;go_wp2_with fail;refine HS.out.mono ?_;rintro e w1 ⟨rfl,rfl⟩;clear HS;go_wp2_with fail;go_ret2;exact HF.out
theorem qrh(t:Int)(v:Value)(l:List Int)(w:World)(h:qn4 w v l)(hl:l.length≤19∨qpu t l≠0):Calls Tryz.prog 22 #[.int .i64 t,v] w (q0y t l w):=by
 by_cases ht:t<0∨999999999<t
 ·exact qou t v l w h ht
 by_cases hn:l.length=0∨256<l.length
 ·exact qrg t v l w h (by omega) (by omega) hn
 by_cases he:qii l=0
 ·have h0:qpu t l=0:=by unfold qpu;rw[if_neg ht,if_neg (by omega),if_neg (by omega),he]
  refine(qs5 t v l w h (hl.resolve_right (fun h=>h h0)) (by omega) (by omega) (by omega) he).mono fun e w' h1 => ?_;unfold q0y;rw[if_pos h0];exact h1
 ·exact qmg t v l w h (by omega) (by omega) (by omega) (by omega) he
end Go.Proofs.YtclimablgihlhaaGreatDoor
namespace Go.Proofs.YtclimablgihlhaaGreatDoor
set_option maxRecDepth 100000
set_option maxHeartbeats 4000000
end Go.Proofs.YtclimablgihlhaaGreatDoor
