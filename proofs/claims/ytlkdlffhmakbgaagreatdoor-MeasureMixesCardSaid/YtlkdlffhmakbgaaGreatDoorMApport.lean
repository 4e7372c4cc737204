/- The stable sort of places by their remainders. -/
import Derived.Test.YtlkdlffhmakbgaaGreatDoorMMaths
import Derived.Test.YtlkdlffhmakbgaaGreatDoorMBase
import Derived.RegionTactic
import Derived.ChangeAlike
import Derived.Outline
import Derived.Deep.DeepCutAuto
set_option linter.all false
namespace Go.Proofs.YtlkdlffhmakbgaaGreatDoor
open Go.RowKit
set_option maxRecDepth 100000
set_option maxHeartbeats 4000000
theorem q5m(i k:Nat)(a:Addr)(g n c:Nat)(rs:List Int)(w:World)(ha:w.cell? a=some (.slice (some ⟨g,0,none⟩) n c))(aB:∀j,j<n→w.cell? ⟨g,j,none⟩=some (iv rs j))(hi:i<n)(hk:k<n)(_hn:n≤1048576):
  Calls Tryz.prog 59 #[.int .i64 i,.int .i64 k,.pointer (some a)] w fun e w'=>e = .returned (.int .i64 (qso (rs.getD k 0) (rs.getD i 0)))∧∃q,w'=w.drewN q:=by
 have pH:=aB i hi;have lV:=aB k hk;unfold iv at pH lV;generalize rs.getD i 0=x at *;generalize rs.getD k 0=y at *;clear aB;go_enter Tryz.func59,Tryz.ntmps59;go_wp2_with fail
 go_quiet ((go_at_call 60;exact Calls.quiet_of_same (qjl _ _ _)))
 go_wp2_with fail;go_ret;exact⟨rfl,_,rfl⟩
theorem q9t(l:List Int)(i:Nat)(x:Int)(hi:i<l.length):(fun k=>if k=i then Value.int .i64 x else iv l k)=iv (l.set i x):=by
 funext k
 unfold iv;by_cases e:k=i
 ·subst e;simp[hi]
 ·rw[if_neg e];simp[Ne.symm e]
theorem Own.setInt{w:World}{g n:Nat}{l:List Int}(h:Own w g n (iv l))(i:Nat)(hi:i<n)(hl:n=l.length)(x:Int):Own (w.setCell ⟨g,i,none⟩ (.int .i64 x)) g n (iv (l.set i x)):=by
 rw[←q9t l i x (by omega)];exact h.set i hi _
private theorem Own.drewN{w:World}{g n:Nat}{f:Nat→Value}(h:Own w g n f)(q:Nat):Own (w.drewN q) g n f:=h.later (below_drewN (qaa _ _) q)
def q17(F:FuncId)(caps:Array Value)(c:Int→Int→Int)(D:Int→Prop)(W:World):Prop:=
 ∀x y,D x→D y→Calls Tryz.prog F (#[.int .i64 x,.int .i64 y]++caps) W fun e w'=>e = .returned (.int .i64 (c x y))∧∃q,w'=W.drewN q
def qn2(c:Int→Int→Int)(x y:Int):Bool:=decide (c x y<0)
theorem q18(lt:Int→Int→Bool)(xs:List Int):qf9 lt (xs.take 1)++xs.drop 1=xs:=by
 cases xs with
 | nil=>rfl
 | cons x xs=>simp[qf9,qix]
theorem qry(g n cap:Nat)(xs:List Int)(a:Addr)(c:Int→Int→Int)(D:Int→Prop)(w:World)(ho:Own w g n (iv xs))(hn:xs.length=n)(dZ:1≤n)(_hn2:n≤1048576)(hD:∀x ∈ xs,D x)
  (hc:∀W,qfd g w W→q17 59 #[.pointer (some a)] c D W) (aQ:n≤cap) (iO:cap≤maxLen):
  Calls Tryz.prog 165 #[.slice (some ⟨g,0,none⟩) n cap,.int .i64 0,.int .i64 n,.func (.func 59) #[] #[.pointer (some a)]] w
   fun e w'=>e = .returned (.tuple #[])∧Own w' g n (iv (qf9 (qn2 c) xs))∧qfd g w w':=by
 unfold maxLen at iO;have HO:=hid ho;have HN:=hid hn;have HC:=hid hc;have HD:=hid hD;clear ho hn hc hD;go_enter Tryz.func165,Tryz.ntmps165;go_wp2_with fail
 go_loopw [8] (fun i wr=>∃k:Nat,1≤k∧k≤n∧i = .int .i64 k∧Hid (Own wr g n (iv (qf9 (qn2 c) (xs.take k)++xs.drop k)))∧Hid (qfd g w wr)) (fun i _=>n-(intOf i).toNat)
 case atStart=>exact⟨1,qac _,dZ,rfl,hid (HO.out.congr fun q hq=>by rw[q18 _ xs]),hid (qfd.refl _ _)⟩
 case round=>
  obtain⟨k,jN,hk,rfl,HR,HB⟩:=hrel;by_cases aY:k<n
  ·obtain⟨s,hs⟩:∃s,s=qf9 (qn2 c) (xs.take k):=⟨_,rfl⟩
   have eS:s.length=k:=by rw[hs,qm7,List.length_take,HN.out];omega
   have hkx:k<xs.length:=by rw[HN.out];exact aY
   obtain⟨x,hx⟩:∃x,x=xs[k]:=⟨_,rfl⟩;obtain⟨tl,sQ⟩:∃tl,tl=xs.drop (k+1):=⟨_,rfl⟩;have Gd:xs.drop k=x::tl:=by rw[hx,sQ];exact List.drop_eq_getElem_cons hkx
   have HDX:Hid (D x):=hid (HD.out x (by rw[hx];exact List.getElem_mem _))
   have HDS:Hid (∀m,m<k→D (s.getD m 0)):=hid fun m hm=>HD.out _ (by
    have h1:m<s.length:=by omega
    rw[qba,qap h1,Option.getD_some];have h2:s[m] ∈ qf9 (qn2 c) (xs.take k):=by rw[←hs];exact List.getElem_mem _
    exact List.mem_of_mem_take ((qmb _ _).mem_iff.1 h2))
   have iQ:Hid (qf9 (qn2 c) (xs.take (k+1))++xs.drop (k+1)=qix (qn2 c) s x k++tl):=hid (by
    rw[List.take_succ_eq_append_getElem hkx,qqf,←hs,←sQ,←hx,eS])
   have sH:Hid (Own wr g n (iv (s.take k++x::s.drop k++tl))):=hid (HR.out.congr fun q hq=>by
    rw[←hs,Gd,←eS,List.take_length,List.drop_length];simp)
   have aT:=hid eS;have aX:Hid (n=s.length+1+tl.length):=hid (by rw[sQ,eS,List.length_drop,HN.out];omega);clear hs eS hx sQ Gd hkx HR;obtain⟨wo,rfl⟩:∃wo:World,wo=wr:=⟨_,rfl⟩;go_wp2_with fail
   go_loopw [9] (fun j wr=>∃m:Nat,m≤k∧j = .int .i64 m∧Hid (Own wr g n (iv (s.take m++x::s.drop m++tl)))∧Hid (qix (qn2 c) s x k=qix (qn2 c) s x m)∧Hid (qfd g w wr)) (fun j _=>(intOf j).toNat)
   case atStart=>exact⟨k,qac _,rfl,sH,hid rfl,HB⟩
   case round=>
    obtain⟨m,hm,rfl,HV,HI,aK⟩:=hrel;by_cases mT:m=0
    ·subst mT
     have HF:Hid (Own wr g n (iv (qf9 (qn2 c) (xs.take (k+1))++xs.drop (k+1)))):=hid (by rw[iQ.out,HI.out,qyf];exact HV.out);go_wp2_with fail
     go_quiet (fail)
     go_wp2_with fail;go_roundw
     case rel=>exact⟨k+1,by omega,by omega,by go_num,hid (HF.out.drewN _),hid (aK.out.drewN _)⟩
     case measure=>simp[intOf];omega
    ·obtain⟨p,rfl⟩:∃p,m=p+1:=⟨m-1,by omega⟩
     have Ls:p<s.length:=by have:=aT.out;omega
     have hpn:p<n:=by omega
     have Qn:p+1<n:=by omega
     obtain⟨eY,hf0⟩:=HV.out.2 p hpn;obtain⟨bO,hf1⟩:=HV.out.2 (p+1) Qn
     have e0:iv (s.take (p+1)++x::s.drop (p+1)++tl) p = .int .i64 (s.getD p 0):=by
      unfold iv;rw[qus s tl x p Ls]
     have e1:iv (s.take (p+1)++x::s.drop (p+1)++tl) (p+1) = .int .i64 x:=by
      unfold iv;rw[qsn s tl x (p+1) (by omega)]
     rw[e0] at eY;rw[e1] at bO;have fE:=hid (fun q=>(HC.out (wr.drewN q) (aK.out.drewN q)) x (s.getD p 0) HDX.out (HDS.out p (by omega)));have HY:=hid (q0k (qn2 c) s x p);have sR:=hid (q4m (qn2 c) s x p);have lS:Hid (qn2 c x (s.getD p 0)=decide (c x (s.getD p 0)<0)):=hid rfl;have mX:=hid (q0j s tl x p Ls)
     have kQ:Hid (n=(s.take (p+1)++x::s.drop (p+1)++tl).length):=hid (by
      rw[List.length_append,List.length_append,List.length_take,List.length_cons,List.length_drop,Nat.min_eq_left (by omega)]
      have:=aX.out;omega)
     clear e0 e1;generalize s.getD p 0=y at *;generalize c x y=r at *;by_cases hr:r<0
     ·have HE:Hid (qix (qn2 c) s x k=qix (qn2 c) s x p):=hid (by rw[HI.out,HY.out (by rw[lS.out];exact qag hr)])
      have cO:Hid (∀W,Own W g n (iv (s.take (p+1)++x::s.drop (p+1)++tl))→Own ((W.setCell ⟨g,p+1,none⟩ (.int .i64 y)).setCell ⟨g,p,none⟩ (.int .i64 x)) g n (iv (s.take p++x::s.drop p++tl))):=hid fun W hW=>by
       rw[←mX.out];exact(hW.setInt (p+1) Qn kQ.out y).setInt p hpn (by rw[List.length_set];exact kQ.out) x
      clear Ls;go_wp2_with fail
      go_quiet ((go_at_call 59;exact Calls.quiet_of (fE.out _)))
      go_wp2_with fail
      go_region
      go_wp2_with fail;go_roundw
      case rel=>exact⟨p,by omega,by go_num,hid (cO.out _ (HV.out.drewN _)),HE,hid (((aK.out.drewN _).set _ _).set _ _)⟩
      case measure=>simp[intOf]
     ·have HE:Hid (Own wr g n (iv (qf9 (qn2 c) (xs.take (k+1))++xs.drop (k+1)))):=hid (by
       rw[iQ.out,HI.out,sR.out (by rw[lS.out];exact qaf hr)];exact HV.out)
      clear Ls;go_wp2_with fail
      go_quiet ((go_at_call 59;exact Calls.quiet_of (fE.out _)))
      go_wp2_with fail;go_roundw
      case rel=>exact⟨k+1,by omega,by omega,by go_num,hid (HE.out.drewN _),hid (aK.out.drewN _)⟩
      case measure=>simp[intOf];omega
  ·have iM:k=n:=by omega
   have HF:Hid (Own wr g n (iv (qf9 (qn2 c) xs))):=hid (HR.out.congr fun q hq=>by
    rw[iM,←HN.out,List.take_length,List.drop_length,List.append_nil])
   go_wp2_with fail
   go_end0
   exact⟨rfl,HF.out,HB.out⟩
theorem qzj(g n cap:Nat)(xs:List Int)(a:Addr)(c:Int→Int→Int)(D:Int→Prop)(w:World)(ho:Own w g n (iv xs))(hn:xs.length=n)(dZ:1≤n)(lW:n≤19)(hD:∀x ∈ xs,D x)
  (hc:∀W,qfd g w W→q17 59 #[.pointer (some a)] c D W) (aQ:n≤cap) (iO:cap≤maxLen):
  Calls Tryz.prog 114 #[.slice (some ⟨g,0,none⟩) n cap,.int .i64 n,.func (.func 59) #[] #[.pointer (some a)]] w
   fun e w'=>e = .returned (.tuple #[])∧Own w' g n (iv (qf9 (qn2 c) xs))∧qfd g w w':=by
 have HI:=hid (qry g n cap xs a c D w ho hn dZ (by omega) hD hc aQ iO);clear ho hn hc hD iO;go_enter Tryz.func114,Tryz.ntmps114;go_wp2_with fail
 go_loopw [7,8] (fun i j wr=>i = .int .i64 0∧j = .int .i64 20∧wr=w) (fun _ _ _=>0)
 case atStart=>exact⟨rfl,rfl,rfl⟩
 case round=>
  obtain⟨rfl,rfl,rfl⟩:=hrel;go_wp2_with fail;refine HI.out.mono ?_;rintro e w1 ⟨rfl,hs,ho⟩;have HS:=hid hs;have HO:=hid ho;clear hs ho;go_wp2_with fail
  go_loopw [6] (fun i wr=>i = .int .i64 20∧wr=w1) (fun _ _=>0)
  case atStart=>exact⟨rfl,rfl⟩
  case round=>
   obtain⟨rfl,rfl⟩:=hrel;go_wp2_with fail
   go_end0
   exact⟨rfl,HS.out,HO.out⟩
theorem qp8(g n cap:Nat)(xs:List Int)(a:Addr)(c:Int→Int→Int)(D:Int→Prop)(w:World)(ho:Own w g n (iv xs))(hn:xs.length=n)(dZ:1≤n)(lW:n≤19)(hD:∀x ∈ xs,D x)
  (hc:∀W,qfd g w W→q17 59 #[.pointer (some a)] c D W) (aQ:n≤cap) (iO:cap≤maxLen):
  Calls Tryz.prog 58 #[.slice (some ⟨g,0,none⟩) n cap,.func (.func 59) #[] #[.pointer (some a)]] w
   fun e w'=>e = .returned (.tuple #[])∧Own w' g n (iv (qf9 (qn2 c) xs))∧qfd g w w':=by
 have HI:=hid (qzj g n cap xs a c D w ho hn dZ lW hD hc aQ iO);clear ho hn hc hD iO;go_enter Tryz.func58,Tryz.ntmps58;go_wp2_with fail;refine HI.out.mono ?_;rintro e w1 ⟨rfl,hs,ho⟩;have HS:=hid hs;have HO:=hid ho;clear hs ho;go_wp2_with fail
 go_end0
 exact⟨rfl,HS.out,HO.out⟩
def qfh(n:Nat):Obj := .cells (madeCells #[.int .i64 0] n) 3
theorem q5n(w:World)(n:Nat):Own (w.alloc (qfh n)) w.heap.size n (iv (List.replicate n 0)):=by
 refine⟨by rw[qab];omega,fun i hi => ?_⟩;unfold qfh;rw[World.cell?_alloc_at _ _ _ _ rfl,World.frozen?_alloc_at _ _ _ _ rfl];refine⟨?_,rfl⟩;rw[←Array.getElem?_toList,toList_madeCells_one];unfold iv;simp[hi]
theorem qlq(n:Nat)(h:n≤1048576)(w:World):
  (Instr.makeSlice 53 (.int .i64 (n:Int)) (.int .i64 (n:Int))).run Tryz.prog w = .ok (.slice (some ⟨w.heap.size,0,none⟩) n n) (w.alloc (qfh n)):=
 run_make_row' (P:=Tryz.prog) 53 3 (.int .i64 0) 8 Tryz.underlying53 (by kernel_rfl) rfl .i64 .i64 n (by omega) (by omega) w
def q7y(w:World)(n:Nat)(s8 s9 s10:Value)(W:World):Prop:=
 ∃gp gr go ga:Nat,s8 = .slice (some ⟨gp,0,none⟩) n n∧s9 = .pointer (some ⟨ga,0,none⟩)∧s10 = .slice (some ⟨go,0,none⟩) n n∧Below w.heap.size w W∧
  (w.heap.size≤gp∧w.heap.size≤gr∧w.heap.size≤go∧w.heap.size≤ga)∧(gp≠gr∧gp≠go∧gp≠ga∧gr≠go∧gr≠ga∧go≠ga)∧
  Own W gp n (iv (List.replicate n 0))∧Own W gr n (iv (List.replicate n 0))∧Own W go n (iv (List.replicate n 0))∧Own W ga 1 (fun _ => .slice (some ⟨gr,0,none⟩) n n)
theorem qtp{W:World}{g n:Nat}{cs:Array Value}{t:TypeId}{f:Nat→Value}(h:W.heap[g]? = some (.cells cs t (0,0)))(hf:∀i,i<n→cs[i]? = some (f i)):Own W g n f:=by
 refine⟨(Array.getElem?_eq_some_iff.1 h).1,fun i hi=>⟨?_, ?_⟩⟩
 ·rw[cell_of_row W g i cs t (0,0) h];exact hf i hi
 ·simp[World.frozen?,h]
theorem qbq{W:World}{g n:Nat}(h:W.heap[g]? = some (qfh n)):Own W g n (iv (List.replicate n 0)):=
 qtp h fun i hi=>by
  rw[←Array.getElem?_toList,toList_madeCells_one];unfold iv;simp[hi]
theorem qd5{W:World}{g:Nat}{v:Value}{t:TypeId}(h:W.heap[g]? = some (.cells #[v] t)):Own W g 1 (fun _=>v):=
 qtp h fun i hi=>by
  obtain rfl:i=0:=by omega
  rfl
theorem qvs(w:World)(o0 o1 o2 o3:Obj):
  (((((w.alloc o0).alloc o1).alloc o2).alloc o3).drew.heap[w.heap.size]? = some o0∧((((w.alloc o0).alloc o1).alloc o2).alloc o3).drew.heap[w.heap.size+1]? = some o1∧
   ((((w.alloc o0).alloc o1).alloc o2).alloc o3).drew.heap[w.heap.size+1+1]? = some o2∧((((w.alloc o0).alloc o1).alloc o2).alloc o3).drew.heap[w.heap.size+1+1+1]? = some o3)∧
  Below w.heap.size w ((((w.alloc o0).alloc o1).alloc o2).alloc o3).drew:=by
 refine⟨?_,(((qad _ _).alloc (by simp) _).alloc (by simp;omega) _ |>.alloc (by simp;omega) _).drew⟩
 have key:∀(V:World) (o:Obj) (k:Nat),k≠V.heap.size→(V.alloc o).heap[k]? = V.heap[k]? := fun V o k hk=>by
  show(V.heap.push o)[k]? = _;rw[Array.getElem?_push,if_neg hk]
 show(((((w.alloc o0).alloc o1).alloc o2).alloc o3).heap[w.heap.size]? = some o0)∧((((w.alloc o0).alloc o1).alloc o2).alloc o3).heap[w.heap.size+1]? = some o1∧((((w.alloc o0).alloc o1).alloc o2).alloc o3).heap[w.heap.size+1+1]? = some o2∧((((w.alloc o0).alloc o1).alloc o2).alloc o3).heap[w.heap.size+1+1+1]? = some o3;have s1:(w.alloc o0).heap.size=w.heap.size+1:=qab _ _;have s2:((w.alloc o0).alloc o1).heap.size=w.heap.size+1+1:=by rw[qab,s1]
 have s3:(((w.alloc o0).alloc o1).alloc o2).heap.size=w.heap.size+1+1+1:=by rw[qab,s2]
 refine⟨?_, ?_, ?_, ?_⟩
 ·rw[key _ _ _ (by omega),key _ _ _ (by omega),key _ _ _ (by omega)];exact heap_alloc_new _ _
 ·rw[key _ _ _ (by omega),key _ _ _ (by omega),←s1];exact heap_alloc_new _ _
 ·rw[key _ _ _ (by omega),←s2];exact heap_alloc_new _ _
 ·rw[←s3];exact heap_alloc_new _ _
def upTo(L:List Int)(k:Nat):List Int:=L.take k++List.replicate (L.length-k) 0
theorem qpb(L:List Int):upTo L 0=List.replicate L.length 0:=by simp[upTo]
theorem qrz(L:List Int):upTo L L.length=L:=by simp[upTo]
theorem qvt(L:List Int)(k:Nat)(h:k≤L.length):(upTo L k).length=L.length:=by simp[upTo];omega
theorem q5o(L:List Int)(k:Nat)(h:k<L.length):(upTo L k).set k (L.getD k 0)=upTo L (k+1):=by
 unfold upTo;have hl:(L.take k).length=k:=by rw[List.length_take];omega
 obtain⟨m,hm⟩:∃m,L.length-k=m+1:=⟨L.length-k-1,by omega⟩;have fL:L.length-(k+1)=m:=by omega
 rw[List.set_append_right _ _ (by omega),hl,Nat.sub_self,hm,fL,List.replicate_succ,List.set_cons_zero,List.take_succ_eq_append_getElem h,qba,qap h,Option.getD_some,List.append_assoc];rfl
theorem Own.upTo{W:World}{g n:Nat}{L:List Int}{k:Nat}(h:Own W g n (iv (Go.Proofs.YtlkdlffhmakbgaaGreatDoor.upTo L k)))(hn:L.length=n)(hk:k<n){x:Int}(hx:L.getD k 0=x):Own (W.setCell ⟨g,k,none⟩ (.int .i64 x)) g n (iv (Go.Proofs.YtlkdlffhmakbgaaGreatDoor.upTo L (k+1))):=by
 rw[←q5o L k (by omega),hx];exact h.setInt k hk (by rw[qvt _ _ (by omega),hn]) x
def qmz(w:World)(n:Nat)(gp gr go ga:Nat)(P R O:List Int)(W:World):Prop:=
 Below w.heap.size w W∧Own W gp n (iv P)∧Own W gr n (iv R)∧Own W go n (iv O)∧Own W ga 1 (fun _ => .slice (some ⟨gr,0,none⟩) n n)
def qkr(t S:Int)(l:List Int):List Int:=l.map fun x=>t*x/S
def q5p(t S:Int)(l:List Int):List Int:=l.map fun x=>t*x % S
def places(n:Nat):List Int:=(List.range n).map fun i:Nat=>(i:Int)
theorem qxl(t S:Int)(l:List Int)(k:Nat)(h:k<l.length):(qkr t S l).getD k 0=t*l.getD k 0/S:=by simp[qkr,h]
theorem q5q(t S:Int)(l:List Int)(k:Nat)(h:k<l.length):(q5p t S l).getD k 0=t*l.getD k 0 % S:=by simp[q5p,h]
theorem qzk(n k:Nat)(h:k<n):(places n).getD k 0=k:=by simp[places,h]
theorem Own.setOther{W:World}{g g' n:Nat}{f:Nat→Value}(h:Own W g n f)(hne:g'≠g)(o:Nat)(v:Value):Own (W.setCell ⟨g',o,none⟩ v) g n f:=
 ((qfd.refl g' W).set o v).own h (Ne.symm hne)
theorem qtq{w W:World}{n gp gr go ga k:Nat}{P R O:List Int}{q r:Int}{k':Int}(h:qmz w n gp gr go ga (upTo P k) (upTo R k) (upTo O k) W)(hn:w.heap.size≤gp∧w.heap.size≤gr∧w.heap.size≤go∧w.heap.size≤ga)
  (hd:gp≠gr∧gp≠go∧gp≠ga∧gr≠go∧gr≠ga∧go≠ga) (hP:P.length=n) (hR:R.length=n) (hO:O.length=n) (hk:k<n) (hq:P.getD k 0=q) (hr:R.getD k 0=r) (ho:O.getD k 0=k'):
  qmz w n gp gr go ga (upTo P (k+1)) (upTo R (k+1)) (upTo O (k+1)) ((((W.setCell ⟨gp,k,none⟩ (.int .i64 q)).setCell ⟨gr,k,none⟩ (.int .i64 r)).setCell ⟨go,k,none⟩ (.int .i64 k')).drew):=by
 obtain⟨h1,h2,h3,h4,h5⟩:=h;obtain⟨d1,d2,d3,d4,d5,d6⟩:=hd;obtain⟨n1,n2,n3,n4⟩:=hn;have Ig:∀(V:World) (B:Nat),Below B V V.drew:=fun V B=>(qaa _ _).drew;refine⟨(((h1.setCell (p:=⟨gp,k,none⟩) n1 _).setCell (p:=⟨gr,k,none⟩) n2 _).setCell (p:=⟨go,k,none⟩) n3 _).drew, ?_, ?_, ?_, ?_⟩
 ·exact Own.later (((h2.upTo hP hk hq).setOther (Ne.symm d1) _ _).setOther (Ne.symm d2) _ _) (Ig _ _)
 ·exact Own.later (((h3.setOther d1 _ _).upTo hR hk hr).setOther (Ne.symm d4) _ _) (Ig _ _)
 ·exact Own.later (((h4.setOther d2 _ _).setOther d4 _ _).upTo hO hk ho) (Ig _ _)
 ·exact Own.later (((h5.setOther d3 _ _).setOther d5 _ _).setOther d6 _ _) (Ig _ _)
theorem qxm(t S:Int)(l:List Int)(ht:0≤t)(hS:0<S)(hl:∀x ∈ l,wIn x=true):0≤(qkr t S l).sum∧S*(qkr t S l).sum≤t*l.sum∧t*l.sum≤S*(qkr t S l).sum+l.length*(S-1):=by
 induction l with
 | nil=>simp[qkr]
 | cons x l ih=>
  obtain⟨h1,h2,h3⟩:=ih fun y hy=>hl y (by simp[hy]);have hx:=qmf.1 (hl x (by simp));have mT:0≤t*x:=Int.mul_nonneg ht hx.1;have pE:0≤t*x/S:=Int.ediv_nonneg mT (by omega);have hd:=Int.mul_ediv_add_emod (t*x) S;have rI:=Int.emod_nonneg (t*x) (show S≠0 by omega);have hr1:=Int.emod_lt_of_pos (t*x) hS;show 0≤(t*x/S::qkr t S l).sum∧S*(t*x/S::qkr t S l).sum≤t*(x::l).sum∧t*(x::l).sum≤S*(t*x/S::qkr t S l).sum+((x::l).length:Nat)*(S-1);simp only[List.sum_cons,List.length_cons];have e1:S*(t*x/S+(qkr t S l).sum)=S*(t*x/S)+S*(qkr t S l).sum:=Int.mul_add _ _ _;have e2:t*(x+l.sum)=t*x+t*l.sum:=Int.mul_add _ _ _
  have e3:((l.length+1:Nat):Int)*(S-1)=(l.length:Int)*(S-1)+(S-1):=by
   rw[Int.natCast_add,Int.add_mul];simp
  rw[e1,e2,e3];generalize S*(t*x/S)=a at *;generalize S*(qkr t S l).sum=b at *;generalize t*l.sum=c at *;generalize (l.length:Int)*(S-1)=d at *;omega
theorem qpc(l:List Int)(hl:∀x ∈ l,wIn x=true)(k:Nat):(l.take k).sum≤l.sum:=by
 conv=>rhs;rw[←List.take_append_drop k l,List.sum_append]
 have:=(qi1 (l.drop k) fun x hx=>hl x (List.mem_of_mem_drop hx)).1;omega
theorem q19(t S:Int)(l:List Int)(k:Nat):(qkr t S l).take k=qkr t S (l.take k):=by unfold qkr;rw[List.map_take]
theorem qr0(t S:Int)(l:List Int)(ht:0≤t)(hS:0<S)(hl:∀x ∈ l,wIn x=true)(hs:l.sum=S)(k:Nat):0≤((qkr t S l).take k).sum∧((qkr t S l).take k).sum≤t:=by
 rw[q19];have qR:∀x ∈ l.take k,wIn x=true:=fun x hx=>hl x (List.mem_of_mem_take hx);obtain⟨h1,h2,_⟩:=qxm t S (l.take k) ht hS qR;refine⟨h1, ?_⟩;have h3:=qpc l hl k;rw[hs] at h3;have h4:t*(l.take k).sum≤t*S:=Int.mul_le_mul_of_nonneg_left h3 ht;rw[Int.mul_comm t S] at h4;exact Int.le_of_mul_le_mul_left (Int.le_trans h2 h4) hS
theorem q7z(t S:Int)(l:List Int)(ht:0≤t)(hS:0<S)(hl:∀x ∈ l,wIn x=true)(hs:l.sum=S)(mS:1≤l.length):t-(qkr t S l).sum<l.length:=by
 obtain⟨h1,h2,h3⟩:=qxm t S l ht hS hl;rw[hs] at h3;rcases Int.lt_or_le (t-(qkr t S l).sum) l.length with h|h
 ·exact h
 ·exfalso
  have h4:S*((qkr t S l).sum+l.length)≤S*t:=Int.mul_le_mul_of_nonneg_left (by omega) (by omega);rw[Int.mul_add,Int.mul_comm S t] at h4;have h5:(l.length:Int)*(S-1)=S*l.length-l.length:=by rw[Int.mul_sub,Int.mul_comm];simp
  rw[h5] at h3;omega
def qvu(R:List Int)(x y:Int):Int:=qso (R.getD y.toNat 0) (R.getD x.toNat 0)
def qf4(qs:List Int)(is:List Int):List Int:=is.foldl (fun l i=>l.set i.toNat (l.getD i.toNat 0+1)) qs
theorem qqs(qs is:List Int)(i:Int):qf4 qs (is++[i])=(qf4 qs is).set i.toNat ((qf4 qs is).getD i.toNat 0+1):=by
 unfold qf4;rw[List.foldl_append];rfl
theorem qnf(qs is:List Int):(qf4 qs is).length=qs.length:=by
 induction is using qk2 with
 | h0=>rfl
 | h1 l x ih=>rw[qqs,List.length_set,ih]
def qhj(t:Int)(l:List Int):List Int:=
 qf4 (qkr t l.sum l) ((qf9 (qn2 (qvu (q5p t l.sum l))) (places l.length)).take (t-(qkr t l.sum l).sum).toNat)
theorem qtr(t:Int)(v:Value)(l:List Int)(w:World)(h:qwu w v l)(hl:l.length≤19)(mS:1≤l.length)(jG:0≤t)(eW:t≤999999999)(he:qsj l=0):
  Calls Tryz.prog 19 #[.int .i64 t,v] w fun e w'=>(∃g,w.heap.size≤g∧e = .returned (.tuple #[.slice (some ⟨g,0,none⟩) l.length l.length,.int .i64 0])∧Own w' g l.length (iv (qhj t l)))∧Below w.heap.size w w':=by
 have bZ:=(qfs v l w h (by omega)).mono (R':=fun e w'=>e = .returned (.tuple #[.int .i64 l.sum,.int .i64 0])∧w=w') (fun e w' ⟨h1,h2⟩=>by
  unfold qp0 at h1;rw[he] at h1;exact⟨h1,h2⟩)
 obtain⟨hw,iA⟩:=qss he;have HS:=hid bZ;have HW:=hid hw;obtain⟨p,c,rfl,bO,bG,aA⟩:=h;obtain⟨b,o,rfl,aB⟩:=aA.resolve_left (by omega);unfold maxLen at bG;have bL:=hid aB;have hsb:=qi1 l hw;have lO:=qlq l.length (by omega);generalize hS:l.sum=S at *;have Jf:=hid hS;clear hS bZ hw aA aB he;generalize hN:l.length=n at *;have HN:=hid hN;clear hN;go_enter Tryz.func19,Tryz.ntmps19;go_wp2_with fail;refine HS.out.mono ?_;rintro e w1 ⟨rfl,rfl⟩;clear HS
 go_upto_region 10 with fail
 go_cut [8,9,10] (fun s8 s9 s10 wx=>q7y w n s8 s9 s10 wx)
 case first=>
  go_region
  all_goals(go_wp2_with fail;go_meet)
  all_goals
   obtain⟨⟨b0,b1,b2,b3⟩,hb⟩:=qvs w _ _ _ _
   first
    | exact⟨_,w.heap.size,_,_,rfl,rfl,rfl,hb,⟨by omega,by omega,by omega,by omega⟩,⟨by omega,by omega,by omega,by omega,by omega,by omega⟩,by first|exact qbq b0|exact qbq b1|exact qbq b2|exact qbq b3,by first|exact qbq b0|exact qbq b1|exact qbq b2|exact qbq b3,by first|exact qbq b0|exact qbq b1|exact qbq b2|exact qbq b3,by first|exact qd5 b0|exact qd5 b1|exact qd5 b2|exact qd5 b3⟩
    | exact⟨_,w.heap.size+1,_,_,rfl,rfl,rfl,hb,⟨by omega,by omega,by omega,by omega⟩,⟨by omega,by omega,by omega,by omega,by omega,by omega⟩,by first|exact qbq b0|exact qbq b1|exact qbq b2|exact qbq b3,by first|exact qbq b0|exact qbq b1|exact qbq b2|exact qbq b3,by first|exact qbq b0|exact qbq b1|exact qbq b2|exact qbq b3,by first|exact qd5 b0|exact qd5 b1|exact qd5 b2|exact qd5 b3⟩
    | exact⟨_,w.heap.size+1+1,_,_,rfl,rfl,rfl,hb,⟨by omega,by omega,by omega,by omega⟩,⟨by omega,by omega,by omega,by omega,by omega,by omega⟩,by first|exact qbq b0|exact qbq b1|exact qbq b2|exact qbq b3,by first|exact qbq b0|exact qbq b1|exact qbq b2|exact qbq b3,by first|exact qbq b0|exact qbq b1|exact qbq b2|exact qbq b3,by first|exact qd5 b0|exact qd5 b1|exact qd5 b2|exact qd5 b3⟩
    | exact⟨_,w.heap.size+1+1+1,_,_,rfl,rfl,rfl,hb,⟨by omega,by omega,by omega,by omega⟩,⟨by omega,by omega,by omega,by omega,by omega,by omega⟩,by first|exact qbq b0|exact qbq b1|exact qbq b2|exact qbq b3,by first|exact qbq b0|exact qbq b1|exact qbq b2|exact qbq b3,by first|exact qbq b0|exact qbq b1|exact qbq b2|exact qbq b3,by first|exact qd5 b0|exact qd5 b1|exact qd5 b2|exact qd5 b3⟩
 case rest=>
  obtain⟨gp,gr,go,ga,rfl,rfl,rfl,hb,⟨n1,n2,n3,n4⟩,⟨d1,d2,d3,d4,d5,d6⟩,o1,o2,o3,o4⟩:=hcut;have jU:Hid ((qkr t S l).length=n):=hid (by unfold qkr;rw[List.length_map];exact HN.out);have kF:Hid ((q5p t S l).length=n):=hid (by unfold q5p;rw[List.length_map];exact HN.out);have hJ:Hid ((places n).length=n):=hid (by unfold places;simp);have HL0:Hid (qmz w n gp gr go ga (upTo (qkr t S l) 0) (upTo (q5p t S l) 0) (upTo (places n) 0) wc):=hid ⟨hb,by rw[qpb,jU.out];exact o1,by rw[qpb,kF.out];exact o2,by rw[qpb,hJ.out];exact o3,o4⟩;clear hb o1 o2 o3 o4;have hS1:1≤S:=by omega
  go_wp2_with fail
  go_loopw [11,51] (fun lf i wr=>∃k:Nat,k≤n∧i = .int .i64 k∧(∃z:Int,lf = .int .i64 z∧0≤z∧z≤t∧Hid (z=t-((qkr t S l).take k).sum))∧Hid (qmz w n gp gr go ga (upTo (qkr t S l) k) (upTo (q5p t S l) k) (upTo (places n) k) wr)) (fun _ i _=>n-(intOf i).toNat)
  case atStart=>exact⟨0,Nat.zero_le _,rfl,⟨t,rfl,jG,Int.le_refl _,hid (by simp)⟩,HL0⟩
  case round=>
   obtain⟨k,hk,rfl,⟨z,rfl,cU,eE,HZ⟩,HL⟩:=hrel;by_cases aY:k<n
   ·have aC:wr.cell? ⟨b,o+k,none⟩=some (iv l k):=by
     have h1:=bL.out k aY;rw[HL.out.1.cell (p:=⟨b,o+k,none⟩) (qae w _ h1)];exact h1
    unfold iv at aC
    have HX:Hid (wIn (l.getD k 0)=true):=hid (HW.out _ (by
     have cT:k<l.length:=by rw[HN.out];exact aY
     rw[qba,qap cT,Option.getD_some]
     exact List.getElem_mem _))
    have HQ:=hid (qxl t S l k (by rw[HN.out];exact aY));have HR:=hid (q5q t S l k (by rw[HN.out];exact aY));have HP:=hid (qzk n k aY);have Lx:=qmf.1 HX.out;obtain⟨Pz,hfp⟩:=HL.out.2.1.2 k aY;obtain⟨hcr,hfr⟩:=HL.out.2.2.1.2 k aY;obtain⟨hco,hfo⟩:=HL.out.2.2.2.1.2 k aY;obtain⟨hca,hfa⟩:=HL.out.2.2.2.2.2 0 (by omega);generalize l.getD k 0=x at *;obtain⟨nT,nS⟩:=Lx;have mT:0≤t*x:=Int.mul_nonneg jG nT;have eU:t*x≤999999998000000001:=Int.le_trans (Int.mul_le_mul eW nS nT (by omega)) (by omega);have vI:=hid (qht (qkr t S l) k (by rw[jU.out];exact aY));have rB:=qr0 t S l jG (by omega) HW.out Jf.out (k+1);have pE:0≤t*x/S:=Int.ediv_nonneg mT (by omega);have eK:0≤z-t*x/S:=by have h1:=vI.out;have h2:=HQ.out;have h3:=HZ.out;rw[h1,h2] at rB;omega
    have kW:Hid (z-t*x/S=t-((qkr t S l).take (k+1)).sum):=hid (by rw[vI.out,HQ.out,HZ.out];omega);have kQ:Hid (qmz w n gp gr go ga (upTo (qkr t S l) (k+1)) (upTo (q5p t S l) (k+1)) (upTo (places n) (k+1)) ((((wr.setCell ⟨gp,k,none⟩ (.int .i64 (t*x/S))).setCell ⟨gr,k,none⟩ (.int .i64 (t*x % S))).setCell ⟨go,k,none⟩ (.int .i64 (k:Int))).drew)):=hid (qtq HL.out ⟨n1,n2,n3,n4⟩ ⟨d1,d2,d3,d4,d5,d6⟩ jU.out kF.out hJ.out aY HQ.out HR.out HP.out);clear rB;go_wp2_with fail
    go_region
    go_wp2_with fail;go_roundw
    case rel=>exact⟨k+1,by omega,by go_num,⟨_,rfl,eK,by omega,kW⟩,kQ⟩
    case measure=>simp[intOf];omega
   ·have iM:k=n:=by omega
    have Bj:¬(k:Int)<(n:Int):=by omega
    obtain⟨R,hR⟩:∃R,R=q5p t S l:=⟨_,rfl⟩;obtain⟨Q,hQ⟩:∃Q,Q=qkr t S l:=⟨_,rfl⟩
    have qV:Hid (qmz w n gp gr go ga Q R (places n) wr):=hid (by
     have h1:=HL.out;rw[iM,←hR,←hQ] at h1;rw[←hR] at kF;rw[←hQ] at jU;have e1:upTo Q n=Q:=by rw[←jU.out,qrz]
     have e2:upTo R n=R:=by rw[←kF.out,qrz]
     have e3:upTo (places n) n=places n:=by
      have:=qrz (places n)
      rwa [hJ.out] at this
     rw[e1,e2,e3] at h1
     exact h1)
    have HZL:Hid (z=t-Q.sum):=hid (by rw[HZ.out,iM,hQ,←jU.out,List.take_length])
    have Ln:z<n:=by
     have h1:=q7z t S l jG (by omega) HW.out Jf.out (by rw[HN.out];exact mS);have h2:=HZL.out;rw[←hQ,HN.out] at h1;omega
    have nW:Hid (∀i,i<n→0≤Q.getD i 0∧Q.getD i 0≤999999999):=hid fun i hi=>by
     have Eg:i<l.length:=by rw[HN.out];exact hi
     rw[hQ,qxl t S l i Eg]
     have hx:=qmf.1 (HW.out (l.getD i 0) (by
      rw[qba,qap Eg,Option.getD_some];exact List.getElem_mem _))
     have hxs:l.getD i 0≤S:=by
      have h1:=qht l i Eg;have h2:=qpc l HW.out (i+1);have h3:=(qi1 (l.take i) fun x hx=>HW.out x (List.mem_of_mem_take hx)).1;have h4:=Jf.out;omega
     generalize l.getD i 0=x at *;have h0:0≤t*x:=Int.mul_nonneg jG hx.1;refine⟨Int.ediv_nonneg h0 (by omega), ?_⟩;have h1:t*x≤t*S:=Int.mul_le_mul_of_nonneg_left hxs jG;have h2:t*x/S≤t*S/S:=Int.ediv_le_ediv (by omega) h1;rw[Int.mul_ediv_cancel _ (by omega)] at h2;omega
    have Jg:Hid (qhj t l=qf4 Q ((qf9 (qn2 (qvu R)) (places n)).take z.toNat)):=hid (by
     have e1:=Jf.out;have e2:=HN.out;unfold qhj
     rw[e1,e2,←hQ,←hR,←HZL.out])
    have wR:Hid (∀j x,(qf9 (qn2 (qvu R)) (places n))[j]? = some x→∃i:Nat,i<n∧x=(i:Int)):=hid fun j x hj=>by
     have h1:=(qmb (qn2 (qvu R)) (places n)).mem_iff.1 (qbh hj);unfold places at h1;simp only[List.mem_map,List.mem_range] at h1;obtain⟨i,hi,rfl⟩:=h1;exact⟨i,hi,rfl⟩
    have HOL:Hid ((qf9 (qn2 (qvu R)) (places n)).length=n):=hid (by rw[qm7];exact hJ.out)
    have Ge:=hid (qp8 go n n (places n) ⟨ga,0,none⟩ (qvu R) (fun x=>∃i:Nat,i<n∧x=(i:Int)) wr qV.out.2.2.2.1 hJ.out mS hl (fun x hx=>by
     unfold places at hx;simp only[List.mem_map,List.mem_range] at hx;obtain⟨i,hi,rfl⟩:=hx
     exact⟨i,hi,rfl⟩) (fun W hW x y hx hy=>by
     obtain⟨i,hi,rfl⟩:=hx;obtain⟨j,hj,rfl⟩:=hy;have h1:=hW.own qV.out.2.2.2.2 (Ne.symm d6);have h2:=hW.own qV.out.2.2.1 d4;have h3:=q5m i j ⟨ga,0,none⟩ gr n n R W (h1.2 0 (by omega)).1 (fun q hq=>(h2.2 q hq).1) hi hj (by omega)
     exact h3) (qac _) (by unfold maxLen;omega))
    have rR:Hid (Q.length=n):=hid (by rw[hQ];exact jU.out);generalize qf9 (qn2 (qvu R)) (places n)=OS at *;clear hQ hR HZ HL jU kF iM;go_wp2_with fail;refine Ge.out.mono ?_;rintro e w1 ⟨rfl,ho,hb⟩;have fB:=hid ho;have yB:=hid (hb.own qV.out.2.1 d2);have aP:=hid (qV.out.1.trans (hb.below n3));clear ho hb Ge;obtain⟨m,rfl⟩:∃m:Nat,z=m:=⟨z.toNat,by omega⟩;have Ej:m≤n:=by omega
    go_wp2_with fail;clear cU eE
    go_loopw [90] (fun i wr=>∃k:Nat,k≤m∧i = .int .i64 k∧Hid (Own wr gp n (iv (qf4 Q (OS.take k))))∧Hid (∀i,i<n→0≤(qf4 Q (OS.take k)).getD i 0∧(qf4 Q (OS.take k)).getD i 0≤999999999+k)∧Hid (qfd gp w1 wr)) (fun i _=>m-(intOf i).toNat)
    case atStart=>exact⟨0,Nat.zero_le _,rfl,yB,hid (fun i hi=>by have:=nW.out i hi;show 0≤Q.getD i 0∧Q.getD i 0≤999999999+((0:Nat):Int);omega),hid (qfd.refl _ _)⟩
    case round=>
     obtain⟨j,hj,rfl,HBU,aW,Bn⟩:=hrel;by_cases hjm:j<m
     ·have lC:j<n:=by omega
      obtain⟨hco,_⟩:=(Bn.out.own fB.out (Ne.symm d2)).2 j lC;have hol:j<OS.length:=by rw[HOL.out];exact lC
      have Jh:OS[j]? = some OS[j]:=qap hol;obtain⟨i,Fm,hi⟩:=wR.out j _ Jh
      have hiv:iv OS j = .int .i64 (i:Int):=by
       unfold iv;rw[qba,Jh,Option.getD_some,hi]
      have lQ:Hid (OS.take (j+1)=OS.take j++[(i:Int)]):=hid (by rw[List.take_succ_eq_append_getElem hol,hi]);rw[hiv] at hco;obtain⟨Pz,hfp⟩:=HBU.out.2 i Fm;have pK:=aW.out i Fm;unfold iv at Pz;have cF:=hid (HBU.out.setInt i Fm (by rw[qnf];exact rR.out.symm) ((qf4 Q (OS.take j)).getD i 0+1));have iQ:Hid (qf4 Q (OS.take (j+1))=(qf4 Q (OS.take j)).set i ((qf4 Q (OS.take j)).getD i 0+1)):=hid (by rw[lQ.out,qqs];rfl)
      have jQ:Hid (∀i,i<n→0≤(qf4 Q (OS.take (j+1))).getD i 0∧(qf4 Q (OS.take (j+1))).getD i 0≤999999999+((j+1:Nat):Int)):=hid fun q hq=>by
       have h1:=aW.out q hq;rw[iQ.out];by_cases e:q=i
       ·subst e
        have iG:q<(qf4 Q (OS.take j)).length:=by rw[qnf,rR.out];exact hq
        have:((qf4 Q (OS.take j)).set q ((qf4 Q (OS.take j)).getD q 0+1)).getD q 0=(qf4 Q (OS.take j)).getD q 0+1:=by simp[iG]
        rw[this];omega
       ·have:((qf4 Q (OS.take j)).set i ((qf4 Q (OS.take j)).getD i 0+1)).getD q 0=(qf4 Q (OS.take j)).getD q 0:=by simp[Ne.symm e]
        rw[this];omega
      clear Jh hiv hi hol;generalize (qf4 Q (OS.take j)).getD i 0=y at *;obtain⟨Mn,uY⟩:=pK;go_wp2_with fail;go_roundw
      case rel=>exact⟨j+1,by omega,by go_num,hid (by rw[iQ.out];exact cF.out),jQ,hid (Bn.out.set _ _)⟩
      case measure=>simp[intOf];omega
     ·have hjm2:j=m:=by omega
      have aF:Hid (Own wr gp n (iv (qhj t l))):=hid (by
       rw[Jg.out,←hjm2]
       exact HBU.out)
      have nD:Hid (Below w.heap.size w wr):=hid (aP.out.trans (Bn.out.below n1));go_wp2_with fail;go_ret2;exact⟨⟨gp,n1,rfl,aF.out⟩,nD.out⟩
def qp9(t:Int)(l:List Int):Nat:=
 if t<0∨999999999<t then 3 else if l.length=0 then 2 else if 256<l.length then 5 else qsj l
def q2a(t:Int)(l:List Int)(w:World)(e:Ending)(w':World):Prop:=
 (if qp9 t l=0 then ∃g,w.heap.size≤g∧e = .returned (.tuple #[.slice (some ⟨g,0,none⟩) l.length l.length,.int .i64 0])∧Own w' g l.length (iv (qhj t l))
  else e = .returned (.tuple #[.slice none 0 0,.int .i64 (qp9 t l:Nat)]))∧Below w.heap.size w w'
theorem qn3{t:Int}{l:List Int}{w:World}{k:Nat}{z:Int}(h:qp9 t l=k)(hk:k≠0)(hz:z=k):q2a t l w (.returned (.tuple #[.slice none 0 0,.int .i64 z])) w:=by
 unfold q2a;rw[h,if_neg hk,hz];exact⟨rfl,qaa _ _⟩
theorem qpd(t:Int)(v:Value)(l:List Int)(w:World)(_h:qwu w v l)(ht:t<0∨999999999<t):Calls Tryz.prog 19 #[.int .i64 t,v] w (q2a t l w):=by
 have HF:Hid (q2a t l w (.returned (.tuple #[.slice none 0 0,.int .i64 3])) w):=hid (qn3 (k:=3) (by unfold qp9;rw[if_pos ht]) (by omega) rfl);clear _h;rcases ht with ht|ht
 ·go_enter Tryz.func19,Tryz.ntmps19
  go_wp2_with fail;go_ret2;exact HF.out
 ·have gT:¬t<0:=by omega
  go_enter Tryz.func19,Tryz.ntmps19;go_wp2_with fail;go_ret2;exact HF.out
theorem qr1(t:Int)(v:Value)(l:List Int)(w:World)(h:qwu w v l)(jG:0≤t)(eW:t≤999999999)(hl:l.length=0∨256<l.length):Calls Tryz.prog 19 #[.int .i64 t,v] w (q2a t l w):=by
 obtain⟨p,c,rfl,bO,bG,aA⟩:=h;unfold maxLen at bG;clear aA;rcases hl with hl|hl
 ·have HF:Hid (q2a t l w (.returned (.tuple #[.slice none 0 0,.int .i64 2])) w):=hid (qn3 (k:=2) (by unfold qp9;rw[if_neg (by omega),if_pos hl]) (by omega) rfl)
  have hb:((l.length:Int)==0)=true:=by rw[hl];rfl
  clear hl;go_enter Tryz.func19,Tryz.ntmps19;go_wp2_with fail;go_ret2;exact HF.out
 ·have HF:Hid (q2a t l w (.returned (.tuple #[.slice none 0 0,.int .i64 5])) w):=hid (qn3 (k:=5) (by unfold qp9;rw[if_neg (by omega),if_neg (by omega),if_pos hl]) (by omega) rfl)
  have hb:((l.length:Int)==0)=false:=qam (by omega);go_enter Tryz.func19,Tryz.ntmps19;go_wp2_with fail;go_ret2;exact HF.out
theorem qm0(t:Int)(v:Value)(l:List Int)(w:World)(h:qwu w v l)(jG:0≤t)(eW:t≤999999999)(kD:l.length≠0)(mS:l.length≤256)(he:qsj l≠0):Calls Tryz.prog 19 #[.int .i64 t,v] w (q2a t l w):=by
 have HS:=hid ((qfs v l w h (by omega)).mono (R':=fun e w'=>e = .returned (.tuple #[.int .i64 0,.int .i64 (qsj l:Nat)])∧w=w') (fun e w' ⟨h1,h2⟩=>by
  unfold qp0 at h1;rw[if_neg he] at h1;exact⟨h1,h2⟩))
 obtain⟨p,c,rfl,bO,bG,aA⟩:=h;unfold maxLen at bG;clear aA;have HF:Hid (q2a t l w (.returned (.tuple #[.slice none 0 0,.int .i64 (qsj l:Nat)])) w):=hid (qn3 (by unfold qp9;rw[if_neg (by omega),if_neg kD,if_neg (by omega)]) he rfl);have hb:((l.length:Int)==0)=false:=qam (by omega);have dS:(((qsj l:Nat):Int)==0)=false:=qam (by omega);clear he kD;generalize qsj l=k at *;go_enter Tryz.func19,Tryz.ntmps19;go_wp2_with fail;refine HS.out.mono ?_;rintro e w1 ⟨rfl,rfl⟩;clear HS;go_wp2_with fail;go_ret2;exact HF.out
theorem qr2(t:Int)(v:Value)(l:List Int)(w:World)(h:qwu w v l)(hl:l.length≤19∨qp9 t l≠0):Calls Tryz.prog 19 #[.int .i64 t,v] w (q2a t l w):=by
 by_cases ht:t<0∨999999999<t
 ·exact qpd t v l w h ht
 by_cases hn:l.length=0∨256<l.length
 ·exact qr1 t v l w h (by omega) (by omega) hn
 by_cases he:qsj l=0
 ·have h0:qp9 t l=0:=by unfold qp9;rw[if_neg ht,if_neg (by omega),if_neg (by omega),he]
  refine(qtr t v l w h (hl.resolve_right (fun h=>h h0)) (by omega) (by omega) (by omega) he).mono fun e w' h1 => ?_;unfold q2a;rw[if_pos h0];exact h1
 ·exact qm0 t v l w h (by omega) (by omega) (by omega) (by omega) he
end Go.Proofs.YtlkdlffhmakbgaaGreatDoor
namespace Go.Proofs.YtlkdlffhmakbgaaGreatDoor
set_option maxRecDepth 100000
set_option maxHeartbeats 4000000
end Go.Proofs.YtlkdlffhmakbgaaGreatDoor
