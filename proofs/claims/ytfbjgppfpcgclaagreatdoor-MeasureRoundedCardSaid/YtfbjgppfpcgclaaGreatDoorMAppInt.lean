/- append of one machine integer to a slice of the call's own. -/
import Derived.Test.YtfbjgppfpcgclaaGreatDoorMBase
import Derived.WalkKit
import Derived.Deep.AppendLies
import Derived.Laws.OwnMore
import Derived.OwnWalk
set_option linter.all false
namespace Go.Proofs.YtfbjgppfpcgclaaGreatDoor
open Go.RowKit
theorem qh6{ops:Array Oper}{rest:List Oper}{o:Oper}{a:Act}{Q:Exit→Act→World→Prop}(hgd:o.guard=none)(s x:Operand)
  (ho:o.op = .call { callee := .builtin .append,args:=#[s,x],argTypes:=#[54,54] })
  (w0 wr:World) (base k:Nat) (v:Value) (L:List Int) (y:Int) (hs:a.eval s=v)
  (hown:wr.ownsRow base 3 1 v k (L.map (Value.int .i64))) (hB:Below base w0 wr) (hbase:base≤w0.heap.size)
  (hx:a.eval x = .slice (some ⟨wr.heap.size,0,none⟩) 1 1) (hk:k≤1048576)
  (h:∀v' w',w'.ownsRow base 3 1 v' (k+1) ((L++[y]).map (Value.int .i64))→Below base w0 w'→wpList Tryz.prog ops Q rest (a.put o.dst v') w'):
  wpList Tryz.prog ops Q (o::rest) a (wr.alloc (.cells #[.int .i64 y] 3)):=by
 obtain⟨i0,hi,hz0,hz1,hz2⟩:=info_parts (show(Tryz.prog.info? 3).map (fun i=>(i.zero,i.size,i.bytes))=some (some (.int .i64 0),1,8) by kernel_rfl)
 have hsz:=hB.size
 refine wpList_append_own _ hgd s x 54 ho base 3 i0 (.int .i64 0) 1 8 Tryz.underlying54 hi hz0 hz1 hz2 rfl (by decide) v k _ hs (hown.alloc _) ⟨wr.heap.size,0,none⟩ 1 1 [.int .i64 y] hx rfl ?c1 ?c2 ?c3 ?c4 ?c5 ?_
 case c1=>
  intro j u hj
  match j,hj with
  | 0,hj=>
   simp at hj
   subst hj
   simp[Addr.add]
 case c2=>intro u hu;simp at hu;subst hu;rfl
 case c3=>unfold maxLen;omega
 case c4=>omega
 case c5=>rw[World.size_alloc];omega
 intro v' w2 hown' hgrow _
 refine h v' w2 ?_ ?_
 ·rw[List.map_append]
  exact hown'
 ·exact(hB.alloc (by omega) (.cells #[.int .i64 y] 3)).grown hgrow (by rw[World.size_alloc];omega) (fun q hq=>(hown.lt q hq).1)
end Go.Proofs.YtfbjgppfpcgclaaGreatDoor
