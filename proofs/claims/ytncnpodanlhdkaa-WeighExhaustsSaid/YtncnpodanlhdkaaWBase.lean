/-
  Whole blocks of memory, and small words that the walks share.
-/
import Derived.Test.YtncnpodanlhdkaaProg
import Derived.WalkKit
import Derived.Deep.QuietTactic
import Derived.Deep.Draws
import Derived.BigQuiet
import Derived.WalkSmall
import Derived.Deep.WholeRow
import Derived.Deep.RegionHeld3
import Derived.OwnWalk
import Derived.Laws.AppendOwn
import Derived.Laws.OwnMore
import Derived.Deep.OwnRows
import Derived.Laws.NewBlocks
import Derived.Deep.AppendLies
namespace Go.Proofs.Ytncnpodanlhdkaa
set_option linter.all false
open Go.RowKit

theorem hid {p : Prop} (h : p) : Hid p := h
theorem ret_int {k : IntKind} {a b : Int} (h : a = b) : Ending.returned (.int k a) = .returned (.int k b) := by rw [h]
theorem ret_bool {a b : Bool} (h : a = b) : Ending.returned (.bool a) = .returned (.bool b) := by rw [h]

/-- Block g holds these cells, and all may be written. -/
def Blk (w : World) (g : Nat) (cs : Array Value) (t : TypeId) : Prop := w.heap[g]? = some (.cells cs t (0, 0))

theorem Blk.lt {w : World} {g : Nat} {cs : Array Value} {t : TypeId} (h : Blk w g cs t) : g < w.heap.size := (Array.getElem?_eq_some_iff.1 h).1
theorem Blk.cell {w : World} {g : Nat} {cs : Array Value} {t : TypeId} (h : Blk w g cs t) {i : Nat} {v : Value} (hv : cs[i]? = some v) : w.cell? ⟨g, i, none⟩ = some v := (cell_of_row w g i cs t (0, 0) h).trans hv
theorem Blk.froz {w : World} {g : Nat} {cs : Array Value} {t : TypeId} (h : Blk w g cs t) (i : Nat) : w.frozen? ⟨g, i, none⟩ = false := frozen_of_row w g i cs t h
theorem Blk.new (w : World) (cs : Array Value) (t : TypeId) : Blk (w.alloc (.cells cs t)) w.heap.size cs t := heap_alloc_new w _
theorem Blk_new2 (w : World) (o p : Obj) (cs : Array Value) (t : TypeId) : Blk (((w.alloc o).alloc p).alloc (.cells cs t)) (w.heap.size + 1 + 1) cs t := by
  have h := Blk.new ((w.alloc o).alloc p) cs t
  rw [World.size_alloc, World.size_alloc] at h
  exact h
theorem Blk_newn (w : World) (cs : Array Value) (t : TypeId) {g : Nat} (hg : g = w.heap.size) : Blk (w.alloc (.cells cs t)) g cs t := by subst hg; exact Blk.new w cs t
theorem Blk.alloc {w : World} {g : Nat} {cs : Array Value} {t : TypeId} (h : Blk w g cs t) (o : Obj) : Blk (w.alloc o) g cs t := (Below.heap_alloc w o g h.lt).trans h
theorem Blk_new1 (w : World) (o p : Obj) (cs : Array Value) (t : TypeId) : Blk (((w.alloc o).alloc (.cells cs t)).alloc p) (w.heap.size + 1) cs t := by
  have h := (Blk.new (w.alloc o) cs t).alloc p
  rw [World.size_alloc] at h
  exact h
theorem Blk.later {w w' : World} {n g : Nat} {cs : Array Value} {t : TypeId} (h : Blk w g cs t) (hb : Below n w w') (hg : g < n) : Blk w' g cs t := by
  unfold Blk
  rw [← h]
  exact hb.block g hg
theorem Blk.row {w : World} {g : Nat} {cs : Array Value} {t : TypeId} (h : Blk w g cs t) (cs' : Array Value) : Blk (w.setRow g cs') g cs' t := setRow_heap w g cs cs' t (0, 0) h
theorem Blk.rowOther {w : World} {g k : Nat} {cs : Array Value} {t : TypeId} (h : Blk w g cs t) (cs' : Array Value) (hk : g ≠ k) : Blk (w.setRow k cs') g cs t := (setRow_other w k g cs' hk).trans h
theorem Blk.set {w : World} {g : Nat} {cs : Array Value} {t : TypeId} (h : Blk w g cs t) (i : Nat) (v : Value) : Blk (w.setCell ⟨g, i, none⟩ v) g (cs.setIfInBounds i v) t := heap_setCell_same w g i cs t v h
theorem Blk.setOther {w : World} {g k : Nat} {cs : Array Value} {t : TypeId} (h : Blk w g cs t) (i : Nat) (v : Value) (hk : g ≠ k) : Blk (w.setCell ⟨k, i, none⟩ v) g cs t := (heap_setCell_other w ⟨k, i, none⟩ g v hk).trans h
theorem Blk.drew {w : World} {g : Nat} {cs : Array Value} {t : TypeId} (h : Blk w g cs t) : Blk w.drew g cs t := h
theorem below_setRow {B : Nat} {a w : World} (h : Below B a w) {g : Nat} (hg : B ≤ g) (cs : Array Value) : Below B a (w.setRow g cs) :=
  h.trans ⟨rfl, rfl, rfl, by simp, fun k hk => setRow_other w g k cs (by omega)⟩

/-- A list of integers, and of marks, as cells. -/
def ints (l : List Int) : Array Value := (l.map (Value.int .i64)).toArray
def bools (l : List Bool) : Array Value := (l.map Value.bool).toArray
theorem ints_size (l : List Int) : (ints l).size = l.length := by simp [ints]
theorem bools_size (l : List Bool) : (bools l).size = l.length := by simp [bools]
theorem ints_get {l : List Int} {i : Nat} {x : Int} (h : l[i]? = some x) : (ints l)[i]? = some (.int .i64 x) := by simp [ints, h]
theorem bools_get {l : List Bool} {i : Nat} {x : Bool} (h : l[i]? = some x) : (bools l)[i]? = some (.bool x) := by simp [bools, h]
theorem ints_set (l : List Int) (i : Nat) (x : Int) : (ints l).setIfInBounds i (.int .i64 x) = ints (l.set i x) := by
  apply Array.ext_getElem?
  intro j
  simp only [ints, List.setIfInBounds_toArray, List.map_set]
theorem bools_set (l : List Bool) (i : Nat) (x : Bool) : (bools l).setIfInBounds i (.bool x) = bools (l.set i x) := by
  apply Array.ext_getElem?
  intro j
  simp only [bools, List.setIfInBounds_toArray, List.map_set]
theorem ints_one (l : List Int) : (ints l).all (·.oneCell') = true := by
  simp [ints, Value.oneCell']
theorem bools_one (l : List Bool) : (bools l).all (·.oneCell') = true := by
  simp [bools, Value.oneCell']

/-- No node is marked; no node has too much or too little. -/
def noM : List Bool := List.replicate 34 false
def noB : List Int := List.replicate 34 0
theorem noM_len : noM.length = 34 := rfl
theorem noB_len : noB.length = 34 := rfl
theorem info_bal : (Try.prog.info? 94).map (·.size) = some 34 := by kernel_rfl
theorem info_marks : (Try.prog.info? 85).map (·.size) = some 34 := by kernel_rfl
theorem zero_marks : (Try.prog.info? 85).map (fun i => (i.zero, i.size)) = some (some (.agg (bools noM)), 34) := by kernel_rfl
theorem zero_bal : (Try.prog.info? 94).map (fun i => (i.zero, i.size)) = some (some (.agg (ints noB)), 34) := by kernel_rfl

/-- A whole balance, or whole marks, out of a block and into one. -/
theorem ld_bal {ops : Array Oper} {rest : List Oper} {o : Oper} {a : Act} {w : World} {Q : Exit → Act → World → Prop} (x : Operand) (hgd : o.guard = none) (ho : o.op = .load 94 x) {g : Nat} {l : List Int} {t : TypeId} (hx : a.eval x = .pointer (some ⟨g, 0, none⟩)) (hg : Blk w g (ints l) t) (hs : l.length = 34)
    (h : wpList Try.prog ops Q rest (a.put o.dst (.agg (ints l))) w) : wpList Try.prog ops Q (o :: rest) a w :=
  wpList_load_row hgd 94 x ho g hx t _ (0, 0) (.array 34 3) hg (by kernel_rfl) rfl (by rw [ints_size, hs]; exact info_bal) h
theorem ld_marks {ops : Array Oper} {rest : List Oper} {o : Oper} {a : Act} {w : World} {Q : Exit → Act → World → Prop} (x : Operand) (hgd : o.guard = none) (ho : o.op = .load 85 x) {g : Nat} {l : List Bool} {t : TypeId} (hx : a.eval x = .pointer (some ⟨g, 0, none⟩)) (hg : Blk w g (bools l) t) (hs : l.length = 34)
    (h : wpList Try.prog ops Q rest (a.put o.dst (.agg (bools l))) w) : wpList Try.prog ops Q (o :: rest) a w :=
  wpList_load_row hgd 85 x ho g hx t _ (0, 0) (.array 34 4) hg (by kernel_rfl) rfl (by rw [bools_size, hs]; exact info_marks) h
theorem st_bal {ops : Array Oper} {rest : List Oper} {o : Oper} {a : Act} {w : World} {Q : Exit → Act → World → Prop} (x y : Operand) (hgd : o.guard = none) (ho : o.op = .store 94 x y) {g : Nat} {old l : List Int} {t : TypeId} (hx : a.eval x = .pointer (some ⟨g, 0, none⟩)) (hy : a.eval y = .agg (ints l)) (hg : Blk w g (ints old) t) (h0 : old.length = 34) (hs : l.length = 34)
    (h : wpList Try.prog ops Q rest (a.put o.dst undef) (w.setRow g (ints l))) : wpList Try.prog ops Q (o :: rest) a w :=
  wpList_store_row hgd 94 x y ho g _ hx hy t _ hg (by rw [ints_size, hs]; exact info_bal) (by rw [ints_size, ints_size, hs, h0]) (ints_one l) h
theorem st_marks {ops : Array Oper} {rest : List Oper} {o : Oper} {a : Act} {w : World} {Q : Exit → Act → World → Prop} (x y : Operand) (hgd : o.guard = none) (ho : o.op = .store 85 x y) {g : Nat} {old l : List Bool} {t : TypeId} (hx : a.eval x = .pointer (some ⟨g, 0, none⟩)) (hy : a.eval y = .agg (bools l)) (hg : Blk w g (bools old) t) (h0 : old.length = 34) (hs : l.length = 34)
    (h : wpList Try.prog ops Q rest (a.put o.dst undef) (w.setRow g (bools l))) : wpList Try.prog ops Q (o :: rest) a w :=
  wpList_store_row hgd 85 x y ho g _ hx hy t _ hg (by rw [bools_size, hs]; exact info_marks) (by rw [bools_size, bools_size, hs, h0]) (bools_one l) h
/-- A whole balance, or whole marks, handed back out of a block. -/
theorem run_bal (w : World) {g : Nat} {l : List Int} {t : TypeId} (hg : Blk w g (ints l) t) (hs : l.length = 34) : (loadVar 94 ⟨g, 0, none⟩).run Try.prog w = .ok (.agg (ints l)) w :=
  run_loadVar_row w g t 94 _ (0, 0) (.array 34 3) hg (by kernel_rfl) rfl (by rw [ints_size, hs]; exact info_bal)
theorem run_marks (w : World) {g : Nat} {l : List Bool} {t : TypeId} (hg : Blk w g (bools l) t) (hs : l.length = 34) : (loadVar 85 ⟨g, 0, none⟩).run Try.prog w = .ok (.agg (bools l)) w :=
  run_loadVar_row w g t 85 _ (0, 0) (.array 34 4) hg (by kernel_rfl) rfl (by rw [bools_size, hs]; exact info_marks)

theorem run_ix_bal (w : World) {l : List Int} {k : Nat} {v : Int} (hk : k < 34) (hv : l[k]? = some v) : (Instr.index 94 (.agg (ints l)) (.int .i64 k)).run Try.prog w = .ok (.int .i64 v) w := by
  have hu : Try.prog.underlying 94 = some (.array 34 3) := by kernel_rfl
  have hi := ints_get hv
  have hc : 0 ≤ (k : Int) ∧ (k : Int) < ((34 : Nat) : Int) := by omega
  simp [Instr.index, run_underlying hu, asIntOf, hc, part, go_sem, hi]
  intro h
  omega
theorem ix_bal {ops : Array Oper} {rest : List Oper} {o : Oper} {a : Act} {w : World} {Q : Exit → Act → World → Prop} (x ix : Operand) (hgd : o.guard = none) (ho : o.op = .index 94 x ix) {l : List Int} {k : Nat} {v : Int} (hx : a.eval x = .agg (ints l)) (hi : a.eval ix = .int .i64 k) (hk : k < 34) (hv : l[k]? = some v)
    (h : wpList Try.prog ops Q rest (a.put o.dst (.int .i64 v)) w) : wpList Try.prog ops Q (o :: rest) a w :=
  wpList_plain hgd fun _ hK => by
    unfold Oper.wp execOp
    simp only [ho, hx, hi, Sem.run_bind, Sem.run_pure, run_ix_bal w hk hv, Result.andThen_ok]
    rw [Oper.upon_value]
    exact hK _ _ h

theorem Blk.drewN {w : World} {g : Nat} {cs : Array Value} {t : TypeId} (h : Blk w g cs t) (n : Nat) : Blk (w.drewN n) g cs t := h
theorem setRow_same {w : World} {g : Nat} {cs : Array Value} {t : TypeId} (h : Blk w g cs t) : w.setRow g cs = w := by
  have key : (w.setRow g cs).heap = w.heap := by
    apply Array.ext_getElem?
    intro i
    by_cases e : i = g
    · subst e; rw [setRow_heap w i cs cs t (0, 0) h]; exact h.symm
    · exact setRow_other w g i cs e
  show ({ w with heap := (w.setRow g cs).heap } : World) = w
  rw [key]
/-- A whole row loaded in a region that draws its order; one stored that lies there already. -/
theorem quiet_ld {o : Oper} {a : Act} {C : World → Prop} {K : Act → Prop} (ty : TypeId) (x : Operand) (ho : o.op = .load ty x) {g : Nat} (hx : a.eval x = .pointer (some ⟨g, 0, none⟩)) {v : Value} (hC : ∀ w, C w → (loadVar ty ⟨g, 0, none⟩).run Try.prog w = .ok v w) (hk : K (a.put o.dst v)) : o.quiet Try.prog a C K := by
  refine ⟨_, fun w hw => ?_, hk⟩
  unfold Oper.quietAt execOp
  simp only [ho, hx, Instr.loadAt, Instr.sureAddr, Sem.run_bind, Sem.run_pure, Result.andThen_ok, hC w hw]
  exact ⟨rfl, rfl⟩
theorem quiet_st {o : Oper} {a : Act} {C : World → Prop} {K : Act → Prop} (ty : TypeId) (x y : Operand) (ho : o.op = .store ty x y) {g : Nat} {cs : Array Value} {t : TypeId} (hx : a.eval x = .pointer (some ⟨g, 0, none⟩)) (hy : a.eval y = .agg cs) (hC : ∀ w, C w → Blk w g cs t)
    (hi : (Try.prog.info? ty).map (·.size) = some cs.size) (h1 : cs.all (·.oneCell') = true) (hk : K (a.put o.dst undef)) : o.quiet Try.prog a C K := by
  refine ⟨_, fun w hw => ?_, hk⟩
  unfold Oper.quietAt execOp
  have hr := run_storeVar_row (P := Try.prog) w g t ty cs cs (hC w hw) hi rfl h1
  rw [setRow_same (hC w hw)] at hr
  simp only [ho, hx, hy, Instr.storeAt, Instr.sureAddr, Sem.run_bind, Sem.run_pure, Result.andThen_ok, hr]
  exact ⟨rfl, rfl⟩
end Go.Proofs.Ytncnpodanlhdkaa
