/-
  MeasureAddsUp: its row and its card.
-/
import Derived.Test.YtocoghnopmjceaaGreatDoorMAddsUp
import Derived.Test.YtocoghnopmjceaaGreatDoorCards
import Derived.Test.YtocoghnopmjceaaGreatDoorTie
import Derived.WalkKit
import Derived.ProofKit
import Derived.SevenTiedAt
import Derived.LaidLaws
import Derived.OpenShut
import Derived.Carry
import Derived.ChangeSlices
import Derived.Shelf.Vars
import Derived.Deep.DeepHandedRow
import Derived.Deep.DeepWitnessRowRef
namespace Go.Proofs.YtocoghnopmjceaaGreatDoor
open Go.ChangeShapes Go.WideShapes Go.ChangeAt Go.RowKit

theorem auOwn : ownKnob Tryz.prog.godebug = none := by kernel_rfl
theorem auLaid : laidOutB Tryz.prog = true := by kernel_rfl
theorem auCells : Tryz.prog.cellsOf 35 = 1 := by kernel_rfl

/-- The library's variable holds an integer. -/
theorem gw_of {W : World} (h : W.ShapedOpen Tryz.prog) : GW W := by
  obtain ⟨m, hm⟩ := cell_of_shapedOpen_int (g := 0) (k := .i64) h (by decide +kernel) (show _ = some (#[.int .i64 0], 3) by kernel_rfl) rfl (by kernel_rfl) (by kernel_rfl) Tryz.underlying3
  exact ⟨World.block_lt_of_cell? W _ hm, m, hm⟩

set_option maxRecDepth 100000 in
theorem addsUp_contract (H : Type) (enc : TypeId × Value → H) (W : World) (base : Nat) (args : Array Value) (ds gs : List (DataW H)) (before : List MemPlace)
    (hval : ∀ (j : Nat) t v, Tryz.f4.params[j]? = some t → args[j]? = some v → Value.okWide Tryz.prog W .any base t v)
    (hW : DataW.Whole enc Tryz.prog Tryz.f4.params.toList Rows.measureAddsUpSpec.vars false W args.toList ds gs before) (hsh : W.ShapedOpen Tryz.prog) :
    Calls Tryz.prog 4 args W fun e W' => ∃ v, e = .returned v ∧ Rows.measureAddsUpSpec.post enc Tryz.prog Tryz.f4 false true false false W args v W' := by
  have hW' := hW
  obtain ⟨p, q, hA0, hV, rfl, hfz, hnd⟩ := hW
  have hA : DataW.TrodAll enc Tryz.prog W 0 (fun _ => true) true Tryz.f4.params.toList args.toList ds p := hA0
  rw [Tryz.params4] at hA hval
  obtain ⟨v0, vs0, d0, ds0, p0, q0, hargs, rfl, rfl, h0, r0⟩ := trodAll_cons hA
  obtain ⟨v1, vs1, d1, ds1, p1, q1, rfl, rfl, rfl, h1, r1⟩ := trodAll_cons r0
  obtain ⟨rfl, rfl, rfl⟩ := trodAll_nil r1
  obtain rfl : args = #[v0, v1] := by cases args; simp_all
  obtain ⟨rfl, rfl⟩ := trodVars_none hV
  obtain ⟨T, rfl, rfl, rfl, hT⟩ := open_int Tryz.underlying33 (hval 0 33 v0 rfl rfl) h0
  have hTb := bounds_u32 hT
  clear hA0
  have hg := gw_of hsh
  have h1k := h1
  have hlt : ∀ x ∈ p1, x.block < W.heap.size := fun x hx => by simpa using hW'.lt x (by simpa using hx)
  have fin : (Calls Tryz.prog 4 #[.int .u32 T, v1] W fun e w' => e = .returned (.bool true) ∧ Below W.heap.size W w') → Calls Tryz.prog 4 #[.int .u32 T, v1] W fun e W' => ∃ v, e = .returned v ∧ Rows.measureAddsUpSpec.post enc Tryz.prog Tryz.f4 false true false false W #[.int .u32 T, v1] v W' := fun h => h.mono fun e W' ⟨he, hb⟩ => by
    subst he
    refine ⟨_, rfl, _, _, _, [], [] ++ (p1 ++ []), [], hW', ?_, ?_, rfl, hb.frame _, fun h => by cases h⟩
    · exact trodAll_cons_mk (shut_bool Tryz.underlying4 _) trodAll_mk0
    · exact trodAll_cons_mk (shut_int Tryz.underlying33 hT) (trodAll_cons_mk (Below.trod auLaid (by kernel_rfl) (of_decide_eq_true (by kernel_rfl)) h1k hb hlt) trodAll_mk0)
  refine fin ?_
  obtain ⟨a0, len0, cap0, rfl⟩ := okWide_slice Tryz.underlying34 (hval 1 34 v1 rfl rfl)
  obtain ⟨fuel, hf⟩ := h1
  rcases open_ints Tryz.underlying34 Tryz.underlying35 auCells hf with ⟨hcs, _⟩ | ⟨a, len, cap, zs, hcs, _, hl, hm, hz, _, hcell, hwz⟩
  · simp [Value.cells] at hcs
    obtain ⟨rfl, rfl, rfl⟩ := hcs
    exact addsUp_none T _ 0 0 W hg (.inl rfl) (by decide)
  · simp [Value.cells] at hcs
    obtain ⟨rfl, rfl, rfl⟩ := hcs
    have hlz : len0 ≤ zs.length := by
      rw [hz]
      split <;> omega
    by_cases hn : len0 = 0 ∨ 8 < len0
    · exact addsUp_none T _ len0 cap0 W hg hn (by omega)
    · have hln : (zs.take len0).length = len0 := by rw [List.length_take]; omega
      have h := addsUp_some T (some a) (zs.take len0) cap0 W hg hTb.1 (by omega) (by rw [hln]; omega) (by rw [hln]; omega) ⟨.inr ?_, ?_⟩
      · rw [hln] at h
        exact h
      · obtain ⟨b, o, sp⟩ := a
        obtain rfl : sp = none := by simpa [Addr.add] using World.cell?_spot (hcell 0 (by omega))
        refine ⟨b, o, rfl, fun j x hj => ?_⟩
        have hj2 : j < len0 := by rw [← hln]; exact (List.getElem?_eq_some_iff.1 hj).1
        rw [List.getElem?_take_of_lt hj2] at hj
        have h2 := hcell j (by omega)
        rw [add_plain, List.getD_eq_getElem?_getD, hj] at h2
        exact h2
      · intro x hx
        have := bounds_u16 (hwz x (List.mem_of_mem_take hx))
        omega

/-- A WORLD FOR THE WITNESS: the listed variables hold what their initialisers lay. -/
def auLit : DataW Unit → Value
  | .lit (.int k n) => .int k n
  | _ => .bool false
def auRow : DataW Unit → Array Value
  | .agg l => (l.map auLit).toArray
  | _ => #[]
def auRow2 : DataW Unit → Array Value
  | .agg l => (l.flatMap fun d => match d with
    | .agg m => m.map auLit
    | _ => []).toArray
  | _ => #[]
def auBytes : DataW Unit → ByteArray
  | .iface _ (.ptr (.agg [.lit (.string l)])) => ⟨l.toArray⟩
  | _ => ⟨#[]⟩
noncomputable def auLow : Nat := (World.holding Tryz.prog default ⟨#[], #[], []⟩).heap.size
def auSet (h : Array Obj) (g : Nat) (cs : Array Value) : Array Obj := h.modify g fun
  | .cells _ t frozen => .cells cs t frozen
  | o => o
noncomputable def auWorld (os : Os) : World :=
  let w0 := World.holding Tryz.prog os ⟨#[.cells #[.string (auBytes Rows.laid_strconv_ErrRange)] 248, .cells #[.string (auBytes Rows.laid_strconv_ErrSyntax)] 248], #[], []⟩
  { w0 with heap := auSet (auSet (auSet (auSet (auSet (auSet (auSet w0.heap 8 (auRow Rows.laid_math_bits_deBruijn32tab)) 9 (auRow Rows.laid_math_bits_deBruijn64tab)) 7 (auRow Rows.laid_internal_strconv_uint64pow10)) 6 (auRow2 Rows.laid_unicode_utf8_acceptRanges))
      4 #[.iface 246 (.pointer (some ⟨auLow, 0, none⟩))]) 3 #[.iface 246 (.pointer (some ⟨auLow + 1, 0, none⟩))]) 5 (auRow Rows.laid_unicode_utf8_first) }
abbrev auArgs : Array Value := #[.int .u32 0, .slice none 0 0]
set_option maxRecDepth 100000 in
theorem auLaidMet (os : Os) : laidMet Tryz.prog Rows.measureAddsUpRow.laid ((auWorld os).forCall (fun _ _ => 0) ⟨#[], auArgs, []⟩).memory :=
  laidMet_of_run' 8 (by kernel_rfl) (by kernel_rfl)
end Go.Proofs.YtocoghnopmjceaaGreatDoor

