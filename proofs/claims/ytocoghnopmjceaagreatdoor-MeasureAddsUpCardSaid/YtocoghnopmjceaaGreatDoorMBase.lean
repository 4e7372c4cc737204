/-
  Slices of words in memory, and natural numbers that they are; what later calls leave of them.
-/
import Derived.Test.YtocoghnopmjceaaGreatDoorMMaths
import Derived.Test.YtocoghnopmjceaaGreatDoorProg
import Derived.WalkKit
import Derived.Deep.QuietTactic
import Derived.BigQuiet
import Derived.WalkSmall
import Derived.Laws.Externs
import Derived.Lib.Mul64
import Derived.Laws.Bits64b
import Derived.Laws.AppendOwn
import Derived.Deep.OwnRows
import Derived.Laws.NewBlocks
namespace Go.Proofs.YtocoghnopmjceaaGreatDoor
open Go.RowKit

theorem hid {p : Prop} (h : p) : Hid p := h

theorem ret_int {k : IntKind} {a b : Int} (h : a = b) : Ending.returned (.int k a) = .returned (.int k b) := by rw [h]
theorem ret2_int {k : IntKind} {v : Value} {a b : Int} (h : a = b) : Ending.returned (.tuple #[v, .int k a]) = .returned (.tuple #[v, .int k b]) := by rw [h]
theorem ret_bool {a b : Bool} (h : a = b) : Ending.returned (.bool a) = .returned (.bool b) := by rw [h]

/-- 2^64. -/
def B64 : Nat := 18446744073709551616
theorem B64_eq : B64 = 18446744073709551616 := rfl
theorem B64_two : 2 ≤ B64 := by rw [B64_eq]; omega

/-- Cells of a row from an address on: the values f 0, f 1, .. -/
def RowAt (w : World) (b o n : Nat) (f : Nat → Value) : Prop := ∀ i, i < n → w.cell? ⟨b, o + i, none⟩ = some (f i)

theorem RowAt.later {w w' : World} {b o n : Nat} {f : Nat → Value} (h : RowAt w b o n f) (hb : Below w.heap.size w w') : RowAt w' b o n f := fun i hi => by
  have h1 := h i hi
  rw [hb.cell (p := ⟨b, o + i, none⟩) (World.block_lt_of_cell? w _ h1)]; exact h1

/-- A slice value whose elements, one cell each, are f 0 .. f (n - 1). -/
def SliceAt (w : World) (v : Value) (n : Nat) (f : Nat → Value) : Prop :=
  ∃ p c, v = .slice p n c ∧ n ≤ c ∧ c ≤ maxLen ∧ (n = 0 ∨ ∃ b o, p = some ⟨b, o, none⟩ ∧ RowAt w b o n f)

theorem SliceAt.later {w w' : World} {v : Value} {n : Nat} {f : Nat → Value} (h : SliceAt w v n f) (hb : Below w.heap.size w w') : SliceAt w' v n f := by
  obtain ⟨p, c, h1, h2, h3, h4⟩ := h
  refine ⟨p, c, h1, h2, h3, ?_⟩
  rcases h4 with h4 | ⟨b, o, h5, h6⟩
  · exact .inl h4
  · exact .inr ⟨b, o, h5, h6.later hb⟩

theorem SliceAt.congr {w : World} {v : Value} {n : Nat} {f g : Nat → Value} (h : SliceAt w v n f) (hfg : ∀ i, i < n → f i = g i) : SliceAt w v n g := by
  obtain ⟨p, c, h1, h2, h3, h4⟩ := h
  refine ⟨p, c, h1, h2, h3, ?_⟩
  rcases h4 with h4 | ⟨b, o, h5, h6⟩
  · exact .inl h4
  · exact .inr ⟨b, o, h5, fun i hi => by rw [h6 i hi, hfg i hi]⟩

/-- The word i of a list as a value. -/
def wd (l : List Nat) (i : Nat) : Value := .int .u64 ((l.getD i 0 : Nat) : Int)

/-- A slice of words. -/
def Wds (w : World) (v : Value) (l : List Nat) : Prop := (∀ d ∈ l, d < B64) ∧ SliceAt w v l.length (wd l)

theorem Wds.later {w w' : World} {v : Value} {l : List Nat} (h : Wds w v l) (hb : Below w.heap.size w w') : Wds w' v l := ⟨h.1, h.2.later hb⟩

/-- A natural number, as its words without a 0 at the end. -/
def Nat' (w : World) (v : Value) (n : Nat) : Prop := Wds w v (digs B64 n)

theorem Nat'.later {w w' : World} {v : Value} {n : Nat} (h : Nat' w v n) (hb : Below w.heap.size w w') : Nat' w' v n := Wds.later h hb

/-- How many words a number has. -/
def wl (n : Nat) : Nat := (digs B64 n).length

theorem Nat'.nil (w : World) : Nat' w (.slice none 0 0) 0 := by
  unfold Nat' Wds
  rw [digs_zero]
  exact ⟨by simp, none, 0, rfl, Nat.le_refl _, by unfold maxLen; omega, .inl rfl⟩

end Go.Proofs.YtocoghnopmjceaaGreatDoor

/-
  Contracts of small functions on words: isOne, trim, cmp.Compare.
-/
namespace Go.Proofs.YtocoghnopmjceaaGreatDoor
open Go.RowKit
theorem isOne_wds (v : Value) (l : List Nat) (w : World) (h : Wds w v l) :
    Calls Tryz.prog 98 #[v] w fun e w' => e = .returned (.bool (decide (l = [1]))) ∧ w = w' := by
  obtain ⟨hl, p, c, rfl, hc1, hc2, hcells⟩ := h
  by_cases h1 : l.length = 1
  · obtain ⟨x, rfl⟩ : ∃ x, l = [x] := by
      match l, h1 with
      | [x], _ => exact ⟨x, rfl⟩
    have hx := hl x (by simp)
    rcases hcells with h0 | ⟨b, o, rfl, hrow⟩
    · simp at h0
    · have hcell := hrow 0 (by simp)
      simp [wd] at hcell
      clear hrow hl
      by_cases hx1 : x = 1
      · subst hx1
        go_enter Tryz.func98, Tryz.ntmps98
        go_wp2
        go_ret
        exact ⟨rfl, rfl⟩
      · have hb : ((x : Int) == 1) = false := by simp; omega
        go_enter Tryz.func98, Tryz.ntmps98
        go_wp2
        go_ret
        refine ⟨?_, rfl⟩
        simp [hx1]
  · have hb : ((l.length : Int) == 1) = false := by simp; omega
    have hf : decide (l = [1]) = false := by
      apply decide_eq_false; rintro rfl; exact h1 rfl
    rw [hf]
    clear hcells hl hf h1
    go_enter Tryz.func98, Tryz.ntmps98
    go_wp2
    go_ret
    exact ⟨rfl, rfl⟩

def slLen : Value → Nat
  | .slice _ k _ => k
  | _ => 0

theorem take_digs (l : List Nat) (k : Nat) (hl : ∀ d ∈ l, d < B64) (hk : k ≤ l.length) (hv : val B64 l = low B64 l k) (hlast : k = 0 ∨ l.getD (k - 1) 0 ≠ 0) : digs B64 (val B64 l) = l.take k := by
  rw [hv]
  refine digs_val B64 B64_two _ (fun d hd => hl d (List.mem_of_mem_take hd)) ?_
  intro m d hm
  rcases hlast with h0 | h0
  · subst h0; simp at hm
  · have hlen : (l.take k).length = k := by simp; omega
    have hd : (l.take k).getD (k - 1) 0 = d := by
      have : m.length = k - 1 := by rw [hm] at hlen; simp at hlen; omega
      rw [hm, ← this]; simp
    have hk0 : 0 < k := by
      rw [hm] at hlen; simp at hlen; omega
    rw [← hd]
    have : (l.take k).getD (k - 1) 0 = l.getD (k - 1) 0 := by
      simp only [List.getD_eq_getElem?_getD]; rw [List.getElem?_take_of_lt (by omega)]
    rw [this]; exact h0

theorem take_nat (w : World) (p : Option Addr) (c : Nat) (l : List Nat) (k : Nat) (hl : ∀ d ∈ l, d < B64) (hk : k ≤ l.length) (hc1 : l.length ≤ c) (hc2 : c ≤ maxLen)
    (hcells : l.length = 0 ∨ ∃ b o, p = some ⟨b, o, none⟩ ∧ RowAt w b o l.length (wd l)) (e : digs B64 (val B64 l) = l.take k) : Nat' w (.slice p k c) (val B64 l) := by
  have hlen : (l.take k).length = k := by simp; omega
  unfold Nat' Wds
  rw [e]
  refine ⟨fun d hd => hl d (List.mem_of_mem_take hd), p, c, by rw [hlen], by omega, hc2, ?_⟩
  rw [hlen]
  rcases hcells with h0 | ⟨b, o, hp, hrow⟩
  · exact .inl (by omega)
  · refine .inr ⟨b, o, hp, fun i hi => ?_⟩
    rw [hrow i (by omega)]
    unfold wd
    simp only [List.getD_eq_getElem?_getD]; rw [List.getElem?_take_of_lt hi]

theorem trim_take (p : Option Addr) (c : Nat) (l : List Nat) (w : World) (h : Wds w (.slice p l.length c) l) :
    Calls Tryz.prog 76 #[.slice p l.length c] w fun e w' => (∃ k, k ≤ l.length ∧ e = .returned (.slice p k c) ∧ digs B64 (val B64 l) = l.take k) ∧ w = w' := by
  obtain ⟨hl, p', c', he, hc1, hc2, hcells⟩ := h
  cases he
  unfold maxLen at hc2
  have fin := fun k hk => take_digs l k hl hk
  have FIN := hid fin
  clear fin
  go_enter Tryz.func76, Tryz.ntmps76
  go_wp2
  go_loop [0] (fun s => ∃ k : Nat, k ≤ l.length ∧ s = .slice p k c ∧ Hid (val B64 l = low B64 l k)) slLen
  case atStart => exact ⟨_, Nat.le_refl _, rfl, hid (low_all _ _ _ (Nat.le_refl _)).symm⟩
  case round =>
    obtain ⟨k, hk, rfl, hv⟩ := hrel
    by_cases hk0 : k = 0
    · subst hk0
      go_wp2
      go_ret
      exact ⟨⟨0, Nat.zero_le _, rfl, FIN.out 0 hk hv.out (.inl rfl)⟩, rfl⟩
    · obtain ⟨j, rfl⟩ : ∃ j, k = j + 1 := ⟨k - 1, by omega⟩
      rcases hcells with h0 | ⟨b, o, rfl, hrow⟩
      · omega
      have hcell := hrow j (by omega)
      unfold wd at hcell
      have hs := low_succ B64 l j
      have hx := getD_lt (b := B64) (by rw [B64_eq]; omega) hl j
      rw [B64_eq] at hx
      generalize hxx : l.getD j 0 = x at *
      have HX := hid hxx
      have HS := hid hs
      clear hxx hs hl hrow
      by_cases hx0 : x = 0
      · subst hx0
        have hb : (((0:Nat):Int) == 0) = true := rfl
        go_wp2
        exact ⟨⟨j, by omega, rfl, hid (by rw [hv.out, HS.out]; omega)⟩, by simp [slLen]⟩
      · have hb : ((x:Int) == 0) = false := by simp; omega
        go_wp2
        go_ret
        exact ⟨⟨_, hk, rfl, FIN.out _ hk hv.out (.inr (by show l.getD (j + 1 - 1) 0 ≠ 0; rw [Nat.add_sub_cancel, HX.out]; exact hx0))⟩, rfl⟩
theorem trim_wds (v : Value) (l : List Nat) (w : World) (h : Wds w v l) :
    Calls Tryz.prog 76 #[v] w fun e w' => (∃ v', e = .returned v' ∧ Nat' w v' (val B64 l)) ∧ w = w' := by
  have h0 := h
  obtain ⟨hl, p, c, rfl, hc1, hc2, hcells⟩ := h
  refine (trim_take p c l w h0).mono ?_
  rintro e w' ⟨⟨k, hk, rfl, hd⟩, rfl⟩
  exact ⟨⟨_, rfl, take_nat w p c l k hl hk hc1 hc2 hcells hd⟩, rfl⟩

/-- -1, 0 or 1. -/
def cmpI (x y : Int) : Int := if x < y then -1 else if y < x then 1 else 0
theorem cmpI_lt {x y : Int} (h : x < y) : cmpI x y = -1 := if_pos h
theorem cmpI_gt {x y : Int} (h : y < x) : cmpI x y = 1 := by unfold cmpI; rw [if_neg (by omega), if_pos h]
theorem cmpI_eq {x y : Int} (h : x = y) : cmpI x y = 0 := by unfold cmpI; rw [if_neg (by omega), if_neg (by omega)]
theorem cmpInt_any (x y : Int) (w : World) :
    Calls Tryz.prog 25 #[.int .i64 x, .int .i64 y] w fun e w' => e = .returned (.int .i64 (cmpI x y)) ∧ w' = w := by
  rcases Int.lt_trichotomy x y with h1 | h1 | h1
  · have HE := hid (cmpI_lt h1)
    go_enter Tryz.func25, Tryz.ntmps25
    go_wp2
    go_ret
    exact ⟨ret_int HE.out.symm, rfl⟩
  · subst h1
    have HE := hid (cmpI_eq (Eq.refl x))
    go_enter Tryz.func25, Tryz.ntmps25
    go_wp2
    go_ret
    exact ⟨ret_int HE.out.symm, rfl⟩
  · have HE := hid (cmpI_gt h1)
    go_enter Tryz.func25, Tryz.ntmps25
    go_wp2
    go_ret
    exact ⟨ret_int HE.out.symm, rfl⟩
theorem cmpU64_any (x y : Int) (w : World) :
    Calls Tryz.prog 107 #[.int .u64 x, .int .u64 y] w fun e w' => e = .returned (.int .i64 (cmpI x y)) ∧ w' = w := by
  rcases Int.lt_trichotomy x y with h1 | h1 | h1
  · have HE := hid (cmpI_lt h1)
    go_enter Tryz.func107, Tryz.ntmps107
    go_wp2
    go_ret
    exact ⟨ret_int HE.out.symm, rfl⟩
  · subst h1
    have HE := hid (cmpI_eq (Eq.refl x))
    go_enter Tryz.func107, Tryz.ntmps107
    go_wp2
    go_ret
    exact ⟨ret_int HE.out.symm, rfl⟩
  · have HE := hid (cmpI_gt h1)
    go_enter Tryz.func107, Tryz.ntmps107
    go_wp2
    go_ret
    exact ⟨ret_int HE.out.symm, rfl⟩
end Go.Proofs.YtocoghnopmjceaaGreatDoor

/-
  Contracts of math/bits: Add64, Sub64, Mul64, and of multiplyWord.
-/
namespace Go.Proofs.YtocoghnopmjceaaGreatDoor
open Go.RowKit

def addLo (x y c : Nat) : Nat := (x + y + c) % B64
def addHi (x y c : Nat) : Nat := (x + y + c) / B64
def subLo (x y c : Nat) : Nat := (x + B64 - y - c) % B64
def subHi (x y c : Nat) : Nat := if x < y + c then 1 else 0
def mwLo (x y z : Nat) : Nat := (x * y + z) % B64
def mwHi (x y z : Nat) : Nat := (x * y + z) / B64

theorem addLo_lt (x y c : Nat) : addLo x y c < B64 := Nat.mod_lt _ (by rw [B64_eq]; omega)
theorem subLo_lt (x y c : Nat) : subLo x y c < B64 := Nat.mod_lt _ (by rw [B64_eq]; omega)
theorem mwLo_lt (x y c : Nat) : mwLo x y c < B64 := Nat.mod_lt _ (by rw [B64_eq]; omega)
theorem addHi_le {x y c : Nat} (hx : x < B64) (hy : y < B64) (hc : c ≤ 1) : addHi x y c ≤ 1 := by
  unfold addHi
  rw [B64_eq] at *; omega
theorem subHi_le (x y c : Nat) : subHi x y c ≤ 1 := by unfold subHi; split <;> omega
theorem add_eq (x y c : Nat) : addLo x y c + B64 * addHi x y c = x + y + c := Nat.mod_add_div _ _
theorem mw_eq (x y c : Nat) : mwLo x y c + B64 * mwHi x y c = x * y + c := Nat.mod_add_div _ _
theorem sub_eq {x y c : Nat} (hx : x < B64) (hy : y < B64) (hc : c ≤ 1) : subLo x y c + y + c = x + B64 * subHi x y c := by
  unfold subLo subHi
  rw [B64_eq] at *
  split <;> omega
theorem mul_le_sq {x y : Nat} (hx : x < B64) (hy : y < B64) : x * y ≤ (B64 - 1) * (B64 - 1) := Nat.mul_le_mul (by omega) (by omega)
theorem mwHi_lt {x y z : Nat} (hx : x < B64) (hy : y < B64) (hz : z < B64) : mwHi x y z < B64 := by
  unfold mwHi
  have h := mul_le_sq hx hy
  rw [B64_eq] at *
  omega

theorem add64_run (x y c : Nat) (hc : c ≤ 1) (w : World) :
    (callFunc 108 #[.int .u64 x, .int .u64 y, .int .u64 c]).run Tryz.prog w = .ok (.value (.tuple #[.int .u64 (addLo x y c : Nat), .int .u64 (addHi x y c : Nat)])) w := by
  rw [run_callFunc_extern Tryz.func108 (by kernel_rfl) (by kernel_rfl) (by kernel_rfl) (e := (Extern.MathBitsCarry.rows[0]'(by decide)).2) (by kernel_rfl)]
  have : c = 0 ∨ c = 1 := by omega
  rcases this with rfl | rfl <;> rfl
theorem sub64_run (x y c : Nat) (hc : c ≤ 1) (w : World) :
    (callFunc 147 #[.int .u64 x, .int .u64 y, .int .u64 c]).run Tryz.prog w = .ok (.value (.tuple #[.int .u64 (subLo x y c : Nat), .int .u64 (subHi x y c : Nat)])) w := by
  rw [run_callFunc_extern Tryz.func147 (by kernel_rfl) (by kernel_rfl) (by kernel_rfl) (e := (Extern.MathBitsCarry.rows[1]'(by decide)).2) (by kernel_rfl)]
  have : c = 0 ∨ c = 1 := by omega
  rcases this with rfl | rfl <;> rfl

theorem mask32 (a : Nat) (ha : a < 18446744073709551616) : bits .and .u64 (a : Int) 4294967295 = ((a % 4294967296 : Nat) : Int) := by
  have h := bits_and_u64_nat a 4294967295 ha (by omega)
  rw [show a &&& 4294967295 = a % 4294967296 from Nat.and_two_pow_sub_one_eq_mod a 32] at h
  exact h
theorem div32 (a : Nat) : (a : Int) / 4294967296 = ((a / 4294967296 : Nat) : Int) := by omega
theorem mulI (a b : Nat) : (a : Int) * (b : Int) = ((a * b : Nat) : Int) := (Int.natCast_mul a b).symm
theorem addI (a b : Nat) : (a : Int) + (b : Int) = ((a + b : Nat) : Int) := (Int.natCast_add a b).symm
theorem wrapI (a : Nat) (ha : a < 18446744073709551616) : IntKind.u64.wrap (a : Int) = (a : Int) := by rw [IntKind.wrap_u64]; omega
theorem wrapMod (a : Nat) : IntKind.u64.wrap (a : Int) = ((a % 18446744073709551616 : Nat) : Int) := by rw [IntKind.wrap_u64]; omega

set_option maxHeartbeats 1000000 in
theorem mul64_any (x y : Nat) (hx : x < B64) (hy : y < B64) (w : World) :
    Calls Tryz.prog 133 #[.int .u64 x, .int .u64 y] w fun e w' => e = .returned (.tuple #[.int .u64 (mwHi x y 0 : Nat), .int .u64 (mwLo x y 0 : Nat)]) ∧ w' = w := by
  rw [B64_eq] at hx hy
  obtain ⟨bd, bt, bw, hhi⟩ := Lib.mul64_hi x y hx hy
  have ba := Lib.half_mul_le (a := x / 4294967296) (b := y / 4294967296) (by omega) (by omega)
  have bb := Lib.half_mul_le (a := x / 4294967296) (b := y % 4294967296) (by omega) (by omega)
  have bc := Lib.half_mul_le (a := x % 4294967296) (b := y / 4294967296) (by omega) (by omega)
  have ba' : x / 4294967296 * (y / 4294967296) < 18446744073709551616 := by omega
  have bb' : x / 4294967296 * (y % 4294967296) < 18446744073709551616 := by omega
  have bc' : x % 4294967296 * (y / 4294967296) < 18446744073709551616 := by omega
  have bh1 : x / 4294967296 * (y / 4294967296) + (x / 4294967296 * (y % 4294967296) + x % 4294967296 * (y % 4294967296) / 4294967296) / 4294967296 < 18446744073709551616 := by omega
  have bh : x / 4294967296 * (y / 4294967296) + (x / 4294967296 * (y % 4294967296) + x % 4294967296 * (y % 4294967296) / 4294967296) / 4294967296 + ((x / 4294967296 * (y % 4294967296) + x % 4294967296 * (y % 4294967296) / 4294967296) % 4294967296 + x % 4294967296 * (y / 4294967296)) / 4294967296 < 18446744073709551616 := by omega
  have e1 : mwHi x y 0 = x * y / 18446744073709551616 := by unfold mwHi; rw [B64_eq]; omega
  have e2 : mwLo x y 0 = x * y % 18446744073709551616 := by unfold mwLo; rw [B64_eq]; omega
  rw [e1, e2]
  clear e1 e2
  go_enter Tryz.func133, Tryz.ntmps133
  go_wp2
  simp only [mask32 x hx, mask32 y hy, div32, mulI, addI, wrapI _ bd, wrapI _ bb', wrapI _ bt, mask32 _ bt, wrapI _ bc', wrapI _ bw, wrapI _ ba', wrapI _ bh1, wrapI _ bh, wrapMod]
  rw [hhi]
  go_ret2
  exact ⟨rfl, rfl⟩

theorem mw_hi_add (x y z : Nat) : mwHi x y z = mwHi x y 0 + addHi (mwLo x y 0) z 0 ∧ mwLo x y z = addLo (mwLo x y 0) z 0 := by
  have h := mw_eq x y 0
  unfold mwHi mwLo addHi addLo
  generalize x * y = p
  rw [B64_eq]
  omega

theorem multiplyWord_any (x y z : Nat) (hx : x < B64) (hy : y < B64) (hz : z < B64) (w : World) :
    Calls Tryz.prog 97 #[.int .u64 x, .int .u64 y, .int .u64 z] w fun e w' => e = .returned (.tuple #[.int .u64 (mwLo x y z : Nat), .int .u64 (mwHi x y z : Nat)]) ∧ w' = w := by
  have hadd0 : ∀ w, (callFunc 108 #[.int .u64 (mwLo x y 0 : Nat), .int .u64 z, .int .u64 0]).run Tryz.prog w = .ok (.value (.tuple #[.int .u64 (addLo (mwLo x y 0) z 0 : Nat), .int .u64 (addHi (mwLo x y 0) z 0 : Nat)])) w := fun w => add64_run (mwLo x y 0) z 0 (by omega) w
  have hm := mwHi_lt hx hy hz
  obtain ⟨h1, h2⟩ := mw_hi_add x y z
  rw [h2, h1]
  rw [h1] at hm
  have hsum : IntKind.u64.wrap ((mwHi x y 0 : Int) + (addHi (mwLo x y 0) z 0 : Int)) = (mwHi x y 0 : Int) + (addHi (mwLo x y 0) z 0 : Int) := by
    rw [IntKind.wrap_u64]; rw [B64_eq] at hm; omega
  clear h1 h2 hm
  rw [← addI]
  have HM : Hid (∀ w, Calls Tryz.prog 133 #[.int .u64 x, .int .u64 y] w fun e w' => e = .returned (.tuple #[.int .u64 (mwHi x y 0 : Nat), .int .u64 (mwLo x y 0 : Nat)]) ∧ w' = w) := fun w => mul64_any x y hx hy w
  have HS := hid hsum
  clear hx hy hz hsum
  generalize mwLo x y 0 = lo at *
  generalize mwHi x y 0 = hi at *
  generalize addLo lo z 0 = slo at *
  generalize addHi lo z 0 = shi at *
  go_enter Tryz.func97, Tryz.ntmps97
  go_wp2_with fail
  refine (HM.out _).mono ?_
  rintro e w' ⟨rfl, hw⟩
  rw [hw]
  clear hw
  go_wp2_with fail
  go_ret2
  refine ⟨?_, rfl⟩
  show Ending.returned (.tuple #[.int .u64 slo, .int .u64 (IntKind.u64.wrap (↑hi + ↑shi))]) = _
  rw [HS.out]

end Go.Proofs.YtocoghnopmjceaaGreatDoor

/-
  Rows of memory that a call has made itself: what is in them, and what a store makes of them.
-/
namespace Go.Proofs.YtocoghnopmjceaaGreatDoor
open Go.RowKit

/-- Block g has n cells f 0, f 1, .. that may be written. -/
def Own (w : World) (g n : Nat) (f : Nat → Value) : Prop := g < w.heap.size ∧ ∀ i, i < n → w.cell? ⟨g, i, none⟩ = some (f i) ∧ w.frozen? ⟨g, i, none⟩ = false

theorem Own.set {w : World} {g n : Nat} {f : Nat → Value} (h : Own w g n f) (i : Nat) (hi : i < n) (v : Value) : Own (w.setCell ⟨g, i, none⟩ v) g n (fun k => if k = i then v else f k) := by
  refine ⟨by rw [World.size_setCell]; exact h.1, fun k hk => ?_⟩
  rw [World.frozen?_setCell]
  refine ⟨?_, (h.2 k hk).2⟩
  by_cases e : k = i
  · subst e; simp only [if_pos]; exact World.cell?_setCell_same _ _ _ (h.2 k hk).1
  · simp only [if_neg e]; rw [World.cell?_setCell_other _ _ _ _ (by intro h'; injection h' with _ h'; exact e h'.symm)]
    exact (h.2 k hk).1

theorem Own.later {w w' : World} {g n : Nat} {f : Nat → Value} (h : Own w g n f) (hb : Below (g + 1) w w') : Own w' g n f := by
  refine ⟨Nat.lt_of_lt_of_le h.1 hb.size, fun k hk => ?_⟩
  rw [hb.cell (p := ⟨g, k, none⟩) (Nat.lt_succ_self g), hb.frozen (p := ⟨g, k, none⟩) (Nat.lt_succ_self g)]
  exact h.2 k hk

theorem Own.congr {w : World} {g n : Nat} {f f' : Nat → Value} (h : Own w g n f) (hf : ∀ i, i < n → f i = f' i) : Own w g n f' :=
  ⟨h.1, fun i hi => by rw [← hf i hi]; exact h.2 i hi⟩

theorem Own.row {w : World} {g n : Nat} {f : Nat → Value} (h : Own w g n f) : RowAt w g 0 n f := fun i hi => by rw [Nat.zero_add]; exact (h.2 i hi).1

theorem Own.sliceAt {w : World} {g n c : Nat} {f : Nat → Value} (h : Own w g n f) (hn : n ≤ c) (hc : c ≤ maxLen) : SliceAt w (.slice (some ⟨g, 0, none⟩) n c) n f :=
  ⟨some ⟨g, 0, none⟩, c, rfl, hn, hc, .inr ⟨g, 0, rfl, h.row⟩⟩

/-- A new block of n words 0. -/
def wordBlock (n : Nat) : Obj := .cells (madeCells #[.int .u64 0] n) 132

theorem own_words (w : World) (n : Nat) : Own (w.alloc (wordBlock n)) w.heap.size n (wd (List.replicate n 0)) := by
  refine ⟨by rw [World.size_alloc]; omega, fun i hi => ?_⟩
  unfold wordBlock
  rw [World.cell?_alloc_at _ _ _ _ rfl, World.frozen?_alloc_at _ _ _ _ rfl]
  refine ⟨?_, rfl⟩
  rw [← Array.getElem?_toList, toList_madeCells_one]
  unfold wd
  simp [hi]

/-- How large a row of words may be made here. -/
def Cap : Nat := 1099511627776
theorem Cap_pos : 1 ≤ Cap := by unfold Cap; omega

theorem make_words (n : Nat) (x : Int) (hx : x = n) (h : n ≤ Cap + Cap) (w : World) :
    (Instr.makeSlice 73 (.int .i64 x) (.int .i64 x)).run Tryz.prog w = .ok (.slice (some ⟨w.heap.size, 0, none⟩) n n) (w.alloc (wordBlock n)) := by
  subst hx
  unfold Cap at h
  exact run_make_row' (P := Tryz.prog) 73 132 (.int .u64 0) 8 Tryz.underlying73 (by kernel_rfl) rfl .i64 .i64 n (by omega) (by omega) w

theorem wd_set (l : List Nat) (i x : Nat) (hi : i < l.length) : (fun k => if k = i then Value.int .u64 (x : Nat) else wd l k) = wd (l.set i x) := by
  funext k
  unfold wd
  by_cases e : k = i
  · subst e; simp [hi]
  · rw [if_neg e]; simp [Ne.symm e]

theorem Own.setWord {w : World} {g : Nat} {l : List Nat} (h : Own w g l.length (wd l)) (i : Nat) (hi : i < l.length) (x : Nat) : Own (w.setCell ⟨g, i, none⟩ (.int .u64 (x : Nat))) g (l.set i x).length (wd (l.set i x)) := by
  rw [← wd_set l i x hi, List.length_set]
  exact h.set i hi _

theorem low_set_ge (b : Nat) (l : List Nat) (i x k : Nat) (h : k ≤ i) : low b (l.set i x) k = low b l k := by
  unfold low; rw [List.take_set_of_le h]
theorem getD_set_same (l : List Nat) (i x : Nat) (h : i < l.length) : (l.set i x).getD i 0 = x := by simp [h]
theorem getD_set_other (l : List Nat) (i k x : Nat) (h : k ≠ i) : (l.set i x).getD k 0 = l.getD k 0 := by simp [Ne.symm h]
theorem low_set_succ (b : Nat) (l : List Nat) (i x : Nat) (h : i < l.length) : low b (l.set i x) (i + 1) = low b l i + b ^ i * x := by
  rw [low_succ, low_set_ge b l i x i (Nat.le_refl _), getD_set_same l i x h]
theorem set_lt {b : Nat} {l : List Nat} (h : ∀ d ∈ l, d < b) (i x : Nat) (hx : x < b) : ∀ d ∈ l.set i x, d < b := by
  intro d hd
  rcases List.mem_or_eq_of_mem_set hd with h1 | h1
  · exact h d h1
  · rw [h1]; exact hx
theorem replicate_lt {b : Nat} (hb : 0 < b) (n : Nat) : ∀ d ∈ List.replicate n 0, d < b := by
  intro d hd; rw [(List.mem_replicate.1 hd).2]; exact hb

/-- Block g alone has been written; nothing was made. -/
def Only (g : Nat) (w w' : World) : Prop := (∀ B, B ≤ g → Below B w w') ∧ ∀ k, k ≠ g → w'.heap[k]? = w.heap[k]?

theorem Only.refl (g : Nat) (w : World) : Only g w w := ⟨fun _ _ => Below.refl _ _, fun _ _ => rfl⟩
theorem Only.trans {g : Nat} {a b c : World} (h : Only g a b) (k : Only g b c) : Only g a c := ⟨fun B hB => (h.1 B hB).trans (k.1 B hB), fun i hi => (k.2 i hi).trans (h.2 i hi)⟩
theorem Only.below {g B : Nat} {w w' : World} (h : Only g w w') (hB : B ≤ g) : Below B w w' := h.1 B hB
theorem Only.set {g : Nat} {w w' : World} (h : Only g w w') (o : Nat) (v : Value) : Only g w (w'.setCell ⟨g, o, none⟩ v) :=
  ⟨fun B hB => (h.1 B hB).setCell hB v, fun k hk => (Below.heap_setCell _ _ _ _ hk).trans (h.2 k hk)⟩
theorem Only.drewN {g : Nat} {w w' : World} (h : Only g w w') (n : Nat) : Only g w (w'.drewN n) := ⟨fun B hB => below_drewN (h.1 B hB) n, h.2⟩
theorem Only.own {g g' n : Nat} {w w' : World} {f : Nat → Value} (h : Only g w w') (ho : Own w g' n f) (hne : g' ≠ g) : Own w' g' n f := by
  have hb := h.2 g' hne
  refine ⟨?_, fun i hi => ?_⟩
  · rcases Nat.lt_or_ge g' w'.heap.size with h1 | h1
    · exact h1
    · rw [Array.getElem?_eq_none h1, Array.getElem?_eq_getElem ho.1] at hb; cases hb
  · rw [World.cell?_of_block (a := ⟨g', i, none⟩) hb, World.frozen?_of_block (a := ⟨g', i, none⟩) hb]
    exact ho.2 i hi

end Go.Proofs.YtocoghnopmjceaaGreatDoor

/-
  Slices of machine integers; sumOfWeights.
-/
namespace Go.Proofs.YtocoghnopmjceaaGreatDoor
open Go.RowKit

/-- The integer i of a list as a value. -/
def iv (l : List Int) (i : Nat) : Value := .int .i64 (l.getD i 0)

/-- A slice of machine integers. -/
def Ints (w : World) (v : Value) (l : List Int) : Prop := SliceAt w v l.length (iv l)

theorem Ints.later {w w' : World} {v : Value} {l : List Int} (h : Ints w v l) (hb : Below w.heap.size w w') : Ints w' v l := SliceAt.later h hb

/-- Whether a weight is within its limits. -/
def wIn (x : Int) : Bool := decide (0 ≤ x) && decide (x ≤ 999999999)

theorem wIn_iff {x : Int} : wIn x = true ↔ 0 ≤ x ∧ x ≤ 999999999 := by simp [wIn]

theorem sum_take_succ (l : List Int) (k : Nat) (h : k < l.length) : (l.take (k + 1)).sum = (l.take k).sum + l.getD k 0 := by
  rw [List.take_succ_eq_append_getElem h, List.sum_append]
  simp [h]

theorem sum_bound (l : List Int) (h : ∀ x ∈ l, wIn x = true) : 0 ≤ l.sum ∧ l.sum ≤ l.length * 999999999 := by
  induction l with
  | nil => simp
  | cons x l ih =>
    have h1 := wIn_iff.1 (h x (by simp))
    have h2 := ih (fun y hy => h y (by simp [hy]))
    simp only [List.sum_cons, List.length_cons]
    omega

/-- The error of weights. -/
def wErr (l : List Int) : Nat := if l.all wIn then (if l.sum = 0 then 6 else 0) else 3

theorem wErr_bad {l : List Int} {k : Nat} (h : k < l.length) (hx : wIn (l.getD k 0) = false) : wErr l = 3 := by
  unfold wErr
  rw [if_neg]
  intro h1
  rw [List.all_eq_true] at h1
  have := h1 (l.getD k 0) (by simp [h])
  rw [hx] at this
  cases this

theorem wErr_all {l : List Int} (h : ∀ x ∈ l, wIn x = true) : wErr l = if l.sum = 0 then 6 else 0 := by
  unfold wErr
  rw [if_pos (List.all_eq_true.2 h)]

theorem wErr_zero {l : List Int} (h : wErr l = 0) : (∀ x ∈ l, wIn x = true) ∧ l.sum ≠ 0 := by
  unfold wErr at h
  split at h
  · rename_i h1
    split at h
    · cases h
    · exact ⟨List.all_eq_true.1 h1, by assumption⟩
  · cases h

theorem take_all_succ {l : List Int} {k : Nat} (h : ∀ x ∈ l.take k, wIn x = true) (hk : k < l.length) (hx : wIn (l.getD k 0) = true) : ∀ x ∈ l.take (k + 1), wIn x = true := by
  intro x hm
  rw [List.take_succ_eq_append_getElem hk, List.mem_append] at hm
  rcases hm with hm | hm
  · exact h x hm
  · simp at hm
    subst hm
    simpa [hk] using hx

/-- What sumOfWeights answers. -/
def SumOf (l : List Int) (e : Ending) : Prop := e = .returned (.tuple #[.int .i64 (if wErr l = 0 then l.sum else 0), .int .i64 (wErr l : Nat)])

theorem sumOf_bad {l : List Int} {k : Nat} (h : k < l.length) (hx : wIn (l.getD k 0) = false) : SumOf l (.returned (.tuple #[.int .i64 0, .int .i64 3])) := by
  unfold SumOf; rw [wErr_bad h hx]; rfl
theorem sumOf_zero {l : List Int} (h : ∀ x ∈ l, wIn x = true) (h0 : l.sum = 0) : SumOf l (.returned (.tuple #[.int .i64 0, .int .i64 6])) := by
  unfold SumOf; rw [wErr_all h, if_pos h0]; rfl
theorem sumOf_some {l : List Int} (h : ∀ x ∈ l, wIn x = true) (h0 : l.sum ≠ 0) : SumOf l (.returned (.tuple #[.int .i64 l.sum, .int .i64 0])) := by
  unfold SumOf; rw [wErr_all h, if_neg h0]; rfl

set_option maxRecDepth 100000 in
set_option maxHeartbeats 1000000 in
/-- sumOfWeights returns the sum of weights, or their first error. -/
theorem sumOfWeights_any (v : Value) (l : List Int) (w : World) (h : Ints w v l) (hlen : l.length ≤ 1048576) :
    Calls Tryz.prog 22 #[v] w fun e w' => SumOf l e ∧ w = w' := by
  obtain ⟨p, c, rfl, hc1, hc2, hcells⟩ := h
  unfold maxLen at hc2
  have HC := hid hcells
  clear hcells
  go_enter Tryz.func22, Tryz.ntmps22
  go_wp2_with fail
  go_loop [4, 9] (fun s i => ∃ k : Nat, k ≤ l.length ∧ i = .int .i64 k ∧ s = .int .i64 (l.take k).sum ∧ Hid (∀ x ∈ l.take k, wIn x = true)) (fun _ i => l.length - (intOf i).toNat)
  case atStart => exact ⟨0, Nat.zero_le _, rfl, rfl, hid (by simp)⟩
  case round =>
    obtain ⟨k, hk, rfl, rfl, HA⟩ := hrel
    have hb := sum_bound _ HA.out
    have hlk : (l.take k).length ≤ k := List.length_take_le _ _
    by_cases hlt : k < l.length
    · rcases HC.out with h0 | ⟨b, o, rfl, hrow⟩
      · omega
      have hcell := hrow k hlt
      unfold iv at hcell
      have HX := hid (wErr_bad hlt)
      have HBD := hid (@sumOf_bad l k hlt)
      have HT := hid (@take_all_succ l k HA.out hlt)
      have HS := hid (sum_take_succ l k hlt)
      clear hrow
      generalize hx : l.getD k 0 = x at *
      have HXX := hid hx
      clear hx
      generalize (l.take k).sum = s at *
      by_cases h1 : x < 0
      · have hw : Hid (wIn x = false) := hid (by unfold wIn; simp; omega)
        go_wp2_with fail
        go_ret2
        exact ⟨HBD.out hw.out, rfl⟩
      · by_cases h2 : 999999999 < x
        · have hw : Hid (wIn x = false) := hid (by unfold wIn; simp; omega)
          go_wp2_with fail
          go_ret2
          exact ⟨HBD.out hw.out, rfl⟩
        · have hw : Hid (wIn x = true) := hid (by unfold wIn; simp; omega)
          go_wp2_with fail
          go_round
          case rel => exact ⟨k + 1, by omega, by go_num, by rw [HS.out], hid (HT.out hw.out)⟩
          case measure => simp [intOf]; omega
    · have hkl : k = l.length := by omega
      have HA2 : Hid (∀ x ∈ l, wIn x = true) := hid (by have := HA.out; rw [hkl, List.take_length] at this; exact this)
      have HSU : Hid ((l.take k).sum = l.sum) := hid (by rw [hkl, List.take_length])
      have HZ := hid (sumOf_zero HA2.out)
      have HSO := hid (sumOf_some HA2.out)
      generalize (l.take k).sum = s at *
      obtain rfl := HSU.out
      clear hkl
      by_cases h0 : l.sum = 0
      · have hb0 : (l.sum == 0) = true := beq_iff_eq.2 h0
        have HZ2 := hid (HZ.out h0)
        clear h0
        go_wp2_with fail
        go_ret2
        exact ⟨HZ2.out, rfl⟩
      · have hb0 : (l.sum == 0) = false := beq_eq_false_iff_ne.2 h0
        have HZ2 := hid (HSO.out h0)
        clear h0
        go_wp2_with fail
        go_ret2
        exact ⟨HZ2.out, rfl⟩
end Go.Proofs.YtocoghnopmjceaaGreatDoor

