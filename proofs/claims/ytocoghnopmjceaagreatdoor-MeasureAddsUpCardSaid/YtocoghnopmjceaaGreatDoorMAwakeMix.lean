/-
  The reference's comparisons, where both are the same; one.
-/
import Derived.Test.YtocoghnopmjceaaGreatDoorMEachLayer
import Derived.Test.YtocoghnopmjceaaGreatDoorMBase
import Derived.BigQuiet
import Derived.Test.YtocoghnopmjceaaGreatDoorMNumWalk
import Derived.Test.YtocoghnopmjceaaGreatDoorMSpans
import Derived.Test.YtocoghnopmjceaaGreatDoorMNv
import Derived.Test.YtocoghnopmjceaaGreatDoorMMinMax
import Derived.Test.YtocoghnopmjceaaGreatDoorMRound
import Derived.Test.YtocoghnopmjceaaGreatDoorMClash
import Derived.Test.YtocoghnopmjceaaGreatDoorMMean
import Derived.Test.YtocoghnopmjceaaGreatDoorMApMath
import Derived.Test.YtocoghnopmjceaaGreatDoorMMix
import Derived.Test.YtocoghnopmjceaaGreatDoorMWet
namespace Go.Proofs.YtocoghnopmjceaaGreatDoor
open Go.RowKit

def IntsAt (W : World) (b o : Nat) (l : List Int) : Prop := ∀ (j : Nat) (x : Int), l[j]? = some x → W.cell? ⟨b, o + j, none⟩ = some (.int .i64 x)

theorem IntsAt.later {W W' : World} {b o : Nat} {l : List Int} (h : IntsAt W b o l) (hb : Below W.heap.size W W') : IntsAt W' b o l := fun j x hj => by
  rw [hb.cell (World.block_lt_of_cell? W _ (h j x hj))]
  exact h j x hj

set_option maxRecDepth 100000 in
set_option maxHeartbeats 4000000 in
theorem sameInts_same (l : List Int) (b o c b' o' c' : Nat) (w : World) (h : IntsAt w b o l) (h' : IntsAt w b' o' l) (hl : l.length ≤ 1048576) :
    Calls Tryz.prog 10 #[.slice (some ⟨b, o, none⟩) l.length c, .slice (some ⟨b', o', none⟩) l.length c'] w fun e w' => e = .returned (.bool true) ∧ Below w.heap.size w w' := by
  have HA := hid h
  have HB := hid h'
  clear h h'
  go_enter Tryz.func10, Tryz.ntmps10
  go_wp2_with fail
  go_loopw [5] (fun i wr => ∃ k : Nat, k ≤ l.length ∧ i = .int .i64 k ∧ Hid (Below w.heap.size w wr)) (fun i _ => l.length - (intOf i).toNat)
  case atStart => exact ⟨0, Nat.zero_le _, rfl, hid (Below.refl _ _)⟩
  case round =>
    obtain ⟨k, hk, rfl, HBW⟩ := hrel
    by_cases hkl : k < l.length
    · obtain ⟨x, hx⟩ : ∃ x, l[k]? = some x := ⟨l[k], List.getElem?_eq_getElem hkl⟩
      have e0 := HA.out k x hx
      have e1 := HB.out k x hx
      have c0 : wr.cell? ⟨b, o + k, none⟩ = some (.int .i64 x) := by rw [HBW.out.cell (World.block_lt_of_cell? w _ e0)]; exact e0
      have c1 : wr.cell? ⟨b', o' + k, none⟩ = some (.int .i64 x) := by rw [HBW.out.cell (World.block_lt_of_cell? w _ e1)]; exact e1
      clear e0 e1 hx
      go_wp2_with fail
      go_quiet (fail)
      go_wp2_with fail
      go_roundw
      case rel => exact ⟨k + 1, by omega, by go_num, hid (below_drewN HBW.out _)⟩
      case measure => simp [intOf]; omega
    · obtain rfl : k = l.length := by omega
      go_wp2_with fail
      go_ret
      exact ⟨rfl, HBW.out⟩

set_option maxRecDepth 100000 in
set_option maxHeartbeats 4000000 in
theorem sameShares_same (l : List (ByteArray × ByteArray)) (b o c b' o' c' : Nat) (w : World) (h : SpansAt w b o l) (h' : SpansAt w b' o' l) (hl : l.length ≤ 1048576) :
    Calls Tryz.prog 50 #[.slice (some ⟨b, o, none⟩) l.length c, .slice (some ⟨b', o', none⟩) l.length c'] w fun e w' => e = .returned (.bool true) ∧ Below w.heap.size w w' := by
  have HA := hid h
  have HB := hid h'
  clear h h'
  go_enter Tryz.func50, Tryz.ntmps50
  go_wp2_with fail
  go_loopw [5] (fun i wr => ∃ k : Nat, k ≤ l.length ∧ i = .int .i64 k ∧ Hid (Below w.heap.size w wr)) (fun i _ => l.length - (intOf i).toNat)
  case atStart => exact ⟨0, Nat.zero_le _, rfl, hid (Below.refl _ _)⟩
  case round =>
    obtain ⟨k, hk, rfl, HBW⟩ := hrel
    by_cases hkl : k < l.length
    · obtain ⟨x, hx⟩ : ∃ x, l[k]? = some x := ⟨l[k], List.getElem?_eq_getElem hkl⟩
      obtain ⟨e0, f0⟩ := HA.out k x hx
      obtain ⟨e1, f1⟩ := HB.out k x hx
      have c0 : wr.cell? ⟨b, o + k * 2, none⟩ = some (.string x.1) := by rw [HBW.out.cell (World.block_lt_of_cell? w _ e0)]; exact e0
      have c1 : wr.cell? ⟨b', o' + k * 2, none⟩ = some (.string x.1) := by rw [HBW.out.cell (World.block_lt_of_cell? w _ e1)]; exact e1
      have d0 : wr.cell? ⟨b, o + k * 2 + 1, none⟩ = some (.string x.2) := by rw [HBW.out.cell (World.block_lt_of_cell? w _ f0)]; exact f0
      have d1 : wr.cell? ⟨b', o' + k * 2 + 1, none⟩ = some (.string x.2) := by rw [HBW.out.cell (World.block_lt_of_cell? w _ f1)]; exact f1
      clear e0 e1 f0 f1 hx
      go_wp2_with fail
      go_quiet (fail)
      go_wp2_with fail
      go_roundw
      case rel => exact ⟨k + 1, by omega, by go_num, hid (below_drewN HBW.out _)⟩
      case measure => simp [intOf]; omega
    · obtain rfl : k = l.length := by omega
      go_wp2_with fail
      go_ret
      exact ⟨rfl, HBW.out⟩

set_option maxRecDepth 100000 in
set_option maxHeartbeats 4000000 in
theorem sameLayer_same (l : List (ByteArray × ByteArray)) (g0 : ByteArray) (ms : Int) (b o c b' o' c' : Nat) (w : World) (h : SpansAt w b o l) (h' : SpansAt w b' o' l) (hl : l.length ≤ 1048576) :
    Calls Tryz.prog 20 #[.agg #[.string g0, .int .i64 ms, .slice (some ⟨b, o, none⟩) l.length c], .agg #[.string g0, .int .i64 ms, .slice (some ⟨b', o', none⟩) l.length c']] w fun e w' => e = .returned (.bool true) ∧ Below w.heap.size w w' := by
  have HSS : Hid (∀ W, Below w.heap.size w W → Calls Tryz.prog 50 #[.slice (some ⟨b, o, none⟩) l.length c, .slice (some ⟨b', o', none⟩) l.length c'] W fun e w' => e = .returned (.bool true) ∧ Below W.heap.size W w') := hid fun W hW => sameShares_same l b o c b' o' c' W (h.later hW) (h'.later hW) hl
  obtain ⟨W1, hW1⟩ : ∃ W1, W1 = w.alloc (.cells #[.string g0, .int .i64 ms, .slice (some ⟨b, o, none⟩) l.length c] 53) := ⟨_, rfl⟩
  obtain ⟨W2, hW2⟩ : ∃ W2, W2 = W1.alloc (.cells #[.string g0, .int .i64 ms, .slice (some ⟨b', o', none⟩) l.length c'] 53) := ⟨_, rfl⟩
  have hb1 : Below w.heap.size w W1 := by rw [hW1]; exact (Below.refl _ _).alloc (Nat.le_refl _) _
  have hb2 : Below W1.heap.size W1 W2 := by rw [hW2]; exact (Below.refl _ _).alloc (Nat.le_refl _) _
  have hs1 : W1.heap.size = w.heap.size + 1 := by rw [hW1]; exact World.size_alloc _ _
  have o1 : Own W1 w.heap.size 3 (three' (.string g0) (.int .i64 ms) (.slice (some ⟨b, o, none⟩) l.length c)) := by rw [hW1]; exact own_three _ _ _ _ _
  have o2 : Own W2 (w.heap.size + 1) 3 (three' (.string g0) (.int .i64 ms) (.slice (some ⟨b', o', none⟩) l.length c')) := by rw [← hs1, hW2]; exact own_three _ _ _ _ _
  have o1' := o1.later (hb2.mono o1.1)
  have HBL := hid (hb1.trans (hb2.mono hb1.size))
  obtain ⟨a0, _⟩ := o1'.2 0 (by omega)
  obtain ⟨a1, _⟩ := o1'.2 1 (by omega)
  obtain ⟨a2, _⟩ := o1'.2 2 (by omega)
  obtain ⟨d0, _⟩ := o2.2 0 (by omega)
  obtain ⟨d1, _⟩ := o2.2 1 (by omega)
  obtain ⟨d2, _⟩ := o2.2 2 (by omega)
  simp only [three', if_pos, Nat.one_ne_zero] at a0 a1 a2 d0 d1 d2
  rw [hW1] at hW2
  subst hW2
  have HC := hid (HSS.out _ HBL.out)
  clear hb1 hb2 hs1 o1 o2 o1' hW1 h h' HSS
  go_enter Tryz.func20, Tryz.ntmps20
  go_wp2_with fail
  refine HC.out.mono ?_
  rintro e w3 ⟨rfl, hb⟩
  have HF := hid (HBL.out.trans (hb.mono HBL.out.size))
  clear hb HC
  go_wp2_with fail
  go_ret
  exact ⟨rfl, HF.out⟩

theorem one_any (s : ByteArray) (w : World) : Calls Tryz.prog 18 #[.string s] w fun e w' => e = .returned (.slice (some ⟨w.heap.size, 0, none⟩) 1 1) ∧ w' = w.alloc (.cells #[.string s, .string ⟨#[49]⟩] 58) := by
  go_enter Tryz.func18, Tryz.ntmps18
  go_wp2_with fail
  go_ret
  exact ⟨rfl, rfl⟩
end Go.Proofs.YtocoghnopmjceaaGreatDoor

/-
  Parse at the text that the law tries first.
-/
namespace Go.Proofs.YtocoghnopmjceaaGreatDoor
open Go.RowKit

theorem repeat_two (W : World) : Calls Tryz.prog 56 #[.string ⟨#[48]⟩, .int .i64 2] W fun e w' => e = .returned (.string ⟨#[48, 48]⟩) ∧ Below W.heap.size W w' :=
  (Tryz.strings_Repeat ⟨#[48]⟩ 2 W (by omega) (by decide)).mono fun e w' h => ⟨h.1, h.2⟩

theorem cut_point (W : World) (hg : GW W) : Calls Tryz.prog 27 #[.string ⟨#[49, 50, 46, 53, 48]⟩, .string ⟨#[46]⟩] W fun e w' => e = .returned (.tuple #[.string ⟨#[49, 50]⟩, .string ⟨#[53, 48]⟩, .bool true]) ∧ Below W.heap.size W w' := by
  obtain ⟨_, m, hm⟩ := hg
  refine (Tryz.strings_Cut ⟨#[49, 50, 46, 53, 48]⟩ ⟨#[46]⟩ m W (by decide) hm).mono ?_
  rintro e w' ⟨h1, k, h2⟩
  exact ⟨h1, by rw [h2]; exact below_drewN (Below.refl _ _) k⟩

theorem cut_slash (W : World) (hg : GW W) : Calls Tryz.prog 27 #[.string ⟨#[49, 50, 46, 53, 48]⟩, .string ⟨#[47]⟩] W fun e w' => e = .returned (.tuple #[.string ⟨#[49, 50, 46, 53, 48]⟩, .string ⟨#[]⟩, .bool false]) ∧ Below W.heap.size W w' := by
  obtain ⟨_, m, hm⟩ := hg
  refine (Tryz.strings_Cut ⟨#[49, 50, 46, 53, 48]⟩ ⟨#[47]⟩ m W (by decide) hm).mono ?_
  rintro e w' ⟨h1, k, h2⟩
  exact ⟨h1, by rw [h2]; exact below_drewN (Below.refl _ _) k⟩

set_option maxRecDepth 100000 in
set_option maxHeartbeats 4000000 in
theorem point_one (w : World) (hg : GW w) : Calls Tryz.prog 28 #[.string ⟨#[49, 50, 46, 53, 48]⟩] w fun e w' => e = .returned (.tuple #[.string ⟨#[49, 50, 53, 48]⟩, .string ⟨#[49, 48, 48]⟩]) ∧ Below w.heap.size w w' := by
  have HC := hid (cut_point w hg)
  have HR := hid repeat_two
  clear hg
  go_enter Tryz.func28, Tryz.ntmps28
  go_wp2_with fail
  refine HC.out.mono ?_
  rintro e w1 ⟨rfl, hb⟩
  have HB := hid hb
  clear hb HC
  go_wp2_with fail
  refine (HR.out _).mono ?_
  rintro e w2 ⟨rfl, hb⟩
  have HB2 := hid (HB.out.trans (hb.mono HB.out.size))
  clear hb HR HB
  go_wp2_with fail
  go_ret2
  exact ⟨rfl, HB2.out⟩

theorem trim_minus (W : World) : Calls Tryz.prog 26 #[.string ⟨#[49, 50, 46, 53, 48]⟩, .string ⟨#[45]⟩] W fun e w' => e = .returned (.string ⟨#[49, 50, 46, 53, 48]⟩) ∧ w' = W := Tryz.strings_TrimPrefix ⟨#[49, 50, 46, 53, 48]⟩ ⟨#[45]⟩ W

theorem read_1250 : readQ (ByteArray.mk #[49, 50, 53, 48, 47, 49, 48, 48]).data.toList = some (25 / 2) := by kernel_rfl
theorem cap_half25 : rs (25 / 2) ≤ Cap := Nat.le_of_ble_eq_true (by kernel_rfl)
theorem text_half25 : wtext (25 / 2) = ⟨#[50, 53, 47, 50]⟩ ∧ werr (25 / 2) = 0 := by constructor <;> kernel_rfl

set_option maxRecDepth 100000 in
set_option maxHeartbeats 4000000 in
theorem parse_one (w : World) (hg : GW w) : Calls Tryz.prog 12 #[.string ⟨#[49, 50, 46, 53, 48]⟩] w fun e w' => e = .returned (.tuple #[.string ⟨#[50, 53, 47, 50]⟩, .int .i64 0]) ∧ Below w.heap.size w w' := by
  have HT := hid trim_minus
  have HC := hid (cut_slash w hg)
  have HG := hid hg
  clear hg
  go_enter Tryz.func12, Tryz.ntmps12
  go_wp2_with fail
  refine (HT.out _).mono ?_
  rintro e w1 ⟨rfl, rfl⟩
  go_wp2_with fail
  refine HC.out.mono ?_
  rintro e w2 ⟨rfl, hb⟩
  have HB := hid hb
  clear hb HC HT
  have HP := hid (point_one w2 (HG.out.later HB.out))
  go_wp2_with fail
  refine HP.out.mono ?_
  rintro e w3 ⟨rfl, hb⟩
  have HB2 := hid (HB.out.trans (hb.mono HB.out.size))
  clear hb HP HB
  have HA1 := hid (areDigits_any ⟨#[49, 50, 53, 48]⟩ w3)
  go_wp2_with fail
  refine HA1.out.mono ?_
  rintro e w4 ⟨rfl, hb⟩
  have HB3 := hid (HB2.out.trans (hb.mono HB2.out.size))
  clear hb HA1 HB2
  have HA2 := hid (areDigits_any ⟨#[49, 48, 48]⟩ w4)
  go_wp2_with fail
  refine HA2.out.mono ?_
  rintro e w5 ⟨rfl, hb⟩
  have HB4 := hid (HB3.out.trans (hb.mono HB3.out.size))
  clear hb HA2 HB3
  have HR := hid (read_any (ByteArray.mk #[49, 50, 53, 48, 47, 49, 48, 48]) w5 (HG.out.later HB4.out) (by decide))
  rw [read_1250] at HR
  go_wp2_with fail
  refine HR.out.mono ?_
  rintro e w6 ⟨⟨v, rfl, hv⟩, hb⟩
  obtain ⟨z, rfl⟩ := hv.nv
  have hal : Below w6.heap.size w6 (w6.alloc (.cells #[.bool z.b, .slice z.p z.k z.c, .slice z.q z.j z.d] 75)) := (Below.refl _ _).alloc (Nat.le_refl _) _
  have HB5 := hid (HB4.out.trans ((hb.trans (hal.mono hb.size)).mono HB4.out.size))
  have HWR := hid (write_any _ _ _ (hv.later hal) (by show rs (25 / 2) ≤ Cap; exact cap_half25))
  obtain ⟨⟨z0, z1, z2⟩, _⟩ := One.cells (one_new w6 z)
  clear hv hb hal HR HB4
  go_wp2_with fail
  refine HWR.out.mono ?_
  rintro e w7 h
  obtain ⟨rfl, hb⟩ := ratOf_w h
  have HB6 := hid (HB5.out.trans (hb.mono HB5.out.size))
  clear h hb HWR
  rw [text_half25.1, text_half25.2]
  go_wp2_with fail
  go_ret2
  exact ⟨rfl, HB6.out⟩
end Go.Proofs.YtocoghnopmjceaaGreatDoor

/-
  The fixed calls of the laws' awake.
-/
namespace Go.Proofs.YtocoghnopmjceaaGreatDoor
open Go.RowKit

theorem aw_round1 (w : World) (hg : GW w) : Calls Tryz.prog 13 #[.string ⟨#[53, 47, 56]⟩, .agg #[.string ⟨#[104, 97, 108, 102, 45, 101, 118, 101, 110]⟩, .string ⟨#[49, 47, 52]⟩]] w fun e w' => e = .returned (.tuple #[.string ⟨#[49, 47, 50]⟩, .int .i64 0]) ∧ Below w.heap.size w w' := by
  refine (round_any ⟨#[53, 47, 56]⟩ ⟨#[104, 97, 108, 102, 45, 101, 118, 101, 110]⟩ ⟨#[49, 47, 52]⟩ w hg (by decide) (by decide)).mono fun e w' h => ?_
  have c1 : checkR (ByteArray.mk #[53, 47, 56]).data.toList = 0 := by kernel_rfl
  have c2 : checkRule (ByteArray.mk #[104, 97, 108, 102, 45, 101, 118, 101, 110]) (ByteArray.mk #[49, 47, 52]).data.toList = 0 := by kernel_rfl
  have c3 : wtext (roundOfQ (ByteArray.mk #[53, 47, 56]).data.toList (ByteArray.mk #[104, 97, 108, 102, 45, 101, 118, 101, 110]) (ByteArray.mk #[49, 47, 52]).data.toList) = ⟨#[49, 47, 50]⟩ := by kernel_rfl
  have c4 : werr (roundOfQ (ByteArray.mk #[53, 47, 56]).data.toList (ByteArray.mk #[104, 97, 108, 102, 45, 101, 118, 101, 110]) (ByteArray.mk #[49, 47, 52]).data.toList) = 0 := by kernel_rfl
  unfold RoundOf at h
  rw [if_neg (fun h => h c1), if_neg (fun h => h c2)] at h
  obtain ⟨h1, h2⟩ := ratOf_w h
  rw [c3, c4] at h1
  exact ⟨h1, h2⟩


theorem aw_round2 (w : World) (hg : GW w) : Calls Tryz.prog 13 #[.string ⟨#[45, 53, 47, 56]⟩, .agg #[.string ⟨#[104, 97, 108, 102, 45, 117, 112]⟩, .string ⟨#[49, 47, 52]⟩]] w fun e w' => e = .returned (.tuple #[.string ⟨#[45, 49, 47, 50]⟩, .int .i64 0]) ∧ Below w.heap.size w w' := by
  refine (round_any ⟨#[45, 53, 47, 56]⟩ ⟨#[104, 97, 108, 102, 45, 117, 112]⟩ ⟨#[49, 47, 52]⟩ w hg (by decide) (by decide)).mono fun e w' h => ?_
  have c1 : checkR (ByteArray.mk #[45, 53, 47, 56]).data.toList = 0 := by kernel_rfl
  have c2 : checkRule (ByteArray.mk #[104, 97, 108, 102, 45, 117, 112]) (ByteArray.mk #[49, 47, 52]).data.toList = 0 := by kernel_rfl
  have c3 : wtext (roundOfQ (ByteArray.mk #[45, 53, 47, 56]).data.toList (ByteArray.mk #[104, 97, 108, 102, 45, 117, 112]) (ByteArray.mk #[49, 47, 52]).data.toList) = ⟨#[45, 49, 47, 50]⟩ := by kernel_rfl
  have c4 : werr (roundOfQ (ByteArray.mk #[45, 53, 47, 56]).data.toList (ByteArray.mk #[104, 97, 108, 102, 45, 117, 112]) (ByteArray.mk #[49, 47, 52]).data.toList) = 0 := by kernel_rfl
  unfold RoundOf at h
  rw [if_neg (fun h => h c1), if_neg (fun h => h c2)] at h
  obtain ⟨h1, h2⟩ := ratOf_w h
  rw [c3, c4] at h1
  exact ⟨h1, h2⟩

theorem aw_mul (w : World) (hg : GW w) : Calls Tryz.prog 14 #[.agg #[.string ⟨#[49]⟩, .string ⟨#[50]⟩], .agg #[.string ⟨#[45, 49]⟩, .string ⟨#[51]⟩]] w fun e w' => e = .returned (.tuple #[.agg #[.string ⟨#[45, 50]⟩, .string ⟨#[54]⟩], .int .i64 0]) ∧ Below w.heap.size w w' := by
  refine (mulSpans_any (⟨#[49]⟩, ⟨#[50]⟩) (⟨#[45, 49]⟩, ⟨#[51]⟩) w hg (by decide) (by decide)).mono fun e w' h => ?_
  unfold OperS at h
  rw [if_neg (fun h => h (by kernel_rfl))] at h
  obtain ⟨h1, h2⟩ := h
  rw [if_pos (by kernel_rfl)] at h1
  refine ⟨?_, h2⟩
  rw [h1]
  kernel_rfl

theorem aw_clash (v : Value) (w : World) (hg : GW w) (hv : SpansV w v [((ByteArray.mk #[48]), (ByteArray.mk #[50])), ((ByteArray.mk #[49]), (ByteArray.mk #[52])), ((ByteArray.mk #[51]), (ByteArray.mk #[53]))]) : Calls Tryz.prog 15 #[v] w fun e w' => e = .returned (.tuple #[.int .i64 0, .int .i64 2, .int .i64 0]) ∧ Below w.heap.size w w' := by
  refine (clash_any v [((ByteArray.mk #[48]), (ByteArray.mk #[50])), ((ByteArray.mk #[49]), (ByteArray.mk #[52])), ((ByteArray.mk #[51]), (ByteArray.mk #[53]))] w hg hv (by decide)).mono fun e w' h => ?_
  obtain ⟨h1, h2⟩ := h
  refine ⟨?_, h2⟩
  rw [if_neg (fun h => h (by kernel_rfl))] at h1
  have c1 : clashB (([((ByteArray.mk #[48]), (ByteArray.mk #[50])), ((ByteArray.mk #[49]), (ByteArray.mk #[52])), ((ByteArray.mk #[51]), (ByteArray.mk #[53]))].map spQ).getD 0 (0, 0)) (([((ByteArray.mk #[48]), (ByteArray.mk #[50])), ((ByteArray.mk #[49]), (ByteArray.mk #[52])), ((ByteArray.mk #[51]), (ByteArray.mk #[53]))].map spQ).getD 1 (0, 0)) = false := by kernel_rfl
  have c2 : clashB (([((ByteArray.mk #[48]), (ByteArray.mk #[50])), ((ByteArray.mk #[49]), (ByteArray.mk #[52])), ((ByteArray.mk #[51]), (ByteArray.mk #[53]))].map spQ).getD 0 (0, 0)) (([((ByteArray.mk #[48]), (ByteArray.mk #[50])), ((ByteArray.mk #[49]), (ByteArray.mk #[52])), ((ByteArray.mk #[51]), (ByteArray.mk #[53]))].map spQ).getD 2 (0, 0)) = true := by kernel_rfl
  rcases h1 with ⟨i, k, hf, he⟩ | ⟨hn, _⟩
  · obtain ⟨f1, f2, f3, f4, f5⟩ := hf
    have f2' : k < 3 := f2
    rcases Nat.lt_or_ge 0 i with hi | hi
    · have h5 := f5 0 2 hi (by omega) (by show 2 < 3; omega)
      rw [c2] at h5; cases h5
    · obtain rfl : i = 0 := by omega
      rcases Nat.lt_or_ge 1 k with hk | hk
      · obtain rfl : k = 2 := by omega
        rw [he]; rfl
      · obtain rfl : k = 1 := by omega
        rw [c1] at f3; cases f3
  · have h5 := hn 0 2 (by omega) (by show 2 < 3; omega)
    rw [c2] at h5; cases h5

theorem aw_mean (v u : Value) (w : World) (hg : GW w) (hv : SpansV w v [((ByteArray.mk #[49, 48]), (ByteArray.mk #[49, 49])), ((ByteArray.mk #[49, 51]), (ByteArray.mk #[49, 53]))]) (hu : Ints w u [2, 1]) : Calls Tryz.prog 16 #[v, u] w fun e w' => e = .returned (.tuple #[.agg #[.string ⟨#[49, 49]⟩, .string ⟨#[51, 55, 47, 51]⟩], .int .i64 0]) ∧ Below w.heap.size w w' := by
  refine (mean_ok v u [((ByteArray.mk #[49, 48]), (ByteArray.mk #[49, 49])), ((ByteArray.mk #[49, 51]), (ByteArray.mk #[49, 53]))] [2, 1] w hg hv hu (by decide) (by kernel_rfl)).mono fun e w' h => ?_
  unfold MeanOf at h
  rw [if_neg (fun h => h (by kernel_rfl))] at h
  obtain ⟨h1, h2⟩ := h
  rw [if_pos (by kernel_rfl)] at h1
  refine ⟨?_, h2⟩
  rw [h1]
  kernel_rfl

theorem aw_apportion (u : Value) (w : World) (hu : Ints w u [3, 0, 1]) : Calls Tryz.prog 6 #[.int .i64 7, u] w fun e w' => (∃ g, e = .returned (.tuple #[.slice (some ⟨g, 0, none⟩) 3 3, .int .i64 0]) ∧ IntsAt w' g 0 [5, 0, 2]) ∧ Below w.heap.size w w' := by
  refine (apportion_any 7 u [3, 0, 1] w hu (.inl (by decide))).mono fun e w' h => ?_
  obtain ⟨h1, h2⟩ := h
  rw [if_pos (by kernel_rfl)] at h1
  obtain ⟨g, _, he, ho⟩ := h1
  refine ⟨⟨g, he, fun j x hj => ?_⟩, h2⟩
  have hap : apportion 7 [3, 0, 1] = [5, 0, 2] := by kernel_rfl
  rw [hap] at ho
  have hj3 : j < 3 := (List.getElem?_eq_some_iff.1 hj).1
  have := (ho.2 j hj3).1
  rw [Nat.zero_add, this]
  unfold iv
  rw [List.getD_eq_getElem?_getD, hj]
  rfl

theorem aw_wet (w : World) (hg : GW w) : Calls Tryz.prog 19 #[.int .i64 1000, .string ⟨#[50, 48]⟩, .string ⟨#[51, 54]⟩] w fun e w' => e = .returned (.tuple #[.string ⟨#[49, 50, 53, 48]⟩, .int .i64 0]) ∧ Below w.heap.size w w' := by
  refine (wet_good 1000 ⟨#[50, 48]⟩ ⟨#[51, 54]⟩ w hg (by omega) (by omega) ⟨by decide, by kernel_rfl, by decide +kernel, by decide +kernel⟩ ⟨by decide, by kernel_rfl, by decide +kernel, by decide +kernel⟩).mono fun e w' h => ?_
  refine ⟨?_, h.2⟩
  rw [h.1]
  kernel_rfl

theorem aw_name1 (w : World) : Calls Tryz.prog 21 #[.string ⟨#[108, 111, 116, 45, 55]⟩] w fun e w' => e = .returned (.bool true) ∧ Below w.heap.size w w' := isName_any ⟨#[108, 111, 116, 45, 55]⟩ w
theorem aw_name2 (w : World) : Calls Tryz.prog 21 #[.string ⟨#[97, 32, 98]⟩] w fun e w' => e = .returned (.bool false) ∧ Below w.heap.size w w' := isName_any ⟨#[97, 32, 98]⟩ w
end Go.Proofs.YtocoghnopmjceaaGreatDoor

/-
  The mixture that awake makes.
-/
namespace Go.Proofs.YtocoghnopmjceaaGreatDoor
open Go.RowKit

def mixL : List Lay := [⟨(ByteArray.mk #[119, 104, 101, 97, 116]), 600, [((ByteArray.mk #[97]), (ByteArray.mk #[49]))]⟩, ⟨(ByteArray.mk #[119, 104, 101, 97, 116]), 400, [((ByteArray.mk #[97]), (ByteArray.mk #[49, 47, 50])), ((ByteArray.mk #[98]), (ByteArray.mk #[49, 47, 50]))]⟩]
def mixS : List (ByteArray × ByteArray) := [((ByteArray.mk #[97]), (ByteArray.mk #[52, 47, 53])), ((ByteArray.mk #[98]), (ByteArray.mk #[49, 47, 53]))]

theorem mixD : massD mixL = [((ByteArray.mk #[97]), 800), ((ByteArray.mk #[98]), 200)] := by kernel_rfl
theorem mixSum : massSum mixL = 1000 := by kernel_rfl

theorem fit_one : werr (800 / ((1000 : Int) : Rat)) = 0 := by kernel_rfl
theorem fit_two : werr (200 / ((1000 : Int) : Rat)) = 0 := by kernel_rfl
theorem fit_none : werr (0 / ((1000 : Int) : Rat)) = 0 := by kernel_rfl
theorem keys_one : keysIn [[97], [98]] = [(ByteArray.mk #[97]), (ByteArray.mk #[98])] := by
  have h : ([[97], [98]] : List (List UInt8)).mergeSort (fun x y => decide (x ≤ y)) = [[97], [98]] := by simp [List.mergeSort, List.MergeSort.Internal.splitInTwo, List.merge]; try decide
  unfold keysIn; rw [h]; rfl
theorem keys_two : keysIn [[98], [97]] = [(ByteArray.mk #[97]), (ByteArray.mk #[98])] := by
  have h : ([[98], [97]] : List (List UInt8)).mergeSort (fun x y => decide (x ≤ y)) = [[97], [98]] := by simp [List.mergeSort, List.MergeSort.Internal.splitInTwo, List.merge]; try decide
  unfold keysIn; rw [h]; rfl

theorem mix_fit (s : ByteArray) : werr (lookD (massD mixL) s / ((massSum mixL : Int) : Rat)) = 0 := by
  rw [mixD, mixSum]
  by_cases ha : (s == (ByteArray.mk #[97])) = true
  · have : lookD [((ByteArray.mk #[97]), 800), ((ByteArray.mk #[98]), 200)] s = 800 := by unfold lookD; rw [List.find?_cons_of_pos (by exact ha)]; rfl
    rw [this]; exact fit_one
  · by_cases hb : (s == (ByteArray.mk #[98])) = true
    · have : lookD [((ByteArray.mk #[97]), 800), ((ByteArray.mk #[98]), 200)] s = 200 := by unfold lookD; rw [List.find?_cons_of_neg (by exact ha), List.find?_cons_of_pos (by exact hb)]; rfl
      rw [this]; exact fit_two
    · have : lookD [((ByteArray.mk #[97]), 800), ((ByteArray.mk #[98]), 200)] s = 0 := by unfold lookD; rw [List.find?_cons_of_neg (by exact ha), List.find?_cons_of_neg (by exact hb)]; rfl
      rw [this]; exact fit_none

theorem perm_two {α : Type} {x y : α} (hne : x ≠ y) {l : List α} (h : l.Perm [x, y]) : l = [x, y] ∨ l = [y, x] := by
  have hlen := h.length_eq
  match l, hlen with
  | [p, q], _ =>
    have hp := h.mem_iff.1 (show p ∈ [p, q] by simp)
    have hq := h.mem_iff.1 (show q ∈ [p, q] by simp)
    have hx := h.mem_iff.2 (show x ∈ [x, y] by simp)
    have hy := h.mem_iff.2 (show y ∈ [x, y] by simp)
    simp only [List.mem_cons, List.not_mem_nil, or_false] at hp hq hx hy
    rcases hp with rfl | rfl <;> rcases hq with rfl | rfl
    · rcases hy with hy | hy <;> exact absurd hy.symm hne
    · exact .inl rfl
    · exact .inr rfl
    · rcases hx with hx | hx <;> exact absurd hx hne

theorem keys_ab {ss : List (List UInt8)} (h : ss.Perm ((massD mixL).map fun p => p.1.data.toList)) : keysIn ss = [(ByteArray.mk #[97]), (ByteArray.mk #[98])] := by
  rw [mixD] at h
  rcases perm_two (x := [97]) (y := [98]) (by decide) h with h1 | h1
  · rw [h1]; exact keys_one
  · rw [h1]; exact keys_two

theorem mix_texts : ([(ByteArray.mk #[97]), (ByteArray.mk #[98])].map fun s => (s, wtext (lookD (massD mixL) s / ((massSum mixL : Int) : Rat)))) = mixS := by kernel_rfl

theorem aw_mix (b o c : Nat) (w : World) (hg : GW w) (hrow : LayersAt w b o mixL) (hc : c ≤ maxLen) : Calls Tryz.prog 17 #[.slice (some ⟨b, o, none⟩) 2 c] w fun e w' => (∃ g, e = .returned (.tuple #[.agg #[.string ⟨#[119, 104, 101, 97, 116]⟩, .int .i64 1000, .slice (some ⟨g, 0, none⟩) 2 2], .int .i64 0]) ∧ SpansAt w' g 0 mixS) ∧ Below w.heap.size w w' := by
  refine (mix_good mixL (ByteArray.mk #[119, 104, 101, 97, 116]) b o c w hg hrow (by decide) (by decide) hc ?_ ?_ ?_ (by rw [mixSum]; decide) (by rw [mixD]; decide) mix_fit).mono fun e w' h => ?_
  · intro x hx s hs
    simp only [mixL, List.mem_cons, List.not_mem_nil, or_false] at hx
    rcases hx with rfl | rfl
    · simp only [List.mem_cons, List.not_mem_nil, or_false] at hs
      subst hs
      decide
    · simp only [List.mem_cons, List.not_mem_nil, or_false] at hs
      rcases hs with rfl | rfl <;> decide
  · intro x hx
    simp only [mixL, List.mem_cons, List.not_mem_nil, or_false] at hx
    rcases hx with rfl | rfl <;> kernel_rfl
  · intro x hx
    simp only [mixL, List.mem_cons, List.not_mem_nil, or_false] at hx
    rcases hx with rfl | rfl <;> rfl
  · obtain ⟨ss, g, hp, _, he, hr, hb⟩ := h
    rw [keys_ab hp] at he hr
    rw [mix_texts] at hr
    rw [mixSum] at he
    refine ⟨⟨g, he, fun j s hj => ?_⟩, hb⟩
    obtain ⟨cs, rfl, hcc⟩ := hr.get j s hj
    have h0 := hcc 0 _ rfl
    have h1 := hcc 1 _ rfl
    rw [Nat.zero_add]
    exact ⟨h0, h1⟩
end Go.Proofs.YtocoghnopmjceaaGreatDoor

