/-
  awake.
-/
import Derived.Test.YtocoghnopmjceaaGreatDoorMAwakeMix
namespace Go.Proofs.YtocoghnopmjceaaGreatDoor
open Go.RowKit

theorem spansV3 (W : World) (n : Nat) (hn : n = W.heap.size) (t : TypeId) (a b c d e f : ByteArray) : SpansV (W.alloc (.cells #[.string a, .string b, .string c, .string d, .string e, .string f] t)) (.slice (some ⟨n, 0, none⟩) 3 3) [(a, b), (c, d), (e, f)] := by
  subst hn
  refine ⟨_, 3, rfl, Nat.le_refl _, by decide, .inr ⟨_, _, rfl, fun j s hj => ?_⟩⟩
  match j, hj with
  | 0, hj => cases hj; constructor <;> simp
  | 1, hj => cases hj; constructor <;> simp
  | 2, hj => cases hj; constructor <;> simp

theorem spansV2 (W : World) (n : Nat) (hn : n = W.heap.size) (t : TypeId) (a b c d : ByteArray) : SpansV (W.alloc (.cells #[.string a, .string b, .string c, .string d] t)) (.slice (some ⟨n, 0, none⟩) 2 2) [(a, b), (c, d)] := by
  subst hn
  refine ⟨_, 2, rfl, Nat.le_refl _, by decide, .inr ⟨_, _, rfl, fun j s hj => ?_⟩⟩
  match j, hj with
  | 0, hj => cases hj; constructor <;> simp
  | 1, hj => cases hj; constructor <;> simp

theorem spansV1 (W : World) (n : Nat) (hn : n = W.heap.size) (t : TypeId) (a b : ByteArray) : SpansV (W.alloc (.cells #[.string a, .string b] t)) (.slice (some ⟨n, 0, none⟩) 1 1) [(a, b)] := by
  subst hn
  refine ⟨_, 1, rfl, Nat.le_refl _, by decide, .inr ⟨_, _, rfl, fun j s hj => ?_⟩⟩
  match j, hj with
  | 0, hj => cases hj; constructor <;> simp

theorem ints2 (W : World) (n : Nat) (hn : n = W.heap.size) (t : TypeId) (a b : Int) : Ints (W.alloc (.cells #[.int .i64 a, .int .i64 b] t)) (.slice (some ⟨n, 0, none⟩) 2 2) [a, b] := by
  subst hn
  refine ⟨_, 2, rfl, Nat.le_refl _, by decide, .inr ⟨_, _, rfl, fun j hj => ?_⟩⟩
  match j, hj with
  | 0, hj => simp [iv]
  | 1, hj => simp [iv]

theorem ints3 (W : World) (n : Nat) (hn : n = W.heap.size) (t : TypeId) (a b c : Int) : Ints (W.alloc (.cells #[.int .i64 a, .int .i64 b, .int .i64 c] t)) (.slice (some ⟨n, 0, none⟩) 3 3) [a, b, c] := by
  subst hn
  refine ⟨_, 3, rfl, Nat.le_refl _, by decide, .inr ⟨_, _, rfl, fun j hj => ?_⟩⟩
  match j, hj with
  | 0, hj => simp [iv]
  | 1, hj => simp [iv]
  | 2, hj => simp [iv]

theorem intsAt3 (W : World) (n : Nat) (hn : n = W.heap.size) (t : TypeId) (a b c : Int) : IntsAt (W.alloc (.cells #[.int .i64 a, .int .i64 b, .int .i64 c] t)) n 0 [a, b, c] := by
  subst hn
  intro j x hj
  match j, hj with
  | 0, hj => cases hj; simp
  | 1, hj => cases hj; simp
  | 2, hj => cases hj; simp

theorem spansAt2 (W : World) (n : Nat) (hn : n = W.heap.size) (t : TypeId) (a b c d : ByteArray) : SpansAt (W.alloc (.cells #[.string a, .string b, .string c, .string d] t)) n 0 [(a, b), (c, d)] := by
  subst hn
  intro j s hj
  match j, hj with
  | 0, hj => cases hj; constructor <;> simp
  | 1, hj => cases hj; constructor <;> simp

theorem layers2 (W : World) (n : Nat) (hn : n = W.heap.size) (p1 p2 : Nat) (hv1 : SpansV W (.slice (some ⟨p1, 0, none⟩) 1 1) [((ByteArray.mk #[97]), (ByteArray.mk #[49]))]) (hv2 : SpansV W (.slice (some ⟨p2, 0, none⟩) 2 2) [((ByteArray.mk #[97]), (ByteArray.mk #[49, 47, 50])), ((ByteArray.mk #[98]), (ByteArray.mk #[49, 47, 50]))]) :
    LayersAt (W.alloc (.cells #[.string ⟨#[119, 104, 101, 97, 116]⟩, .int .i64 600, .slice (some ⟨p1, 0, none⟩) 1 1, .string ⟨#[119, 104, 101, 97, 116]⟩, .int .i64 400, .slice (some ⟨p2, 0, none⟩) 2 2] 53)) n 0 mixL := by
  subst hn
  have hal := (Below.refl W.heap.size W).alloc (Nat.le_refl _) (.cells #[.string ⟨#[119, 104, 101, 97, 116]⟩, .int .i64 600, .slice (some ⟨p1, 0, none⟩) 1 1, .string ⟨#[119, 104, 101, 97, 116]⟩, .int .i64 400, .slice (some ⟨p2, 0, none⟩) 2 2] 53)
  intro j x hj
  match j, hj with
  | 0, hj => cases hj; exact ⟨by simp, by simp, _, 1, by simp, hv1.later hal⟩
  | 1, hj => cases hj; exact ⟨by simp, by simp, _, 2, by simp, hv2.later hal⟩

theorem al_below (W : World) (o : Obj) : Below W.heap.size W (W.alloc o) := (Below.refl _ _).alloc (Nat.le_refl _) _

set_option maxRecDepth 100000 in
set_option maxHeartbeats 8000000 in
/-- awake is true. -/
theorem awake_any (w : World) (hg : GW w) : Calls Tryz.prog 5 #[] w fun e w' => e = .returned (.bool true) ∧ Below w.heap.size w w' := by
  have HG := hid hg
  have H1 := hid (parse_one w hg)
  clear hg
  go_enter Tryz.func5, Tryz.ntmps5
  go_wp2_with fail
  refine H1.out.mono ?_
  rintro e w1 ⟨rfl, hb⟩
  have HB := hid hb
  clear hb H1
  have H2 := hid (aw_round1 w1 (HG.out.later HB.out))
  go_wp2_with fail
  refine H2.out.mono ?_
  rintro e w2 ⟨rfl, hb⟩
  have HB2 := hid (HB.out.trans (hb.mono HB.out.size))
  clear hb H2 HB
  have H3 := hid (aw_round2 w2 (HG.out.later HB2.out))
  go_wp2_with fail
  refine H3.out.mono ?_
  rintro e w3 ⟨rfl, hb⟩
  have HB3 := hid (HB2.out.trans (hb.mono HB2.out.size))
  clear hb H3 HB2
  have H4 := hid (aw_mul w3 (HG.out.later HB3.out))
  go_wp2_with fail
  refine H4.out.mono ?_
  rintro e w4 ⟨rfl, hb⟩
  have HB4 := hid (HB3.out.trans (hb.mono HB3.out.size))
  clear hb H4 HB3
  -- the box of the product, the row of the spans
  have O7 := hid (own_two w4 44 (.string ⟨#[45, 50]⟩) (.string ⟨#[54]⟩))
  have hal := al_below w4 (.cells #[.string ⟨#[45, 50]⟩, .string ⟨#[54]⟩] 44)
  have hal2 := al_below (w4.alloc (.cells #[.string ⟨#[45, 50]⟩, .string ⟨#[54]⟩] 44)) (.cells #[.string ⟨#[48]⟩, .string ⟨#[50]⟩, .string ⟨#[49]⟩, .string ⟨#[52]⟩, .string ⟨#[51]⟩, .string ⟨#[53]⟩] 44)
  have O7' := hid (O7.out.later (hal2.mono O7.out.1))
  have HB5 := hid (HB4.out.trans ((hal.trans (hal2.mono hal.size)).mono HB4.out.size))
  have H5 := hid (aw_clash _ _ (HG.out.later HB5.out) (spansV3 (w4.alloc (.cells #[.string ⟨#[45, 50]⟩, .string ⟨#[54]⟩] 44)) (w4.heap.size + 1) (by simp) 44 ⟨#[48]⟩ ⟨#[50]⟩ ⟨#[49]⟩ ⟨#[52]⟩ ⟨#[51]⟩ ⟨#[53]⟩))
  clear hal hal2 O7 HB4
  go_wp2_with fail
  refine H5.out.mono ?_
  rintro e w5 ⟨rfl, hb⟩
  have HB6 := hid (HB5.out.trans (hb.mono HB5.out.size))
  have O7 := hid (O7'.out.later (hb.mono O7'.out.1))
  clear hb H5 HB5 O7'
  generalize w4.heap.size = n7 at *
  -- the mean
  have hal := al_below w5 (.cells #[.string ⟨#[49, 48]⟩, .string ⟨#[49, 49]⟩, .string ⟨#[49, 51]⟩, .string ⟨#[49, 53]⟩] 44)
  have hal2 := al_below (w5.alloc (.cells #[.string ⟨#[49, 48]⟩, .string ⟨#[49, 49]⟩, .string ⟨#[49, 51]⟩, .string ⟨#[49, 53]⟩] 44)) (.cells #[.int .i64 2, .int .i64 1] 3)
  have hall := hal.trans (hal2.mono hal.size)
  have O7' := hid (O7.out.later (hall.mono O7.out.1))
  have HB7 := hid (HB6.out.trans (hall.mono HB6.out.size))
  have H6 := hid (aw_mean _ _ _ (HG.out.later HB7.out) ((spansV2 w5 w5.heap.size rfl 44 ⟨#[49, 48]⟩ ⟨#[49, 49]⟩ ⟨#[49, 51]⟩ ⟨#[49, 53]⟩).later hal2) (ints2 (w5.alloc (.cells #[.string ⟨#[49, 48]⟩, .string ⟨#[49, 49]⟩, .string ⟨#[49, 51]⟩, .string ⟨#[49, 53]⟩] 44)) (w5.heap.size + 1) (by simp) 3 2 1))
  clear hal hal2 hall O7 HB6
  go_wp2_with fail
  refine H6.out.mono ?_
  rintro e w6 ⟨rfl, hb⟩
  have HB8 := hid (HB7.out.trans (hb.mono HB7.out.size))
  have O7 := hid (O7'.out.later (hb.mono O7'.out.1))
  clear hb H6 HB7 O7'
  -- the box of the mean, the weights
  have O12 := hid (own_two w6 44 (.string ⟨#[49, 49]⟩) (.string ⟨#[51, 55, 47, 51]⟩))
  have hal := al_below w6 (.cells #[.string ⟨#[49, 49]⟩, .string ⟨#[51, 55, 47, 51]⟩] 44)
  have hal2 := al_below (w6.alloc (.cells #[.string ⟨#[49, 49]⟩, .string ⟨#[51, 55, 47, 51]⟩] 44)) (.cells #[.int .i64 3, .int .i64 0, .int .i64 1] 3)
  have hall := hal.trans (hal2.mono hal.size)
  have O12' := hid (O12.out.later (hal2.mono O12.out.1))
  have O7' := hid (O7.out.later (hall.mono O7.out.1))
  have HB9 := hid (HB8.out.trans (hall.mono HB8.out.size))
  have H7 := hid (aw_apportion _ _ (ints3 (w6.alloc (.cells #[.string ⟨#[49, 49]⟩, .string ⟨#[51, 55, 47, 51]⟩] 44)) (w6.heap.size + 1) (by simp) 3 3 0 1))
  clear hal hal2 hall O7 O12 HB8
  go_wp2_with fail
  refine H7.out.mono ?_
  rintro e w7 ⟨⟨g14, rfl, hI⟩, hb⟩
  have HB10 := hid (HB9.out.trans (hb.mono HB9.out.size))
  have O7 := hid (O7'.out.later (hb.mono O7'.out.1))
  have O12 := hid (O12'.out.later (hb.mono O12'.out.1))
  have HI := hid hI
  clear hb hI H7 HB9 O7' O12'
  generalize w6.heap.size = n12 at *
  have HON := hid (one_any ⟨#[97]⟩ w7)
  go_wp2_with fail
  refine HON.out.mono ?_
  rintro e w8 ⟨rfl, rfl⟩
  clear HON
  have ha1 := al_below w7 (.cells #[.string ⟨#[97]⟩, .string ⟨#[49]⟩] 58)
  have ha2 := al_below (w7.alloc (.cells #[.string ⟨#[97]⟩, .string ⟨#[49]⟩] 58)) (.cells #[.string ⟨#[97]⟩, .string ⟨#[49, 47, 50]⟩, .string ⟨#[98]⟩, .string ⟨#[49, 47, 50]⟩] 58)
  have ha3 := al_below ((w7.alloc (.cells #[.string ⟨#[97]⟩, .string ⟨#[49]⟩] 58)).alloc (.cells #[.string ⟨#[97]⟩, .string ⟨#[49, 47, 50]⟩, .string ⟨#[98]⟩, .string ⟨#[49, 47, 50]⟩] 58)) (.cells #[.string ⟨#[119, 104, 101, 97, 116]⟩, .int .i64 600, .slice (some ⟨w7.heap.size, 0, none⟩) 1 1, .string ⟨#[119, 104, 101, 97, 116]⟩, .int .i64 400, .slice (some ⟨w7.heap.size + 1, 0, none⟩) 2 2] 53)
  have hall := ha1.trans ((ha2.trans (ha3.mono ha2.size)).mono ha1.size)
  have HB11 := hid (HB10.out.trans (hall.mono HB10.out.size))
  have O7' := hid (O7.out.later (hall.mono O7.out.1))
  have O12' := hid (O12.out.later (hall.mono O12.out.1))
  have HI' := hid (HI.out.later hall)
  have H8 := hid (aw_mix _ 0 2 _ (HG.out.later HB11.out) (layers2 ((w7.alloc (.cells #[.string ⟨#[97]⟩, .string ⟨#[49]⟩] 58)).alloc (.cells #[.string ⟨#[97]⟩, .string ⟨#[49, 47, 50]⟩, .string ⟨#[98]⟩, .string ⟨#[49, 47, 50]⟩] 58)) (w7.heap.size + 1 + 1) (by simp) w7.heap.size (w7.heap.size + 1) ((spansV1 w7 w7.heap.size rfl 58 ⟨#[97]⟩ ⟨#[49]⟩).later ha2) (spansV2 (w7.alloc (.cells #[.string ⟨#[97]⟩, .string ⟨#[49]⟩] 58)) (w7.heap.size + 1) (by simp) 58 ⟨#[97]⟩ ⟨#[49, 47, 50]⟩ ⟨#[98]⟩ ⟨#[49, 47, 50]⟩)) (by decide))
  clear ha1 ha2 ha3 hall O7 O12 HI HB10
  go_wp2_with fail
  refine H8.out.mono ?_
  rintro e w8 ⟨⟨g16, rfl, hS⟩, hb⟩
  have HB12 := hid (HB11.out.trans (hb.mono HB11.out.size))
  have O7 := hid (O7'.out.later (hb.mono O7'.out.1))
  have O12 := hid (O12'.out.later (hb.mono O12'.out.1))
  have HI := hid (HI'.out.later hb)
  have HS := hid hS
  clear hb hS H8 HB11 O7' O12' HI'
  -- the box of the mixture
  have O16 := hid (own_three w8 53 (.string ⟨#[119, 104, 101, 97, 116]⟩) (.int .i64 1000) (.slice (some ⟨g16, 0, none⟩) 2 2))
  have hal := al_below w8 (.cells #[.string ⟨#[119, 104, 101, 97, 116]⟩, .int .i64 1000, .slice (some ⟨g16, 0, none⟩) 2 2] 53)
  have HB13 := hid (HB12.out.trans (hal.mono HB12.out.size))
  have O7' := hid (O7.out.later (hal.mono O7.out.1))
  have O12' := hid (O12.out.later (hal.mono O12.out.1))
  have HI' := hid (HI.out.later hal)
  have HS' := hid (HS.out.later hal)
  have H9 := hid (aw_wet _ (HG.out.later HB13.out))
  clear hal O7 O12 HI HS HB12
  go_wp2_with fail
  refine H9.out.mono ?_
  rintro e w9 ⟨rfl, hb⟩
  have HB14 := hid (HB13.out.trans (hb.mono HB13.out.size))
  have HI := hid (HI'.out.later hb)
  have HS := hid (HS'.out.later hb)
  have O16' := hid (O16.out.later (hb.mono O16.out.1))
  obtain ⟨p0, p1⟩ := two_cells' (O7'.out.later (hb.mono O7'.out.1))
  obtain ⟨q0, q1⟩ := two_cells' (O12'.out.later (hb.mono O12'.out.1))
  clear hb H9 HB13 HI' HS' O16 O7' O12'
  generalize w8.heap.size = n16 at *
  have ha1 := al_below w9 (.cells #[.string ⟨#[97]⟩, .string ⟨#[52, 47, 53]⟩, .string ⟨#[98]⟩, .string ⟨#[49, 47, 53]⟩] 58)
  have ha2 := al_below (w9.alloc (.cells #[.string ⟨#[97]⟩, .string ⟨#[52, 47, 53]⟩, .string ⟨#[98]⟩, .string ⟨#[49, 47, 53]⟩] 58)) (.cells #[.string ⟨#[119, 104, 101, 97, 116]⟩, .int .i64 1000, .slice (some ⟨w9.heap.size, 0, none⟩) 2 2] 53)
  have ha3 := al_below ((w9.alloc (.cells #[.string ⟨#[97]⟩, .string ⟨#[52, 47, 53]⟩, .string ⟨#[98]⟩, .string ⟨#[49, 47, 53]⟩] 58)).alloc (.cells #[.string ⟨#[119, 104, 101, 97, 116]⟩, .int .i64 1000, .slice (some ⟨w9.heap.size, 0, none⟩) 2 2] 53)) (.cells #[.int .i64 5, .int .i64 0, .int .i64 2] 3)
  have ha23 := ha2.trans (ha3.mono ha2.size)
  have hall := ha1.trans (ha23.mono ha1.size)
  have HB15 := hid (HB14.out.trans (hall.mono HB14.out.size))
  have HS2 := hid ((spansAt2 w9 w9.heap.size rfl 58 ⟨#[97]⟩ ⟨#[52, 47, 53]⟩ ⟨#[98]⟩ ⟨#[49, 47, 53]⟩).later ha23)
  have o20 := own_three (w9.alloc (.cells #[.string ⟨#[97]⟩, .string ⟨#[52, 47, 53]⟩, .string ⟨#[98]⟩, .string ⟨#[49, 47, 53]⟩] 58)) 53 (.string ⟨#[119, 104, 101, 97, 116]⟩) (.int .i64 1000) (.slice (some ⟨w9.heap.size, 0, none⟩) 2 2)
  have O20 := hid (o20.later (ha3.mono o20.1))
  have HI2 := hid (intsAt3 ((w9.alloc (.cells #[.string ⟨#[97]⟩, .string ⟨#[52, 47, 53]⟩, .string ⟨#[98]⟩, .string ⟨#[49, 47, 53]⟩] 58)).alloc (.cells #[.string ⟨#[119, 104, 101, 97, 116]⟩, .int .i64 1000, .slice (some ⟨w9.heap.size, 0, none⟩) 2 2] 53)) (w9.heap.size + 1 + 1) (by simp) 3 5 0 2)
  have H10 := hid (sameInts_same [5, 0, 2] g14 0 3 (w9.heap.size + 1 + 1) 0 3 _ (HI.out.later hall) HI2.out (by decide))
  have HS3 := hid (HS.out.later hall)
  have O16 := hid (O16'.out.later (hall.mono O16'.out.1))
  clear ha1 ha2 ha3 ha23 hall HB14 HS HI HI2 O16' o20
  go_wp2_with fail
  refine H10.out.mono ?_
  rintro e w10 ⟨rfl, hb⟩
  have HB16 := hid (HB15.out.trans (hb.mono HB15.out.size))
  obtain ⟨a0, _⟩ := (O16.out.later (hb.mono O16.out.1)).2 0 (by omega)
  obtain ⟨a1, _⟩ := (O16.out.later (hb.mono O16.out.1)).2 1 (by omega)
  obtain ⟨a2, _⟩ := (O16.out.later (hb.mono O16.out.1)).2 2 (by omega)
  have O20' := O20.out.later (hb.mono O20.out.1)
  rw [World.size_alloc] at O20'
  obtain ⟨d0, _⟩ := O20'.2 0 (by omega)
  obtain ⟨d1, _⟩ := O20'.2 1 (by omega)
  obtain ⟨d2, _⟩ := O20'.2 2 (by omega)
  simp only [three', if_pos, Nat.one_ne_zero] at a0 a1 a2 d0 d1 d2
  have H11 := hid (sameLayer_same mixS ⟨#[119, 104, 101, 97, 116]⟩ 1000 g16 0 2 w9.heap.size 0 2 w10 (HS3.out.later hb) (HS2.out.later hb) (by decide))
  have HN1 := hid aw_name1
  have HN2 := hid aw_name2
  clear hb H10 HB15 HS2 HS3 O16 O20 O20'
  go_wp2_with fail
  refine H11.out.mono ?_
  rintro e w11 ⟨rfl, hb⟩
  have HB17 := hid (HB16.out.trans (hb.mono HB16.out.size))
  clear hb H11 HB16 a0 a1 a2 d0 d1 d2 p0 p1 q0 q1
  go_wp2_with fail
  refine (HN1.out _).mono ?_
  rintro e w12 ⟨rfl, hb⟩
  have HB18 := hid (HB17.out.trans (hb.mono HB17.out.size))
  clear hb HN1 HB17
  go_wp2_with fail
  refine (HN2.out _).mono ?_
  rintro e w13 ⟨rfl, hb⟩
  have HB19 := hid (HB18.out.trans (hb.mono HB18.out.size))
  clear hb HN2 HB18
  go_wp2_with fail
  go_ret
  exact ⟨rfl, HB19.out⟩
end Go.Proofs.YtocoghnopmjceaaGreatDoor

