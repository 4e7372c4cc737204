/-
  checkEach, checkTicket, CheckBook, checkNumbers: the first errors of lists.
-/
import Derived.Test.YtncnpodanlhdkaaWBook
import Derived.Test.YtncnpodanlhdkaaWName
namespace Go.Proofs.Ytncnpodanlhdkaa
set_option linter.all false
open Go.RowKit

/-- The first error of a list of ranges. -/
def eachErr (E : Int → Int → Int) : List (Int × Int) → Int
  | [] => 0
  | r :: l => if E r.1 r.2 ≠ 0 then E r.1 r.2 else eachErr E l
theorem each_none {E : Int → Int → Int} : ∀ {l : List (Int × Int)}, (∀ (j : Nat) (r : Int × Int), l[j]? = some r → E r.1 r.2 = 0) → eachErr E l = 0
  | [], _ => rfl
  | r :: l, h => by
    have h0 := h 0 r rfl
    unfold eachErr
    rw [if_neg (by simpa using h0)]
    exact each_none fun j x hj => h (j + 1) x (by simpa using hj)
theorem each_at {E : Int → Int → Int} : ∀ {l : List (Int × Int)} {k : Nat} {r : Int × Int}, (∀ (j : Nat) (x : Int × Int), j < k → l[j]? = some x → E x.1 x.2 = 0) → l[k]? = some r → E r.1 r.2 ≠ 0 → eachErr E l = E r.1 r.2
  | [], _, _, _, h, _ => by simp at h
  | x :: l, 0, r, _, h, hr => by
    simp at h
    subst h
    unfold eachErr
    rw [if_pos hr]
  | x :: l, k + 1, r, hz, h, hr => by
    have h0 := hz 0 x (by omega) rfl
    unfold eachErr
    rw [if_neg (by simpa using h0)]
    exact each_at (k := k) (fun j y hj hy => hz (j + 1) y (by omega) (by simpa using hy)) (by simpa using h) hr

set_option maxRecDepth 100000 in
set_option maxHeartbeats 2000000 in
theorem each_range (l : List (Int × Int)) (v : Value) (W : World) (hl : SlcIn W v l.length (l.flatMap rgC)) : Calls Try.prog 69 #[.func (.func 72) #[] #[], v] W (Ret (.int .i64 (eachErr rangeErr l)) W) := by
  obtain ⟨p, c, rfl, hm⟩ := hl.shape
  obtain ⟨n, hn⟩ : ∃ n, n = l.length := ⟨_, rfl⟩
  rw [← hn] at hl hm ⊢
  have hm' : n ≤ 9223372036854775807 := by unfold maxLen at hm; omega
  have HL := hid hl
  have HN := hid hn
  clear hl hn hm
  go_enter Try.func69, Try.ntmps69
  go_wp2_with fail
  go_loopw [10] (fun u wr => ∃ k : Nat, k ≤ n ∧ u = .int .i64 k ∧ Hid (Below W.heap.size W wr) ∧ Hid (∀ (j : Nat) (r : Int × Int), j < k → l[j]? = some r → rangeErr r.1 r.2 = 0)) (fun u _ => n - (intOf u).toNat)
  case atStart => exact ⟨0, Nat.zero_le _, rfl, hid (Below.refl _ _), hid (fun j r hj _ => by omega)⟩
  case round =>
    obtain ⟨k, hk, rfl, HB, HZ⟩ := hrel
    by_cases hlt : k < n
    · obtain ⟨r, hr⟩ : ∃ r, l[k]? = some r := ⟨_, List.getElem?_eq_getElem (by rw [← HN.out]; exact hlt)⟩
      have hw := HL.out.later HB.out
      rw [HN.out] at hw
      obtain ⟨g, o, c', hv, r0, r1⟩ := hw.rgAt hr
      injection hv with e1 e2 e3
      subst e1
      have HC := hid (checkRange_any r.1 r.2)
      have HNB := hid (Blk.new wr #[.int .i64 r.1, .int .i64 r.2] 38)
      have HBA := hid (HB.out.trans ((below_new wr (.cells #[.int .i64 r.1, .int .i64 r.2] 38)).mono HB.out.size))
      have hge : W.heap.size ≤ (wr.alloc (.cells #[.int .i64 r.1, .int .i64 r.2] 38)).heap.size := HBA.out.size
      by_cases he : rangeErr r.1 r.2 = 0
      · have HZ2 : Hid (∀ (j : Nat) (x : Int × Int), j < k + 1 → l[j]? = some x → rangeErr x.1 x.2 = 0) := hid (fun j x hj hx => by
          by_cases e : j = k
          · subst e; rw [hr] at hx; cases hx; exact he
          · exact HZ.out j x (by omega) hx)
        rw [he] at HC
        clear hw e2 e3 hr he
        go_wp2_with (go_at_call 72; (with_reducible refine (HC.out _).mono ?_); rintro e w2 ⟨rfl, hb⟩; have HB2 := hid (HBA.out.trans (hb.mono hge)); clear hb)
        go_roundw
        case rel => exact ⟨k + 1, by omega, by go_num, HB2, HZ2⟩
        case measure => simp [intOf]; omega
      · have HE : Hid (eachErr rangeErr l = rangeErr r.1 r.2) := hid (each_at HZ.out hr he)
        obtain ⟨x, hx⟩ : ∃ x, x = rangeErr r.1 r.2 := ⟨_, rfl⟩
        rw [← hx] at HC HE he
        have hz : (x == 0) = false := by simpa using he
        have hz2 : (x != 0) = true := by simpa using he
        clear hw e2 e3 hr hx
        go_wp2_with (go_at_call 72; (with_reducible refine (HC.out _).mono ?_); rintro e w2 ⟨rfl, hb⟩; have HB2 := hid (HBA.out.trans (hb.mono hge)); clear hb)
        go_ret
        exact ⟨by rw [HE.out]; rfl, HB2.out⟩
    · have HE : Hid (eachErr rangeErr l = 0) := hid (each_none fun j r hj => HZ.out j r (by have := (List.getElem?_eq_some_iff.1 hj).1; have := HN.out; omega) hj)
      go_wp2_with fail
      go_ret
      exact ⟨by rw [HE.out]; rfl, HB.out⟩

set_option maxRecDepth 100000 in
set_option maxHeartbeats 2000000 in
theorem each_mass (l : List (Int × Int)) (v : Value) (W : World) (hl : SlcIn W v l.length (l.flatMap rgC)) : Calls Try.prog 69 #[.func (.func 70) #[] #[], v] W (Ret (.int .i64 (eachErr massErr l)) W) := by
  obtain ⟨p, c, rfl, hm⟩ := hl.shape
  obtain ⟨n, hn⟩ : ∃ n, n = l.length := ⟨_, rfl⟩
  rw [← hn] at hl hm ⊢
  have hm' : n ≤ 9223372036854775807 := by unfold maxLen at hm; omega
  have HL := hid hl
  have HN := hid hn
  clear hl hn hm
  go_enter Try.func69, Try.ntmps69
  go_wp2_with fail
  go_loopw [10] (fun u wr => ∃ k : Nat, k ≤ n ∧ u = .int .i64 k ∧ Hid (Below W.heap.size W wr) ∧ Hid (∀ (j : Nat) (r : Int × Int), j < k → l[j]? = some r → massErr r.1 r.2 = 0)) (fun u _ => n - (intOf u).toNat)
  case atStart => exact ⟨0, Nat.zero_le _, rfl, hid (Below.refl _ _), hid (fun j r hj _ => by omega)⟩
  case round =>
    obtain ⟨k, hk, rfl, HB, HZ⟩ := hrel
    by_cases hlt : k < n
    · obtain ⟨r, hr⟩ : ∃ r, l[k]? = some r := ⟨_, List.getElem?_eq_getElem (by rw [← HN.out]; exact hlt)⟩
      have hw := HL.out.later HB.out
      rw [HN.out] at hw
      obtain ⟨g, o, c', hv, r0, r1⟩ := hw.rgAt hr
      injection hv with e1 e2 e3
      subst e1
      have HC := hid (checkMass_any r.1 r.2)
      have HNB := hid (Blk.new wr #[.int .i64 r.1, .int .i64 r.2] 38)
      have HBA := hid (HB.out.trans ((below_new wr (.cells #[.int .i64 r.1, .int .i64 r.2] 38)).mono HB.out.size))
      have hge : W.heap.size ≤ (wr.alloc (.cells #[.int .i64 r.1, .int .i64 r.2] 38)).heap.size := HBA.out.size
      by_cases he : massErr r.1 r.2 = 0
      · have HZ2 : Hid (∀ (j : Nat) (x : Int × Int), j < k + 1 → l[j]? = some x → massErr x.1 x.2 = 0) := hid (fun j x hj hx => by
          by_cases e : j = k
          · subst e; rw [hr] at hx; cases hx; exact he
          · exact HZ.out j x (by omega) hx)
        rw [he] at HC
        clear hw e2 e3 hr he
        go_wp2_with (go_at_call 70; (with_reducible refine (HC.out _).mono ?_); rintro e w2 ⟨rfl, hb⟩; have HB2 := hid (HBA.out.trans (hb.mono hge)); clear hb)
        go_roundw
        case rel => exact ⟨k + 1, by omega, by go_num, HB2, HZ2⟩
        case measure => simp [intOf]; omega
      · have HE : Hid (eachErr massErr l = massErr r.1 r.2) := hid (each_at HZ.out hr he)
        obtain ⟨x, hx⟩ : ∃ x, x = massErr r.1 r.2 := ⟨_, rfl⟩
        rw [← hx] at HC HE he
        have hz : (x == 0) = false := by simpa using he
        have hz2 : (x != 0) = true := by simpa using he
        clear hw e2 e3 hr hx
        go_wp2_with (go_at_call 70; (with_reducible refine (HC.out _).mono ?_); rintro e w2 ⟨rfl, hb⟩; have HB2 := hid (HBA.out.trans (hb.mono hge)); clear hb)
        go_ret
        exact ⟨by rw [HE.out]; rfl, HB2.out⟩
    · have HE : Hid (eachErr massErr l = 0) := hid (each_none fun j r hj => HZ.out j r (by have := (List.getElem?_eq_some_iff.1 hj).1; have := HN.out; omega) hj)
      go_wp2_with fail
      go_ret
      exact ⟨by rw [HE.out]; rfl, HB.out⟩

theorem has_str {w : World} {v : Value} {l : List ByteArray} (h : SlcIn w v l.length (l.map Value.string)) (x : ByteArray) : Calls Try.prog 90 #[v, .string x] w fun e w' => e = .returned (.bool (Lib.containsS l x)) ∧ w = w' := by
  obtain ⟨p, c, rfl, h2, h3, h4⟩ := h
  rcases Nat.eq_zero_or_pos l.length with h0 | h0
  · have hl : l = [] := List.length_eq_zero_iff.1 h0
    subst hl
    exact (Try.slices_Contains_string_empty p c x w).mono fun e w' ⟨h5, h6⟩ => ⟨h5, h6.symm⟩
  · rcases h4 with h4 | ⟨g, o, rfl, h5⟩
    · omega
    · refine (Try.slices_Contains_string g o l.length c l x w (Nat.le_refl _) (by unfold maxLen at h3; omega) fun j hj => h5 j _ ?_).mono fun e w' ⟨h6, h7⟩ => ⟨by rw [h6, List.take_length], h7.symm⟩
      rw [List.getElem?_map, List.getElem?_eq_getElem hj, List.getD_eq_getElem?_getD, List.getElem?_eq_getElem hj]
      rfl

def tkErr (ids : List ByteArray) (n : Int) (t : Tk) : Int :=
  if isName t.id.data.toList = false then 8
  else if Lib.containsS ids t.id = true then 9
  else if t.src < -1 ∨ n ≤ t.src ∨ t.dst < -1 ∨ n ≤ t.dst then 10
  else if t.src = t.dst then 1
  else massErr t.low t.high
def tksErr (n : Int) : List ByteArray → List Tk → Int
  | _, [] => 0
  | ids, t :: l => if tkErr ids n t ≠ 0 then tkErr ids n t else tksErr n (ids ++ [t.id]) l
def bookErr (S : List (Int × Int)) (T : List Tk) : Int :=
  if 32 < S.length then 5 else if eachErr rangeErr S ≠ 0 then eachErr rangeErr S else if 128 < T.length then 5 else tksErr S.length [] T

theorem tk_ways (ids : List ByteArray) (n : Int) (t : Tk) : ∃ k, tkErr ids n t = k ∧ ((isName t.id.data.toList = false ∧ k = 8) ∨ (isName t.id.data.toList = true ∧ Lib.containsS ids t.id = true ∧ k = 9) ∨
    (isName t.id.data.toList = true ∧ Lib.containsS ids t.id = false ∧ k = 10 ∧ (t.src < -1 ∨ (-1 ≤ t.src ∧ n ≤ t.src) ∨ (-1 ≤ t.src ∧ t.src < n ∧ t.dst < -1) ∨ (-1 ≤ t.src ∧ t.src < n ∧ -1 ≤ t.dst ∧ n ≤ t.dst))) ∨
    (isName t.id.data.toList = true ∧ Lib.containsS ids t.id = false ∧ -1 ≤ t.src ∧ t.src < n ∧ -1 ≤ t.dst ∧ t.dst < n ∧ t.src = t.dst ∧ k = 1) ∨
    (isName t.id.data.toList = true ∧ Lib.containsS ids t.id = false ∧ -1 ≤ t.src ∧ t.src < n ∧ -1 ≤ t.dst ∧ t.dst < n ∧ t.src ≠ t.dst ∧ k = massErr t.low t.high)) := by
  refine ⟨_, rfl, ?_⟩
  unfold tkErr
  cases h1 : isName t.id.data.toList
  · left; simp
  · cases h2 : Lib.containsS ids t.id
    · right; right
      by_cases h3 : t.src < -1 ∨ n ≤ t.src ∨ t.dst < -1 ∨ n ≤ t.dst
      · left
        refine ⟨rfl, rfl, by simp [h3], by omega⟩
      · right
        by_cases h4 : t.src = t.dst
        · left
          refine ⟨rfl, rfl, by omega, by omega, by omega, by omega, h4, by simp [h3, h4]; omega⟩
        · right
          refine ⟨rfl, rfl, by omega, by omega, by omega, by omega, h4, by simp [h3, h4]⟩
    · right; left; simp

set_option maxRecDepth 100000 in
set_option maxHeartbeats 4000000 in
theorem ticket_any (t : Tk) (ids : List ByteArray) (n : Int) (v : Value) (W : World) (hl : SlcIn W v ids.length (ids.map Value.string)) : Calls Try.prog 75 #[.agg #[.string t.id, .int .i64 t.src, .int .i64 t.dst, .int .i64 t.low, .int .i64 t.high], v, .int .i64 n] W (Ret (.int .i64 (tkErr ids n t)) W) := by
  obtain ⟨w1, hw1⟩ : ∃ w1, w1 = W.alloc (.cells #[.string t.id, .int .i64 t.src, .int .i64 t.dst, .int .i64 t.low, .int .i64 t.high] 59) := ⟨_, rfl⟩
  have hB1 : Blk w1 W.heap.size #[.string t.id, .int .i64 t.src, .int .i64 t.dst, .int .i64 t.low, .int .i64 t.high] 59 := by rw [hw1]; exact Blk.new W _ _
  have HB1 : Hid (Below W.heap.size W w1) := hid (by rw [hw1]; exact below_new W _)
  have hge : W.heap.size ≤ w1.heap.size := HB1.out.size
  have HBL := hid hB1
  have HN := hid (isName_any t.id)
  have HL := hid (hl.later HB1.out)
  have HM := hid (checkMass_any t.low t.high)
  have c0 := hB1.cell (i := 0) rfl
  have HW1 := hid hw1
  clear hw1 hB1 hl
  obtain ⟨k, he, hk⟩ := tk_ways ids n t
  rw [he]
  clear he
  rcases hk with ⟨h1, rfl⟩ | ⟨h1, h2, rfl⟩ | ⟨h1, h2, rfl, h3⟩ | ⟨h1, h2, h3, h4, h5, h6, h7, rfl⟩ | ⟨h1, h2, h3, h4, h5, h6, h7, rfl⟩
  · rw [h1] at HN
    clear h1
    go_enter Try.func75, Try.ntmps75
    go_wp2_with (first | (rw [← HW1.out]) | (go_at_call 89; (with_reducible refine (HN.out _).mono ?_); rintro e w2 ⟨rfl, hb⟩; have HB2 := hid (HB1.out.trans (hb.mono hge)); clear hb))
    go_ret
    exact ⟨rfl, HB2.out⟩
  · rw [h1] at HN
    have HCO := hid (fun w h => (h2 ▸ has_str h t.id : Calls Try.prog 90 #[v, .string t.id] w fun e w' => e = .returned (.bool true) ∧ w = w'))
    clear h1 h2
    go_enter Try.func75, Try.ntmps75
    go_wp2_with (first | (rw [← HW1.out]) | (go_at_call 89; (with_reducible refine (HN.out _).mono ?_); rintro e w2 ⟨rfl, hb⟩; have HB2 := hid (HB1.out.trans (hb.mono hge)); have HBL2 := HBL.out.later hb HBL.out.lt; have d0 := HBL2.cell (i := 0) rfl; have HL2 := hid (HL.out.later hb); clear hb HBL2) | (go_at_call 90; (with_reducible refine (HCO.out _ HL2.out).mono ?_); rintro e w3 ⟨rfl, rfl⟩))
    go_ret
    exact ⟨rfl, HB2.out⟩
  · rw [h1] at HN
    have HCO := hid (fun w h => (h2 ▸ has_str h t.id : Calls Try.prog 90 #[v, .string t.id] w fun e w' => e = .returned (.bool false) ∧ w = w'))
    clear h1 h2
    rcases h3 with h3 | ⟨h3, h4⟩ | ⟨h3, h4, h5⟩ | ⟨h3, h4, h5, h6⟩
    all_goals
      go_enter Try.func75, Try.ntmps75
      go_wp2_with (first | (rw [← HW1.out]) | (go_at_call 89; (with_reducible refine (HN.out _).mono ?_); rintro e w2 ⟨rfl, hb⟩; have HB2 := hid (HB1.out.trans (hb.mono hge)); have HBL2 := HBL.out.later hb HBL.out.lt; have d0 := HBL2.cell (i := 0) rfl; have d1 := HBL2.cell (i := 1) rfl; have d2 := HBL2.cell (i := 2) rfl; have HL2 := hid (HL.out.later hb); clear hb HBL2) | (go_at_call 90; (with_reducible refine (HCO.out _ HL2.out).mono ?_); rintro e w3 ⟨rfl, rfl⟩))
      go_ret
      exact ⟨rfl, HB2.out⟩
  all_goals
    rw [h1] at HN
    have HCO := hid (fun w h => (h2 ▸ has_str h t.id : Calls Try.prog 90 #[v, .string t.id] w fun e w' => e = .returned (.bool false) ∧ w = w'))
    have HEQ := hid h7
    have hz1 : decide (n ≤ t.src) = false := by simp; omega
    have hz2 : decide (n ≤ t.dst) = false := by simp; omega
    clear h1 h2
  · have hz : (t.src == t.dst) = true := by simpa using h7
    clear h7
    go_enter Try.func75, Try.ntmps75
    go_wp2_with (first | (rw [← HW1.out]) | (go_at_call 89; (with_reducible refine (HN.out _).mono ?_); rintro e w2 ⟨rfl, hb⟩; have HB2 := hid (HB1.out.trans (hb.mono hge)); have HBL2 := HBL.out.later hb HBL.out.lt; have d0 := HBL2.cell (i := 0) rfl; have d1 := HBL2.cell (i := 1) rfl; have d2 := HBL2.cell (i := 2) rfl; have HL2 := hid (HL.out.later hb); clear hb HBL2) | (go_at_call 90; (with_reducible refine (HCO.out _ HL2.out).mono ?_); rintro e w3 ⟨rfl, rfl⟩))
    go_ret
    exact ⟨rfl, HB2.out⟩
  · have hz : (t.src == t.dst) = false := by simpa using h7
    clear h7
    go_enter Try.func75, Try.ntmps75
    go_wp2_with (first | (rw [← HW1.out]) | (go_at_call 89; (with_reducible refine (HN.out _).mono ?_); rintro e w2 ⟨rfl, hb⟩; have HB2 := hid (HB1.out.trans (hb.mono hge)); have HBL2 := HBL.out.later hb HBL.out.lt; have d0 := HBL2.cell (i := 0) rfl; have d1 := HBL2.cell (i := 1) rfl; have d2 := HBL2.cell (i := 2) rfl; have d3 := HBL2.cell (i := 3) rfl; have d4 := HBL2.cell (i := 4) rfl; have HL2 := hid (HL.out.later hb); clear hb HBL2) | (go_at_call 90; (with_reducible refine (HCO.out _ HL2.out).mono ?_); rintro e w3 ⟨rfl, rfl⟩) | (go_at_call 70; (with_reducible refine (HM.out _).mono ?_); rintro e w4 ⟨rfl, hb⟩; have HB4 := hid (HB2.out.trans (hb.mono HB2.out.size)); clear hb))
    go_ret
    exact ⟨rfl, HB4.out⟩
end Go.Proofs.Ytncnpodanlhdkaa
