/-
  IsName: whether a text is a name.
-/
import Derived.Test.YtncnpodanlhdkaaWBase
import Derived.Laws.RangeString
import Derived.Laws.RangeAny
import Derived.Laws.Strings
import Derived.Outline
namespace Go.Proofs.Ytncnpodanlhdkaa
set_option linter.all false
open Go.RowKit

theorem list_get (s : ByteArray) (k : Nat) (h : k < s.size) : s.data.toList[k]'(by simpa using h) = s[k]'h := rfl

theorem take_snoc_bytes (s : ByteArray) (k : Nat) (h : k < s.size) : s.data.toList.take (k + 1) = s.data.toList.take k ++ [s[k]'h] := by
  rw [List.take_succ_eq_append_getElem (by simpa using h)]; rfl

theorem iter_below (w : World) (s : ByteArray) (p : Nat) : Below w.heap.size w (w.iter s p) := (Below.refl _ _).alloc (Nat.le_refl _) _


/-- A character that names may have. -/
def nameR (c : Int) : Bool := decide ((97 ≤ c ∧ c ≤ 122) ∨ (65 ≤ c ∧ c ≤ 90) ∨ (48 ≤ c ∧ c ≤ 57) ∨ c = 45 ∨ c = 95 ∨ c = 46)

/-- A text is a name. -/
def isName (l : List UInt8) : Bool := l.all (fun c => nameR c.toNat) && decide (1 ≤ l.length ∧ l.length ≤ 24)

theorem nameR_true {c : Int} (h : (97 ≤ c ∧ c ≤ 122) ∨ (65 ≤ c ∧ c ≤ 90) ∨ (48 ≤ c ∧ c ≤ 57) ∨ c = 45 ∨ c = 95 ∨ c = 46) : nameR c = true := decide_eq_true h
theorem nameR_false {c : Int} (h : ¬ ((97 ≤ c ∧ c ≤ 122) ∨ (65 ≤ c ∧ c ≤ 90) ∨ (48 ≤ c ∧ c ≤ 57) ∨ c = 45 ∨ c = 95 ∨ c = 46)) : nameR c = false := decide_eq_false h

set_option maxHeartbeats 1000000 in
theorem isNameLetter_any (c : Int) (w : World) :
    Calls Try.prog 93 #[.int .i32 c] w fun e w' => e = .returned (.bool (nameR c)) ∧ w' = w := by
  by_cases h1 : 97 ≤ c ∧ c ≤ 122
  · obtain ⟨a, b⟩ := h1
    have HE := hid (nameR_true (c := c) (.inl ⟨a, b⟩))
    go_enter Try.func93, Try.ntmps93
    go_wp2_with fail
    all_goals (go_ret; exact ⟨ret_bool HE.out.symm, rfl⟩)
  by_cases h2 : 65 ≤ c ∧ c ≤ 90
  · obtain ⟨a, b⟩ := h2
    have a1 : ¬ 97 ≤ c := by omega
    have HE := hid (nameR_true (c := c) (.inr (.inl ⟨a, b⟩)))
    clear h1
    go_enter Try.func93, Try.ntmps93
    go_wp2_with fail
    all_goals (go_ret; exact ⟨ret_bool HE.out.symm, rfl⟩)
  by_cases h3 : 48 ≤ c ∧ c ≤ 57
  · obtain ⟨a, b⟩ := h3
    have a1 : ¬ 97 ≤ c := by omega
    have a2 : ¬ 65 ≤ c := by omega
    have HE := hid (nameR_true (c := c) (.inr (.inr (.inl ⟨a, b⟩))))
    clear h1 h2
    go_enter Try.func93, Try.ntmps93
    go_wp2_with fail
    all_goals (go_ret; exact ⟨ret_bool HE.out.symm, rfl⟩)
  by_cases h4 : c = 45 ∨ c = 95 ∨ c = 46
  · have HE := hid (nameR_true (c := c) (.inr (.inr (.inr h4))))
    rcases h4 with rfl | rfl | rfl
    all_goals
      clear h1 h2 h3
      go_enter Try.func93, Try.ntmps93
      go_wp2_with fail
      go_ret
      exact ⟨ret_bool HE.out.symm, rfl⟩
  · have HE := hid (nameR_false (c := c) (by omega))
    have b1 : (c == 45) = false := beq_eq_false_iff_ne.2 (by omega)
    have b2 : (c == 95) = false := beq_eq_false_iff_ne.2 (by omega)
    have b3 : (c == 46) = false := beq_eq_false_iff_ne.2 (by omega)
    have g1 : (decide (97 ≤ c) && decide (c ≤ 122)) = false := by rw [← Bool.decide_and]; exact decide_eq_false h1
    by_cases a1 : 97 ≤ c
    · have a2 : ¬ c ≤ 122 := by omega
      have a3 : 65 ≤ c := by omega
      have a4 : ¬ c ≤ 90 := by omega
      have a5 : 48 ≤ c := by omega
      have a6 : ¬ c ≤ 57 := by omega
      clear h1 h2 h3 h4 g1
      go_enter Try.func93, Try.ntmps93
      go_wp2_with fail
      all_goals (go_ret; exact ⟨ret_bool HE.out.symm, rfl⟩)
    · by_cases a3 : 65 ≤ c
      · have a4 : ¬ c ≤ 90 := by omega
        have a5 : 48 ≤ c := by omega
        have a6 : ¬ c ≤ 57 := by omega
        clear h1 h2 h3 h4 g1
        go_enter Try.func93, Try.ntmps93
        go_wp2_with fail
        all_goals (go_ret; exact ⟨ret_bool HE.out.symm, rfl⟩)
      · by_cases a5 : 48 ≤ c
        · have a6 : ¬ c ≤ 57 := by omega
          clear h1 h2 h3 h4 g1
          go_enter Try.func93, Try.ntmps93
          go_wp2_with fail
          all_goals (go_ret; exact ⟨ret_bool HE.out.symm, rfl⟩)
        · clear h1 h2 h3 h4 g1
          go_enter Try.func93, Try.ntmps93
          go_wp2_with fail
          all_goals (go_ret; exact ⟨ret_bool HE.out.symm, rfl⟩)

theorem isName_bad (s : ByteArray) (k : Nat) (h : k < s.size) (hb : nameR (s[k]'h).toNat = false) : isName s.data.toList = false := by
  unfold isName
  rw [Bool.and_eq_false_iff]
  left
  rw [List.all_eq_false]
  exact ⟨s[k]'h, by rw [← list_get s k h]; exact List.getElem_mem _, by simp [hb]⟩

theorem rune_name (s : ByteArray) (pos : Nat) (h : pos < s.size) : (nameR (s[pos]'h).toNat = true ∧ Utf8.decode s pos = ((s[pos]'h).toNat, 1)) ∨ (nameR (s[pos]'h).toNat = false ∧ nameR (Utf8.decode s pos).1 = false) := by
  by_cases ha : (s[pos]'h).toNat < 128
  · rw [decode_ascii s pos h ha]
    cases hn : nameR (s[pos]'h).toNat
    · exact .inr ⟨rfl, by first | exact hn | rfl⟩
    · exact .inl ⟨rfl, rfl⟩
  · right
    have h2 := (decode_high s pos h (by omega)).1
    exact ⟨nameR_false (by omega), nameR_false (by omega)⟩

set_option maxRecDepth 100000 in
theorem isName_any (s : ByteArray) (w : World) :
    Calls Try.prog 89 #[.string s] w fun e w' => e = .returned (.bool (isName s.data.toList)) ∧ Below w.heap.size w w' := by
  have HBE := hid (fun p => iter_below w s p)
  have HBAD := hid (isName_bad s)
  have HRN := hid (rune_name s)
  have HSN := hid (take_snoc_bytes s)
  have HEND : Hid ((∀ c ∈ s.data.toList.take s.size, nameR c.toNat = true) → isName s.data.toList = decide (1 ≤ s.size ∧ s.size ≤ 24)) := hid fun h => by
    rw [List.take_of_length_le (by simp)] at h
    unfold isName
    rw [List.all_eq_true.2 h, Bool.true_and]
    simp
  generalize isName s.data.toList = res at *
  go_enter Try.func89, Try.ntmps89
  go_wp2_with fail
  go_loopw [4] (fun _ wr => ∃ pos : Nat, pos ≤ s.size ∧ wr = w.iter s pos ∧ Hid (∀ c ∈ s.data.toList.take pos, nameR c.toNat = true)) (fun _ w' => s.size - w'.iterPos w.heap.size)
  case atStart => exact ⟨0, Nat.zero_le _, rfl, hid (by simp)⟩
  case round =>
    obtain ⟨pos, hps, rfl, HD⟩ := hrel
    by_cases hp : pos < s.size
    · rcases HRN.out pos hp with ⟨hn, hdec⟩ | ⟨hn, hdec⟩
      · have hnx : ∀ ty, (Instr.next (.pointer (some ⟨w.heap.size, 0, none⟩)) true ty).run Try.prog (w.iter s pos) = _ := fun ty => run_next_any w s pos ty hp
        rw [hdec] at hnx
        have HD2 : Hid (∀ c ∈ s.data.toList.take (pos + 1), nameR c.toNat = true) := hid (by
          rw [HSN.out pos hp]
          intro c hc
          rcases List.mem_append.1 hc with hc | hc
          · exact HD.out c hc
          · rw [List.mem_singleton.1 hc]; exact hn)
        have HNL : Hid (∀ W, Calls Try.prog 93 #[.int .i32 ((s[pos]'hp).toNat : Int)] W fun e w' => e = .returned (.bool true) ∧ w' = W) := hid fun W => by rw [← hn]; exact isNameLetter_any _ W
        clear hn hdec
        go_wp2_with fail
        refine (HNL.out _).mono ?_
        rintro e w' ⟨rfl, hw'⟩
        rw [hw']
        clear hw' HNL
        go_wp2_with fail
        go_roundw
        case rel => exact ⟨pos + 1, by omega, rfl, HD2⟩
        case measure => simp; omega
      · have HRES := hid (HBAD.out pos hp hn)
        have hnx : ∀ ty, (Instr.next (.pointer (some ⟨w.heap.size, 0, none⟩)) true ty).run Try.prog (w.iter s pos) = _ := fun ty => run_next_any w s pos ty hp
        have HNL : Hid (∀ W, Calls Try.prog 93 #[.int .i32 ((Utf8.decode s pos).1 : Int)] W fun e w' => e = .returned (.bool false) ∧ w' = W) := hid fun W => by rw [← hdec]; exact isNameLetter_any _ W
        clear hn hdec
        generalize (Utf8.decode s pos).2 = wid at *
        generalize (Utf8.decode s pos).1 = c at *
        go_wp2_with fail
        refine (HNL.out _).mono ?_
        rintro e w' ⟨rfl, hw'⟩
        rw [hw']
        clear hw' HNL
        go_wp2_with fail
        go_ret
        exact ⟨ret_bool HRES.out.symm, HBE.out _⟩
    · have hpe : pos = s.size := by omega
      have HRES : Hid (res = decide (1 ≤ s.size ∧ s.size ≤ 24)) := hid (HEND.out (by rw [← hpe]; exact HD.out))
      have hnx : ∀ ty, (Instr.next (.pointer (some ⟨w.heap.size, 0, none⟩)) true ty).run Try.prog (w.iter s pos) = _ := fun ty => run_next_end w s pos ty hp
      clear hpe
      by_cases h1 : 1 ≤ s.size
      · by_cases h2 : s.size ≤ 24
        · have HR : Hid (decide ((s.size : Int) ≤ 24) = res) := hid (by rw [HRES.out, decide_eq_true (show 1 ≤ s.size ∧ s.size ≤ 24 from ⟨h1, h2⟩)]; exact decide_eq_true (by omega))
          go_wp2_with fail
          go_ret
          exact ⟨ret_bool HR.out, HBE.out _⟩
        · have HR : Hid (decide ((s.size : Int) ≤ 24) = res) := hid (by rw [HRES.out, decide_eq_false (show ¬ (1 ≤ s.size ∧ s.size ≤ 24) from by omega)]; exact decide_eq_false (by omega))
          go_wp2_with fail
          go_ret
          exact ⟨ret_bool HR.out, HBE.out _⟩
      · have HR : Hid (res = false) := hid (by rw [HRES.out]; exact decide_eq_false (by omega))
        go_wp2_with fail
        go_ret
        exact ⟨ret_bool HR.out.symm, HBE.out _⟩

end Go.Proofs.Ytncnpodanlhdkaa
