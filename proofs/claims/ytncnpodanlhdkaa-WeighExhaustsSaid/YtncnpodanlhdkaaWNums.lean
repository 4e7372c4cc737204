/-
  checkNumbers: the error of a list of numbers.
-/
import Derived.Test.YtncnpodanlhdkaaWCkBook
namespace Go.Proofs.Ytncnpodanlhdkaa
set_option linter.all false
open Go.RowKit

def badN (n x : Int) : Bool := decide (x < 0) || decide (n ≤ x)
def dupAt (l : List Int) (i : Nat) : Bool := (l.take i).contains (l.getD i 0)
def numsErr (l : List Int) (n : Int) : Int := if l.any (badN n) = true then 10 else if (List.range l.length).any (dupAt l) = true then 9 else 0
theorem any_none {α : Type} {p : α → Bool} {l : List α} (h : ∀ (j : Nat) (x : α), l[j]? = some x → p x = false) : l.any p = false := by
  rw [List.any_eq_false]
  intro x hx
  obtain ⟨j, hj⟩ := List.getElem?_of_mem hx
  rw [h j x hj]
  exact Bool.false_ne_true
theorem any_at {α : Type} {p : α → Bool} {l : List α} {j : Nat} {x : α} (h : l[j]? = some x) (hp : p x = true) : l.any p = true := List.any_eq_true.2 ⟨x, List.mem_of_getElem? h, hp⟩
theorem int_at {w : World} {v : Value} {l : List Int} (h : SlcIn w v l.length (l.map (Value.int .i64))) {i : Nat} {x : Int} (hx : l[i]? = some x) : ∃ g o c, v = .slice (some ⟨g, o, none⟩) l.length c ∧ w.cell? ⟨g, o + i, none⟩ = some (.int .i64 x) ∧ l.length ≤ c ∧ c ≤ maxLen := by
  have hi := (List.getElem?_eq_some_iff.1 hx).1
  obtain ⟨p, c, rfl, h2, h3, h4 | ⟨g, o, rfl, h5⟩⟩ := h
  · omega
  · exact ⟨g, o, c, rfl, h5 i _ (by rw [List.getElem?_map, hx]; rfl), h2, h3⟩

set_option maxRecDepth 100000 in
set_option maxHeartbeats 4000000 in
theorem nums_any (l : List Int) (m : Int) (v : Value) (w : World) (hl : SlcIn w v l.length (l.map (Value.int .i64))) : Calls Try.prog 54 #[v, .int .i64 m] w fun e w' => e = .returned (.int .i64 (numsErr l m)) ∧ w = w' := by
  obtain ⟨p, c, rfl, hm⟩ := hl.shape
  obtain ⟨n, hn⟩ : ∃ n, n = l.length := ⟨_, rfl⟩
  rw [← hn] at hl hm ⊢
  have hm' : n ≤ 9223372036854775807 := by unfold maxLen at hm; omega
  have HL := hid hl
  have HN := hid hn
  clear hl hn hm
  go_enter Try.func54, Try.ntmps54
  go_wp2_with fail
  go_loop [11] (fun u => ∃ k : Nat, k ≤ n ∧ u = .int .i64 k ∧ Hid (∀ (j : Nat) (x : Int), j < k → l[j]? = some x → badN m x = false)) (fun u => n - (intOf u).toNat)
  case atStart => exact ⟨0, Nat.zero_le _, rfl, hid (fun j x hj _ => by omega)⟩
  case round =>
    obtain ⟨k, hk, rfl, HZ⟩ := hrel
    by_cases hlt : k < n
    · obtain ⟨x, hx⟩ : ∃ x, l[k]? = some x := ⟨_, List.getElem?_eq_getElem (by rw [← HN.out]; exact hlt)⟩
      have hw := HL.out
      rw [HN.out] at hw
      obtain ⟨g, o, c', hv, r0, _⟩ := int_at hw hx
      injection hv with e1 e2 e3
      subst e1
      by_cases h1 : x < 0
      · have HE : Hid (numsErr l m = 10) := hid (by unfold numsErr; rw [if_pos (any_at hx (by unfold badN; simp [h1]))])
        clear hw e2 e3 hx
        go_wp2_with fail
        go_ret
        exact ⟨by rw [HE.out]; rfl, rfl⟩
      · by_cases h2 : m ≤ x
        · have HE : Hid (numsErr l m = 10) := hid (by unfold numsErr; rw [if_pos (any_at hx (by unfold badN; simp [h2]))])
          clear hw e2 e3 hx
          go_wp2_with fail
          go_ret
          exact ⟨by rw [HE.out]; rfl, rfl⟩
        · have HZ2 : Hid (∀ (j : Nat) (y : Int), j < k + 1 → l[j]? = some y → badN m y = false) := hid (fun j y hj hy => by
            by_cases e : j = k
            · subst e; rw [hx] at hy; cases hy; unfold badN; simp; omega
            · exact HZ.out j y (by omega) hy)
          have hd : decide (m ≤ x) = false := by simpa using h2
          clear hw e2 e3 hx
          go_wp2_with fail
          go_round
          case rel => exact ⟨k + 1, by omega, by go_num, HZ2⟩
          case measure => simp [intOf]; omega
    · have HA : Hid (l.any (badN m) = false) := hid (any_none fun j x hj => HZ.out j x (by have := (List.getElem?_eq_some_iff.1 hj).1; have := HN.out; omega) hj)
      clear HZ
      go_wp2_with fail
      go_loop [25] (fun u => ∃ k : Nat, k ≤ n ∧ u = .int .i64 k ∧ Hid (∀ j : Nat, j < k → dupAt l j = false)) (fun u => n - (intOf u).toNat)
      case atStart => exact ⟨0, Nat.zero_le _, rfl, hid (fun j hj => by omega)⟩
      case round =>
        clear hlt hk
        obtain ⟨k, hk, rfl, HZ⟩ := hrel
        by_cases hlt : k < n
        · obtain ⟨x, hx⟩ : ∃ x, l[k]? = some x := ⟨_, List.getElem?_eq_getElem (by rw [← HN.out]; exact hlt)⟩
          have hw := HL.out
          rw [HN.out] at hw
          obtain ⟨g, o, c', hv, r0, hc1, hc2⟩ := int_at hw hx
          injection hv with e1 e2 e3
          subst e1
          subst e3
          have hc3 : k ≤ c := by have := HN.out; omega
          have hc4 : c ≤ 9223372036854775807 := by unfold maxLen at hc2; omega
          have htl : (l.take k).length = k := by rw [List.length_take, ← HN.out]; omega
          have HS : Hid (SlcIn w (.slice (some ⟨g, o, none⟩) k c) (l.take k).length ((l.take k).map (Value.int .i64))) := hid ⟨_, c, by rw [htl], by rw [htl]; omega, hc2, .inr ⟨g, o, rfl, fun j u hu => by
            obtain ⟨p, c5, h1, h2, h3, h4 | ⟨g5, o5, h5, h6⟩⟩ := hw
            · have := HN.out; omega
            · injection h1 with f1 f2 f3
              rw [h5] at f1
              injection f1 with f1
              injection f1 with f4 f5
              rw [f4, f5]
              refine h6 j u ?_
              rw [List.getElem?_map] at hu ⊢
              rw [List.getElem?_take] at hu
              split at hu
              · exact hu
              · cases hu⟩⟩
          have hgd : l.getD k 0 = x := by rw [List.getD_eq_getElem?_getD, hx]; rfl
          have HCO := hid (has_int HS.out x)
          have hdd : (l.take k).contains x = dupAt l k := by unfold dupAt; rw [hgd]
          rw [hdd] at HCO
          clear hw e2 hx htl hgd hdd HS
          cases hdup : dupAt l k
          · rw [hdup] at HCO
            have HZ2 : Hid (∀ j : Nat, j < k + 1 → dupAt l j = false) := hid (fun j hj => by
              by_cases e : j = k
              · subst e; exact hdup
              · exact HZ.out j (by omega))
            clear hdup
            go_wp2_with (go_at_call 64; (with_reducible refine HCO.out.mono ?_); rintro e w3 ⟨rfl, rfl⟩)
            go_round
            case rel => exact ⟨k + 1, by omega, by go_num, HZ2⟩
            case measure => simp [intOf]; omega
          · rw [hdup] at HCO
            have HE : Hid (numsErr l m = 9) := hid (by unfold numsErr; rw [HA.out, if_neg Bool.false_ne_true, if_pos (List.any_eq_true.2 ⟨k, by rw [List.mem_range, ← HN.out]; exact hlt, hdup⟩)])
            clear hdup
            go_wp2_with (go_at_call 64; (with_reducible refine HCO.out.mono ?_); rintro e w3 ⟨rfl, rfl⟩)
            go_ret
            exact ⟨by rw [HE.out]; rfl, rfl⟩
        · have HE : Hid (numsErr l m = 0) := hid (by
            unfold numsErr
            rw [HA.out, if_neg Bool.false_ne_true, if_neg]
            rw [Bool.not_eq_true, List.any_eq_false]
            intro j hj
            rw [HZ.out j (by have := List.mem_range.1 hj; have := HN.out; omega)]
            exact Bool.false_ne_true)
          go_wp2_with fail
          go_ret
          exact ⟨by rw [HE.out]; rfl, rfl⟩
end Go.Proofs.Ytncnpodanlhdkaa
