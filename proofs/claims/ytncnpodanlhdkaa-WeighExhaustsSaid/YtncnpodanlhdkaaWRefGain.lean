/-
  The reference's In and Gain.
-/
import Derived.Test.YtncnpodanlhdkaaWRefBk2
import Derived.Test.YtncnpodanlhdkaaWHolds
namespace Go.Proofs.Ytncnpodanlhdkaa
set_option linter.all false
open Go.RowKit

set_option maxRecDepth 100000 in
set_option maxHeartbeats 4000000 in
theorem refIn_any (l : List Int) (x : Int) (v : Value) (w : World) (hl : SlcIn w v l.length (l.map (Value.int .i64))) : Calls Try.prog 57 #[v, .int .i64 x] w fun e w' => e = .returned (.bool (l.contains x)) ∧ w = w' := by
  obtain ⟨p, c, rfl, hm⟩ := hl.shape
  obtain ⟨n, hn⟩ : ∃ n, n = l.length := ⟨_, rfl⟩
  rw [← hn] at hm ⊢
  have hm' : n ≤ 9223372036854775807 := by unfold maxLen at hm; omega
  have HL := hid hl
  have HN := hid hn
  have HT : Hid (∀ (j : Nat) (y : Int), l[j]? = some y → y = x → l.contains x = true) := hid (fun j y hj e => by
    subst e
    exact List.contains_iff_mem.2 (List.mem_of_getElem? hj))
  have HF : Hid ((∀ (j : Nat) (y : Int), l[j]? = some y → y ≠ x) → l.contains x = false) := hid (fun h => by
    rw [← Bool.not_eq_true]
    intro hc
    obtain ⟨j, hj⟩ := List.getElem?_of_mem (List.contains_iff_mem.1 hc)
    exact h j x hj rfl)
  obtain ⟨res, hres⟩ : ∃ res, res = l.contains x := ⟨_, rfl⟩
  rw [← hres] at HT HF ⊢
  clear hl hn hm hres
  go_enter Try.func57, Try.ntmps57
  go_wp2_with fail
  go_loop [5] (fun u => ∃ k : Nat, k ≤ n ∧ u = .int .i64 k ∧ Hid (∀ (j : Nat) (y : Int), j < k → l[j]? = some y → y ≠ x)) (fun u => n - (intOf u).toNat)
  case atStart => exact ⟨0, Nat.zero_le _, rfl, hid (fun j y hj _ => absurd hj (Nat.not_lt_zero _))⟩
  case round =>
    obtain ⟨k, hk, rfl, HZ⟩ := hrel
    by_cases hlt : k < n
    · obtain ⟨y, hy⟩ : ∃ y, l[k]? = some y := ⟨_, List.getElem?_eq_getElem (by rw [← HN.out]; exact hlt)⟩
      obtain ⟨g, o, c', hv, r0, _⟩ := int_at HL.out hy
      injection hv with e1 e2 e3
      subst e1
      by_cases he : y = x
      · have hr := HT.out k y hy he
        subst hr
        have hz : (y == x) = true := by simpa using he
        clear hy e2 e3 he
        go_wp2_with fail
        go_ret
        exact ⟨rfl, rfl⟩
      · have HZ2 : Hid (∀ (j : Nat) (y : Int), j < k + 1 → l[j]? = some y → y ≠ x) := hid (fun j z hj hz => by
          by_cases e : j = k
          · subst e; rw [hy] at hz; cases hz; exact he
          · exact HZ.out j z (by omega) hz)
        have hz : (y == x) = false := by simpa using he
        clear hy e2 e3 he
        go_wp2_with fail
        go_round
        case rel => exact ⟨k + 1, by omega, by go_num, HZ2⟩
        case measure => simp [intOf]; omega
    · have hr := HF.out fun j y hj => HZ.out j y (by have := (List.getElem?_eq_some_iff.1 hj).1; have := HN.out; omega) hj
      subst hr
      go_wp2_with fail
      go_ret
      exact ⟨rfl, rfl⟩

def gainF (T : List Tk) (M J : List Int) : Nat → Int
  | 0 => 0
  | k + 1 => (gainF T M J k + if J.contains (T.getD k noTk).dst = true then M.getD k 0 else 0) - if J.contains (T.getD k noTk).src = true then M.getD k 0 else 0
theorem gain_bd {T : List Tk} {M J : List Int} (hM : ∀ (i : Nat) (x : Int), M[i]? = some x → -999999999 ≤ x ∧ x ≤ 999999999) : ∀ k : Nat, k ≤ 128 → -((k : Int) * 1999999998) ≤ gainF T M J k ∧ gainF T M J k ≤ (k : Int) * 1999999998 := by
  intro k
  induction k with
  | zero => intro _; simp [gainF]
  | succ k ih =>
    intro hk
    have h := ih (by omega)
    have hx : -999999999 ≤ M.getD k 0 ∧ M.getD k 0 ≤ 999999999 := by
      rw [List.getD_eq_getElem?_getD]
      rcases hm : M[k]? with _ | x
      · simp
      · exact hM k x hm
    unfold gainF
    split <;> split <;> omega

set_option maxRecDepth 100000 in
set_option maxHeartbeats 8000000 in
theorem refGain_any (S : List (Int × Int)) (T : List Tk) (M J : List Int) (v1 v2 v3 v4 : Value) (W : World) (hb : BookIn W v1 v2 S T) (hm : SlcIn W v3 M.length (M.map (Value.int .i64))) (hj : SlcIn W v4 J.length (J.map (Value.int .i64)))
    (hlen : M.length = T.length) (h128 : T.length ≤ 128) (hM : ∀ (i : Nat) (x : Int), M[i]? = some x → -999999999 ≤ x ∧ x ≤ 999999999) :
    Calls Try.prog 38 #[.agg #[v1, v2], v3, v4] W (Ret (.int .i64 (gainF T M J T.length)) W) := by
  obtain ⟨p1, c1, rfl, _⟩ := hb.stock.shape
  obtain ⟨p2, c2, rfl, _⟩ := hb.tickets.shape
  obtain ⟨p3, c3, rfl, _⟩ := hm.shape
  obtain ⟨p4, c4, rfl, _⟩ := hj.shape
  obtain ⟨ns, hns⟩ : ∃ n, n = S.length := ⟨_, rfl⟩
  obtain ⟨nt, hnt⟩ : ∃ n, n = T.length := ⟨_, rfl⟩
  have hb0 : Below W.heap.size W (W.alloc (.cells #[.slice p1 ns c1, .slice p2 nt c2] 25)) := below_new W _
  have hB0 : Blk (W.alloc (.cells #[.slice p1 ns c1, .slice p2 nt c2] 25)) W.heap.size #[.slice p1 ns c1, .slice p2 nt c2] 25 := Blk.new W _ _
  obtain ⟨w0, hw0⟩ : ∃ w0, w0 = W.alloc (.cells #[.slice p1 ns c1, .slice p2 nt c2] 25) := ⟨_, rfl⟩
  rw [← hw0] at hb0 hB0
  have b0 := hB0.cell (i := 0) rfl
  have b1 := hB0.cell (i := 1) rfl
  have HTK := hid (hb.tickets.later hb0)
  have HM := hid (hm.later hb0)
  have HJ := hid (hj.later hb0)
  have HB := hid hb0
  have HBL := hid hB0
  have HW0 := hid hw0
  have HNT := hid hnt
  have HLEN := hid hlen
  have HIN := hid (fun x w h => refIn_any J x (.slice p4 J.length c4) w h)
  have HMB := hid hM
  have HGB := hid (fun k h => gain_bd (T := T) (M := M) (J := J) hM k h)
  rw [← hns, ← hnt, hlen, ← hnt]
  rw [← hnt] at h128
  obtain ⟨nj, hnj⟩ : ∃ n, n = J.length := ⟨_, rfl⟩
  rw [← hnj] at HIN HJ ⊢
  clear hb hm hj hw0 hb0 hB0 hns hnt hlen hM hnj
  go_enter Try.func38, Try.ntmps38
  go_wp2_with (rw [← HW0.out])
  go_loop [7, 8] (fun v u => ∃ k : Nat, k ≤ nt ∧ u = .int .i64 k ∧ v = .int .i64 (gainF T M J k)) (fun _ u => nt - (intOf u).toNat)
  case atStart => exact ⟨0, Nat.zero_le _, rfl, rfl⟩
  case round =>
    obtain ⟨k, hk, rfl, rfl⟩ := hrel
    obtain ⟨G, hG⟩ : ∃ G, G = gainF T M J k := ⟨_, rfl⟩
    by_cases hlt : k < nt
    · obtain ⟨t, ht⟩ : ∃ t, T[k]? = some t := ⟨_, List.getElem?_eq_getElem (by rw [← HNT.out]; exact hlt)⟩
      obtain ⟨x, hx⟩ : ∃ x, M[k]? = some x := ⟨_, List.getElem?_eq_getElem (by rw [HLEN.out, ← HNT.out]; exact hlt)⟩
      obtain ⟨g, o, c', hv, _, t1, t2, _, _⟩ := HTK.out.tkAt ht
      injection hv with e1 e2 e3
      subst e1
      obtain ⟨g3, o3, c3', hv3, m0, _⟩ := int_at HM.out hx
      injection hv3 with e4 e5 e6
      subst e4
      obtain ⟨x1, x2⟩ := HMB.out k x hx
      obtain ⟨y1, y2⟩ := HGB.out k (by omega)
      have hgt : T.getD k noTk = t := by rw [List.getD_eq_getElem?_getD, ht]; rfl
      have hgm : M.getD k 0 = x := by rw [List.getD_eq_getElem?_getD, hx]; rfl
      have hN : gainF T M J (k + 1) = (G + if J.contains t.dst = true then x else 0) - if J.contains t.src = true then x else 0 := by
        rw [hG]; conv => lhs; unfold gainF
        rw [hgt, hgm]
      rw [← hG] at y1 y2 ⊢
      have HD1 := hid (HIN.out t.dst)
      have HD2 := hid (HIN.out t.src)
      rcases hd1 : J.contains t.dst
      all_goals
        rcases hd2 : J.contains t.src
        all_goals
          rw [hd1] at HD1
          rw [hd2] at HD2
          rw [hd1, hd2] at hN
          simp only [if_true, Bool.false_eq_true, if_false, Int.add_zero, Int.sub_zero] at hN
          have HNX := hid hN
          clear hN hd1 hd2 hgt hgm hG ht hx e2 e3 e5 e6
          go_wp2_with (go_at_call 57; first | ((with_reducible refine (HD1.out _ HJ.out).mono ?_); rintro e w3 ⟨rfl, rfl⟩) | ((with_reducible refine (HD2.out _ HJ.out).mono ?_); rintro e w3 ⟨rfl, rfl⟩))
          go_round
          case rel => exact ⟨k + 1, by omega, by go_num, congrArg (Value.int .i64) (by have h := HNX.out; omega)⟩
          case measure => simp [intOf]; omega
    · have hkn : k = nt := by omega
      subst hkn
      go_wp2_with fail
      go_ret
      exact ⟨rfl, HB.out⟩

theorem getD_set9 (b : List Int) (i p : Nat) (x : Int) (hi : i < b.length) : (b.set i x).getD p 0 = if i = p then x else b.getD p 0 := by
  by_cases h : i = p
  · subst h
    rw [if_pos rfl, List.getD_eq_getElem?_getD, List.getElem?_set_self hi]
    rfl
  · rw [if_neg h, List.getD_eq_getElem?_getD, List.getElem?_set_ne h, List.getD_eq_getElem?_getD]
theorem chg_len (T : List Tk) (M : List Int) : ∀ k, (chgF T M k).length = 34
  | 0 => noB_len
  | k + 1 => by unfold chgF stepC9; rw [List.length_set, List.length_set, chg_len T M k]
theorem chg_gain {S : List (Int × Int)} {T : List Tk} (M : List Int) (hok : TksOk S T) (p : Nat) (hp : p < 32) : ∀ k, k ≤ T.length → (chgF T M k).getD p 0 = gainF T M [(p : Int)] k
  | 0, _ => by
    unfold chgF gainF noB
    rw [List.getD_eq_getElem?_getD, List.getElem?_replicate]
    split <;> rfl
  | k + 1, hk => by
    have ih := chg_gain M hok p hp k (by omega)
    have ht := List.getElem?_eq_getElem (l := T) (i := k) (by omega)
    have hg : T.getD k noTk = T[k] := by rw [List.getD_eq_getElem?_getD, ht]; rfl
    obtain ⟨h1, h2, h3, h4⟩ := hok.tk k _ ht
    have h7 := hok.places
    have hl := chg_len T M k
    unfold chgF gainF stepC9
    rw [hg, ← ih]
    obtain ⟨t, hte⟩ : ∃ t, t = T[k] := ⟨_, rfl⟩
    rw [← hte] at h1 h2 h3 h4 ⊢
    obtain ⟨b, hb⟩ : ∃ b, b = chgF T M k := ⟨_, rfl⟩
    rw [← hb] at hl ⊢
    have hs : node t.src < 34 := by unfold node; split <;> omega
    have hd : node t.dst < 34 := by unfold node; split <;> omega
    rw [getD_set9 _ _ _ _ (by rw [List.length_set, hl]; exact hd), getD_set9 _ _ _ _ (by rw [hl]; exact hs), getD_set9 _ _ _ _ (by rw [hl]; exact hs)]
    have es : node t.src = p ↔ [(p : Int)].contains t.src = true := by
      simp only [List.contains_cons, List.contains_nil, Bool.or_false, beq_iff_eq]
      unfold node
      split <;> omega
    have ed : node t.dst = p ↔ [(p : Int)].contains t.dst = true := by
      simp only [List.contains_cons, List.contains_nil, Bool.or_false, beq_iff_eq]
      unfold node
      split <;> omega
    by_cases c1 : node t.src = p
    · by_cases c2 : node t.dst = p
      · rw [if_pos c2, if_pos (ed.1 c2), if_pos (es.1 c1), if_pos (c1.trans c2.symm), c1]
        omega
      · rw [if_neg c2, if_neg (fun h => c2 (ed.2 h)), if_pos c1, if_pos (es.1 c1), c1]
        omega
    · by_cases c2 : node t.dst = p
      · rw [if_pos c2, if_pos (ed.1 c2), if_neg (fun h => c1 (es.2 h)), if_neg (fun h => c1 (h.trans c2)), c2]
        omega
      · rw [if_neg c2, if_neg (fun h => c2 (ed.2 h)), if_neg c1, if_neg (fun h => c1 (es.2 h))]
        omega
/-- What the reference's Holds answers. -/
def holdsR (S : List (Int × Int)) (T : List Tk) (M : List Int) : Bool := (List.range T.length).all (tkIn T M) && (List.range S.length).all (fun p => inR (S.getD p (0, 0)).1 (S.getD p (0, 0)).2 (gainF T M [(p : Int)] T.length))
theorem holds_same {S : List (Int × Int)} {T : List Tk} (M : List Int) (hok : TksOk S T) : holdsR S T M = holdsF S T M := by
  have h7 := hok.places
  unfold holdsR holdsF
  congr 1
  rw [Bool.eq_iff_iff, List.all_eq_true, List.all_eq_true]
  constructor
  · intro h p hp
    have hq := List.mem_range.1 hp
    have h2 := h p hp
    unfold stIn
    rw [chg_gain M hok p (by omega) _ (Nat.le_refl _)]
    exact h2
  · intro h p hp
    have hq := List.mem_range.1 hp
    have h2 := h p hp
    unfold stIn at h2
    rw [chg_gain M hok p (by omega) _ (Nat.le_refl _)] at h2
    exact h2
end Go.Proofs.Ytncnpodanlhdkaa
