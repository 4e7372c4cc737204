/-
  CheckMinimal, and Minimal's errors.
-/
import Derived.Test.YtncnpodanlhdkaaWSetM
import Derived.Test.YtncnpodanlhdkaaWRefNum
import Derived.Test.YtncnpodanlhdkaaWMinimal
namespace Go.Proofs.Ytncnpodanlhdkaa
set_option linter.all false
open Go.RowKit

theorem without_get {T : List Tk} {i : Nat} {t : Tk} (ht : T[i]? = some t) : withoutF T i = T.set i ⟨t.id, t.src, t.dst, 0, 999999999⟩ := by
  unfold withoutF wide
  rw [List.getD_eq_getElem?_getD, ht]
  rfl
theorem without_len (T : List Tk) (i : Nat) : (withoutF T i).length = T.length := by unfold withoutF; rw [List.length_set]
theorem without_err {S : List (Int × Int)} {T : List Tk} {i : Nat} (hx : bookErr S T = 0) (hi : i < T.length) : bookErr S (withoutF T i) = 0 := by
  have ht := List.getElem?_eq_getElem (l := T) (i := i) hi
  rw [without_get ht]
  exact book_set hx ht (mass_err (by omega))
theorem asg_wide {S : List (Int × Int)} {T : List Tk} {i : Nat} (hx : bookErr S T = 0) (hi : i < T.length) {A : List Int} (hA : Asg S T A) : Asg S (withoutF T i) A := by
  have ht := List.getElem?_eq_getElem (l := T) (i := i) hi
  have hm := (book_good hx).mass.mass i _ ht
  have ht2 : (withoutF T i)[i]? = some ⟨T[i].id, T[i].src, T[i].dst, 0, 999999999⟩ := by rw [without_get ht, List.getElem?_set_self hi]
  have hback : (withoutF T i).set i ⟨T[i].id, T[i].src, T[i].dst, T[i].low, T[i].high⟩ = T := by
    rw [without_get ht, List.set_set]
    exact set_same ht
  have h := asg_set (lo := T[i].low) (hi := T[i].high) (A := A) (book_good (without_err hx hi)) (by dsimp only; rw [hback]; exact book_good hx) ht2 (by dsimp only; omega) (by dsimp only; omega)
  dsimp only at h
  rw [hback] at h
  exact (h.1 hA).1
theorem without_comm (T : List Tk) {i j : Nat} (h : i ≠ j) : withoutF (withoutF T i) j = withoutF (withoutF T j) i := by
  have e1 : (withoutF T i).getD j noTk = T.getD j noTk := by unfold withoutF; rw [List.getD_eq_getElem?_getD, List.getElem?_set_ne h, List.getD_eq_getElem?_getD]
  have e2 : (withoutF T j).getD i noTk = T.getD i noTk := by unfold withoutF; rw [List.getD_eq_getElem?_getD, List.getElem?_set_ne (Ne.symm h), List.getD_eq_getElem?_getD]
  show (withoutF T i).set j (wide ((withoutF T i).getD j noTk)) = (withoutF T j).set i (wide ((withoutF T j).getD i noTk))
  rw [e1, e2]
  unfold withoutF
  rw [List.set_comm _ _ h]
/-- The tickets from which the first k are left out that a list does not name. -/
def restr (T : List Tk) (P : List Int) : Nat → List Tk
  | 0 => T
  | k + 1 => if P.contains (k : Int) = true then restr T P k else withoutF (restr T P k) k
theorem restr_len (T : List Tk) (P : List Int) : ∀ k, (restr T P k).length = T.length
  | 0 => rfl
  | k + 1 => by
    unfold restr
    split
    · exact restr_len T P k
    · rw [without_len]; exact restr_len T P k
theorem restr_cong (T : List Tk) {P Q : List Int} : ∀ k, (∀ j : Nat, j < k → P.contains (j : Int) = Q.contains (j : Int)) → restr T P k = restr T Q k
  | 0, _ => rfl
  | k + 1, h => by
    unfold restr
    rw [restr_cong T k fun j hj => h j (by omega), h k (by omega)]
theorem restr_err {S : List (Int × Int)} {T : List Tk} (P : List Int) (hx : bookErr S T = 0) : ∀ k, k ≤ T.length → bookErr S (restr T P k) = 0
  | 0, _ => hx
  | k + 1, hk => by
    unfold restr
    split
    · exact restr_err P hx k (by omega)
    · exact without_err (restr_err P hx k (by omega)) (by rw [restr_len]; omega)
def intL (L : List Nat) : List Int := L.map fun (p : Nat) => (p : Int)
theorem intL_has {L : List Nat} {j : Nat} : (intL L).contains (j : Int) = L.contains j := by
  rw [Bool.eq_iff_iff, List.contains_iff_mem, List.contains_iff_mem]
  unfold intL
  rw [List.mem_map]
  constructor
  · rintro ⟨p, hp, e⟩
    rw [show j = p by omega]
    exact hp
  · intro h
    exact ⟨j, h, rfl⟩
/-- What Minimal keeps: tickets that contradict each other with it, and each of them is needed. -/
theorem min_what {S : List (Int × Int)} {T : List Tk} (hx : bookErr S T = 0) (hn : ¬ Cons S T) : ∀ k, k ≤ T.length → ∃ T' L, minF S T k = some (T', L) ∧ T' = restr T (intL L) k ∧ ¬ Cons S T' ∧ (∀ j ∈ L, j < k ∧ Cons S (withoutF T' j)) ∧ L.Pairwise (· < ·)
  | 0, _ => ⟨T, [], rfl, rfl, hn, fun j hj => absurd hj List.not_mem_nil, List.Pairwise.nil⟩
  | k + 1, hk => by
    obtain ⟨T', L, h1, h2, h3, h4, h5⟩ := min_what hx hn k (by omega)
    have hx' : bookErr S T' = 0 := by rw [h2]; exact restr_err _ hx k (by omega)
    have hlen : T'.length = T.length := by rw [h2, restr_len]
    have hx2 := without_err (i := k) hx' (by omega)
    obtain ⟨N', r, k1, k2, _⟩ := book_settle (book_good hx2) []
    have hnk : L.contains k = false := by
      rw [Bool.eq_false_iff]
      intro c
      have := (h4 k (by simpa using c)).1
      omega
    cases r
    · refine ⟨withoutF T' k, L, ?_, ?_, fun hc => ?_, fun j hj => ?_, h5⟩
      · unfold minF
        rw [h1]
        dsimp only
        rw [k1]
      · show _ = if (intL L).contains (k : Int) = true then _ else _
        rw [intL_has, hnk, if_neg (by simp), ← h2]
      · have := k2.2 hc
        cases this
      · obtain ⟨a1, A, hA⟩ := h4 j hj
        refine ⟨by omega, A, ?_⟩
        rw [without_comm T' (show k ≠ j by omega)]
        exact asg_wide (without_err hx' (by omega)) (by rw [without_len]; omega) hA
    · refine ⟨T', L ++ [k], ?_, ?_, h3, fun j hj => ?_, ?_⟩
      · unfold minF
        rw [h1]
        dsimp only
        rw [k1]
      · have e : restr T (intL (L ++ [k])) k = restr T (intL L) k := restr_cong T k fun j hj => by
          rw [intL_has, intL_has, Bool.eq_iff_iff]
          simp
          omega
        show _ = if (intL (L ++ [k])).contains (k : Int) = true then _ else _
        rw [intL_has, if_pos (by simp), e]
        exact h2
      · rcases List.mem_append.1 hj with hj | hj
        · exact ⟨by have := (h4 j hj).1; omega, (h4 j hj).2⟩
        · rw [List.mem_singleton.1 hj]
          exact ⟨by omega, k2.1 rfl⟩
      · refine List.pairwise_append.2 ⟨h5, List.pairwise_singleton _ _, fun a ha b hb => ?_⟩
        rw [List.mem_singleton.1 hb]
        exact (h4 a ha).1
theorem sorted_nums {L : List Nat} {n : Nat} (h : L.Pairwise (· < ·)) (hin : ∀ j ∈ L, j < n) : numsErr (intL L) n = 0 := by
  have hin2 : ∀ x ∈ intL L, 0 ≤ x ∧ x < (n : Int) := fun x hx => by
    obtain ⟨p, hp, rfl⟩ := List.mem_map.1 hx
    have := hin p hp
    omega
  have hs : (intL L).Pairwise (· < ·) := by
    unfold intL
    rw [List.pairwise_map]
    exact h.imp fun h => by omega
  refine nums_none (nums_fine fun j y hy => hin2 y (List.mem_of_getElem? hy)) fun i k x hi hk hki => ?_
  have h := List.pairwise_iff_getElem.1 hs k i (List.getElem?_eq_some_iff.1 hk).1 (List.getElem?_eq_some_iff.1 hi).1 hki
  have e1 := (List.getElem?_eq_some_iff.1 hk).2
  have e2 := (List.getElem?_eq_some_iff.1 hi).2
  rw [e1, e2] at h
  omega

open Go.RowKit

set_option maxRecDepth 100000 in
set_option maxHeartbeats 4000000 in
theorem min_err (S : List (Int × Int)) (T : List Tk) (x : Int) (v1 v2 : Value) (W : World) (hb : BookIn W v1 v2 S T) (hx : bookErr S T = x) (h0 : x ≠ 0) :
    Calls Try.prog 31 #[.agg #[v1, v2]] W (Ret (.tuple #[.slice none 0 0, .int .i64 x]) W) := by
  obtain ⟨p1, c1, rfl, hm1⟩ := hb.stock.shape
  obtain ⟨p2, c2, rfl, hm2⟩ := hb.tickets.shape
  obtain ⟨w1, hw1⟩ : ∃ w1, w1 = W.alloc (.cells #[.slice p1 S.length c1, .slice p2 T.length c2] 25) := ⟨_, rfl⟩
  have hb1 : Below W.heap.size W w1 := by rw [hw1]; exact below_new W _
  have hB1 : Blk w1 W.heap.size #[.slice p1 S.length c1, .slice p2 T.length c2] 25 := by rw [hw1]; exact Blk.new W _ _
  have HC := hid (book_any S T _ _ w1 (hb.later hb1))
  have q0 := hB1.cell (i := 0) rfl
  have q1 := hB1.cell (i := 1) rfl
  have HB1 := hid hb1
  have HW1 := hid hw1
  have hge : W.heap.size ≤ w1.heap.size := hb1.size
  rw [hx] at HC
  have hz : (x == 0) = false := by simpa using h0
  have hz2 : (x != 0) = true := by simpa using h0
  clear hb hw1 hb1 hB1 hm1 hm2 hx h0
  go_enter Try.func31, Try.ntmps31
  go_wp2_with (first | (rw [← HW1.out]) | (go_at_call 45; (with_reducible refine HC.out.mono ?_); rintro e w2 ⟨rfl, hb⟩; have HB4 := hid (HB1.out.trans (hb.mono hge)); clear hb))
  go_ret2
  exact ⟨rfl, HB4.out⟩
set_option maxRecDepth 100000 in
set_option maxHeartbeats 4000000 in
theorem min_none (S : List (Int × Int)) (T : List Tk) (N' : Net) (v1 v2 : Value) (W : World) (hb : BookIn W v1 v2 S T) (hx : bookErr S T = 0) (hs : settleF (newF S T []) = some (N', true)) :
    Calls Try.prog 31 #[.agg #[v1, v2]] W (Ret (.tuple #[.slice none 0 0, .int .i64 7]) W) := by
  obtain ⟨p1, c1, rfl, hm1⟩ := hb.stock.shape
  obtain ⟨p2, c2, rfl, hm2⟩ := hb.tickets.shape
  obtain ⟨w1, hw1⟩ : ∃ w1, w1 = W.alloc (.cells #[.slice p1 S.length c1, .slice p2 T.length c2] 25) := ⟨_, rfl⟩
  have hb1 : Below W.heap.size W w1 := by rw [hw1]; exact below_new W _
  have hB1 : Blk w1 W.heap.size #[.slice p1 S.length c1, .slice p2 T.length c2] 25 := by rw [hw1]; exact Blk.new W _ _
  have HC := hid (book_any S T _ _ w1 (hb.later hb1))
  have HA := hid (fun w (h : BookIn w (.slice p1 S.length c1) (.slice p2 T.length c2) S T) => isCons_any S T N' true _ _ w h (book_ok hx).1 hs)
  have HBK := hid (hb.later hb1)
  have q0 := hB1.cell (i := 0) rfl
  have q1 := hB1.cell (i := 1) rfl
  have HB1 := hid hb1
  have HBL := hid hB1
  have HW1 := hid hw1
  have hge : W.heap.size ≤ w1.heap.size := hb1.size
  rw [hx] at HC
  clear hb hw1 hb1 hB1 hm1 hm2 hx hs
  go_enter Try.func31, Try.ntmps31
  go_wp2_with (first | (rw [← HW1.out]) | (go_at_call 45; (with_reducible refine HC.out.mono ?_); rintro e w2 ⟨rfl, hb⟩; have HB2 := hid hb; have HBL2 := HBL.out.later hb HBL.out.lt; have d0 := HBL2.cell (i := 0) rfl; have d1 := HBL2.cell (i := 1) rfl; clear hb HBL2) | (go_at_call 46; (with_reducible refine (HA.out _ (HBK.out.later HB2.out)).mono ?_); rintro e w3 ⟨rfl, hb⟩; have HB4 := hid (HB1.out.trans ((HB2.out.trans (hb.mono HB2.out.size)).mono hge)); clear hb))
  go_ret2
  exact ⟨rfl, HB4.out⟩
/-- What Minimal answers of a book without an error. -/
theorem min_cases {S : List (Int × Int)} {T : List Tk} (hx : bookErr S T = 0) :
    (Cons S T ∧ ∀ v1 v2 W, BookIn W v1 v2 S T → Calls Try.prog 31 #[.agg #[v1, v2]] W (Ret (.tuple #[.slice none 0 0, .int .i64 7]) W)) ∨
    (¬ Cons S T ∧ ∃ L : List Nat, numsErr (intL L) T.length = 0 ∧ ¬ Cons S (restr T (intL L) T.length) ∧ (∀ j ∈ L, Cons S (withoutF (restr T (intL L) T.length) j)) ∧ ∀ v1 v2 W, BookIn W v1 v2 S T → Calls Try.prog 31 #[.agg #[v1, v2]] W (MinPost W L)) := by
  obtain ⟨N', r, h1, h2, _⟩ := book_settle (book_good hx) []
  cases r
  · right
    have hn : ¬ Cons S T := fun hc => by have := h2.2 hc; cases this
    obtain ⟨T', L, k1, rfl, k3, k4, k5⟩ := min_what hx hn T.length (Nat.le_refl _)
    exact ⟨hn, L, sorted_nums k5 fun j hj => (k4 j hj).1, k3, fun j hj => (k4 j hj).2, fun v1 v2 W h => minimal_yes S T N' _ L v1 v2 W h hx h1 k1⟩
  · exact .inl ⟨h2.1 rfl, fun v1 v2 W h => min_none S T N' v1 v2 W h hx h1⟩

set_option maxRecDepth 100000 in
set_option maxHeartbeats 4000000 in
theorem ckmin_err1 (S : List (Int × Int)) (T : List Tk) (x : Int) (v1 v2 v3 : Value) (W : World) (hb : BookIn W v1 v2 S T) (hx : bookErr S T = x) (h0 : x ≠ 0) :
    Calls Try.prog 32 #[.agg #[v1, v2], v3] W (Ret (.int .i64 x) W) := by
  obtain ⟨p1, c1, rfl, hm1⟩ := hb.stock.shape
  obtain ⟨p2, c2, rfl, hm2⟩ := hb.tickets.shape
  obtain ⟨w1, hw1⟩ : ∃ w1, w1 = W.alloc (.cells #[.slice p1 S.length c1, .slice p2 T.length c2] 25) := ⟨_, rfl⟩
  have hb1 : Below W.heap.size W w1 := by rw [hw1]; exact below_new W _
  have hB1 : Blk w1 W.heap.size #[.slice p1 S.length c1, .slice p2 T.length c2] 25 := by rw [hw1]; exact Blk.new W _ _
  have HC := hid (book_any S T _ _ w1 (hb.later hb1))
  have q0 := hB1.cell (i := 0) rfl
  have q1 := hB1.cell (i := 1) rfl
  have HB1 := hid hb1
  have HW1 := hid hw1
  have hge : W.heap.size ≤ w1.heap.size := hb1.size
  rw [hx] at HC
  have hz : (x == 0) = false := by simpa using h0
  have hz2 : (x != 0) = true := by simpa using h0
  clear hb hw1 hb1 hB1 hm1 hm2 hx h0
  go_enter Try.func32, Try.ntmps32
  go_wp2_with (first | (rw [← HW1.out]) | (go_at_call 45; (with_reducible refine HC.out.mono ?_); rintro e w2 ⟨rfl, hb⟩; have HB4 := hid (HB1.out.trans (hb.mono hge)); clear hb))
  go_ret
  exact ⟨rfl, HB4.out⟩
set_option maxRecDepth 100000 in
set_option maxHeartbeats 4000000 in
theorem ckmin_err2 (S : List (Int × Int)) (T : List Tk) (P : List Int) (y : Int) (v1 v2 v3 : Value) (W : World) (hb : BookIn W v1 v2 S T) (hj : SlcIn W v3 P.length (P.map (Value.int .i64))) (hx : bookErr S T = 0) (hy : numsErr P T.length = y) (h0 : y ≠ 0) :
    Calls Try.prog 32 #[.agg #[v1, v2], v3] W (Ret (.int .i64 y) W) := by
  obtain ⟨p1, c1, rfl, hm1⟩ := hb.stock.shape
  obtain ⟨p2, c2, rfl, hm2⟩ := hb.tickets.shape
  obtain ⟨nt, hnt⟩ : ∃ nt, nt = T.length := ⟨_, rfl⟩
  obtain ⟨w1, hw1⟩ : ∃ w1, w1 = W.alloc (.cells #[.slice p1 S.length c1, .slice p2 nt c2] 25) := ⟨_, rfl⟩
  have hb1 : Below W.heap.size W w1 := by rw [hw1]; exact below_new W _
  have hB1 : Blk w1 W.heap.size #[.slice p1 S.length c1, .slice p2 nt c2] 25 := by rw [hw1]; exact Blk.new W _ _
  have HC := hid (book_any S T _ _ w1 (hb.later hb1))
  have HN := hid (fun w h => nums_any P (T.length : Int) v3 w h)
  have HJ := hid (hj.later hb1)
  rw [hx] at HC
  rw [hy] at HN
  rw [← hnt] at HC HN ⊢
  have q0 := hB1.cell (i := 0) rfl
  have q1 := hB1.cell (i := 1) rfl
  have HB1 := hid hb1
  have HBL := hid hB1
  have HW1 := hid hw1
  have hge : W.heap.size ≤ w1.heap.size := hb1.size
  have hz : (y == 0) = false := by simpa using h0
  have hz2 : (y != 0) = true := by simpa using h0
  clear hb hj hw1 hb1 hB1 hm1 hm2 hx hy h0 hnt
  go_enter Try.func32, Try.ntmps32
  go_wp2_with (first | (rw [← HW1.out]) | (go_at_call 45; (with_reducible refine HC.out.mono ?_); rintro e w2 ⟨rfl, hb⟩; have HB2 := hid hb; have HBL2 := HBL.out.later hb HBL.out.lt; have d0 := HBL2.cell (i := 0) rfl; have d1 := HBL2.cell (i := 1) rfl; have HB4 := hid (HB1.out.trans (hb.mono hge)); clear hb HBL2) | (go_at_call 54; (with_reducible refine (HN.out _ (HJ.out.later HB2.out)).mono ?_); rintro e w3 ⟨rfl, rfl⟩))
  go_ret
  exact ⟨rfl, HB4.out⟩

/-- The book box behind some tickets. -/
structure LeftAt (W : World) (v1 : Value) (n : Nat) (T : List Tk) (wr : World) : Prop where
  at_ : ∃ p c, Blk wr W.heap.size #[v1, .slice p n c] 25 ∧ SlcIn wr (.slice p n c) n (T.flatMap tkC)
  old : Below W.heap.size W wr

set_option maxRecDepth 100000 in
set_option maxHeartbeats 16000000 in
theorem ckmin_any (S : List (Int × Int)) (T : List Tk) (P : List Int) (c : Bool) (f : Nat → Bool) (v1 v2 v3 : Value) (W : World) (hb : BookIn W v1 v2 S T) (hj : SlcIn W v3 P.length (P.map (Value.int .i64))) (hx : bookErr S T = 0) (hy : numsErr P T.length = 0)
    (hc : ∃ N, settleF (newF S (restr T P T.length) []) = some (N, c)) (hf : ∀ j, j < T.length → ∃ N, settleF (newF S (withoutF (restr T P T.length) j) []) = some (N, f j)) :
    Calls Try.prog 32 #[.agg #[v1, v2], v3] W (Ret (.int .i64 (if c = true then 18 else if P.all (fun x => f x.toNat) = true then 0 else 18)) W) := by
  obtain ⟨p1, c1, rfl, hm1⟩ := hb.stock.shape
  obtain ⟨p2, c2, rfl, hm2⟩ := hb.tickets.shape
  obtain ⟨p3, c3, rfl, hm3⟩ := hj.shape
  obtain ⟨nt, hnt⟩ : ∃ nt, nt = T.length := ⟨_, rfl⟩
  obtain ⟨np, hnp⟩ : ∃ np, np = P.length := ⟨_, rfl⟩
  have hm3' : np ≤ 9223372036854775807 := by rw [hnp]; unfold maxLen at hm3; omega
  obtain ⟨w1, hw1⟩ : ∃ w1, w1 = W.alloc (.cells #[.slice p1 S.length c1, .slice p2 nt c2] 25) := ⟨_, rfl⟩
  have hb1 : Below W.heap.size W w1 := by rw [hw1]; exact below_new W _
  have hB1 : Blk w1 W.heap.size #[.slice p1 S.length c1, .slice p2 nt c2] 25 := by rw [hw1]; exact Blk.new W _ _
  have HC := hid (book_any S T _ _ w1 (hb.later hb1))
  have HN := hid (fun w h => nums_any P (T.length : Int) (.slice p3 P.length c3) w h)
  have HCO := hid (fun w h x => has_int (w := w) (v := .slice p3 P.length c3) (l := P) h x)
  have HJ := hid (hj.later hb1)
  have HJ0 := hid hj
  have HST := hid hb.stock
  have HBK := hid (hb.later hb1)
  rw [hx] at HC
  rw [hy] at HN
  have HX := hid hx
  have HIN := hid (nums_in hy)
  have HNP := hid hnp
  have HNT := hid hnt
  have HSC := hid hc
  have HSF := hid hf
  rw [← hnt] at HC HN HBK ⊢
  rw [← hnp] at HN HJ HJ0 HCO ⊢
  have q0 := hB1.cell (i := 0) rfl
  have q1 := hB1.cell (i := 1) rfl
  have HB1 := hid hb1
  have HBL := hid hB1
  have HW1 := hid hw1
  have hge : W.heap.size + 1 ≤ w1.heap.size := hB1.lt
  have hle : nt ≤ 128 := by rw [hnt]; exact (book_ok hx).1.few
  obtain ⟨res, hres⟩ : ∃ res : Int, res = if c = true then 18 else if P.all (fun x => f x.toNat) = true then 0 else 18 := ⟨_, rfl⟩
  have HRES := hid hres
  rw [← hres]
  clear hb hj hw1 hb1 hB1 hm1 hm2 hm3 hx hy hnt hnp hc hf hres
  go_enter Try.func32, Try.ntmps32
  go_wp2_with (first | (rw [← HW1.out]) | (go_at_call 45; (with_reducible refine HC.out.mono ?_); rintro e w2 ⟨rfl, hb⟩; have HB2 := hid hb; have HBL2 := hid (HBL.out.later hb HBL.out.lt); have d0 := HBL2.out.cell (i := 0) rfl; have d1 := HBL2.out.cell (i := 1) rfl; have HB4 := hid (HB1.out.trans (hb.mono (by omega))); have HJ2 := hid (HJ.out.later hb); have HS2 := hid (HBK.out.tickets.later hb); clear hb) | (go_at_call 54; (with_reducible refine (HN.out _ (by have h := HJ2.out; exact h)).mono ?_); rintro e w3 ⟨rfl, rfl⟩))
  go_loopw [26] (fun u wr => ∃ k : Nat, k ≤ nt ∧ u = .int .i64 k ∧ Hid (LeftAt W (.slice p1 S.length c1) nt (restr T P k) wr)) (fun u _ => nt - (intOf u).toNat)
  case atStart => exact ⟨0, Nat.zero_le _, rfl, hid ⟨⟨p2, c2, HBL2.out, by have h := HS2.out; rw [← HNT.out] at h; exact h⟩, HB4.out⟩⟩
  case round =>
    clear d0 d1
    obtain ⟨k, hk, rfl, HR⟩ := hrel
    obtain ⟨pk, ck, hblk, hslk⟩ := HR.out.at_
    have hold := HR.out.old
    have hlk : (restr T P k).length = nt := by rw [restr_len, HNT.out]
    have hsz : W.heap.size < wr.heap.size := hblk.lt
    by_cases hlt : k < nt
    · have HCK := hid (HCO.out wr (HJ0.out.later hold) (k : Int))
      have HNX : Hid (restr T P (k + 1) = if P.contains (k : Int) = true then restr T P k else withoutF (restr T P k) k) := hid rfl
      generalize P.contains (k : Int) = ctn at HCK HNX
      cases ctn
      · have HNY : Hid (restr T P (k + 1) = withoutF (restr T P k) k) := hid (HNX.out.trans (if_neg (by simp)))
        have HWO := hid (without_any (restr T P k) k (.slice p1 S.length c1) (.slice pk (restr T P k).length ck) wr (by rw [hlk]; exact hslk) (by rw [hlk]; exact hlt) (by rw [hlk]; omega) rfl ⟨_, _, _, rfl⟩)
        rw [hlk] at HWO
        have HBLK := hid hblk
        have HOLD := hid hold
        have b0 := hblk.cell (i := 0) rfl
        have b1 := hblk.cell (i := 1) rfl
        clear hblk hslk hlk hold HNX
        go_wp2_with (first | (go_at_call 64; (with_reducible refine HCK.out.mono ?_); rintro e w3 ⟨rfl, rfl⟩) | (go_at_call 63; (with_reducible refine HWO.out.mono ?_); rintro e w4 ⟨v4, rfl, ho4, hb4⟩; obtain ⟨p4, c4, rfl⟩ := row_slice ho4; have HO4 := hid ho4; have HBX := hid (HBLK.out.later hb4 HBLK.out.lt); have HB9 := hid (HOLD.out.trans (hb4.mono (by omega))); have y0 := HBX.out.cell (i := 0) rfl; have y1 := HBX.out.cell (i := 1) rfl; have z0 := HBX.out.froz 0; have z1 := HBX.out.froz 1; clear ho4 hb4))
        have HEND : Hid (LeftAt W (.slice p1 S.length c1) nt (restr T P (k + 1)) ((w4.setCell ⟨W.heap.size, 0, none⟩ (.slice p1 S.length c1)).setCell ⟨W.heap.size, 1, none⟩ (.slice p4 nt c4))) := hid ⟨⟨p4, c4, (HBX.out.set 0 _).set 1 _, by
          rw [HNY.out]
          exact SlcIn.own (own_set (own_set HO4.out (a := W.heap.size) (j := 0) (u := .slice p1 S.length c1) (fun q hq => by have := (World.ownsRow.lt HO4.out q hq).1; omega)) (a := W.heap.size) (j := 1) (u := .slice p4 nt c4) (fun q hq => by have := (World.ownsRow.lt HO4.out q hq).1; omega))⟩, (HB9.out.setCell (p := ⟨W.heap.size, 0, none⟩) (Nat.le_refl _) _).setCell (p := ⟨W.heap.size, 1, none⟩) (Nat.le_refl _) _⟩
        go_roundw
        case rel => exact ⟨k + 1, by omega, by go_num, HEND⟩
        case measure => simp [intOf]; omega
      · have HEND : Hid (LeftAt W (.slice p1 S.length c1) nt (restr T P (k + 1)) wr) := hid (by rw [HNX.out, if_pos rfl]; exact HR.out)
        clear hblk hslk hlk hold HNX
        go_wp2_with (go_at_call 64; (with_reducible refine HCK.out.mono ?_); rintro e w3 ⟨rfl, rfl⟩)
        go_roundw
        case rel => exact ⟨k + 1, by omega, by go_num, HEND⟩
        case measure => simp [intOf]; omega
    · have hkn : nt = k := by omega
      subst hkn
      obtain ⟨T2, hT2⟩ : ∃ T2, T2 = restr T P nt := ⟨_, rfl⟩
      have hx2 : bookErr S T2 = 0 := by rw [hT2]; exact restr_err P HX.out nt (by rw [HNT.out]; exact Nat.le_refl _)
      obtain ⟨N9, hs9⟩ := HSC.out
      have hsf := HSF.out
      rw [← HNT.out, ← hT2] at hs9 hsf
      rw [← hT2] at hslk hlk
      have HA := hid (fun w v (h : BookIn w (.slice p1 S.length c1) v S T2) => isCons_any S T2 N9 c _ _ w h (book_ok hx2).1 hs9)
      have HSF2 := hid hsf
      have HX2 := hid hx2
      have HBLK := hid hblk
      have HSLK := hid hslk
      have HLK := hid hlk
      have HOLD := hid hold
      have b0 := hblk.cell (i := 0) rfl
      have b1 := hblk.cell (i := 1) rfl
      clear hblk hslk hlk hold hs9 hsf hx2 hT2
      cases c
      rotate_left 1
      · have hr18 : res = 18 := HRES.out.trans (if_pos rfl)
        subst hr18
        go_wp2_with (go_at_call 46; (with_reducible refine (HA.out _ _ ⟨HST.out.later HOLD.out, by have h := HSLK.out; rw [HLK.out]; exact h⟩).mono ?_); rintro e w4 ⟨rfl, hb⟩; have HB9 := hid (HOLD.out.trans (hb.mono (by omega))); clear hb)
        go_ret
        exact ⟨rfl, HB9.out⟩
      · have HRE : Hid (res = if P.all (fun x => f x.toNat) = true then 0 else 18) := hid (HRES.out.trans (if_neg (by simp)))
        go_wp2_with (go_at_call 46; (with_reducible refine (HA.out _ _ ⟨HST.out.later HOLD.out, by have h := HSLK.out; rw [HLK.out]; exact h⟩).mono ?_); rintro e w4 ⟨rfl, hb⟩; have HB9 := hid (HOLD.out.trans (hb.mono (by omega))); have HBX := hid (HBLK.out.later hb HBLK.out.lt); have HSX := hid (HSLK.out.later hb); clear hb)
        clear b0 b1
        go_loopw [41] (fun u wr => ∃ k : Nat, k ≤ np ∧ u = .int .i64 k ∧ Hid (∀ (j : Nat) (x : Int), j < k → P[j]? = some x → f x.toNat = true) ∧ Hid (Below w4.heap.size w4 wr)) (fun u _ => np - (intOf u).toNat)
        case atStart => exact ⟨0, Nat.zero_le _, rfl, hid (fun j x hj _ => absurd hj (Nat.not_lt_zero _)), hid (Below.refl _ _)⟩
        case round =>
          obtain ⟨k, hk2, rfl, HZ, HBR⟩ := hrel
          by_cases hlt2 : k < np
          · obtain ⟨x, hx⟩ : ∃ x, P[k]? = some x := ⟨_, List.getElem?_eq_getElem (by rw [← HNP.out]; exact hlt2)⟩
            have hxin := HIN.out x (List.mem_of_getElem? hx)
            rw [← HNT.out] at hxin
            obtain ⟨n9, rfl⟩ : ∃ n9 : Nat, x = (n9 : Int) := ⟨x.toNat, by omega⟩
            have hn9 : n9 < nt := by omega
            obtain ⟨N8, hs8⟩ := HSF2.out n9 hn9
            obtain ⟨g, o, c', hv, j0, _⟩ := int_at (by have h := (HJ0.out.later HB9.out).later HBR.out; rw [HNP.out] at h; exact h) hx
            injection hv with e1 e2 e3
            subst e1
            have HBr := HBX.out.later HBR.out (by have := HBX.out.lt; omega)
            have HSr := HSX.out.later HBR.out
            have HWO := hid (without_any T2 n9 (.slice p1 S.length c1) (.slice pk T2.length ck) wr (by rw [HLK.out]; exact HSr) (by rw [HLK.out]; exact hn9) (by rw [HLK.out]; omega) rfl ⟨_, _, _, rfl⟩)
            rw [HLK.out] at HWO
            have HIC := hid (fun w v (h : BookIn w (.slice p1 S.length c1) v S (withoutF T2 n9)) => isCons_any S (withoutF T2 n9) N8 (f n9) _ _ w h (book_ok (without_err HX2.out (by rw [HLK.out]; exact hn9))).1 hs8)
            have HXP := hid hx
            have b0 := HBr.cell (i := 0) rfl
            have b1 := HBr.cell (i := 1) rfl
            obtain ⟨fv, hfv⟩ : ∃ fv, fv = f n9 := ⟨_, rfl⟩
            have HFV := hid hfv
            rw [← hfv] at HIC
            have HWr := hid (HB9.out.trans (HBR.out.mono HB9.out.size))
            have hw4s := HB9.out.size
            clear hx hxin hs8 e2 e3 HBr HSr hfv
            cases fv
            · have hr18 : res = 18 := by
                rw [HRE.out, if_neg]
                rw [List.all_eq_true]
                intro h
                have := h _ (List.mem_of_getElem? HXP.out)
                rw [show ((n9 : Int)).toNat = n9 from rfl, ← HFV.out] at this
                cases this
              subst hr18
              go_wp2_with (first | (go_at_call 63; (with_reducible refine HWO.out.mono ?_); rintro e w5 ⟨v5, rfl, ho5, hb5⟩; have HO5 := hid ho5; have HB5 := hid (HWr.out.trans (hb5.mono HWr.out.size)); have HST5 := hid (HST.out.later HB5.out); clear ho5 hb5) | (go_at_call 46; (with_reducible refine (HIC.out _ _ ⟨HST5.out, by have h := SlcIn.own HO5.out; rw [without_len, HLK.out]; exact h⟩).mono ?_); rintro e w6 ⟨rfl, hb6⟩; have HB6 := hid (HB5.out.trans (hb6.mono HB5.out.size)); clear hb6))
              go_ret
              exact ⟨rfl, HB6.out⟩
            · have HZ2 : Hid (∀ (j : Nat) (x : Int), j < k + 1 → P[j]? = some x → f x.toNat = true) := hid (fun j y hj hy => by
                by_cases e : j = k
                · subst e; rw [HXP.out] at hy; cases hy; exact HFV.out.symm
                · exact HZ.out j y (by omega) hy)
              have HBRs := hid HBR.out.size
              go_wp2_with (first | (go_at_call 63; (with_reducible refine HWO.out.mono ?_); rintro e w5 ⟨v5, rfl, ho5, hb5⟩; have HO5 := hid ho5; have HB5 := hid (HWr.out.trans (hb5.mono HWr.out.size)); have HQ5 := hid (HBR.out.trans (hb5.mono HBR.out.size)); have HST5 := hid (HST.out.later HB5.out); clear ho5 hb5) | (go_at_call 46; (with_reducible refine (HIC.out _ _ ⟨HST5.out, by have h := SlcIn.own HO5.out; rw [without_len, HLK.out]; exact h⟩).mono ?_); rintro e w6 ⟨rfl, hb6⟩; have HB6 := hid (HQ5.out.trans (hb6.mono HQ5.out.size)); clear hb6))
              go_roundw
              case rel => exact ⟨k + 1, by omega, by go_num, HZ2, HB6⟩
              case measure => simp [intOf]; omega
          · have hkn : np = k := by omega
            subst hkn
            have hr0 : res = 0 := by
              rw [HRE.out, if_pos]
              rw [List.all_eq_true]
              intro x hx
              obtain ⟨j, hj⟩ := List.mem_iff_getElem?.1 hx
              exact HZ.out j x (by have := (List.getElem?_eq_some_iff.1 hj).1; have := HNP.out; omega) hj
            subst hr0
            go_wp2_with fail
            go_ret
            exact ⟨rfl, HB9.out.trans (HBR.out.mono HB9.out.size)⟩
end Go.Proofs.Ytncnpodanlhdkaa
