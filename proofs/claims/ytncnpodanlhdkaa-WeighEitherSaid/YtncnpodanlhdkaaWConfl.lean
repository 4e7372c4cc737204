/-
  Conflict: places that show that a book has no assignment.
-/
import Derived.Test.YtncnpodanlhdkaaWSetM
import Derived.Test.YtncnpodanlhdkaaWMinimal
namespace Go.Proofs.Ytncnpodanlhdkaa
set_option linter.all false
open Go.RowKit

/-- What an arc brings into a set of nodes across its border, where it is full out of the set and empty into it. -/
def cval (K : Nat → Bool) (x : Arc) : Int := if (K x.dst && !K x.src) = true then x.low else if (K x.src && !K x.dst) = true then -x.high else 0
def csum (K : Nat → Bool) : List Arc → Int
  | [] => 0
  | x :: L => cval K x + csum K L
theorem csum_app (K : Nat → Bool) : ∀ (L M : List Arc), csum K (L ++ M) = csum K L + csum K M
  | [], M => by show csum K M = 0 + csum K M; omega
  | x :: L, M => by show cval K x + csum K (L ++ M) = cval K x + csum K L + csum K M; rw [csum_app K L M]; omega
theorem cut_csum (K : Nat → Bool) : ∀ (L : List Arc), (∀ x ∈ L, (K x.src = true → K x.dst = false → x.mass = x.high) ∧ (K x.dst = true → K x.src = false → x.mass = x.low)) → flow K (geo L) (mss L) = csum K L
  | [], _ => rfl
  | x :: L, h => by
    have ih := cut_csum K L fun y hy => h y (List.mem_cons_of_mem _ hy)
    obtain ⟨h1, h2⟩ := h x (List.mem_cons_self ..)
    show ind (K x.dst) x.mass - ind (K x.src) x.mass + flow K (geo L) (mss L) = cval K x + csum K L
    unfold cval
    cases hs : K x.src <;> cases hd : K x.dst
    · simp [ind, ih]
    · have := h2 hd hs
      simp [ind, ih]
      omega
    · have := h1 hs hd
      simp [ind, ih]
      omega
    · simp [ind, ih]
theorem csum_like (K : Nat → Bool) : ∀ (L L' : List Arc), geo L' = geo L → rgs L' = rgs L → csum K L' = csum K L
  | [], [], _, _ => rfl
  | [], _ :: _, h, _ => by unfold geo at h; simp at h
  | _ :: _, [], h, _ => by unfold geo at h; simp at h
  | x :: L, y :: L', h, k => by
    unfold geo at h
    unfold rgs at k
    rw [List.map_cons, List.map_cons] at h k
    injection h with h1 h2
    injection k with k1 k2
    have ih := csum_like K L L' h2 k2
    injection h1 with a1 a2
    injection k1 with a3 a4
    show cval K y + csum K L' = cval K x + csum K L
    rw [ih]
    unfold cval
    rw [a1, a2, a3, a4]
theorem csum_take (K : Nat → Bool) (L : List Arc) : ∀ k, k ≤ L.length → csum K (L.take k) = sumN k (fun j => cval K (L.getD j noArc))
  | 0, _ => rfl
  | k + 1, hk => by
    have hx := List.getElem?_eq_getElem (l := L) (i := k) (by omega)
    rw [List.take_add_one, hx, csum_app, csum_take K L k (by omega)]
    show _ + (cval K L[k] + 0) = sumN k _ + cval K (L.getD k noArc)
    rw [show L.getD k noArc = L[k] by rw [List.getD_eq_getElem?_getD, hx]; rfl]
    omega
theorem csum_tks (K : Nat → Bool) (T : List Tk) : csum K (T.map tkArc) = sumN T.length (fun j => cval K (tkArc (T.getD j noTk))) := by
  have h := csum_take K (T.map tkArc) T.length (by rw [List.length_map]; exact Nat.le_refl _)
  rw [List.take_of_length_le (by rw [List.length_map]; exact Nat.le_refl _)] at h
  rw [h]
  refine sumN_eq fun j hj => ?_
  have ht := List.getElem?_eq_getElem (l := T) (i := j) hj
  rw [List.getD_eq_getElem?_getD, List.getElem?_map, ht, List.getD_eq_getElem?_getD, ht]
  rfl
theorem csum_sts (K : Nat → Bool) (S : List (Int × Int)) (J : List Int) (n : Nat) : csum K ((List.range n).map (stArc S J)) = sumN n (fun p => cval K (stArc S J p)) := by
  have h := csum_take K ((List.range n).map (stArc S J)) n (by rw [List.length_map, List.length_range]; exact Nat.le_refl _)
  rw [List.take_of_length_le (by rw [List.length_map, List.length_range]; exact Nat.le_refl _)] at h
  rw [h]
  refine sumN_eq fun j hj => ?_
  rw [List.getD_eq_getElem?_getD, List.getElem?_map, List.getElem?_range hj]
  rfl
/-- The places on the other side than the outside. -/
def sides (mk : List Bool) (n : Nat) : List Nat := (List.range n).filter fun p => mk.getD p false != mk.getD 32 false
def sideP (mk : List Bool) (n : Nat) : List Int := (sides mk n).map fun (p : Nat) => (p : Int)
theorem side_mem {mk : List Bool} {n : Nat} {x : Int} : x ∈ sideP mk n ↔ ∃ p : Nat, p < n ∧ x = p ∧ (mk.getD p false != mk.getD 32 false) = true := by
  unfold sideP sides
  rw [List.mem_map]
  constructor
  · rintro ⟨p, hp, rfl⟩
    obtain ⟨h1, h2⟩ := List.mem_filter.1 hp
    exact ⟨p, List.mem_range.1 h1, rfl, h2⟩
  · rintro ⟨p, h1, rfl, h2⟩
    exact ⟨p, List.mem_filter.2 ⟨List.mem_range.2 h1, h2⟩, rfl⟩
theorem side_sorted (mk : List Bool) (n : Nat) : (sideP mk n).Pairwise (· < ·) := by
  unfold sideP sides
  rw [List.pairwise_map]
  exact (List.Pairwise.filter _ List.pairwise_lt_range).imp fun h => by omega
theorem side_nums (mk : List Bool) (n : Nat) : numsErr (sideP mk n) n = 0 := by
  have hin : ∀ x ∈ sideP mk n, 0 ≤ x ∧ x < (n : Int) := fun x hx => by
    obtain ⟨p, hp, rfl, _⟩ := side_mem.1 hx
    omega
  unfold numsErr
  rw [if_neg, if_neg]
  · rw [List.any_eq_true]
    rintro ⟨i, hi, hd⟩
    have hil := List.mem_range.1 hi
    have hx := List.getElem?_eq_getElem (l := sideP mk n) (i := i) hil
    unfold dupAt at hd
    rw [List.getD_eq_getElem?_getD, hx, Option.getD_some] at hd
    simp only [List.contains_iff_mem] at hd
    obtain ⟨k, hk⟩ := List.mem_iff_getElem?.1 hd
    have hki : k < i := by
      have := (List.getElem?_eq_some_iff.1 hk).1
      rw [List.length_take] at this
      omega
    rw [List.getElem?_take_of_lt hki] at hk
    have h := List.pairwise_iff_getElem.1 (side_sorted mk n) k i (by omega) hil hki
    have h2 := (List.getElem?_eq_some_iff.1 hk).2
    rw [h2] at h
    omega
  · rw [List.any_eq_true]
    rintro ⟨x, hx, hb⟩
    have := hin x hx
    unfold badN at hb
    simp at hb
    omega
theorem stockSum_sumP (S : List (Int × Int)) (P : List Int) : ∀ k, stockSum S P k = (sumP (fun p => (S.getD p (0, 0)).1) P k, sumP (fun p => (S.getD p (0, 0)).2) P k)
  | 0 => rfl
  | k + 1 => by
    show addR (stockSum S P k) _ = _
    rw [stockSum_sumP S P k]
    rfl
theorem inSum_sum (T : List Tk) (P : List Int) : ∀ k, inSum T P k = (sumN k (fun j => ind (P.contains (T.getD j noTk).dst && !P.contains (T.getD j noTk).src) (T.getD j noTk).low), sumN k (fun j => ind (P.contains (T.getD j noTk).dst && !P.contains (T.getD j noTk).src) (T.getD j noTk).high))
  | 0 => rfl
  | k + 1 => by
    have ih := inSum_sum T P k
    unfold inSum
    rw [ih]
    show _ = (sumN k _ + ind _ _, sumN k _ + ind _ _)
    unfold ind addR
    split
    · rfl
    · simp
theorem outSum_sum (T : List Tk) (P : List Int) : ∀ k, outSum T P k = (sumN k (fun j => ind (P.contains (T.getD j noTk).src && !P.contains (T.getD j noTk).dst) (T.getD j noTk).low), sumN k (fun j => ind (P.contains (T.getD j noTk).src && !P.contains (T.getD j noTk).dst) (T.getD j noTk).high))
  | 0 => rfl
  | k + 1 => by
    have ih := outSum_sum T P k
    unfold outSum
    rw [ih]
    show _ = (sumN k _ + ind _ _, sumN k _ + ind _ _)
    unfold ind addR
    split
    · rfl
    · simp
theorem sumN_sub (f g : Nat → Int) : ∀ n, sumN n (fun v => f v - g v) = sumN n f - sumN n g
  | 0 => rfl
  | n + 1 => by unfold sumN; rw [sumN_sub f g n]; dsimp only; omega
theorem sumN_neg (f : Nat → Int) : ∀ n, sumN n (fun v => -f v) = -sumN n f
  | 0 => rfl
  | n + 1 => by unfold sumN; rw [sumN_neg f n]; dsimp only; omega
theorem side_has {S : List (Int × Int)} {T : List Tk} (h : BookOk S T) (mk : List Bool) {p : Int} (h1 : -1 ≤ p) (h2 : p < S.length) : (sideP mk S.length).contains p = (mk.getD (node p) false != mk.getD 32 false) := by
  rw [Bool.eq_iff_iff, List.contains_iff_mem, side_mem]
  have := h.tks.places
  constructor
  · rintro ⟨q, hq, rfl, hm⟩
    have : node (q : Int) = q := by unfold node; rw [if_neg (by omega)]; omega
    rw [this]
    exact hm
  · intro hm
    by_cases e : p = -1
    · subst e
      rw [show node (-1) = 32 from rfl] at hm
      simp at hm
    · refine ⟨p.toNat, by omega, by omega, ?_⟩
      have : node p = p.toNat := by unfold node; rw [if_neg e]
      rw [this] at hm
      exact hm
/-- What is left over behind a settling shows that there are no assignments: the places on the other side than the outside. -/
theorem side_shows {S : List (Int × Int)} {T : List Tk} (h : BookOk S T) {N : Net} {l : List Int} {mk : List Bool} (hN : N.Ok) (ha : Alike (newF S T []) N) (hf : ∀ v : Nat, v < 34 → flow (one v) (geo N.arcs) (mss N.arcs) = l.getD v 0) (hc : Cut N l mk) (hl : nil l = false) : showF S T (sideP mk S.length) = true := by
  have hpos : 0 < flow (fun v => mk.getD v false) (geo N.arcs) (mss N.arcs) := by
    rcases Int.lt_or_le 0 (flow (fun v => mk.getD v false) (geo N.arcs) (mss N.arcs)) with c | c
    · exact c
    · rw [nil_iff.2 (cut_zero hN.nodes hf hc c)] at hl; cases hl
  rw [cut_csum _ _ hc.arcs, csum_like _ _ _ ha.geo ha.rgs, (new_arcs h []).1, csum_app, csum_app, csum_tks, csum_sts] at hpos
  obtain ⟨K, hK⟩ : ∃ K : Nat → Bool, K = fun v => mk.getD v false := ⟨_, rfl⟩
  rw [← hK] at hpos
  have hlast : csum K [⟨(sumJ S []).1, (sumJ S []).2, 33, 32, (sumJ S []).1⟩] = 0 := by
    have z1 : (sumJ S []).1 = 0 := sumN_zero fun p _ => rfl
    have z2 : (sumJ S []).2 = 0 := sumN_zero fun p _ => rfl
    show cval K _ + 0 = 0
    unfold cval
    dsimp only
    rw [z1, z2]
    split
    · rfl
    · split <;> rfl
  rw [hlast] at hpos
  have hnode : ∀ j, j < T.length → (sideP mk S.length).contains (T.getD j noTk).src = (K (node (T.getD j noTk).src) != K 32) ∧ (sideP mk S.length).contains (T.getD j noTk).dst = (K (node (T.getD j noTk).dst) != K 32) := fun j hj => by
    have ht := List.getElem?_eq_getElem (l := T) (i := j) hj
    have e : T.getD j noTk = T[j] := by rw [List.getD_eq_getElem?_getD, ht]; rfl
    obtain ⟨a1, a2, a3, a4⟩ := h.tks.tk j _ ht
    rw [e, hK]
    exact ⟨side_has h mk a1 a2, side_has h mk a3 a4⟩
  have hplace : ∀ p : Nat, p < S.length → (sideP mk S.length).contains (p : Int) = (K p != K 32) := fun p hp => by
    have := side_has h mk (p := (p : Int)) (by omega) (by omega)
    rw [this, hK]
    have : node (p : Int) = p := by unfold node; rw [if_neg (by omega)]; omega
    rw [this]
  unfold showF
  rw [stockSum_sumP, inSum_sum, outSum_sum, ← sumP_all _ (side_nums mk S.length), ← sumP_all _ (side_nums mk S.length)]
  dsimp only
  rw [Bool.or_eq_true, decide_eq_true_eq, decide_eq_true_eq]
  cases h32 : K 32
  · right
    have e1 : sumN T.length (fun j => cval K (tkArc (T.getD j noTk))) = sumN T.length (fun j => ind ((sideP mk S.length).contains (T.getD j noTk).dst && !(sideP mk S.length).contains (T.getD j noTk).src) (T.getD j noTk).low) - sumN T.length (fun j => ind ((sideP mk S.length).contains (T.getD j noTk).src && !(sideP mk S.length).contains (T.getD j noTk).dst) (T.getD j noTk).high) := by
      rw [← sumN_sub]
      refine sumN_eq fun j hj => ?_
      rw [(hnode j hj).1, (hnode j hj).2, h32]
      unfold cval tkArc ind
      dsimp only
      cases K (node (T.getD j noTk).src) <;> cases K (node (T.getD j noTk).dst) <;> simp
    have e2 : sumN S.length (fun p => cval K (stArc S [] p)) = -sumN S.length (fun p => ind ((sideP mk S.length).contains (p : Int)) (S.getD p (0, 0)).2) := by
      rw [← sumN_neg]
      refine sumN_eq fun p hp => ?_
      rw [hplace p hp, h32]
      have e : stTo [] p = 32 := rfl
      unfold cval stArc ind
      dsimp only
      rw [e, h32]
      cases K p <;> simp
    omega
  · left
    have e1 : sumN T.length (fun j => cval K (tkArc (T.getD j noTk))) = sumN T.length (fun j => ind ((sideP mk S.length).contains (T.getD j noTk).src && !(sideP mk S.length).contains (T.getD j noTk).dst) (T.getD j noTk).low) - sumN T.length (fun j => ind ((sideP mk S.length).contains (T.getD j noTk).dst && !(sideP mk S.length).contains (T.getD j noTk).src) (T.getD j noTk).high) := by
      rw [← sumN_sub]
      refine sumN_eq fun j hj => ?_
      rw [(hnode j hj).1, (hnode j hj).2, h32]
      unfold cval tkArc ind
      dsimp only
      cases K (node (T.getD j noTk).src) <;> cases K (node (T.getD j noTk).dst) <;> simp
    have e2 : sumN S.length (fun p => cval K (stArc S [] p)) = sumN S.length (fun p => ind ((sideP mk S.length).contains (p : Int)) (S.getD p (0, 0)).1) := by
      refine sumN_eq fun p hp => ?_
      rw [hplace p hp, h32]
      have e : stTo [] p = 32 := rfl
      unfold cval stArc ind
      dsimp only
      rw [e, h32]
      cases K p <;> simp
    omega

open Go.RowKit

theorem settle_mk {base a : Nat} {N N' : Net} {b l' : List Int} {mk : List Bool} {W : World} (h1 : balF N.arcs noB = some b) (h2 : evenF fuel N b = some (N', l', mk)) (h : NetGot base W a N) (hb : base ≤ W.heap.size) :
    Calls Try.prog 61 #[.pointer (some ⟨a, 0, none⟩)] W fun e W' => e = .returned (.tuple #[.bool (nil l'), .agg (bools mk)]) ∧ NetGot base W' a N' ∧ Below base W W' := by
  obtain ⟨g, c, vs, hn⟩ := h
  have hg : base ≤ g := (World.ownsRow.lt hn.arcs g rfl).1
  refine (settle_any base a g c fuel N N' vs b l' mk W hn h1 h2).mono fun e W' ⟨h3, h4, h5⟩ => ⟨h3, ?_, grown_low h5 hg hb⟩
  have := row_len h4.arcs
  rw [this] at h4
  exact ⟨g, c, vs, h4⟩
theorem sides_next (mk : List Bool) (k : Nat) : sides mk (k + 1) = sides mk k ++ if (mk.getD k false != mk.getD 32 false) = true then [k] else [] := by
  unfold sides
  rw [List.range_succ, List.filter_append, List.filter_cons, List.filter_nil]
theorem sides_len (mk : List Bool) (k : Nat) : (sides mk k).length ≤ k := by
  unfold sides
  exact Nat.le_trans (List.length_filter_le _ _) (by rw [List.length_range]; exact Nat.le_refl _)

set_option maxRecDepth 100000 in
set_option maxHeartbeats 4000000 in
theorem confl_err (S : List (Int × Int)) (T : List Tk) (x : Int) (v1 v2 : Value) (W : World) (hb : BookIn W v1 v2 S T) (hx : bookErr S T = x) (h0 : x ≠ 0) :
    Calls Try.prog 28 #[.agg #[v1, v2]] W (Ret (.tuple #[.slice none 0 0, .int .i64 x]) W) := by
  obtain ⟨p1, c1, rfl, hm1⟩ := hb.stock.shape
  obtain ⟨p2, c2, rfl, hm2⟩ := hb.tickets.shape
  obtain ⟨w1, hw1⟩ : ∃ w1, w1 = W.alloc (.cells #[.slice p1 S.length c1, .slice p2 T.length c2] 25) := ⟨_, rfl⟩
  have hb1 : Below W.heap.size W w1 := by rw [hw1]; exact below_new W _
  have hB1 : Blk w1 W.heap.size #[.slice p1 S.length c1, .slice p2 T.length c2] 25 := by rw [hw1]; exact Blk.new W _ _
  have HC := hid (book_any S T _ _ w1 (hb.later hb1))
  have q0 := hB1.cell (i := 0) rfl
  have q1 := hB1.cell (i := 1) rfl
  have HB1 := hid hb1
  have HW1 := hid hw1
  have hge : W.heap.size ≤ w1.heap.size := hb1.size
  rw [hx] at HC
  have hz : (x == 0) = false := by simpa using h0
  have hz2 : (x != 0) = true := by simpa using h0
  clear hb hw1 hb1 hB1 hm1 hm2 hx h0
  go_enter Try.func28, Try.ntmps28
  go_wp2_with (first | (rw [← HW1.out]) | (go_at_call 45; (with_reducible refine HC.out.mono ?_); rintro e w2 ⟨rfl, hb⟩; have HB4 := hid (HB1.out.trans (hb.mono hge)); clear hb))
  go_ret2
  exact ⟨rfl, HB4.out⟩

def ConfPost (W : World) (P : List Nat) (e : Ending) (W' : World) : Prop := ∃ v, e = .returned (.tuple #[v, .int .i64 0]) ∧ W'.ownsRow W.heap.size 3 1 v P.length (natC P) ∧ Below W.heap.size W W'

set_option maxRecDepth 100000 in
set_option maxHeartbeats 8000000 in
theorem confl_none (S : List (Int × Int)) (T : List Tk) (b l' : List Int) (mk : List Bool) (N' : Net) (v1 v2 : Value) (W : World) (hb : BookIn W v1 v2 S T) (hx : bookErr S T = 0) (h1 : balF (newF S T []).arcs noB = some b) (h2 : evenF fuel (newF S T []) b = some (N', l', mk)) (hl : nil l' = true) :
    Calls Try.prog 28 #[.agg #[v1, v2]] W (Ret (.tuple #[.slice none 0 0, .int .i64 7]) W) := by
  have hz := (zero_of_info zero_marks).1
  obtain ⟨p2, c2, rfl, hm2⟩ := hb.tickets.shape
  obtain ⟨p1, c1, rfl, hm1⟩ := hb.stock.shape
  obtain ⟨w1, hw1⟩ : ∃ w1, w1 = W.alloc (.cells #[.slice p1 S.length c1, .slice p2 T.length c2] 25) := ⟨_, rfl⟩
  have hb1 : Below W.heap.size W w1 := by rw [hw1]; exact below_new W _
  have hB1 : Blk w1 W.heap.size #[.slice p1 S.length c1, .slice p2 T.length c2] 25 := by rw [hw1]; exact Blk.new W _ _
  have HCB := hid (book_any S T _ _ w1 (hb.later hb1))
  rw [hx] at HCB
  have HC := hid (fun w (h : BookIn w (.slice p1 S.length c1) (.slice p2 T.length c2) S T) => new_any S T [] _ _ (.slice none 0 0) w h (nil_slc w _) (book_ok hx).1)
  have HF := hid (newF_few S T [])
  have HBK := hid (hb.later hb1)
  have q0 := hB1.cell (i := 0) rfl
  have q1 := hB1.cell (i := 1) rfl
  have HW1 := hid hw1
  have HB1 := hid hb1
  have HBL := hid hB1
  have H1 := hid h1
  have H2 := hid h2
  have HMK := hid (even_len h2).2
  have hge : W.heap.size ≤ w1.heap.size := hb1.size
  have HL := hid hl
  clear hb hw1 hb1 hB1 hx h1 h2 hl
  go_enter Try.func28, Try.ntmps28
  go_wp2_with (first | (rw [← HW1.out]) | (go_at_call 45; (with_reducible refine HCB.out.mono ?_); rintro e w2 ⟨rfl, hb⟩; have HB2 := hid hb; have HBL2 := HBL.out.later hb HBL.out.lt; have d0 := HBL2.cell (i := 0) rfl; have d1 := HBL2.cell (i := 1) rfl; have HCN := hid (HC.out _ (HBK.out.later hb)); clear hb HBL2) | (go_at_call 60; (with_reducible refine HCN.out.mono ?_); rintro e w3 ⟨a, va, vs, rfl, hn, hb2⟩; have HN := hid (got_of hn (by rw [HF.out.arcs]; omega)); have HB3 := hid (HB2.out.trans (hb2.mono HB2.out.size)); have HC2 := hid (settle_mk H1.out H2.out HN.out hb2.size); rw [HL.out] at HC2; have HS23 := hid hb2.size; clear hn hb2) | (go_at_call 61; (with_reducible refine HC2.out.mono ?_); rintro e w4 ⟨rfl, hn3, hb3⟩; have HB4 := hid (HB1.out.trans ((HB3.out.trans (hb3.mono HB2.out.size)).mono hge)); have R1 := hid (put_marks_new (t := 85) w4 noM_len HMK.out rfl); have HB5 : Hid (Below W.heap.size W ((w4.alloc (.cells (bools mk) 85)))) := hid (HB4.out.trans ((below_new w4 _).mono HB4.out.size)); clear hn3 hb3) | (with_reducible refine stP 85 _ _ rfl rfl (by with_unfolding_all rfl) (by with_unfolding_all rfl) R1.out ?_))
  go_ret2
  exact ⟨rfl, HB5.out⟩
set_option maxRecDepth 100000 in
set_option maxHeartbeats 8000000 in
theorem confl_some (S : List (Int × Int)) (T : List Tk) (b l' : List Int) (mk : List Bool) (N' : Net) (v1 v2 : Value) (W : World) (hb : BookIn W v1 v2 S T) (hx : bookErr S T = 0) (h1 : balF (newF S T []).arcs noB = some b) (h2 : evenF fuel (newF S T []) b = some (N', l', mk)) (hl : nil l' = false) :
    Calls Try.prog 28 #[.agg #[v1, v2]] W (ConfPost W (sides mk S.length)) := by
  have hz := (zero_of_info zero_marks).1
  obtain ⟨i0, g0, g1, g2, g3⟩ := info_parts info_int9
  have HI : Hid (Try.prog.info? 3 = some i0 ∧ i0.zero = some (.int .i64 0) ∧ i0.size = 1 ∧ i0.bytes = 8) := hid ⟨g0, g1, g2, g3⟩
  obtain ⟨p2, c2, rfl, hm2⟩ := hb.tickets.shape
  obtain ⟨p1, c1, rfl, hm1⟩ := hb.stock.shape
  obtain ⟨w1, hw1⟩ : ∃ w1, w1 = W.alloc (.cells #[.slice p1 S.length c1, .slice p2 T.length c2] 25) := ⟨_, rfl⟩
  have hb1 : Below W.heap.size W w1 := by rw [hw1]; exact below_new W _
  have hB1 : Blk w1 W.heap.size #[.slice p1 S.length c1, .slice p2 T.length c2] 25 := by rw [hw1]; exact Blk.new W _ _
  have HCB := hid (book_any S T _ _ w1 (hb.later hb1))
  rw [hx] at HCB
  have HC := hid (fun w (h : BookIn w (.slice p1 S.length c1) (.slice p2 T.length c2) S T) => new_any S T [] _ _ (.slice none 0 0) w h (nil_slc w _) (book_ok hx).1)
  have HF := hid (newF_few S T [])
  have HBK := hid (hb.later hb1)
  have q0 := hB1.cell (i := 0) rfl
  have q1 := hB1.cell (i := 1) rfl
  have HW1 := hid hw1
  have HB1 := hid hb1
  have HBL := hid hB1
  have H1 := hid h1
  have H2 := hid h2
  have HMK := hid (even_len h2).2
  have hge : W.heap.size < w1.heap.size := hB1.lt
  have HNS32 := hid (book_ok hx).1.places
  obtain ⟨ns, hns⟩ : ∃ n, n = S.length := ⟨_, rfl⟩
  have HNS := hid hns
  have HL := hid hl
  rw [← hns] at HCB HC HF HBK q0 q1 HBL HW1 HNS32
  rw [← hns]
  clear hb hw1 hb1 hB1 hx h1 h2 hl hns g0 g1 g2 g3 hm1
  go_enter Try.func28, Try.ntmps28
  go_wp2_with (first | (rw [← HW1.out]) | (go_at_call 45; (with_reducible refine HCB.out.mono ?_); rintro e w2 ⟨rfl, hb⟩; have HB2 := hid hb; have HBL2 := HBL.out.later hb HBL.out.lt; have d0 := HBL2.cell (i := 0) rfl; have d1 := HBL2.cell (i := 1) rfl; have HCN := hid (HC.out _ (HBK.out.later hb)); clear hb HBL2) | (go_at_call 60; (with_reducible refine HCN.out.mono ?_); rintro e w3 ⟨a, va, vs, rfl, hn, hb2⟩; have HN := hid (got_of hn (by rw [HF.out.arcs]; omega)); have HB3 := hid (HB2.out.trans (hb2.mono HB2.out.size)); have HC2 := hid (settle_mk H1.out H2.out HN.out hb2.size); rw [HL.out] at HC2; have HBL3 := hid ((HBL.out.later HB2.out HBL.out.lt).later hb2 (by have := HB2.out.size; have := HBL.out.lt; omega)); clear hn hb2) | (go_at_call 61; (with_reducible refine HC2.out.mono ?_); rintro e w4 ⟨rfl, hn3, hb3⟩; have HB4 := hid (HB1.out.trans ((HB3.out.trans (hb3.mono HB2.out.size)).mono (by omega))); have R1 := hid (put_marks_new (t := 85) w4 noM_len HMK.out rfl); have HBL5 := hid (((HBL3.out.later hb3 (by have := HB2.out.size; have := HBL.out.lt; omega)).alloc (.cells (bools mk) 85))); have HMB := hid (Blk.new w4 (bools mk) 85); have l0 := HBL5.out.cell (i := 0) rfl; have HB5 : Hid (Below W.heap.size W ((w4.alloc (.cells (bools mk) 85)))) := hid (HB4.out.trans ((below_new w4 _).mono HB4.out.size)); clear hn3 hb3) | (with_reducible refine stP 85 _ _ rfl rfl (by with_unfolding_all rfl) (by with_unfolding_all rfl) R1.out ?_))
  obtain ⟨w5, hw5⟩ : ∃ w5, w5 = w4.alloc (.cells (bools mk) 85) := ⟨_, rfl⟩
  rw [← hw5] at HBL5 HMB HB5
  rw [← hw5]
  obtain ⟨gm, hgm⟩ : ∃ gm, gm = w4.heap.size := ⟨_, rfl⟩
  rw [← hgm] at HMB
  rw [← hgm]
  have HGM : Hid (gm < w5.heap.size) := hid HMB.out.lt
  have hns32 := HNS32.out
  obtain ⟨bo, hbo⟩ : ∃ bo, bo = mk.getD 32 false := ⟨_, rfl⟩
  have HBO : Hid (mk[32]? = some bo) := hid (by rw [hbo, List.getD_eq_getElem?_getD, List.getElem?_eq_getElem (by rw [HMK.out]; omega)]; rfl)
  have HBOD := hid hbo
  clear hw5 hgm l0 hbo HCN HC2 HN HB2 HB3 HB4 R1 HBL3
  go_loopw [7, 24] (fun v u wr => ∃ k : Nat, k ≤ ns ∧ u = .int .i64 k ∧ Hid (wr.ownsRow w5.heap.size 3 1 v (sides mk k).length (natC (sides mk k)) ∧ Below w5.heap.size w5 wr)) (fun _ u _ => ns - (intOf u).toNat)
  case atStart => exact ⟨0, Nat.zero_le _, rfl, hid ⟨World.ownsRow_nil _ _ _ _, Below.refl _ _⟩⟩
  case round =>
    obtain ⟨k, hk, rfl, HR⟩ := hrel
    have HO := hid HR.out.1
    have HBR := hid HR.out.2
    have HBD : Hid (∀ q, Below w5.heap.size w5 (wr.drewN q)) := hid (fun q => ⟨HBR.out.os, HBR.out.tape, HBR.out.output, HBR.out.size, HBR.out.block⟩)
    by_cases hlt : k < ns
    · obtain ⟨bk, hbk⟩ : ∃ bk, mk[k]? = some bk := ⟨_, List.getElem?_eq_getElem (by rw [HMK.out]; omega)⟩
      have HMr := hid (HMB.out.later HBR.out HGM.out)
      have m0 : wr.cell? ⟨gm, k, none⟩ = some (.bool bk) := HMr.out.cell (bools_get hbk)
      have m1 : wr.cell? ⟨gm, 32, none⟩ = some (.bool bo) := HMr.out.cell (bools_get HBO.out)
      have HNX : Hid (sides mk (k + 1) = sides mk k ++ if (bk != bo) = true then [k] else []) := hid (by rw [sides_next, ← HBOD.out, show mk.getD k false = bk by rw [List.getD_eq_getElem?_getD, hbk]; rfl])
      have hkl := sides_len mk k
      have hk34 : (k : Int) < 34 := by omega
      clear hbk
      go_wp2_with fail
      go_quiet (fail)
      obtain ⟨w6, hw6⟩ : ∃ w6, w6 = wr.drewN nq := ⟨_, rfl⟩
      have hb6 : Below w5.heap.size w5 w6 := by rw [hw6]; exact HBD.out nq
      have ho6 : w6.ownsRow w5.heap.size 3 1 u7 (sides mk k).length (natC (sides mk k)) := by rw [hw6]; exact HO.out
      rw [← hw6]
      have HB6 := hid hb6
      have HO6 := hid ho6
      have hb6s := hb6.size
      clear hw6 hb6 ho6 HMr m0 m1 HO HBR HR HBD
      by_cases hq : bk = bo
      · have hz : (!bk == bo) = false := by rw [hq]; simp
        have HNY : Hid (sides mk (k + 1) = sides mk k) := hid (by rw [HNX.out, show (bk != bo) = false by rw [hq]; simp]; simp)
        rw [hz]
        clear hq hz
        go_wp2_with fail
        go_roundw
        case rel => exact ⟨k + 1, by omega, by go_num, hid (by rw [HNY.out]; exact ⟨HO6.out, HB6.out⟩)⟩
        case measure => simp [intOf]; omega
      · have hz : (!bk == bo) = true := by simpa using hq
        have HNY : Hid (sides mk (k + 1) = sides mk k ++ [k]) := hid (by rw [HNX.out, show (bk != bo) = true by simpa using hq]; simp)
        rw [hz]
        clear hq hz
        go_wp2_with (at_builtin; refine wl_own rfl _ _ 36 3 i0 (.int .i64 0) 1 8 rfl (by kernel_rfl) HI.out.1 HI.out.2.1 HI.out.2.2.1 HI.out.2.2.2 rfl (by decide) rfl (HO6.out.alloc _) (by simp; omega) ⟨w6.heap.size, 0, none⟩ 1 1 [.int .i64 k] rfl rfl (cells_new1 w6 [.int .i64 k] 3) (by simp [Value.oneCell']) (by unfold maxLen; omega) (by omega) ?_; intro v7 w7 ho7 hg7 hv7; have HO7 := hid ho7; have HB7 : Hid (Below w5.heap.size w5 w7) := hid ((HB6.out.alloc HB6.out.size _).trans (grown_base (HO6.out.alloc _) hg7 (by simp; omega))); clear ho7 hg7 hv7)
        go_roundw
        case rel => exact ⟨k + 1, by omega, by go_num, hid (by rw [HNY.out, List.length_append, natC_append]; exact ⟨HO7.out, HB7.out⟩)⟩
        case measure => simp [intOf]; omega
    · have hkn : ns = k := by omega
      subst hkn
      go_wp2_with fail
      go_ret2
      exact ⟨_, rfl, HO.out.mono (by have := HB5.out.size; omega), HB5.out.trans (HBR.out.mono HB5.out.size)⟩

/-- What Conflict answers of a book without an error. -/
theorem confl_cases {S : List (Int × Int)} {T : List Tk} (hx : bookErr S T = 0) :
    (Cons S T ∧ ∀ v1 v2 W, BookIn W v1 v2 S T → Calls Try.prog 28 #[.agg #[v1, v2]] W (Ret (.tuple #[.slice none 0 0, .int .i64 7]) W)) ∨
    (¬ Cons S T ∧ ∃ P : List Nat, (P.map fun (p : Nat) => (p : Int)).Pairwise (· < ·) ∧ numsErr (P.map fun (p : Nat) => (p : Int)) S.length = 0 ∧ showF S T (P.map fun (p : Nat) => (p : Int)) = true ∧ ∀ v1 v2 W, BookIn W v1 v2 S T → Calls Try.prog 28 #[.agg #[v1, v2]] W (ConfPost W P)) := by
  have hb := book_good hx
  have hok := new_ok hb []
  have hw := (new_arcs hb []).2
  obtain ⟨b, N', l', mk, h1, h2, h3, h4, h5, h6⟩ := settle_core hok hw
  cases hl : nil l'
  · right
    refine ⟨fun ⟨A, hA⟩ => ?_, sides mk S.length, side_sorted mk S.length, side_nums mk S.length, side_shows hb h3 h4 h5 h6 hl, fun v1 v2 W h => confl_some S T b l' mk N' v1 v2 W h hx h1 h2 hl⟩
    obtain ⟨M, hM, _⟩ := asg_circ hb [] hA
    rw [nil_iff.2 (cut_sum h3.nodes h5 h6 (hM.alike h4))] at hl
    cases hl
  · left
    have hc : Circ (newF S T []) (mss N'.arcs) := ⟨by rw [← h4.rgs]; exact h3.fits, fun v hv => by rw [← h4.geo, h5 v hv]; exact nil_iff.1 hl v hv⟩
    exact ⟨⟨_, (circ_asg hb hc).1⟩, fun v1 v2 W h => confl_none S T b l' mk N' v1 v2 W h hx h1 h2 hl⟩
end Go.Proofs.Ytncnpodanlhdkaa
