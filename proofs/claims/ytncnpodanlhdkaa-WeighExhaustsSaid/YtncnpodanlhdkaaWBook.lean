/-
  Books: tickets, stocks, and the network that is made of them.
-/
import Derived.Test.YtncnpodanlhdkaaWAdd
import Derived.Test.YtncnpodanlhdkaaWSmall
import Derived.Test.YtncnpodanlhdkaaShelf
namespace Go.Proofs.Ytncnpodanlhdkaa
set_option linter.all false
open Go.RowKit

structure Tk where
  id : ByteArray
  src : Int
  dst : Int
  low : Int
  high : Int
def tkC (t : Tk) : List Value := [.string t.id, .int .i64 t.src, .int .i64 t.dst, .int .i64 t.low, .int .i64 t.high]
def rgC (r : Int × Int) : List Value := [.int .i64 r.1, .int .i64 r.2]
/-- The slice v has n elements; the cells behind its address begin with cs. -/
def SlcIn (w : World) (v : Value) (n : Nat) (cs : List Value) : Prop := ∃ p c, v = .slice p n c ∧ n ≤ c ∧ c ≤ maxLen ∧ (n = 0 ∨ ∃ g o, p = some ⟨g, o, none⟩ ∧ ∀ (j : Nat) (u : Value), cs[j]? = some u → w.cell? ⟨g, o + j, none⟩ = some u)
theorem SlcIn.later {w w' : World} {v : Value} {n : Nat} {cs : List Value} (h : SlcIn w v n cs) (hb : Below w.heap.size w w') : SlcIn w' v n cs := by
  obtain ⟨p, c, h1, h2, h3, h4⟩ := h
  refine ⟨p, c, h1, h2, h3, h4.imp id fun ⟨g, o, h5, h6⟩ => ⟨g, o, h5, fun j u hu => ?_⟩⟩
  have h := h6 j u hu
  exact (hb.cell (p := ⟨g, o + j, none⟩) (World.block_lt_of_cell? w _ h)).trans h
structure BookIn (w : World) (vs vt : Value) (S : List (Int × Int)) (T : List Tk) : Prop where
  stock : SlcIn w vs S.length (S.flatMap rgC)
  tickets : SlcIn w vt T.length (T.flatMap tkC)
theorem BookIn.later {w w' : World} {vs vt : Value} {S : List (Int × Int)} {T : List Tk} (h : BookIn w vs vt S T) (hb : Below w.heap.size w w') : BookIn w' vs vt S T := ⟨h.stock.later hb, h.tickets.later hb⟩

theorem tk_get : ∀ (L : List Tk) (i : Nat) (x : Tk), L[i]? = some x → ∀ (j : Nat) (v : Value), (tkC x)[j]? = some v → (L.flatMap tkC)[i * 5 + j]? = some v
  | [], _, _, h, _, _, _ => by simp at h
  | y :: L, 0, x, h, j, v, hv => by
    simp at h
    subst h
    have hj : j < (tkC y).length := (List.getElem?_eq_some_iff.1 hv).1
    rw [List.flatMap_cons, List.getElem?_append_left (by omega), Nat.zero_mul, Nat.zero_add]
    exact hv
  | y :: L, i + 1, x, h, j, v, hv => by
    have h' : L[i]? = some x := by simpa using h
    rw [List.flatMap_cons, List.getElem?_append_right (by show 5 ≤ _; omega), show (i + 1) * 5 + j - (tkC y).length = i * 5 + j by show (i + 1) * 5 + j - 5 = _; omega]
    exact tk_get L i x h' j v hv
theorem rg_get : ∀ (L : List (Int × Int)) (i : Nat) (x : Int × Int), L[i]? = some x → ∀ (j : Nat) (v : Value), (rgC x)[j]? = some v → (L.flatMap rgC)[i * 2 + j]? = some v
  | [], _, _, h, _, _, _ => by simp at h
  | y :: L, 0, x, h, j, v, hv => by
    simp at h
    subst h
    have hj : j < (rgC y).length := (List.getElem?_eq_some_iff.1 hv).1
    rw [List.flatMap_cons, List.getElem?_append_left (by omega), Nat.zero_mul, Nat.zero_add]
    exact hv
  | y :: L, i + 1, x, h, j, v, hv => by
    have h' : L[i]? = some x := by simpa using h
    rw [List.flatMap_cons, List.getElem?_append_right (by show 2 ≤ _; omega), show (i + 1) * 2 + j - (rgC y).length = i * 2 + j by show (i + 1) * 2 + j - 2 = _; omega]
    exact rg_get L i x h' j v hv
/-- What is read of ticket i, and of range i. -/
theorem SlcIn.tkAt {w : World} {v : Value} {T : List Tk} (h : SlcIn w v T.length (T.flatMap tkC)) {i : Nat} {t : Tk} (ht : T[i]? = some t) : ∃ g o c, v = .slice (some ⟨g, o, none⟩) T.length c ∧ w.cell? ⟨g, o + i * 5, none⟩ = some (.string t.id) ∧ w.cell? ⟨g, o + i * 5 + 1, none⟩ = some (.int .i64 t.src) ∧ w.cell? ⟨g, o + i * 5 + 2, none⟩ = some (.int .i64 t.dst) ∧ w.cell? ⟨g, o + i * 5 + 3, none⟩ = some (.int .i64 t.low) ∧ w.cell? ⟨g, o + i * 5 + 4, none⟩ = some (.int .i64 t.high) := by
  have hi := (List.getElem?_eq_some_iff.1 ht).1
  obtain ⟨p, c, rfl, h2, h3, h4 | ⟨g, o, rfl, h5⟩⟩ := h
  · omega
  · refine ⟨g, o, c, rfl, ?_, ?_, ?_, ?_, ?_⟩
    · exact h5 (i * 5 + 0) _ (tk_get T i t ht 0 _ rfl)
    · exact h5 (i * 5 + 1) _ (tk_get T i t ht 1 _ rfl)
    · exact h5 (i * 5 + 2) _ (tk_get T i t ht 2 _ rfl)
    · exact h5 (i * 5 + 3) _ (tk_get T i t ht 3 _ rfl)
    · exact h5 (i * 5 + 4) _ (tk_get T i t ht 4 _ rfl)
theorem SlcIn.rgAt {w : World} {v : Value} {T : List (Int × Int)} (h : SlcIn w v T.length (T.flatMap rgC)) {i : Nat} {t : Int × Int} (ht : T[i]? = some t) : ∃ g o c, v = .slice (some ⟨g, o, none⟩) T.length c ∧ w.cell? ⟨g, o + i * 2, none⟩ = some (.int .i64 t.1) ∧ w.cell? ⟨g, o + i * 2 + 1, none⟩ = some (.int .i64 t.2) := by
  have hi := (List.getElem?_eq_some_iff.1 ht).1
  obtain ⟨p, c, rfl, h2, h3, h4 | ⟨g, o, rfl, h5⟩⟩ := h
  · omega
  · refine ⟨g, o, c, rfl, ?_, ?_⟩
    · exact h5 (i * 2 + 0) _ (rg_get T i t ht 0 _ rfl)
    · exact h5 (i * 2 + 1) _ (rg_get T i t ht 1 _ rfl)
theorem SlcIn.shape {w : World} {v : Value} {n : Nat} {cs : List Value} (h : SlcIn w v n cs) : ∃ p c, v = .slice p n c ∧ n ≤ maxLen := by
  obtain ⟨p, c, h1, h2, h3, _⟩ := h
  exact ⟨p, c, h1, Nat.le_trans h2 h3⟩

theorem has_int {w : World} {v : Value} {l : List Int} (h : SlcIn w v l.length (l.map (Value.int .i64))) (x : Int) : Calls Try.prog 64 #[v, .int .i64 x] w fun e w' => e = .returned (.bool (l.contains x)) ∧ w = w' := by
  obtain ⟨p, c, rfl, h2, h3, h4⟩ := h
  rcases Nat.eq_zero_or_pos l.length with h0 | h0
  · have hl : l = [] := List.length_eq_zero_iff.1 h0
    subst hl
    exact (Try.slices_Contains_int_empty p c x w).mono fun e w' ⟨h5, h6⟩ => ⟨h5, h6.symm⟩
  · rcases h4 with h4 | ⟨g, o, rfl, h5⟩
    · omega
    · refine (Try.slices_Contains_int g o l.length c l x w (Nat.le_refl _) (by unfold maxLen at h3; omega) fun j hj => h5 j _ ?_).mono fun e w' ⟨h6, h7⟩ => ⟨by rw [h6, List.take_length], h7.symm⟩
      rw [List.getElem?_map, List.getElem?_eq_getElem hj, List.getD_eq_getElem?_getD, List.getElem?_eq_getElem hj]
      rfl

def node (p : Int) : Nat := if p = -1 then 32 else p.toNat
theorem node_val {p : Int} (h : -1 ≤ p) : nodeI p = (node p : Int) := by
  unfold nodeI node
  split
  · rfl
  · omega
def noNet : Net := ⟨[], List.replicate 34 []⟩
def tickF (T : List Tk) : Nat → Net
  | 0 => noNet
  | k + 1 => match T[k]? with
    | none => tickF T k
    | some t => (tickF T k).add (node t.src) (node t.dst) t.low t.high
def stockF (N0 : Net) (J : List Int) (S : List (Int × Int)) : Nat → Net × Int × Int
  | 0 => (N0, 0, 0)
  | k + 1 => match S[k]? with
    | none => stockF N0 J S k
    | some r => if J.contains (k : Int) = true then ((stockF N0 J S k).1.add k 33 r.1 r.2, (stockF N0 J S k).2.1 + r.1, (stockF N0 J S k).2.2 + r.2) else ((stockF N0 J S k).1.add k 32 r.1 r.2, (stockF N0 J S k).2.1, (stockF N0 J S k).2.2)
def newF (S : List (Int × Int)) (T : List Tk) (J : List Int) : Net :=
  let R := stockF (tickF T T.length) J S S.length
  R.1.add 33 32 R.2.1 R.2.2
/-- A network of k arcs. -/
structure Net.Few (N : Net) (k : Nat) : Prop where
  ends : N.ends.length = 34
  arcs : N.arcs.length = k
  each : ∀ (v : Nat) (l : List Nat), N.ends[v]? = some l → l.length ≤ 2 * k
theorem bump_len {E : List (List Nat)} {m : Nat} (h : ∀ (v : Nat) (l : List Nat), E[v]? = some l → l.length ≤ m) (s i : Nat) : ∀ (v : Nat) (l : List Nat), (bumpE E s i)[v]? = some l → l.length ≤ m + 1 := by
  intro v l hl
  unfold bumpE at hl
  by_cases e : v = s
  · subst e
    rw [List.getElem?_set_self' ] at hl
    cases hq : E[v]? with
    | none => rw [hq] at hl; cases hl
    | some q =>
      rw [hq] at hl
      simp at hl
      subst hl
      rw [hq]
      have := h v q hq
      simp
      omega
  · rw [List.getElem?_set_ne (Ne.symm e)] at hl
    have := h v l hl
    omega
theorem Net.Few.add {N : Net} {k : Nat} (h : N.Few k) (s d : Nat) (lo hi : Int) : (N.add s d lo hi).Few (k + 1) := by
  refine ⟨?_, ?_, fun v l hl => ?_⟩
  · show (bumpE (bumpE N.ends s _) d _).length = 34
    unfold bumpE
    rw [List.length_set, List.length_set]
    exact h.ends
  · show (N.arcs ++ [_]).length = k + 1
    rw [List.length_append, h.arcs]; rfl
  · have := bump_len (bump_len h.each s N.arcs.length) d N.arcs.length v l hl
    omega
theorem few_none : noNet.Few 0 := ⟨rfl, rfl, fun v l hl => by
  unfold noNet at hl
  rw [List.getElem?_replicate] at hl
  split at hl
  · cases hl; exact Nat.le_refl _
  · cases hl⟩
theorem few_tick (T : List Tk) : ∀ k, k ≤ T.length → (tickF T k).Few k
  | 0, _ => few_none
  | k + 1, h => by
    unfold tickF
    rw [List.getElem?_eq_getElem (by omega)]
    exact (few_tick T k (by omega)).add _ _ _ _
theorem few_stock {N0 : Net} {m : Nat} (h0 : N0.Few m) (J : List Int) (S : List (Int × Int)) : ∀ k, k ≤ S.length → (stockF N0 J S k).1.Few (m + k)
  | 0, _ => h0
  | k + 1, h => by
    unfold stockF
    rw [List.getElem?_eq_getElem (by omega)]
    dsimp only
    split
    · exact (few_stock h0 J S k (by omega)).add _ _ _ _
    · exact (few_stock h0 J S k (by omega)).add _ _ _ _
theorem sum_small {N0 : Net} (J : List Int) (S : List (Int × Int)) (hS : ∀ (i : Nat) (r : Int × Int), S[i]? = some r → -999999999 ≤ r.1 ∧ r.1 ≤ 999999999 ∧ -999999999 ≤ r.2 ∧ r.2 ≤ 999999999) : ∀ k, k ≤ S.length → -(k : Int) * 999999999 ≤ (stockF N0 J S k).2.1 ∧ (stockF N0 J S k).2.1 ≤ (k : Int) * 999999999 ∧ -(k : Int) * 999999999 ≤ (stockF N0 J S k).2.2 ∧ (stockF N0 J S k).2.2 ≤ (k : Int) * 999999999
  | 0, _ => by unfold stockF; simp
  | k + 1, h => by
    have ih := sum_small (N0 := N0) J S hS k (by omega)
    have hr := List.getElem?_eq_getElem (l := S) (i := k) (by omega)
    have hb := hS k _ hr
    unfold stockF
    rw [hr]
    dsimp only
    split
    · dsimp only
      omega
    · dsimp only
      omega
theorem none_net {base : Nat} {w : World} (hb : base ≤ w.heap.size) : NetIn base (w.alloc (.cells ((.slice none 0 0 :: List.replicate 34 (.slice none 0 0) : List Value).toArray) 113)) w.heap.size noNet (.slice none 0 0) (List.replicate 34 (.slice none 0 0)) := by
  refine ⟨Blk.new w _ _, hb, by simp, World.ownsRow_nil _ _ _ _, fun v l hl => ?_, fun i j x y k hx hy hk => ?_, fun i x k hx hk => ?_, by intro e; cases e⟩
  · unfold noNet at hl
    rw [List.getElem?_replicate] at hl
    split at hl
    · cases hl
      exact ⟨_, by rw [List.getElem?_replicate, if_pos (by assumption)], World.ownsRow_nil _ _ _ _⟩
    · cases hl
  · rw [List.getElem?_replicate] at hx
    split at hx
    · cases hx; cases hk
    · cases hx
  · rw [List.getElem?_replicate] at hx
    split at hx
    · cases hx; cases hk
    · cases hx
end Go.Proofs.Ytncnpodanlhdkaa
