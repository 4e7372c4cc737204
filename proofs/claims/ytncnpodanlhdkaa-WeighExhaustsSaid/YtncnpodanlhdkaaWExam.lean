/-
  The document's example, and two lists compared.
-/
import Derived.Test.YtncnpodanlhdkaaWHolds
import Derived.Test.YtncnpodanlhdkaaWNetW
import Derived.Test.YtncnpodanlhdkaaWMinimal
namespace Go.Proofs.Ytncnpodanlhdkaa
set_option linter.all false
open Go.RowKit

def exS : List (Int × Int) := [(0, 0), (900, 950)]
def exT (lo hi : Int) : List Tk := [⟨⟨#[116, 49]⟩, -1, 0, 500, 510⟩, ⟨⟨#[116, 50]⟩, -1, 0, 480, 500⟩, ⟨⟨#[116, 51]⟩, 0, 1, 940, 1020⟩, ⟨⟨#[116, 52]⟩, 1, -1, lo, hi⟩]
def ExPost (lo hi : Int) (W : World) (e : Ending) (W' : World) : Prop := ∃ v1 v2, e = .returned (.agg #[v1, v2]) ∧ BookIn W' v1 v2 exS (exT lo hi) ∧ Below W.heap.size W W' ∧ (∃ p c, v1 = .slice p 2 c) ∧ ∃ p c, v2 = .slice p 4 c
set_option maxRecDepth 100000 in
set_option maxHeartbeats 4000000 in
theorem example_any (lo hi : Int) (W : World) : Calls Try.prog 44 #[.int .i64 lo, .int .i64 hi] W (ExPost lo hi W) := by
  obtain ⟨w1, hw1⟩ : ∃ w1, w1 = W.alloc (.cells #[.slice none 0 0, .slice none 0 0] 25) := ⟨_, rfl⟩
  obtain ⟨w2, hw2⟩ : ∃ w2, w2 = w1.alloc (.cells (exS.flatMap rgC).toArray 38) := ⟨_, rfl⟩
  obtain ⟨w3, hw3⟩ : ∃ w3, w3 = w2.alloc (.cells ((exT lo hi).flatMap tkC).toArray 59) := ⟨_, rfl⟩
  have hb1 : Below W.heap.size W w1 := by rw [hw1]; exact below_new W _
  have hb2 : Below w1.heap.size w1 w2 := by rw [hw2]; exact below_new w1 _
  have hb3 : Below w2.heap.size w2 w3 := by rw [hw3]; exact below_new w2 _
  have hB : Blk w3 W.heap.size #[.slice none 0 0, .slice none 0 0] 25 := ((by rw [hw1]; exact Blk.new W _ _ : Blk w1 W.heap.size #[.slice none 0 0, .slice none 0 0] 25).later hb2 (by rw [hw1]; simp)).later hb3 (by rw [hw2, hw1]; simp; omega)
  have h1s : W.heap.size < w1.heap.size := by rw [hw1]; simp
  have h2s : w1.heap.size < w2.heap.size := by rw [hw2]; simp
  have hbk : BookIn w3 (.slice (some ⟨w1.heap.size, 0, none⟩) 2 2) (.slice (some ⟨w2.heap.size, 0, none⟩) 4 4) exS (exT lo hi) := ⟨by
    have h := slc_new w1 (exS.flatMap rgC) 38 2 (by decide)
    rw [← hw2] at h
    exact h.later hb3, by
    have h := slc_new w2 ((exT lo hi).flatMap tkC) 59 4 (by decide)
    rw [← hw3] at h
    exact h⟩
  have HBK := hid (show BookIn ((w3.setCell ⟨W.heap.size, 0, none⟩ (.slice (some ⟨w1.heap.size, 0, none⟩) 2 2)).setCell ⟨W.heap.size, 1, none⟩ (.slice (some ⟨w2.heap.size, 0, none⟩) 4 4)) (.slice (some ⟨w1.heap.size, 0, none⟩) 2 2) (.slice (some ⟨w2.heap.size, 0, none⟩) 4 4) exS (exT lo hi) from
    ⟨(hbk.stock).far fun q hq => by have h : w1.heap.size = q := Option.some.inj hq; rw [heap_setCell_other _ ⟨W.heap.size, 1, none⟩ q _ (by show q ≠ W.heap.size; omega), heap_setCell_other _ ⟨W.heap.size, 0, none⟩ q _ (by show q ≠ W.heap.size; omega)],
     (hbk.tickets).far fun q hq => by have h : w2.heap.size = q := Option.some.inj hq; rw [heap_setCell_other _ ⟨W.heap.size, 1, none⟩ q _ (by show q ≠ W.heap.size; omega), heap_setCell_other _ ⟨W.heap.size, 0, none⟩ q _ (by show q ≠ W.heap.size; omega)]⟩)
  have HBE := hid ((((hb1.trans (hb2.mono hb1.size)).trans (hb3.mono (Nat.le_trans hb1.size hb2.size))).setCell (p := ⟨W.heap.size, 0, none⟩) (Nat.le_refl _) (.slice (some ⟨w1.heap.size, 0, none⟩) 2 2)).setCell (p := ⟨W.heap.size, 1, none⟩) (Nat.le_refl _) (.slice (some ⟨w2.heap.size, 0, none⟩) 4 4))
  have HRF := hid ((hB.set 0 (.slice (some ⟨w1.heap.size, 0, none⟩) 2 2)).set 1 (.slice (some ⟨w2.heap.size, 0, none⟩) 4 4))
  have c0 := hB.cell (i := 0) rfl
  have c1 := hB.cell (i := 1) rfl
  have f0 := hB.froz 0
  have f1 := hB.froz 1
  have HW1 := hid hw1
  have HW2 : Hid (w2 = w1.alloc (.cells #[.int .i64 0, .int .i64 0, .int .i64 900, .int .i64 950] 38)) := hid hw2
  have HW3 : Hid (w3 = w2.alloc (.cells #[.string ⟨#[116, 49]⟩, .int .i64 (-1), .int .i64 0, .int .i64 500, .int .i64 510, .string ⟨#[116, 50]⟩, .int .i64 (-1), .int .i64 0, .int .i64 480, .int .i64 500, .string ⟨#[116, 51]⟩, .int .i64 0, .int .i64 1, .int .i64 940, .int .i64 1020, .string ⟨#[116, 52]⟩, .int .i64 1, .int .i64 (-1), .int .i64 lo, .int .i64 hi] 59)) := hid hw3
  clear hw1 hw2 hw3 hb1 hb2 hb3 hB h1s h2s hbk
  go_enter Try.func44, Try.ntmps44
  go_wp2_with (first | (rw [← HW1.out]) | (rw [← HW2.out]) | (rw [← HW3.out]))
  refine bodyPost_ret (v := .agg #[.slice (some ⟨w1.heap.size, 0, none⟩) 2 2, .slice (some ⟨w2.heap.size, 0, none⟩) 4 4]) ?_ rfl ⟨_, _, rfl, HBK.out, HBE.out, ⟨_, _, rfl⟩, ⟨_, _, rfl⟩⟩
  have r1 := fun h => run_loadVar_row (P := Try.prog) ((w3.setCell ⟨W.heap.size, 0, none⟩ (.slice (some ⟨w1.heap.size, 0, none⟩) 2 2)).setCell ⟨W.heap.size, 1, none⟩ (.slice (some ⟨w2.heap.size, 0, none⟩) 4 4)) W.heap.size 25 25 _ (0, 0) (.struct (Try.prog.fieldsOf 25)) HRF.out (by kernel_rfl) rfl h
  have r2 := r1 (by kernel_rfl)
  simp [results, Try.results44, asAddr, Act.put, r2]

theorem eq_at {l m : List Int} (hlen : l.length = m.length) (h : ∀ (j : Nat) (x y : Int), l[j]? = some x → m[j]? = some y → x = y) : l = m := by
  apply List.ext_getElem hlen
  intro i h1 h2
  exact h i _ _ (List.getElem?_eq_getElem h1) (List.getElem?_eq_getElem h2)
set_option maxRecDepth 100000 in
set_option maxHeartbeats 4000000 in
theorem same_any (l m : List Int) (v1 v2 : Value) (W : World) (h1 : SlcIn W v1 l.length (l.map (Value.int .i64))) (h2 : SlcIn W v2 m.length (m.map (Value.int .i64))) : Calls Try.prog 33 #[v1, v2] W (Ret (.bool (decide (l = m))) W) := by
  obtain ⟨p1, c1, rfl, hm1⟩ := h1.shape
  obtain ⟨p2, c2, rfl, hm2⟩ := h2.shape
  obtain ⟨n1, hn1⟩ : ∃ n, n = l.length := ⟨_, rfl⟩
  obtain ⟨n2, hn2⟩ : ∃ n, n = m.length := ⟨_, rfl⟩
  rw [← hn1] at h1 hm1 ⊢
  rw [← hn2] at h2 hm2 ⊢
  have hm1' : n1 ≤ 9223372036854775807 := by unfold maxLen at hm1; omega
  have hm2' : n2 ≤ 9223372036854775807 := by unfold maxLen at hm2; omega
  have H1 := hid h1
  have H2 := hid h2
  have HN1 := hid hn1
  have HN2 := hid hn2
  clear h1 h2 hm1 hm2
  by_cases hne : n1 = n2
  · clear hn1 hn2
    subst hne
    go_enter Try.func33, Try.ntmps33
    go_wp2_with fail
    go_loopw [5] (fun u wr => ∃ k : Nat, k ≤ n1 ∧ u = .int .i64 k ∧ Hid (Below W.heap.size W wr) ∧ Hid (∀ (j : Nat) (x y : Int), j < k → l[j]? = some x → m[j]? = some y → x = y)) (fun u _ => n1 - (intOf u).toNat)
    case atStart => exact ⟨0, Nat.zero_le _, rfl, hid (Below.refl _ _), hid (fun j x y hj _ _ => by omega)⟩
    case round =>
      obtain ⟨k, hk, rfl, HB, HZ⟩ := hrel
      by_cases hlt : k < n1
      · obtain ⟨x, hx⟩ : ∃ x, l[k]? = some x := ⟨_, List.getElem?_eq_getElem (by rw [← HN1.out]; exact hlt)⟩
        obtain ⟨y, hy⟩ : ∃ y, m[k]? = some y := ⟨_, List.getElem?_eq_getElem (by rw [← HN2.out]; exact hlt)⟩
        have hw1 := H1.out.later HB.out
        rw [HN1.out] at hw1
        obtain ⟨g, o, c', hv, r0, _⟩ := int_at hw1 hx
        injection hv with e1 e2 e3
        subst e1
        have hw2 := H2.out.later HB.out
        rw [HN2.out] at hw2
        obtain ⟨g2, o2, c3, hv2, s0, _⟩ := int_at hw2 hy
        injection hv2 with f1 f2 f3
        subst f1
        have HBD : Hid (∀ q, Below W.heap.size W (wr.drewN q)) := hid (fun q => ⟨HB.out.os, HB.out.tape, HB.out.output, HB.out.size, HB.out.block⟩)
        clear hw1 hw2 e2 e3 f2 f3
        by_cases hxy : x = y
        · have HZ2 : Hid (∀ (j : Nat) (x' y' : Int), j < k + 1 → l[j]? = some x' → m[j]? = some y' → x' = y') := hid (fun j x' y' hj h3 h4 => by
            by_cases e : j = k
            · subst e; rw [hx] at h3; rw [hy] at h4; cases h3; cases h4; exact hxy
            · exact HZ.out j x' y' (by omega) h3 h4)
          clear hx hy
          subst hxy
          have hz : (x != x) = false := by simp
          go_wp2_with fail
          go_quiet (fail)
          go_wp2_with fail
          go_roundw
          case rel => exact ⟨k + 1, by omega, by go_num, hid (HBD.out _), HZ2⟩
          case measure => simp [intOf]; omega
        · have hz : (x != y) = true := by simpa using hxy
          have HE : Hid (decide (l = m) = false) := hid (by
            rw [decide_eq_false_iff_not]
            intro e
            subst e
            rw [hx] at hy
            cases hy
            exact hxy rfl)
          clear hx hy
          go_wp2_with fail
          go_quiet (fail)
          go_wp2_with fail
          go_ret
          exact ⟨by rw [HE.out]; rfl, HBD.out _⟩
      · have HE : Hid (decide (l = m) = true) := hid (by
          rw [decide_eq_true_iff]
          exact eq_at (by rw [← HN1.out, ← HN2.out]) fun j x y h3 h4 => HZ.out j x y (by have := (List.getElem?_eq_some_iff.1 h3).1; have := HN1.out; omega) h3 h4)
        go_wp2_with fail
        go_ret
        exact ⟨by rw [HE.out]; rfl, HB.out⟩
  · have HE : Hid (decide (l = m) = false) := hid (by
      rw [decide_eq_false_iff_not]
      intro e
      subst e
      exact hne (by rw [hn1, hn2]))
    have hz : ((n1 : Int) != (n2 : Int)) = true := by simp; omega
    clear hn1 hn2
    go_enter Try.func33, Try.ntmps33
    go_wp2_with fail
    go_ret
    exact ⟨by rw [HE.out]; rfl, Below.refl _ _⟩
end Go.Proofs.Ytncnpodanlhdkaa
