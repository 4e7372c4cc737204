/-
  changed: a book with another range of a ticket.
-/
import Derived.Test.YtncnpodanlhdkaaWProg3
import Derived.Test.YtncnpodanlhdkaaWRefBk2
import Derived.Test.YtncnpodanlhdkaaWMinimal
namespace Go.Proofs.Ytncnpodanlhdkaa
set_option linter.all false
open Go.RowKit

def lightF (S : List (Int × Int)) (T : List Tk) : Bool := decide (S.length ≤ 6) && decide (T.length ≤ 8) && decide (bookErr S T = 0)
set_option maxRecDepth 100000 in
set_option maxHeartbeats 4000000 in
theorem light_any (S : List (Int × Int)) (T : List Tk) (v1 v2 : Value) (W : World) (hb : BookIn W v1 v2 S T) :
    Calls Try.prog 39 #[.agg #[v1, v2]] W (Ret (.bool (lightF S T)) W) := by
  obtain ⟨p1, c1, rfl, hm1⟩ := hb.stock.shape
  obtain ⟨p2, c2, rfl, hm2⟩ := hb.tickets.shape
  obtain ⟨ns, hns⟩ : ∃ n, n = S.length := ⟨_, rfl⟩
  obtain ⟨nt, hnt⟩ : ∃ n, n = T.length := ⟨_, rfl⟩
  have hm1' : ns ≤ 9223372036854775807 := by rw [hns]; unfold maxLen at hm1; omega
  have hm2' : nt ≤ 9223372036854775807 := by rw [hnt]; unfold maxLen at hm2; omega
  obtain ⟨w1, hw1⟩ : ∃ w1, w1 = W.alloc (.cells #[.slice p1 ns c1, .slice p2 nt c2] 25) := ⟨_, rfl⟩
  have hb1 : Below W.heap.size W w1 := by rw [hw1]; exact below_new W _
  have hB1 : Blk w1 W.heap.size #[.slice p1 ns c1, .slice p2 nt c2] 25 := by rw [hw1]; exact Blk.new W _ _
  have HC := hid (refBook9 S T _ _ w1 (hb.later hb1))
  obtain ⟨x, hxe⟩ : ∃ x, x = bookErr S T := ⟨_, rfl⟩
  have hL : lightF S T = (decide (ns ≤ 6) && decide (nt ≤ 8) && decide (x = 0)) := by unfold lightF; rw [hns, hnt, hxe]
  rw [← hxe, ← hns, ← hnt] at HC
  rw [hL, ← hns, ← hnt]
  have q0 := hB1.cell (i := 0) rfl
  have q1 := hB1.cell (i := 1) rfl
  have HB1 := hid hb1
  have HW1 := hid hw1
  have hge : W.heap.size ≤ w1.heap.size := hb1.size
  clear hb hw1 hb1 hB1 hm1 hm2 hns hnt hxe hL
  by_cases h1 : ns ≤ 6
  · by_cases h2 : nt ≤ 8
    · by_cases h3 : x = 0
      · have hz : (x == 0) = true := by simpa using h3
        have HR : Hid ((decide (ns ≤ 6) && decide (nt ≤ 8) && decide (x = 0)) = true) := hid (by simp [h1, h2, h3])
        rw [HR.out]
        clear h3 HR
        go_enter Try.func39, Try.ntmps39
        go_wp2_with (first | (rw [← HW1.out]) | (go_at_call 16; (with_reducible refine HC.out.mono ?_); rintro e w2 ⟨rfl, hb⟩; have HB4 := hid (HB1.out.trans (hb.mono hge)); clear hb))
        go_ret
        exact ⟨rfl, HB4.out⟩
      · have hz : (x == 0) = false := by simpa using h3
        have HR : Hid ((decide (ns ≤ 6) && decide (nt ≤ 8) && decide (x = 0)) = false) := hid (by simp [h3])
        rw [HR.out]
        clear h3 HR
        go_enter Try.func39, Try.ntmps39
        go_wp2_with (first | (rw [← HW1.out]) | (go_at_call 16; (with_reducible refine HC.out.mono ?_); rintro e w2 ⟨rfl, hb⟩; have HB4 := hid (HB1.out.trans (hb.mono hge)); clear hb))
        go_ret
        exact ⟨rfl, HB4.out⟩
    · have HR : Hid ((decide (ns ≤ 6) && decide (nt ≤ 8) && decide (x = 0)) = false) := hid (by simp [h2])
      rw [HR.out]
      clear HR
      go_enter Try.func39, Try.ntmps39
      go_wp2_with (rw [← HW1.out])
      go_ret
      exact ⟨rfl, HB1.out⟩
  · have HR : Hid ((decide (ns ≤ 6) && decide (nt ≤ 8) && decide (x = 0)) = false) := hid (by simp [h1])
    rw [HR.out]
    clear HR
    go_enter Try.func39, Try.ntmps39
    go_wp2_with (rw [← HW1.out])
    go_ret
    exact ⟨rfl, HB1.out⟩

open Go.RowKit

/-- A row of the call's own, empty so far, to which tickets are appended. -/
theorem step_app_tk {ops : Array Oper} {o : Oper} {a : Act} {K : Act → World → Prop} {Q : Exit → Act → World → Prop} {E : Prop} (hgd : o.guard = none) (s x : Operand)
    (ho : o.op = .call { callee := .builtin .append, args := #[s, x], argTypes := #[23, 23] })
    (W : World) (base : Nat) (v : Value) (T : List Tk) (g o2 c : Nat) (hs : a.eval s = v) (hown : W.ownsRow base 59 5 v 0 []) (hbase : base ≤ W.heap.size)
    (hx : a.eval x = .slice (some ⟨g, o2, none⟩) T.length c) (hM : ∀ (j : Nat) (u : Value), (T.flatMap tkC)[j]? = some u → W.cell? ⟨g, o2 + j, none⟩ = some u) (h1 : T.length ≤ 1000)
    (h : ∀ v' w', w'.ownsRow base 59 5 v' T.length (T.flatMap tkC) → Below base W w' → (∀ k, k < W.heap.size → v.ownBlock ≠ some k → w'.heap[k]? = W.heap[k]?) → W.heap.size ≤ w'.heap.size → K (a.put o.dst v') w') :
    if Region.wanted o (yielded ops a.tmps) = true then Oper.wp Try.prog o a W K Q else E := by
  have hw : Region.wanted o (yielded ops a.tmps) = true := by simp [Region.wanted, hgd]
  rw [if_pos hw]
  obtain ⟨i0, g0, g1, g2, g3⟩ := info_parts info_tk
  refine wp_append_own W s x 23 ho base 59 i0 _ 5 48 (by kernel_rfl) g0 g1 g2 g3 rfl (by decide) v 0 [] hs hown ⟨g, o2, none⟩ T.length c (T.flatMap tkC) hx (tk_flat_len T) (fun j u hu => ?_) (tk_flat_one T) (by unfold maxLen; omega) (by omega) hbase ?_
  · rw [Addr.add_lit]; exact hM j u hu
  · intro v' w' ho hg _
    rw [Nat.zero_add, List.nil_append] at ho
    exact h v' w' ho (grown_base hown hg hbase) (fun k hk hne => hg.block k hk (fun e => hne e.symm)) hg.size

theorem row_blk {w : World} {base bb g n c size : Nat} {e t : TypeId} {xs : List Value} {cs : Array Value} (h : w.ownsRow base e size (.slice (some ⟨g, 0, none⟩) n c) n xs) (hn : n ≠ 0) (hx : Blk w bb cs t) (ht : e ≠ t) (he : g = bb) : False := by
  obtain ⟨_, h2⟩ := h
  rcases h2 with ⟨h2, _⟩ | ⟨g2, cap, cur, h3, h4, h5, _⟩
  · cases h2
  · injection h3 with h3 _ _
    have h3 := congrArg Addr.block (Option.some.inj h3)
    dsimp only at h3
    subst h3
    unfold Blk at hx
    rw [← he, h5] at hx
    injection hx with hx
    injection hx with _ hx _
    exact ht hx
def ChangedPost (W : World) (v1 : Value) (n : Nat) (cs : List Value) (e : Ending) (W' : World) : Prop := ∃ v, e = .returned (.agg #[v1, v]) ∧ W'.ownsRow W.heap.size 59 5 v n cs ∧ Below W.heap.size W W'

set_option maxRecDepth 100000 in
set_option maxHeartbeats 4000000 in
theorem changed_any (T : List Tk) (i : Nat) (t : Tk) (lo hi : Int) (v1 v2 : Value) (W : World) (h : SlcIn W v2 T.length (T.flatMap tkC)) (ht : T[i]? = some t) (h1 : T.length ≤ 1000) (hs : ∃ p n c, v1 = .slice p n c) :
    Calls Try.prog 41 #[.agg #[v1, v2], .int .i64 i, .agg #[.int .i64 lo, .int .i64 hi]] W (ChangedPost W v1 T.length ((T.set i ⟨t.id, t.src, t.dst, lo, hi⟩).flatMap tkC)) := by
  obtain ⟨p1, n1, c1, rfl⟩ := hs
  have hi9 := (List.getElem?_eq_some_iff.1 ht).1
  obtain ⟨p2, c2, rfl, h2, h3, h4 | ⟨g, o, rfl, h5⟩⟩ := h
  · omega
  obtain ⟨n, hn⟩ : ∃ n, n = T.length := ⟨_, rfl⟩
  obtain ⟨w1, hw1⟩ : ∃ w1, w1 = ((W.alloc (.cells #[.slice p1 n1 c1, .slice (some ⟨g, o, none⟩) n c2] 25)).alloc (.cells #[.int .i64 lo, .int .i64 hi] 38)).alloc (.cells #[.slice none 0 0, .slice none 0 0] 25) := ⟨_, rfl⟩
  have hb1 : Below W.heap.size W w1 := by rw [hw1]; exact ((below_new W _).alloc (by simp) _).alloc (by simp; omega) _
  have hB1 : Blk w1 W.heap.size #[.slice p1 n1 c1, .slice (some ⟨g, o, none⟩) n c2] 25 := by rw [hw1]; exact ((Blk.new W _ _).alloc _).alloc _
  have hG1 : Blk w1 (W.heap.size + 1) #[.int .i64 lo, .int .i64 hi] 38 := by rw [hw1]; exact (Blk_newn _ _ _ (by simp)).alloc _
  have hR1 : Blk w1 (W.heap.size + 2) #[.slice none 0 0, .slice none 0 0] 25 := by rw [hw1]; exact Blk_newn _ _ _ (by simp)
  have HWF : Hid (((T.flatMap tkC).set (i * 5 + 3) (.int .i64 lo)).set (i * 5 + 4) (.int .i64 hi) = (T.set i ⟨t.id, t.src, t.dst, lo, hi⟩).flatMap tkC) := hid (tk_range T i t lo hi ht)
  have HC : Hid (∀ w', Below W.heap.size W w' → ∀ (j : Nat) (u : Value), (T.flatMap tkC)[j]? = some u → w'.cell? ⟨g, o + j, none⟩ = some u) := hid (fun w' hb j u hu => by
    have h := h5 j u hu
    exact (hb.cell (p := ⟨g, o + j, none⟩) (World.block_lt_of_cell? W _ h)).trans h)
  have HGT : Hid (∀ j, j < n * 5 → ∃ u, (T.flatMap tkC)[j]? = some u) := hid (fun j hj => ⟨_, List.getElem?_eq_getElem (by rw [tk_flat_len, ← hn]; exact hj)⟩)
  have HN := hid hn
  rw [← hn] at h1 hi9 ⊢
  have HB1 := hid hb1
  have HBL := hid hB1
  have HGL := hid hG1
  have HRL := hid hR1
  have HW1 := hid hw1
  have hge : W.heap.size + 2 < w1.heap.size := hR1.lt
  clear hb1 hB1 hG1 hR1 hw1 hn h5 ht h2 h3
  go_enter Try.func41, Try.ntmps41
  go_wp2_with (rw [← HW1.out])
  have HS : Hid (Blk w1.drew W.heap.size #[.slice p1 n1 c1, .slice (some ⟨g, o, none⟩) n c2] 25) := hid HBL.out
  refine region_held (fun w' => Blk w' W.heap.size #[.slice p1 n1 c1, .slice (some ⟨g, o, none⟩) n c2] 25) (by kernel_rfl) ?_
  refine' tkw 0 (v := .pointer (some ⟨W.heap.size, 0, none⟩)) rfl (by kernel_rfl) (by kernel_rfl) HS.out (fun _ _ _ h => h) (fun w' hS => by have q0 := hS.cell (i := 0) rfl; have q1 := hS.cell (i := 1) rfl; clear hS; go_simp; (try with_reducible rfl)) ?_
  refine' tkw 1 (v := .slice p1 n1 c1) rfl (by kernel_rfl) (by kernel_rfl) HS.out (fun _ _ _ h => h) (fun w' hS => by have q0 := hS.cell (i := 0) rfl; have q1 := hS.cell (i := 1) rfl; clear hS; go_simp; (try with_reducible rfl)) ?_
  refine' tkw 3 (v := .pointer (some ⟨W.heap.size, 1, none⟩)) rfl (by kernel_rfl) (by kernel_rfl) HS.out (fun _ _ _ h => h) (fun w' hS => by have q0 := hS.cell (i := 0) rfl; have q1 := hS.cell (i := 1) rfl; clear hS; go_simp; (try with_reducible rfl)) ?_
  refine' tkw 4 (v := .slice (some ⟨g, o, none⟩) n c2) rfl (by kernel_rfl) (by kernel_rfl) HS.out (fun _ _ _ h => h) (fun w' hS => by have q0 := hS.cell (i := 0) rfl; have q1 := hS.cell (i := 1) rfl; clear hS; go_simp; (try with_reducible rfl)) ?_
  try simp only [Act.put, List.setIfInBounds_toArray, List.set_cons_zero, List.set_cons_succ]
  refine wpAnyH_ready (rs := [2, 7]) (by kernel_rfl) (by simp) ?_
  refine AllReadyH.cons rfl (fun K hK => ?_) (AllReadyH.cons rfl (fun K hK => ?_) AllReadyH.nil)
  · go_simp
    have HBc : Hid (Below W.heap.size W (w1.drew.alloc (.cells #[] 59))) := hid (HB1.out.drew.alloc HB1.out.size _)
    have HOW : Hid (World.ownsRow (w1.drew.alloc (.cells #[] 59)) w1.heap.size 59 5 (.slice (some ⟨w1.heap.size, 0, none⟩) 0 0) 0 []) := hid (World.ownsRow_made w1.drew #[] 0 (Nat.le_refl _) (Nat.zero_le _) rfl)
    have HS2 := hid (HS.out.alloc (.cells #[] 59))
    have HG2 := hid (HGL.out.drew.alloc (.cells #[] 59))
    have HR2 := hid (HRL.out.drew.alloc (.cells #[] 59))
    refine hK.out _ _ HS2.out (fun hHeld => ?_)
    clear hK hHeld
    try simp only [Act.put, List.setIfInBounds_toArray, List.set_cons_zero, List.set_cons_succ]
    refine wpAnyH_ready (rs := [5, 7]) (by kernel_rfl) (by simp) ?_
    refine AllReadyH.cons rfl (fun K hK => ?_) (AllReadyH.cons rfl (fun K hK => ?_) AllReadyH.nil)
    · refine step_app_tk (by rfl) _ _ (by rfl) _ w1.heap.size (.slice (some ⟨w1.heap.size, 0, none⟩) 0 0) T g o c2 (by rfl) (HOW.out) (by first | omega | (simp; (try omega))) (by rw [← HN.out]; rfl) (HC.out _ HBc.out) (by rw [← HN.out]; exact h1) ?_
      intro v5 w5 ho hb hk hsz
      rw [← HN.out] at ho
      obtain ⟨g5, cv, rfl, hg5⟩ := row_some ho (by omega)
      have HGE : Hid (w1.heap.size ≤ g5) := hid hg5
      clear hg5
      have HO5 := hid ho
      have HB5 := hid (HBc.out.trans (hb.mono (by omega)))
      have HS5 : Hid (Blk w5 W.heap.size #[.slice p1 n1 c1, .slice (some ⟨g, o, none⟩) n c2] 25) := hid ((hk _ HS2.out.lt (by simp [Value.ownBlock]; omega)).trans HS2.out)
      have HG5' : Hid (Blk w5 (W.heap.size + 1) #[.int .i64 lo, .int .i64 hi] 38) := hid ((hk _ HG2.out.lt (by simp [Value.ownBlock]; omega)).trans HG2.out)
      have HR5' : Hid (Blk w5 (W.heap.size + 1 + 1) #[.slice none 0 0, .slice none 0 0] 25) := hid ((hk _ HR2.out.lt (by simp [Value.ownBlock]; omega)).trans HR2.out)
      have HSZ : Hid (w1.heap.size + 1 ≤ w5.heap.size) := hid (by (try simp at hsz); omega)
      clear ho hb hk hsz
      go_simp
      refine hK.out _ _ HS5.out (fun hHeld => ?_)
      clear hK hHeld
      try simp only [Act.put, List.setIfInBounds_toArray, List.set_cons_zero, List.set_cons_succ]
      refine' tkw 6 (v := .agg #[.slice p1 n1 c1, (.slice (some ⟨g5, 0, none⟩) n cv)]) rfl (by kernel_rfl) (by kernel_rfl) HS5.out (fun _ _ _ h => h) (fun w' hS => by clear hS; go_simp; (try with_reducible rfl)) ?_
      try simp only [Act.put, List.setIfInBounds_toArray, List.set_cons_zero, List.set_cons_succ]
      refine wpAnyH_ready (rs := [7]) (by kernel_rfl) (by simp) ?_
      refine AllReadyH.cons rfl (fun K hK => ?_) AllReadyH.nil
      go_simp
      obtain ⟨bb, hbb⟩ : ∃ bb, bb = w5.heap.size := ⟨_, rfl⟩
      obtain ⟨w7, hw7⟩ : ∃ w7, w7 = w5.alloc (.cells #[.slice none 0 0, .slice none 0 0] 25) := ⟨_, rfl⟩
      have HX7 : Hid (Blk w7 bb #[.slice none 0 0, .slice none 0 0] 25) := hid (by rw [hw7]; exact Blk_newn _ _ _ hbb)
      have HO7 : Hid (w7.ownsRow w1.heap.size 59 5 (.slice (some ⟨g5, 0, none⟩) n cv) n (T.flatMap tkC)) := hid (by rw [hw7]; exact World.ownsRow.alloc HO5.out _)
      have HS7 : Hid (Blk w7 W.heap.size #[.slice p1 n1 c1, .slice (some ⟨g, o, none⟩) n c2] 25) := hid (by rw [hw7]; exact HS5.out.alloc _)
      have HG7 : Hid (Blk w7 (W.heap.size + 1) #[.int .i64 lo, .int .i64 hi] 38) := hid (by rw [hw7]; exact HG5'.out.alloc _)
      have HR7 : Hid (Blk w7 (W.heap.size + 1 + 1) #[.slice none 0 0, .slice none 0 0] 25) := hid (by rw [hw7]; exact HR5'.out.alloc _)
      have HB7 : Hid (Below W.heap.size W w7) := hid (by rw [hw7]; exact HB5.out.alloc HB5.out.size _)
      have HBB : Hid (w1.heap.size ≤ bb) := hid (by have := HSZ.out; omega)
      have HNE : Hid (Value.ownBlock (.slice (some ⟨g5, 0, none⟩) n cv) ≠ some bb) := hid (fun e => by have := (HO5.out.lt bb e).2; omega)
      rw [← hw7, ← hbb]
      refine hK.out _ _ HS7.out (fun hHeld => ?_)
      clear hK hHeld hw7 hbb HO5 HB5 HS5 HG5' HR5'
      try simp only [Act.put, List.setIfInBounds_toArray, List.set_cons_zero, List.set_cons_succ]
      refine wpAnyH_ready (rs := [8]) (by kernel_rfl) (by simp) ?_
      refine AllReadyH.cons rfl (fun K hK => ?_) AllReadyH.nil
      have t0 := HX7.out.cell (i := 0) rfl
      have t1 := HX7.out.cell (i := 1) rfl
      have y0 := HX7.out.froz 0
      have y1 := HX7.out.froz 1
      go_simp
      have HX8 := hid ((HX7.out.set 0 (.slice p1 n1 c1)).set 1 (.slice (some ⟨g5, 0, none⟩) n cv))
      have HO8 := hid (own_set (own_set HO7.out (a := bb) (j := 0) (u := .slice p1 n1 c1) (fun k hk e => HNE.out (by rw [← e]; exact hk))) (a := bb) (j := 1) (u := (.slice (some ⟨g5, 0, none⟩) n cv)) (fun k hk e => HNE.out (by rw [← e]; exact hk)))
      have HS8 := hid ((HS7.out.setOther (k := bb) 0 (.slice p1 n1 c1) (by have := HBB.out; omega)).setOther (k := bb) 1 (.slice (some ⟨g5, 0, none⟩) n cv) (by have := HBB.out; omega))
      have HG8 := hid ((HG7.out.setOther (k := bb) 0 (.slice p1 n1 c1) (by have := HBB.out; omega)).setOther (k := bb) 1 (.slice (some ⟨g5, 0, none⟩) n cv) (by have := HBB.out; omega))
      have HR8 := hid ((HR7.out.setOther (k := bb) 0 (.slice p1 n1 c1) (by have := HBB.out; omega)).setOther (k := bb) 1 (.slice (some ⟨g5, 0, none⟩) n cv) (by have := HBB.out; omega))
      have HB8 := hid ((HB7.out.setCell (p := ⟨bb, 0, none⟩) (by have := HBB.out; simp; omega) (.slice p1 n1 c1)).setCell (p := ⟨bb, 1, none⟩) (by have := HBB.out; simp; omega) (.slice (some ⟨g5, 0, none⟩) n cv))
      refine hK.out _ _ HS8.out (fun hHeld => ?_)
      clear hK hHeld t0 t1 y0 y1
      obtain ⟨w8, hw8⟩ : ∃ w8, w8 = (w7.setCell ⟨bb, 0, none⟩ (.slice p1 n1 c1)).setCell ⟨bb, 1, none⟩ (.slice (some ⟨g5, 0, none⟩) n cv) := ⟨_, rfl⟩
      rw [← hw8] at HX8 HO8 HS8 HG8 HR8 HB8
      rw [← hw8]
      clear hw8 HX7 HO7 HS7 HG7 HR7 HB7
      try simp only [Act.put, List.setIfInBounds_toArray, List.set_cons_zero, List.set_cons_succ]
      refine wpAnyH_done (by kernel_rfl) ?_ _
      have HG5 : Hid (g5 ≠ bb ∧ w1.heap.size ≤ g5 ∧ w1.heap.size ≤ bb) := hid ⟨fun e => HNE.out (by rw [e]; rfl), HGE.out, HBB.out⟩
      obtain ⟨u3, hu3⟩ := HGT.out (i * 5 + 3) (by omega)
      obtain ⟨u4, hu4⟩ := HGT.out (i * 5 + 4) (by omega)
      have k3 := (HO8.out.cellAt (i * 5 + 3) (by omega)).trans hu3
      have k4 := (HO8.out.cellAt (i * 5 + 4) (by omega)).trans hu4
      have f3 := HO8.out.frozenAt (i * 5 + 3)
      have f4 := HO8.out.frozenAt (i * 5 + 4)
      have HO9 := hid (((HO8.out.stored (i * 5 + 3) (.int .i64 lo)).1.stored (i * 5 + 4) (.int .i64 hi)).1)
      have HX9 := hid ((HX8.out.setOther (k := g5) (i * 5 + 3) (.int .i64 lo) (Ne.symm HG5.out.1)).setOther (k := g5) (i * 5 + 4) (.int .i64 hi) (Ne.symm HG5.out.1))
      have HR9 := hid ((HR8.out.setOther (k := g5) (i * 5 + 3) (.int .i64 lo) (by have := HG5.out; omega)).setOther (k := g5) (i * 5 + 4) (.int .i64 hi) (by have := HG5.out; omega))
      have d1 := HX8.out.cell (i := 1) rfl
      have e0 := HG8.out.cell (i := 0) rfl
      have e1 := HG8.out.cell (i := 1) rfl
      have x0 := HX9.out.cell (i := 0) rfl
      have x1 := HX9.out.cell (i := 1) rfl
      have r0 := HR9.out.cell (i := 0) rfl
      have r1 := HR9.out.cell (i := 1) rfl
      have z0 := HR9.out.froz 0
      have z1 := HR9.out.froz 1
      clear hu3 hu4
      go_wp2_with fail
      have HE := hid (HO9.out)
      rw [HWF.out] at HE
      have HF : Hid (World.ownsRow ((((w8.setCell ⟨g5, i * 5 + 3, none⟩ (.int .i64 lo)).setCell ⟨g5, i * 5 + 4, none⟩ (.int .i64 hi)).setCell ⟨W.heap.size + 1 + 1, 0, none⟩ (.slice p1 n1 c1)).setCell ⟨W.heap.size + 1 + 1, 1, none⟩ (.slice (some ⟨g5, 0, none⟩) n cv)) W.heap.size 59 5 (.slice (some ⟨g5, 0, none⟩) n cv) n ((T.set i ⟨t.id, t.src, t.dst, lo, hi⟩).flatMap tkC)) := hid (own_set (own_set (HE.out.mono (by omega)) (fun k hk => by have h1 : g5 = k := Option.some.inj hk; have := HG5.out; omega)) (fun k hk => by have h1 : g5 = k := Option.some.inj hk; have := HG5.out; omega))
      have HBE : Hid (Below W.heap.size W ((((w8.setCell ⟨g5, i * 5 + 3, none⟩ (.int .i64 lo)).setCell ⟨g5, i * 5 + 4, none⟩ (.int .i64 hi)).setCell ⟨W.heap.size + 1 + 1, 0, none⟩ (.slice p1 n1 c1)).setCell ⟨W.heap.size + 1 + 1, 1, none⟩ (.slice (some ⟨g5, 0, none⟩) n cv))) := hid ((((HB8.out.setCell (p := ⟨g5, i * 5 + 3, none⟩) (show W.heap.size ≤ g5 by have := HG5.out; omega) _).setCell (p := ⟨g5, i * 5 + 4, none⟩) (show W.heap.size ≤ g5 by have := HG5.out; omega) _).setCell (p := ⟨W.heap.size + 1 + 1, 0, none⟩) (by simp; omega) _).setCell (p := ⟨W.heap.size + 1 + 1, 1, none⟩) (by simp; omega) _)
      have HRF := hid ((HR9.out.set 0 (.slice p1 n1 c1)).set 1 (.slice (some ⟨g5, 0, none⟩) n cv))
      refine bodyPost_ret (v := .agg #[.slice p1 n1 c1, .slice (some ⟨g5, 0, none⟩) n cv]) ?_ rfl ⟨_, rfl, HF.out, HBE.out⟩
      have l1 : (loadVar 25 ⟨W.heap.size + 1 + 1, 0, none⟩).run Try.prog ((((w8.setCell ⟨g5, i * 5 + 3, none⟩ (.int .i64 lo)).setCell ⟨g5, i * 5 + 4, none⟩ (.int .i64 hi)).setCell ⟨W.heap.size + 1 + 1, 0, none⟩ (.slice p1 n1 c1)).setCell ⟨W.heap.size + 1 + 1, 1, none⟩ (.slice (some ⟨g5, 0, none⟩) n cv)) = .ok (.agg #[.slice p1 n1 c1, .slice (some ⟨g5, 0, none⟩) n cv]) _ :=
        run_loadVar_row _ (W.heap.size + 1 + 1) 25 25 _ (0, 0) (.struct (Try.prog.fieldsOf 25)) HRF.out (by kernel_rfl) rfl (by kernel_rfl)
      simp [results, Try.results41, asAddr, Act.put, l1]
    · go_simp
      have HOWB : Hid (((w1.alloc (.cells #[] 59)).alloc (.cells #[.slice none 0 0, .slice none 0 0] 25)).ownsRow w1.heap.size 59 5 (.slice (some ⟨w1.heap.size, 0, none⟩) 0 0) 0 []) := hid (World.ownsRow.alloc (World.ownsRow_made w1 #[] 0 (Nat.le_refl _) (Nat.zero_le _) rfl) _)
      obtain ⟨w4, hw4⟩ : ∃ w4, w4 = ((w1.alloc (.cells #[] 59)).alloc (.cells #[.slice none 0 0, .slice none 0 0] 25)).drew := ⟨_, rfl⟩
      have HS2 : Hid (Blk w4 W.heap.size #[.slice p1 n1 c1, .slice (some ⟨g, o, none⟩) n c2] 25) := hid (by rw [hw4]; exact ((HBL.out.alloc _).alloc _).drew)
      have HG2 : Hid (Blk w4 (W.heap.size + 1) #[.int .i64 lo, .int .i64 hi] 38) := hid (by rw [hw4]; exact ((HGL.out.alloc _).alloc _).drew)
      have HR2 : Hid (Blk w4 (W.heap.size + 1 + 1) #[.slice none 0 0, .slice none 0 0] 25) := hid (by rw [hw4]; exact ((HRL.out.alloc _).alloc _).drew)
      have HBc : Hid (Below W.heap.size W w4) := hid (by rw [hw4]; exact ((HB1.out.alloc HB1.out.size _).alloc (by rw [World.size_alloc]; have := HB1.out.size; omega) _).drew)
      have hz4 : w4.heap.size = w1.heap.size + 1 + 1 := by rw [hw4]; show ((w1.alloc _).alloc _).heap.size = _; rw [World.size_alloc, World.size_alloc]
      have HX2 : Hid (Blk w4 (w1.heap.size + 1) #[.slice none 0 0, .slice none 0 0] 25) := hid (by rw [hw4]; exact (Blk_newn _ _ _ (by rw [World.size_alloc])).drew)
      have HOW2 : Hid (w4.ownsRow w1.heap.size 59 5 (.slice (some ⟨w1.heap.size, 0, none⟩) 0 0) 0 []) := hid (by rw [hw4]; exact HOWB.out)
      rw [← hw4]
      refine hK.out _ _ HS2.out (fun hHeld => ?_)
      clear hK hHeld hw4
      try simp only [Act.put, List.setIfInBounds_toArray, List.set_cons_zero, List.set_cons_succ]
      refine wpAnyH_ready (rs := [5]) (by kernel_rfl) (by simp) ?_
      refine AllReadyH.cons rfl (fun K hK => ?_) AllReadyH.nil
      refine step_app_tk (by rfl) _ _ (by rfl) _ w1.heap.size (.slice (some ⟨w1.heap.size, 0, none⟩) 0 0) T g o c2 (by rfl) (HOW2.out) (by first | omega | (simp; (try omega))) (by rw [← HN.out]; rfl) (HC.out _ HBc.out) (by rw [← HN.out]; exact h1) ?_
      intro v5 w5 ho hb hk hsz
      rw [← HN.out] at ho
      obtain ⟨g5, cv, rfl, hg5⟩ := row_some ho (by omega)
      have HGE : Hid (w1.heap.size ≤ g5) := hid hg5
      clear hg5
      have HO5 := hid ho
      have HB5 := hid (HBc.out.trans (hb.mono (by omega)))
      have HS5 : Hid (Blk w5 W.heap.size #[.slice p1 n1 c1, .slice (some ⟨g, o, none⟩) n c2] 25) := hid ((hk _ HS2.out.lt (by simp [Value.ownBlock]; omega)).trans HS2.out)
      have HG5' : Hid (Blk w5 (W.heap.size + 1) #[.int .i64 lo, .int .i64 hi] 38) := hid ((hk _ HG2.out.lt (by simp [Value.ownBlock]; omega)).trans HG2.out)
      have HR5' : Hid (Blk w5 (W.heap.size + 1 + 1) #[.slice none 0 0, .slice none 0 0] 25) := hid ((hk _ HR2.out.lt (by simp [Value.ownBlock]; omega)).trans HR2.out)
      have HSZ : Hid (w1.heap.size + 1 ≤ w5.heap.size) := hid (by (try simp at hsz); omega)
      have HX5 : Hid (Blk w5 (w1.heap.size + 1) #[.slice none 0 0, .slice none 0 0] 25) := hid ((hk _ HX2.out.lt (by simp only [Value.ownBlock]; intro e; have := Option.some.inj e; omega)).trans HX2.out)
      clear ho hb hk hsz
      go_simp
      refine hK.out _ _ HS5.out (fun hHeld => ?_)
      clear hK hHeld
      try simp only [Act.put, List.setIfInBounds_toArray, List.set_cons_zero, List.set_cons_succ]
      refine' tkw 6 (v := .agg #[.slice p1 n1 c1, (.slice (some ⟨g5, 0, none⟩) n cv)]) rfl (by kernel_rfl) (by kernel_rfl) HS5.out (fun _ _ _ h => h) (fun w' hS => by clear hS; go_simp; (try with_reducible rfl)) ?_
      try simp only [Act.put, List.setIfInBounds_toArray, List.set_cons_zero, List.set_cons_succ]
      refine wpAnyH_ready (rs := [8]) (by kernel_rfl) (by simp) ?_
      refine AllReadyH.cons rfl (fun K hK => ?_) AllReadyH.nil
      have HX7 := HX5
      have HBB : Hid (w1.heap.size ≤ (w1.heap.size + 1)) := hid (by omega)
      have HO7 := HO5
      have HS7 := HS5
      have HG7 := HG5'
      have HR7 := HR5'
      have HB7 := HB5
      have HNE : Hid (Value.ownBlock (.slice (some ⟨g5, 0, none⟩) n cv) ≠ some (w1.heap.size + 1)) := hid (fun e => row_blk HO5.out (by omega) HX5.out (by decide) (Option.some.inj e))
      obtain ⟨w7, hw7⟩ : ∃ w7, w7 = w5 := ⟨_, rfl⟩
      subst hw7
      have t0 := HX7.out.cell (i := 0) rfl
      have t1 := HX7.out.cell (i := 1) rfl
      have y0 := HX7.out.froz 0
      have y1 := HX7.out.froz 1
      go_simp
      have HX8 := hid ((HX7.out.set 0 (.slice p1 n1 c1)).set 1 (.slice (some ⟨g5, 0, none⟩) n cv))
      have HO8 := hid (own_set (own_set HO7.out (a := (w1.heap.size + 1)) (j := 0) (u := .slice p1 n1 c1) (fun k hk e => HNE.out (by rw [← e]; exact hk))) (a := (w1.heap.size + 1)) (j := 1) (u := (.slice (some ⟨g5, 0, none⟩) n cv)) (fun k hk e => HNE.out (by rw [← e]; exact hk)))
      have HS8 := hid ((HS7.out.setOther (k := (w1.heap.size + 1)) 0 (.slice p1 n1 c1) (by have := HBB.out; omega)).setOther (k := (w1.heap.size + 1)) 1 (.slice (some ⟨g5, 0, none⟩) n cv) (by have := HBB.out; omega))
      have HG8 := hid ((HG7.out.setOther (k := (w1.heap.size + 1)) 0 (.slice p1 n1 c1) (by have := HBB.out; omega)).setOther (k := (w1.heap.size + 1)) 1 (.slice (some ⟨g5, 0, none⟩) n cv) (by have := HBB.out; omega))
      have HR8 := hid ((HR7.out.setOther (k := (w1.heap.size + 1)) 0 (.slice p1 n1 c1) (by have := HBB.out; omega)).setOther (k := (w1.heap.size + 1)) 1 (.slice (some ⟨g5, 0, none⟩) n cv) (by have := HBB.out; omega))
      have HB8 := hid ((HB7.out.setCell (p := ⟨(w1.heap.size + 1), 0, none⟩) (by have := HBB.out; simp; omega) (.slice p1 n1 c1)).setCell (p := ⟨(w1.heap.size + 1), 1, none⟩) (by have := HBB.out; simp; omega) (.slice (some ⟨g5, 0, none⟩) n cv))
      refine hK.out _ _ HS8.out (fun hHeld => ?_)
      clear hK hHeld t0 t1 y0 y1
      obtain ⟨w8, hw8⟩ : ∃ w8, w8 = (w7.setCell ⟨(w1.heap.size + 1), 0, none⟩ (.slice p1 n1 c1)).setCell ⟨(w1.heap.size + 1), 1, none⟩ (.slice (some ⟨g5, 0, none⟩) n cv) := ⟨_, rfl⟩
      rw [← hw8] at HX8 HO8 HS8 HG8 HR8 HB8
      rw [← hw8]
      clear hw8 HX7 HO7 HS7 HG7 HR7 HB7
      try simp only [Act.put, List.setIfInBounds_toArray, List.set_cons_zero, List.set_cons_succ]
      refine wpAnyH_done (by kernel_rfl) ?_ _
      have HG5 : Hid (g5 ≠ (w1.heap.size + 1) ∧ w1.heap.size ≤ g5 ∧ w1.heap.size ≤ (w1.heap.size + 1)) := hid ⟨fun e => HNE.out (by rw [e]; rfl), HGE.out, HBB.out⟩
      obtain ⟨u3, hu3⟩ := HGT.out (i * 5 + 3) (by omega)
      obtain ⟨u4, hu4⟩ := HGT.out (i * 5 + 4) (by omega)
      have k3 := (HO8.out.cellAt (i * 5 + 3) (by omega)).trans hu3
      have k4 := (HO8.out.cellAt (i * 5 + 4) (by omega)).trans hu4
      have f3 := HO8.out.frozenAt (i * 5 + 3)
      have f4 := HO8.out.frozenAt (i * 5 + 4)
      have HO9 := hid (((HO8.out.stored (i * 5 + 3) (.int .i64 lo)).1.stored (i * 5 + 4) (.int .i64 hi)).1)
      have HX9 := hid ((HX8.out.setOther (k := g5) (i * 5 + 3) (.int .i64 lo) (Ne.symm HG5.out.1)).setOther (k := g5) (i * 5 + 4) (.int .i64 hi) (Ne.symm HG5.out.1))
      have HR9 := hid ((HR8.out.setOther (k := g5) (i * 5 + 3) (.int .i64 lo) (by have := HG5.out; omega)).setOther (k := g5) (i * 5 + 4) (.int .i64 hi) (by have := HG5.out; omega))
      have d1 := HX8.out.cell (i := 1) rfl
      have e0 := HG8.out.cell (i := 0) rfl
      have e1 := HG8.out.cell (i := 1) rfl
      have x0 := HX9.out.cell (i := 0) rfl
      have x1 := HX9.out.cell (i := 1) rfl
      have r0 := HR9.out.cell (i := 0) rfl
      have r1 := HR9.out.cell (i := 1) rfl
      have z0 := HR9.out.froz 0
      have z1 := HR9.out.froz 1
      clear hu3 hu4
      go_wp2_with fail
      have HE := hid (HO9.out)
      rw [HWF.out] at HE
      have HF : Hid (World.ownsRow ((((w8.setCell ⟨g5, i * 5 + 3, none⟩ (.int .i64 lo)).setCell ⟨g5, i * 5 + 4, none⟩ (.int .i64 hi)).setCell ⟨W.heap.size + 1 + 1, 0, none⟩ (.slice p1 n1 c1)).setCell ⟨W.heap.size + 1 + 1, 1, none⟩ (.slice (some ⟨g5, 0, none⟩) n cv)) W.heap.size 59 5 (.slice (some ⟨g5, 0, none⟩) n cv) n ((T.set i ⟨t.id, t.src, t.dst, lo, hi⟩).flatMap tkC)) := hid (own_set (own_set (HE.out.mono (by omega)) (fun k hk => by have h1 : g5 = k := Option.some.inj hk; have := HG5.out; omega)) (fun k hk => by have h1 : g5 = k := Option.some.inj hk; have := HG5.out; omega))
      have HBE : Hid (Below W.heap.size W ((((w8.setCell ⟨g5, i * 5 + 3, none⟩ (.int .i64 lo)).setCell ⟨g5, i * 5 + 4, none⟩ (.int .i64 hi)).setCell ⟨W.heap.size + 1 + 1, 0, none⟩ (.slice p1 n1 c1)).setCell ⟨W.heap.size + 1 + 1, 1, none⟩ (.slice (some ⟨g5, 0, none⟩) n cv))) := hid ((((HB8.out.setCell (p := ⟨g5, i * 5 + 3, none⟩) (show W.heap.size ≤ g5 by have := HG5.out; omega) _).setCell (p := ⟨g5, i * 5 + 4, none⟩) (show W.heap.size ≤ g5 by have := HG5.out; omega) _).setCell (p := ⟨W.heap.size + 1 + 1, 0, none⟩) (by simp; omega) _).setCell (p := ⟨W.heap.size + 1 + 1, 1, none⟩) (by simp; omega) _)
      have HRF := hid ((HR9.out.set 0 (.slice p1 n1 c1)).set 1 (.slice (some ⟨g5, 0, none⟩) n cv))
      refine bodyPost_ret (v := .agg #[.slice p1 n1 c1, .slice (some ⟨g5, 0, none⟩) n cv]) ?_ rfl ⟨_, rfl, HF.out, HBE.out⟩
      have l1 : (loadVar 25 ⟨W.heap.size + 1 + 1, 0, none⟩).run Try.prog ((((w8.setCell ⟨g5, i * 5 + 3, none⟩ (.int .i64 lo)).setCell ⟨g5, i * 5 + 4, none⟩ (.int .i64 hi)).setCell ⟨W.heap.size + 1 + 1, 0, none⟩ (.slice p1 n1 c1)).setCell ⟨W.heap.size + 1 + 1, 1, none⟩ (.slice (some ⟨g5, 0, none⟩) n cv)) = .ok (.agg #[.slice p1 n1 c1, .slice (some ⟨g5, 0, none⟩) n cv]) _ :=
        run_loadVar_row _ (W.heap.size + 1 + 1) 25 25 _ (0, 0) (.struct (Try.prog.fieldsOf 25)) HRF.out (by kernel_rfl) rfl (by kernel_rfl)
      simp [results, Try.results41, asAddr, Act.put, l1]
  · go_simp
    refine hK.out _ _ (HS.out.alloc _) (fun hHeld => ?_)
    clear hK hHeld
    try simp only [Act.put, List.setIfInBounds_toArray, List.set_cons_zero, List.set_cons_succ]
    refine wpAnyH_ready (rs := [2]) (by kernel_rfl) (by simp) ?_
    refine AllReadyH.cons rfl (fun K hK => ?_) AllReadyH.nil
    go_simp
    have HOWC : Hid (((w1.alloc (.cells #[.slice none 0 0, .slice none 0 0] 25)).alloc (.cells #[] 59)).ownsRow w1.heap.size 59 5 (.slice (some ⟨w1.heap.size + 1, 0, none⟩) 0 0) 0 []) := hid (by have h := World.ownsRow_made (e := 59) (size := 5) (w1.alloc (.cells #[.slice none 0 0, .slice none 0 0] 25)) #[] 0 (Nat.le_refl _) (Nat.zero_le _) rfl; rw [World.size_alloc] at h; exact h.mono (Nat.le_succ _))
    obtain ⟨w4, hw4⟩ : ∃ w4, w4 = ((w1.alloc (.cells #[.slice none 0 0, .slice none 0 0] 25)).alloc (.cells #[] 59)).drew := ⟨_, rfl⟩
    have HS2 : Hid (Blk w4 W.heap.size #[.slice p1 n1 c1, .slice (some ⟨g, o, none⟩) n c2] 25) := hid (by rw [hw4]; exact ((HBL.out.alloc _).alloc _).drew)
    have HG2 : Hid (Blk w4 (W.heap.size + 1) #[.int .i64 lo, .int .i64 hi] 38) := hid (by rw [hw4]; exact ((HGL.out.alloc _).alloc _).drew)
    have HR2 : Hid (Blk w4 (W.heap.size + 1 + 1) #[.slice none 0 0, .slice none 0 0] 25) := hid (by rw [hw4]; exact ((HRL.out.alloc _).alloc _).drew)
    have HBc : Hid (Below W.heap.size W w4) := hid (by rw [hw4]; exact ((HB1.out.alloc HB1.out.size _).alloc (by rw [World.size_alloc]; have := HB1.out.size; omega) _).drew)
    have hz4 : w4.heap.size = w1.heap.size + 1 + 1 := by rw [hw4]; show ((w1.alloc _).alloc _).heap.size = _; rw [World.size_alloc, World.size_alloc]
    have HX2 : Hid (Blk w4 w1.heap.size #[.slice none 0 0, .slice none 0 0] 25) := hid (by rw [hw4]; exact ((Blk_newn _ _ _ rfl).alloc _).drew)
    have HOW2 : Hid (w4.ownsRow w1.heap.size 59 5 (.slice (some ⟨w1.heap.size + 1, 0, none⟩) 0 0) 0 []) := hid (by rw [hw4]; exact HOWC.out)
    rw [← hw4]
    refine hK.out _ _ HS2.out (fun hHeld => ?_)
    clear hK hHeld hw4
    try simp only [Act.put, List.setIfInBounds_toArray, List.set_cons_zero, List.set_cons_succ]
    refine wpAnyH_ready (rs := [5]) (by kernel_rfl) (by simp) ?_
    refine AllReadyH.cons rfl (fun K hK => ?_) AllReadyH.nil
    refine step_app_tk (by rfl) _ _ (by rfl) _ w1.heap.size (.slice (some ⟨w1.heap.size + 1, 0, none⟩) 0 0) T g o c2 (by rfl) (HOW2.out) (by first | omega | (simp; (try omega))) (by rw [← HN.out]; rfl) (HC.out _ HBc.out) (by rw [← HN.out]; exact h1) ?_
    intro v5 w5 ho hb hk hsz
    rw [← HN.out] at ho
    obtain ⟨g5, cv, rfl, hg5⟩ := row_some ho (by omega)
    have HGE : Hid (w1.heap.size ≤ g5) := hid hg5
    clear hg5
    have HO5 := hid ho
    have HB5 := hid (HBc.out.trans (hb.mono (by omega)))
    have HS5 : Hid (Blk w5 W.heap.size #[.slice p1 n1 c1, .slice (some ⟨g, o, none⟩) n c2] 25) := hid ((hk _ HS2.out.lt (by simp [Value.ownBlock]; omega)).trans HS2.out)
    have HG5' : Hid (Blk w5 (W.heap.size + 1) #[.int .i64 lo, .int .i64 hi] 38) := hid ((hk _ HG2.out.lt (by simp [Value.ownBlock]; omega)).trans HG2.out)
    have HR5' : Hid (Blk w5 (W.heap.size + 1 + 1) #[.slice none 0 0, .slice none 0 0] 25) := hid ((hk _ HR2.out.lt (by simp [Value.ownBlock]; omega)).trans HR2.out)
    have HSZ : Hid (w1.heap.size + 1 ≤ w5.heap.size) := hid (by (try simp at hsz); omega)
    have HX5 : Hid (Blk w5 w1.heap.size #[.slice none 0 0, .slice none 0 0] 25) := hid ((hk _ HX2.out.lt (by simp only [Value.ownBlock]; intro e; have := Option.some.inj e; omega)).trans HX2.out)
    clear ho hb hk hsz
    go_simp
    refine hK.out _ _ HS5.out (fun hHeld => ?_)
    clear hK hHeld
    try simp only [Act.put, List.setIfInBounds_toArray, List.set_cons_zero, List.set_cons_succ]
    refine' tkw 6 (v := .agg #[.slice p1 n1 c1, (.slice (some ⟨g5, 0, none⟩) n cv)]) rfl (by kernel_rfl) (by kernel_rfl) HS5.out (fun _ _ _ h => h) (fun w' hS => by clear hS; go_simp; (try with_reducible rfl)) ?_
    try simp only [Act.put, List.setIfInBounds_toArray, List.set_cons_zero, List.set_cons_succ]
    refine wpAnyH_ready (rs := [8]) (by kernel_rfl) (by simp) ?_
    refine AllReadyH.cons rfl (fun K hK => ?_) AllReadyH.nil
    have HX7 := HX5
    have HBB : Hid (w1.heap.size ≤ w1.heap.size) := hid (by omega)
    have HO7 := HO5
    have HS7 := HS5
    have HG7 := HG5'
    have HR7 := HR5'
    have HB7 := HB5
    have HNE : Hid (Value.ownBlock (.slice (some ⟨g5, 0, none⟩) n cv) ≠ some w1.heap.size) := hid (fun e => row_blk HO5.out (by omega) HX5.out (by decide) (Option.some.inj e))
    obtain ⟨w7, hw7⟩ : ∃ w7, w7 = w5 := ⟨_, rfl⟩
    subst hw7
    have t0 := HX7.out.cell (i := 0) rfl
    have t1 := HX7.out.cell (i := 1) rfl
    have y0 := HX7.out.froz 0
    have y1 := HX7.out.froz 1
    go_simp
    have HX8 := hid ((HX7.out.set 0 (.slice p1 n1 c1)).set 1 (.slice (some ⟨g5, 0, none⟩) n cv))
    have HO8 := hid (own_set (own_set HO7.out (a := w1.heap.size) (j := 0) (u := .slice p1 n1 c1) (fun k hk e => HNE.out (by rw [← e]; exact hk))) (a := w1.heap.size) (j := 1) (u := (.slice (some ⟨g5, 0, none⟩) n cv)) (fun k hk e => HNE.out (by rw [← e]; exact hk)))
    have HS8 := hid ((HS7.out.setOther (k := w1.heap.size) 0 (.slice p1 n1 c1) (by have := HBB.out; omega)).setOther (k := w1.heap.size) 1 (.slice (some ⟨g5, 0, none⟩) n cv) (by have := HBB.out; omega))
    have HG8 := hid ((HG7.out.setOther (k := w1.heap.size) 0 (.slice p1 n1 c1) (by have := HBB.out; omega)).setOther (k := w1.heap.size) 1 (.slice (some ⟨g5, 0, none⟩) n cv) (by have := HBB.out; omega))
    have HR8 := hid ((HR7.out.setOther (k := w1.heap.size) 0 (.slice p1 n1 c1) (by have := HBB.out; omega)).setOther (k := w1.heap.size) 1 (.slice (some ⟨g5, 0, none⟩) n cv) (by have := HBB.out; omega))
    have HB8 := hid ((HB7.out.setCell (p := ⟨w1.heap.size, 0, none⟩) (by have := HBB.out; simp; omega) (.slice p1 n1 c1)).setCell (p := ⟨w1.heap.size, 1, none⟩) (by have := HBB.out; simp; omega) (.slice (some ⟨g5, 0, none⟩) n cv))
    refine hK.out _ _ HS8.out (fun hHeld => ?_)
    clear hK hHeld t0 t1 y0 y1
    obtain ⟨w8, hw8⟩ : ∃ w8, w8 = (w7.setCell ⟨w1.heap.size, 0, none⟩ (.slice p1 n1 c1)).setCell ⟨w1.heap.size, 1, none⟩ (.slice (some ⟨g5, 0, none⟩) n cv) := ⟨_, rfl⟩
    rw [← hw8] at HX8 HO8 HS8 HG8 HR8 HB8
    rw [← hw8]
    clear hw8 HX7 HO7 HS7 HG7 HR7 HB7
    try simp only [Act.put, List.setIfInBounds_toArray, List.set_cons_zero, List.set_cons_succ]
    refine wpAnyH_done (by kernel_rfl) ?_ _
    have HG5 : Hid (g5 ≠ w1.heap.size ∧ w1.heap.size ≤ g5 ∧ w1.heap.size ≤ w1.heap.size) := hid ⟨fun e => HNE.out (by rw [e]; rfl), HGE.out, HBB.out⟩
    obtain ⟨u3, hu3⟩ := HGT.out (i * 5 + 3) (by omega)
    obtain ⟨u4, hu4⟩ := HGT.out (i * 5 + 4) (by omega)
    have k3 := (HO8.out.cellAt (i * 5 + 3) (by omega)).trans hu3
    have k4 := (HO8.out.cellAt (i * 5 + 4) (by omega)).trans hu4
    have f3 := HO8.out.frozenAt (i * 5 + 3)
    have f4 := HO8.out.frozenAt (i * 5 + 4)
    have HO9 := hid (((HO8.out.stored (i * 5 + 3) (.int .i64 lo)).1.stored (i * 5 + 4) (.int .i64 hi)).1)
    have HX9 := hid ((HX8.out.setOther (k := g5) (i * 5 + 3) (.int .i64 lo) (Ne.symm HG5.out.1)).setOther (k := g5) (i * 5 + 4) (.int .i64 hi) (Ne.symm HG5.out.1))
    have HR9 := hid ((HR8.out.setOther (k := g5) (i * 5 + 3) (.int .i64 lo) (by have := HG5.out; omega)).setOther (k := g5) (i * 5 + 4) (.int .i64 hi) (by have := HG5.out; omega))
    have d1 := HX8.out.cell (i := 1) rfl
    have e0 := HG8.out.cell (i := 0) rfl
    have e1 := HG8.out.cell (i := 1) rfl
    have x0 := HX9.out.cell (i := 0) rfl
    have x1 := HX9.out.cell (i := 1) rfl
    have r0 := HR9.out.cell (i := 0) rfl
    have r1 := HR9.out.cell (i := 1) rfl
    have z0 := HR9.out.froz 0
    have z1 := HR9.out.froz 1
    clear hu3 hu4
    go_wp2_with fail
    have HE := hid (HO9.out)
    rw [HWF.out] at HE
    have HF : Hid (World.ownsRow ((((w8.setCell ⟨g5, i * 5 + 3, none⟩ (.int .i64 lo)).setCell ⟨g5, i * 5 + 4, none⟩ (.int .i64 hi)).setCell ⟨W.heap.size + 1 + 1, 0, none⟩ (.slice p1 n1 c1)).setCell ⟨W.heap.size + 1 + 1, 1, none⟩ (.slice (some ⟨g5, 0, none⟩) n cv)) W.heap.size 59 5 (.slice (some ⟨g5, 0, none⟩) n cv) n ((T.set i ⟨t.id, t.src, t.dst, lo, hi⟩).flatMap tkC)) := hid (own_set (own_set (HE.out.mono (by omega)) (fun k hk => by have h1 : g5 = k := Option.some.inj hk; have := HG5.out; omega)) (fun k hk => by have h1 : g5 = k := Option.some.inj hk; have := HG5.out; omega))
    have HBE : Hid (Below W.heap.size W ((((w8.setCell ⟨g5, i * 5 + 3, none⟩ (.int .i64 lo)).setCell ⟨g5, i * 5 + 4, none⟩ (.int .i64 hi)).setCell ⟨W.heap.size + 1 + 1, 0, none⟩ (.slice p1 n1 c1)).setCell ⟨W.heap.size + 1 + 1, 1, none⟩ (.slice (some ⟨g5, 0, none⟩) n cv))) := hid ((((HB8.out.setCell (p := ⟨g5, i * 5 + 3, none⟩) (show W.heap.size ≤ g5 by have := HG5.out; omega) _).setCell (p := ⟨g5, i * 5 + 4, none⟩) (show W.heap.size ≤ g5 by have := HG5.out; omega) _).setCell (p := ⟨W.heap.size + 1 + 1, 0, none⟩) (by simp; omega) _).setCell (p := ⟨W.heap.size + 1 + 1, 1, none⟩) (by simp; omega) _)
    have HRF := hid ((HR9.out.set 0 (.slice p1 n1 c1)).set 1 (.slice (some ⟨g5, 0, none⟩) n cv))
    refine bodyPost_ret (v := .agg #[.slice p1 n1 c1, .slice (some ⟨g5, 0, none⟩) n cv]) ?_ rfl ⟨_, rfl, HF.out, HBE.out⟩
    have l1 : (loadVar 25 ⟨W.heap.size + 1 + 1, 0, none⟩).run Try.prog ((((w8.setCell ⟨g5, i * 5 + 3, none⟩ (.int .i64 lo)).setCell ⟨g5, i * 5 + 4, none⟩ (.int .i64 hi)).setCell ⟨W.heap.size + 1 + 1, 0, none⟩ (.slice p1 n1 c1)).setCell ⟨W.heap.size + 1 + 1, 1, none⟩ (.slice (some ⟨g5, 0, none⟩) n cv)) = .ok (.agg #[.slice p1 n1 c1, .slice (some ⟨g5, 0, none⟩) n cv]) _ :=
      run_loadVar_row _ (W.heap.size + 1 + 1) 25 25 _ (0, 0) (.struct (Try.prog.fieldsOf 25)) HRF.out (by kernel_rfl) rfl (by kernel_rfl)
    simp [results, Try.results41, asAddr, Act.put, l1]
end Go.Proofs.Ytncnpodanlhdkaa
