/-
  balance: what each node has too much.
-/
import Derived.Test.YtncnpodanlhdkaaWEven
namespace Go.Proofs.Ytncnpodanlhdkaa
set_option linter.all false
open Go.RowKit

def balF : List Arc → List Int → Option (List Int)
  | [], b => some b
  | x :: L, b =>
    let u := b.getD x.src 0 - x.mass
    let v := (b.set x.src u).getD x.dst 0 + x.mass
    if (small u && small v) = true then balF L ((b.set x.src u).set x.dst v) else none
theorem bal_next {L : List Arc} {b r : List Int} {k : Nat} {x : Arc} (hx : L[k]? = some x) (h : balF (L.drop k) b = some r) :
    small (b.getD x.src 0 - x.mass) = true ∧ small ((b.set x.src (b.getD x.src 0 - x.mass)).getD x.dst 0 + x.mass) = true ∧
      balF (L.drop (k + 1)) ((b.set x.src (b.getD x.src 0 - x.mass)).set x.dst ((b.set x.src (b.getD x.src 0 - x.mass)).getD x.dst 0 + x.mass)) = some r := by
  have hk : k < L.length := (List.getElem?_eq_some_iff.1 hx).1
  have e : L[k] = x := (List.getElem?_eq_some_iff.1 hx).2
  rw [List.drop_eq_getElem_cons hk, e] at h
  unfold balF at h
  dsimp only at h
  split at h
  · rename_i hs
    rw [Bool.and_eq_true] at hs
    exact ⟨hs.1, hs.2, h⟩
  · cases h
theorem Blk_new01 (w : World) (cs : Array Value) (t : TypeId) (o : Obj) : Blk ((w.alloc (.cells cs t)).alloc o) w.heap.size cs t := (Blk.new _ _ _).alloc _
theorem Blk_new11 (w : World) (cs : Array Value) (t : TypeId) (o : Obj) : Blk ((w.alloc o).alloc (.cells cs t)) (w.heap.size + 1) cs t := by
  have h := Blk.new (w.alloc o) cs t
  rw [World.size_alloc] at h
  exact h

set_option maxRecDepth 100000 in
set_option maxHeartbeats 20000000 in
theorem balance_any (base a : Nat) (N : Net) (va : Value) (vs : List Value) (b : List Int) (w : World) (hnet : NetIn base w a N va vs) (hok : N.Ok) (hb : balF N.arcs noB = some b) :
    Calls Try.prog 86 #[.pointer (some ⟨a, 0, none⟩)] w fun e w' => e = .returned (.agg (ints b)) ∧ Below w.heap.size w w' := by
  have hz2 := (zero_of_info zero_bal).1
  obtain ⟨pp, c, rfl⟩ := row_slice hnet.arcs
  obtain ⟨n, hn⟩ : ∃ n, n = N.arcs.length := ⟨_, rfl⟩
  rw [← hn] at hnet
  have hr := Below.refl w.heap.size w
  have HBW := hid ((hr.alloc (Nat.le_refl _) (.cells (ints noB) 94)).alloc (by simp) (.cells (ints noB) 94))
  have hc0 : w.cell? ⟨a, 0, none⟩ = some (.slice pp n c) := hnet.blk.cell rfl
  have HLT := hid hnet.blk.lt
  have HC := hid ((World.cell?_of_block (a := ⟨a, 0, none⟩) (HBW.out.block a HLT.out)).trans hc0)
  have hcc := HC.out
  have HNET := hid hnet
  have HOK := hid hok
  have HB := hid hb
  have HN := hid hn
  clear hnet hok hb hr hn hc0
  have hfew : n ≤ 1000 := by rw [HN.out]; exact HOK.out.few
  go_enter Try.func86, Try.ntmps86
  go_wp2_with fail
  go_loopw [11] (fun i wr => ∃ k : Nat, k ≤ n ∧ i = .int .i64 k ∧ ∃ bk, Hid (balF (N.arcs.drop k) bk = some b) ∧ Hid (bk.length = 34) ∧ Hid (Blk wr w.heap.size (ints noB) 94) ∧ Hid (Blk wr (w.heap.size + 1) (ints bk) 94) ∧ Hid (Below w.heap.size w wr)) (fun i _ => n - (intOf i).toNat)
  case atStart => exact ⟨0, by omega, rfl, noB, HB, hid noB_len, hid (Blk_new01 _ _ _ _), hid (Blk_new11 _ _ _ _), HBW⟩
  case round =>
    obtain ⟨k, hk, rfl, bk, HBK, HLK, HB0, HB1, HBR⟩ := hrel
    by_cases hlt : k < n
    · obtain ⟨x, hx⟩ : ∃ x, N.arcs[k]? = some x := ⟨N.arcs[k]'(by rw [← HN.out]; exact hlt), List.getElem?_eq_getElem _⟩
      have HNR := HNET.out.later HBR.out
      obtain ⟨g, c', hva, _, _, _, x0, x1, x2, x3, x4, hf⟩ := HNR.arcAt hx
      obtain ⟨hxs, hxd, hlo, hhi, hl1, hh1⟩ := HOK.out.arc k x hx
      obtain ⟨hu, hv, hnext⟩ := bal_next hx HBK.out
      obtain ⟨u0, hu0⟩ : ∃ u0, bk[x.src]? = some u0 := ⟨bk[x.src]'(by rw [HLK.out]; exact hxs), List.getElem?_eq_getElem _⟩
      have eu : bk.getD x.src 0 = u0 := by rw [List.getD_eq_getElem?_getD, hu0]; rfl
      rw [eu] at hu hv hnext
      obtain ⟨v0, hv0⟩ : ∃ v0, (bk.set x.src (u0 - x.mass))[x.dst]? = some v0 := ⟨(bk.set x.src (u0 - x.mass))[x.dst]'(by rw [List.length_set, HLK.out]; exact hxd), List.getElem?_eq_getElem _⟩
      have ev : (bk.set x.src (u0 - x.mass)).getD x.dst 0 = v0 := by rw [List.getD_eq_getElem?_getD, hv0]; rfl
      rw [ev] at hv hnext
      clear eu ev
      have hub := small_iff.1 hu
      have hvb := small_iff.1 hv
      have e1 : pp = some ⟨g, 0, none⟩ := by
        injection hva
      subst e1
      obtain ⟨w6, hw6⟩ : ∃ w6, w6 = (wr.alloc (.cells #[.int .i64 x.low, .int .i64 x.high, .int .i64 x.src, .int .i64 x.dst, .int .i64 x.mass] 115)).drew := ⟨_, rfl⟩
      obtain ⟨w8, hw8⟩ : ∃ w8, w8 = (w6.setCell ⟨w.heap.size + 1, x.src, none⟩ (.int .i64 (u0 - x.mass))).drew := ⟨_, rfl⟩
      have hs1 := HB1.out.lt
      have hnew6 : Blk w6 wr.heap.size #[.int .i64 x.low, .int .i64 x.high, .int .i64 x.src, .int .i64 x.dst, .int .i64 x.mass] 115 := by rw [hw6]; exact (Blk.new wr _ _).drew
      have hB6 : Blk w6 (w.heap.size + 1) (ints bk) 94 := by rw [hw6]; exact (HB1.out.alloc _).drew
      have hB60 : Blk w6 w.heap.size (ints noB) 94 := by rw [hw6]; exact (HB0.out.alloc _).drew
      have hBe6 : Below w.heap.size w w6 := by rw [hw6]; exact (HBR.out.alloc HBR.out.size _).drew
      have hnew8 : Blk w8 wr.heap.size #[.int .i64 x.low, .int .i64 x.high, .int .i64 x.src, .int .i64 x.dst, .int .i64 x.mass] 115 := by rw [hw8]; exact (hnew6.setOther _ _ (by omega)).drew
      have hB8 : Blk w8 (w.heap.size + 1) (ints (bk.set x.src (u0 - x.mass))) 94 := by rw [hw8, ← ints_set]; exact (hB6.set _ _).drew
      have hB80 : Blk w8 w.heap.size (ints noB) 94 := by rw [hw8]; exact (hB60.setOther _ _ (by omega)).drew
      have hBe8 : Below w.heap.size w w8 := by rw [hw8]; exact (hBe6.setCell (p := ⟨w.heap.size + 1, x.src, none⟩) (by simp) _).drew
      have a2 := hnew6.cell (i := 2) rfl
      have a4 := hnew6.cell (i := 4) rfl
      have c3 := hnew8.cell (i := 3) rfl
      have c4 := hnew8.cell (i := 4) rfl
      have b6 := hB6.cell (ints_get hu0)
      have b8 := hB8.cell (ints_get hv0)
      have f6 := hB6.froz x.src
      have f8 := hB8.froz x.dst
      have HNEXT := hid hnext
      have HKN := hid hlt
      have HXI : Hid ((x.src : Int) < 34) := hid (by omega)
      have HDI : Hid ((x.dst : Int) < 34) := hid (by omega)
      have HLN := hid (show ((bk.set x.src (u0 - x.mass)).set x.dst (v0 + x.mass)).length = 34 by rw [List.length_set, List.length_set]; exact HLK.out)
      have HE1 := hid (hB80.setOther (k := w.heap.size + 1) x.dst (.int .i64 (v0 + x.mass)) (by omega))
      have HE2 : Hid (Blk (w8.setCell ⟨w.heap.size + 1, x.dst, none⟩ (.int .i64 (v0 + x.mass))) (w.heap.size + 1) (ints ((bk.set x.src (u0 - x.mass)).set x.dst (v0 + x.mass))) 94) := hid (by rw [← ints_set _ x.dst]; exact hB8.set _ _)
      have HE3 := hid (hBe8.setCell (p := ⟨w.heap.size + 1, x.dst, none⟩) (by simp) (.int .i64 (v0 + x.mass)))
      have hf0 := hf (k * 5)
      have hf1 := hf (k * 5 + 1)
      have hf2 := hf (k * 5 + 2)
      have hf3 := hf (k * 5 + 3)
      have hf4 := hf (k * 5 + 4)
      have HW6 := hid hw6
      have HW8 := hid hw8
      clear hx HNR hva hf hnext hu hv hu0 hv0 hw6 hw8 hnew6 hB6 hB60 hBe6 hnew8 hB8 hB80 hBe8 hs1
      go_wp2_with fail
      refine region_tail 8 (by kernel_rfl) (by kernel_rfl) ?_
      rw [← HW6.out]
      clear HW6 x0 x1 x2 x3 x4 hf0 hf1 hf2 hf3 hf4
      simp only [List.take_succ_cons, List.take_zero, List.drop_succ_cons, List.drop_zero]
      repeat still_step
      refine wpStill_step (fun K hK => ?_)
      go_simp
      rw [if_pos HXI.out]
      refine ⟨rfl, hK _ ?_⟩
      clear hK K
      repeat still_step
      refine wpStill_step (fun K hK => ?_)
      go_simp
      rw [if_pos HXI.out]
      refine ⟨rfl, hK _ ?_⟩
      clear hK K
      repeat still_step
      try refine wpStill_nil ?_
      go_wp2_with fail
      refine region_tail 8 (by kernel_rfl) (by kernel_rfl) ?_
      rw [← HW8.out]
      clear HW8 a2 a4 b6 f6
      simp only [List.take_succ_cons, List.take_zero, List.drop_succ_cons, List.drop_zero]
      repeat still_step
      refine wpStill_step (fun K hK => ?_)
      go_simp
      rw [if_pos HDI.out]
      refine ⟨rfl, hK _ ?_⟩
      clear hK K
      repeat still_step
      refine wpStill_step (fun K hK => ?_)
      go_simp
      rw [if_pos HDI.out]
      refine ⟨rfl, hK _ ?_⟩
      clear hK K
      repeat still_step
      try refine wpStill_nil ?_
      go_wp2_with fail
      go_roundw
      case rel => exact ⟨k + 1, by have := HKN.out; omega, by go_num, _, HNEXT, HLN, HE1, HE2, HE3⟩
      case measure => have := HKN.out; simp [intOf]; omega
    · obtain rfl : k = n := by omega
      have HBB : Hid (bk = b) := hid (by
        have h := HBK.out
        rw [List.drop_of_length_le (by rw [← HN.out]; omega)] at h
        exact Option.some.inj h)
      rw [HBB.out] at HB1 HLK
      clear hcc
      have HR := hid (run_bal _ (HB0.out.row (ints b)) HLK.out)
      have HE3 := hid (below_setRow HBR.out (g := w.heap.size) (by omega) (ints b))
      go_wp2_with (first | (with_reducible refine ld_bal _ rfl rfl ?e1 HB1.out HLK.out ?_) | (with_reducible refine st_bal _ _ rfl rfl ?e2 ?e3 HB0.out noB_len HLK.out ?_))
      case e1 => rfl
      refine bodyPost_ret (v := .agg (ints b)) ?_ rfl ⟨rfl, HE3.out⟩
      simp [results, Try.results86, asAddr, Act.put, HR.out]
end Go.Proofs.Ytncnpodanlhdkaa
