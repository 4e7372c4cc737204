/-
  CheckBook: the first error of a book.
-/
import Derived.Test.YtncnpodanlhdkaaWCheck
namespace Go.Proofs.Ytncnpodanlhdkaa
set_option linter.all false
open Go.RowKit

theorem nil_slc0 (w : World) (cs : List Value) : SlcIn w (.slice none 0 0) 0 cs := ⟨none, 0, rfl, Nat.le_refl _, Nat.zero_le _, .inl rfl⟩
theorem cells_new1 (w : World) (cs : List Value) (t : TypeId) : ∀ (j : Nat) (u : Value), cs[j]? = some u → (w.alloc (.cells cs.toArray t)).cell? ((⟨w.heap.size, 0, none⟩ : Addr).add j) = some u := fun j u hj => by
  rw [Addr.add_lit, Nat.zero_add]
  exact (Blk.new w cs.toArray t).cell (by simpa using hj)
theorem SlcIn.own {w : World} {base : Nat} {e : TypeId} {size : Nat} {v : Value} {n : Nat} {xs : List Value} (h : w.ownsRow base e size v n xs) : SlcIn w v n xs := by
  have ho := h
  obtain ⟨h1, ⟨rfl, rfl⟩ | ⟨g, cap, cur, rfl, h2, h3, h4, h5, h6⟩⟩ := h
  · exact nil_slc0 w xs
  · refine ⟨_, cap, rfl, h4, h5, .inr ⟨g, 0, rfl, fun j u hu => ?_⟩⟩
    have := ho.cells rfl j u hu
    rwa [Addr.add_lit] at this
theorem info_str9 : (Try.prog.info? 9).map (fun i => (i.zero, i.size, i.bytes)) = some (some (.string ⟨#[]⟩), 1, 16) := by kernel_rfl
theorem grown_base {W W' : World} {base : Nat} {v : Value} {n size : Nat} {e : TypeId} {xs : List Value} (ho : W.ownsRow base e size v n xs) (hg : W.grownBy W' v.ownBlock) (hb : base ≤ W.heap.size) : Below base W W' :=
  (Below.refl base W).grown hg hb (fun q hq => (ho.lt q hq).1)
theorem tks_next {n : Int} {ids : List ByteArray} {l : List Tk} {k : Nat} {t : Tk} (ht : l[k]? = some t) (he : tkErr ids n t = 0) : tksErr n ids (l.drop k) = tksErr n (ids ++ [t.id]) (l.drop (k + 1)) := by
  have hk := (List.getElem?_eq_some_iff.1 ht).1
  rw [List.drop_eq_getElem_cons hk, show l[k] = t from (List.getElem?_eq_some_iff.1 ht).2]
  conv => lhs; unfold tksErr
  rw [if_neg (by simpa using he)]
theorem tks_at {n : Int} {ids : List ByteArray} {l : List Tk} {k : Nat} {t : Tk} (ht : l[k]? = some t) (he : tkErr ids n t ≠ 0) : tksErr n ids (l.drop k) = tkErr ids n t := by
  have hk := (List.getElem?_eq_some_iff.1 ht).1
  rw [List.drop_eq_getElem_cons hk, show l[k] = t from (List.getElem?_eq_some_iff.1 ht).2]
  conv => lhs; unfold tksErr
  rw [if_pos he]

structure IdsAt (W w1 : World) (n : Int) (T : List Tk) (k : Nat) (wr : World) (v : Value) : Prop where
  ids : ∃ l : List ByteArray, l.length = k ∧ wr.ownsRow (W.heap.size + 1) 9 1 v k (l.map Value.string) ∧ tksErr n [] T = tksErr n l (T.drop k)
  old : Below (W.heap.size + 1) w1 wr

set_option maxRecDepth 100000 in
set_option maxHeartbeats 4000000 in
theorem book_any (S : List (Int × Int)) (T : List Tk) (v1 v2 : Value) (W : World) (hb : BookIn W v1 v2 S T) : Calls Try.prog 45 #[.agg #[v1, v2]] W (Ret (.int .i64 (bookErr S T)) W) := by
  obtain ⟨i0, g0, g1, g2, g3⟩ := info_parts info_str9
  have HI : Hid (Try.prog.info? 9 = some i0 ∧ i0.zero = some (.string ⟨#[]⟩) ∧ i0.size = 1 ∧ i0.bytes = 16) := hid ⟨g0, g1, g2, g3⟩
  obtain ⟨p2, c2, rfl, hm2⟩ := hb.tickets.shape
  obtain ⟨p1, c1, rfl, hm1⟩ := hb.stock.shape
  obtain ⟨nt, hnt⟩ : ∃ nt, nt = T.length := ⟨_, rfl⟩
  obtain ⟨ns, hns⟩ : ∃ ns, ns = S.length := ⟨_, rfl⟩
  obtain ⟨w1, hw1⟩ : ∃ w1, w1 = W.alloc (.cells #[.slice p1 ns c1, .slice p2 nt c2] 25) := ⟨_, rfl⟩
  have hb1 : Below W.heap.size W w1 := by rw [hw1]; exact below_new W _
  have hB1 : Blk w1 W.heap.size #[.slice p1 ns c1, .slice p2 nt c2] 25 := by rw [hw1]; exact Blk.new W _ _
  have hs1 : w1.heap.size = W.heap.size + 1 := by rw [hw1]; simp
  have hbk := hb.later hb1
  rw [← hnt, ← hns] at hbk ⊢
  have hm1' : ns ≤ 9223372036854775807 := by unfold maxLen at hm1; omega
  have hm2' : nt ≤ 9223372036854775807 := by unfold maxLen at hm2; omega
  have HC := hid (each_range S (.slice p1 ns c1) w1 hbk.stock)
  have HBK := hid hbk
  have HB1 := hid hb1
  have HBL := hid hB1
  have HS1 := hid hs1
  have HW1 := hid hw1
  have HNT := hid hnt
  have HNS := hid hns
  have q0 := hB1.cell (i := 0) rfl
  have q1 := hB1.cell (i := 1) rfl
  have HBE : Hid (bookErr S T = if 32 < ns then 5 else if eachErr rangeErr S ≠ 0 then eachErr rangeErr S else if 128 < nt then 5 else tksErr ns [] T) := hid (by rw [hnt, hns]; rfl)
  have hge : W.heap.size + 1 ≤ w1.heap.size := Nat.le_of_eq hs1.symm
  clear hw1 hb1 hB1 hs1 hb hbk hnt hns hm1 hm2 g0 g1 g2 g3
  by_cases h1 : 32 < ns
  · have HE : Hid (bookErr S T = 5) := hid (by rw [HBE.out, if_pos h1])
    go_enter Try.func45, Try.ntmps45
    go_wp2_with (rw [← HW1.out])
    go_ret
    exact ⟨by rw [HE.out]; rfl, HB1.out⟩
  obtain ⟨x, hx⟩ : ∃ x, x = eachErr rangeErr S := ⟨_, rfl⟩
  rw [← hx] at HC HBE
  clear hx
  by_cases h2 : x = 0
  · subst h2
    by_cases h3 : 128 < nt
    · have HE : Hid (bookErr S T = 5) := hid (by rw [HBE.out, if_neg h1, if_neg (by simp), if_pos h3])
      go_enter Try.func45, Try.ntmps45
      go_wp2_with (first | (rw [← HW1.out]) | (go_at_call 69; (with_reducible refine HC.out.mono ?_); rintro e w2 ⟨rfl, hb⟩; have HB2 := hid (HB1.out.trans (hb.mono (by omega))); have d1 := (HBL.out.later hb HBL.out.lt).cell (i := 1) rfl; have d0 := (HBL.out.later hb HBL.out.lt).cell (i := 0) rfl; clear hb))
      go_ret
      exact ⟨by rw [HE.out]; rfl, HB2.out⟩
    · have HE : Hid (bookErr S T = tksErr ns [] T) := hid (by rw [HBE.out, if_neg h1, if_neg (by simp), if_neg h3])
      have h1' : ns ≤ 32 := by omega
      have h3' : nt ≤ 128 := by omega
      go_enter Try.func45, Try.ntmps45
      go_wp2_with (first | (rw [← HW1.out]) | (go_at_call 69; (with_reducible refine HC.out.mono ?_); rintro e w2 ⟨rfl, hb⟩; have HB2 := hid hb; have d1 := (HBL.out.later hb HBL.out.lt).cell (i := 1) rfl; have d0 := (HBL.out.later hb HBL.out.lt).cell (i := 0) rfl; clear hb))
      go_loopw [4, 25] (fun v u wr => ∃ k : Nat, k ≤ nt ∧ u = .int .i64 k ∧ Hid (IdsAt W w1 ns T k wr v)) (fun _ u _ => nt - (intOf u).toNat)
      case atStart => exact ⟨0, Nat.zero_le _, rfl, hid ⟨⟨[], rfl, World.ownsRow_nil _ _ _ _, rfl⟩, HB2.out.mono hge⟩⟩
      case round =>
        clear d0 d1
        obtain ⟨k, hk, rfl, HI2⟩ := hrel
        obtain ⟨ids, hil, hown, htk⟩ := HI2.out.ids
        obtain ⟨pi, ci, rfl⟩ := row_slice hown
        have HTK := hid htk
        have hwr : W.heap.size + 1 ≤ wr.heap.size := Nat.le_trans hge HI2.out.old.size
        by_cases hlt : k < nt
        · obtain ⟨t, ht⟩ : ∃ t, T[k]? = some t := ⟨_, List.getElem?_eq_getElem (by rw [← HNT.out]; exact hlt)⟩
          have hw := HBK.out.tickets.later (HI2.out.old.mono (Nat.le_of_eq HS1.out))
          rw [HNT.out] at hw
          obtain ⟨g, o, c', hv, t0, t1, t2, t3, t4⟩ := hw.tkAt ht
          injection hv with e1 e2 e3
          subst e1
          obtain ⟨w4, hw4⟩ : ∃ w4, w4 = wr.alloc (.cells #[.string t.id, .int .i64 t.src, .int .i64 t.dst, .int .i64 t.low, .int .i64 t.high] 59) := ⟨_, rfl⟩
          have hb4 : Below wr.heap.size wr w4 := by rw [hw4]; exact below_new wr _
          have hB4 : Blk w4 wr.heap.size #[.string t.id, .int .i64 t.src, .int .i64 t.dst, .int .i64 t.low, .int .i64 t.high] 59 := by rw [hw4]; exact Blk.new wr _ _
          have hBx : Blk w4 W.heap.size #[.slice p1 ns c1, .slice (some ⟨g, o, none⟩) nt c2] 25 := (HBL.out.later HI2.out.old (by omega)).later hb4 (by omega)
          have u0 := hB4.cell (i := 0) rfl
          have u1 := hB4.cell (i := 1) rfl
          have u2 := hB4.cell (i := 2) rfl
          have u3 := hB4.cell (i := 3) rfl
          have u4 := hB4.cell (i := 4) rfl
          have b0 := hBx.cell (i := 0) rfl
          have hown4 := ownsRow_later hown hb4
          have HCT := hid (ticket_any t ids ns (.slice pi k ci) w4 (by have h := SlcIn.own hown4; rw [← hil] at h ⊢; exact h))
          have HT := hid ht
          have HOW := hid hown4
          have HIL := hid hil
          have HW4 := hid hw4
          have HB4 := hid hB4
          have hw4s : wr.heap.size + 1 = w4.heap.size := by rw [hw4]; simp
          have HBE4 := hid (HI2.out.old.trans (hb4.mono hwr))
          clear hw ht hw4 hb4 hB4 hBx hown4 hown hil e2 e3 htk
          by_cases he : tkErr ids ns t = 0
          · have HNX := hid (tks_next HT.out he)
            rw [he] at HCT
            clear he
            go_wp2_with (first | (rw [← HW4.out]) | (go_at_call 75; (with_reducible refine HCT.out.mono ?_); rintro e w5 ⟨rfl, hb5⟩; have HB5 := hid (HBE4.out.trans (hb5.mono (by omega))); have s0 := (HB4.out.later hb5 HB4.out.lt).cell (i := 0) rfl; have HO5 := hid (ownsRow_later HOW.out hb5); have hw5 : W.heap.size + 1 ≤ w5.heap.size := Nat.le_trans (by omega) hb5.size; clear hb5) | (at_builtin; refine wpList_append_own _ rfl _ _ 101 rfl (W.heap.size + 1) 9 i0 (.string ⟨#[]⟩) 1 16 (by kernel_rfl) HI.out.1 HI.out.2.1 HI.out.2.2.1 HI.out.2.2.2 rfl (by decide) _ _ _ rfl (HO5.out.alloc _) ⟨w5.heap.size, 0, none⟩ 1 1 [.string t.id] rfl rfl (cells_new1 w5 [.string t.id] 9) (by simp [Value.oneCell']) (by unfold maxLen; omega) (by omega) (by simp; omega) ?_; intro v6 w6 ho6 hg6 _; have HB6 := hid (HB5.out.trans (((below_new w5 _).mono hw5).trans (grown_base (HO5.out.alloc _) hg6 (by simp; omega)))); have HO6 := hid ho6; clear hg6 ho6))
            have HR : Hid (IdsAt W w1 ns T (k + 1) w6 v6) := hid ⟨⟨ids ++ [t.id], by rw [List.length_append, HIL.out]; rfl, by rw [List.map_append]; exact HO6.out, HTK.out.trans HNX.out⟩, HB6.out⟩
            go_roundw
            case rel => exact ⟨k + 1, by omega, by go_num, HR⟩
            case measure => simp [intOf]; omega
          · have HAT := hid (tks_at HT.out he)
            obtain ⟨y, hy⟩ : ∃ y, y = tkErr ids ns t := ⟨_, rfl⟩
            rw [← hy] at HCT HAT he
            have hz : (y == 0) = false := by simpa using he
            have hz2 : (y != 0) = true := by simpa using he
            clear hy
            go_wp2_with (first | (rw [← HW4.out]) | (go_at_call 75; (with_reducible refine HCT.out.mono ?_); rintro e w5 ⟨rfl, hb5⟩; have HB5 := hid (HB1.out.trans ((HBE4.out.trans (hb5.mono (by omega))).mono (by omega))); clear hb5))
            go_ret
            exact ⟨by rw [HE.out, HTK.out, HAT.out]; rfl, HB5.out⟩
        · have hkn : T.drop k = [] := List.drop_eq_nil_of_le (by have := HNT.out; omega)
          have HEND : Hid (tksErr ns [] T = 0) := hid (by rw [HTK.out, hkn]; rfl)
          have HB5 := hid (HB1.out.trans (HI2.out.old.mono (by omega)))
          clear hkn
          go_wp2_with fail
          go_ret
          exact ⟨by rw [HE.out, HEND.out]; rfl, HB5.out⟩
  · have HE : Hid (bookErr S T = x) := hid (by rw [HBE.out, if_neg h1, if_pos h2])
    have hz : (x == 0) = false := by simpa using h2
    have hz2 : (x != 0) = true := by simpa using h2
    go_enter Try.func45, Try.ntmps45
    go_wp2_with (first | (rw [← HW1.out]) | (go_at_call 69; (with_reducible refine HC.out.mono ?_); rintro e w2 ⟨rfl, hb⟩; have HB2 := hid (HB1.out.trans (hb.mono (by omega))); clear hb))
    go_ret
    exact ⟨by rw [HE.out]; rfl, HB2.out⟩
end Go.Proofs.Ytncnpodanlhdkaa
