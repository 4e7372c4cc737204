/-
  Minimal: tickets that contradict each other.
-/
import Derived.Test.YtlkefifffkhclaaWMin
namespace Go.Proofs.Ytlkefifffkhclaa
set_option linter.all false
open Go.RowKit

def minF (S : List (Int × Int)) (T : List Tk) : Nat → Option (List Tk × List Nat)
  | 0 => some (T, [])
  | k + 1 => match minF S T k with
    | none => none
    | some (T', L) => match settleF (newF S (withoutF T' k) []) with
      | none => none
      | some (_, true) => some (T', L ++ [k])
      | some (_, false) => some (withoutF T' k, L)
theorem min_back {S : List (Int × Int)} {T : List Tk} {k : Nat} {R : List Tk × List Nat} (h : minF S T (k + 1) = some R) : ∃ T' L N' r, minF S T k = some (T', L) ∧ settleF (newF S (withoutF T' k) []) = some (N', r) ∧ R = if r = true then (T', L ++ [k]) else (withoutF T' k, L) := by
  unfold minF at h
  split at h
  · cases h
  · rename_i T' L h1
    split at h
    · cases h
    · rename_i N' h2
      cases h
      exact ⟨T', L, N', true, h1, h2, rfl⟩
    · rename_i N' h2
      cases h
      exact ⟨T', L, N', false, h1, h2, rfl⟩
theorem min_some {S : List (Int × Int)} {T : List Tk} : ∀ {n : Nat} {R : List Tk × List Nat}, minF S T n = some R → ∀ k, k ≤ n → ∃ R', minF S T k = some R'
  | 0, R, h, k, hk => by rw [Nat.le_zero.1 hk]; exact ⟨R, h⟩
  | n + 1, R, h, k, hk => by
    by_cases e : k = n + 1
    · rw [e]; exact ⟨R, h⟩
    · obtain ⟨T', L, N', r, h1, _⟩ := min_back h
      exact min_some h1 k (by omega)
theorem tk_wide {S : List (Int × Int)} {T : List Tk} (h : TksOk S T) (i : Nat) : TksOk S (withoutF T i) := by
  refine ⟨by unfold withoutF; rw [List.length_set]; exact h.few, h.places, fun j t ht => ?_, h.rg⟩
  unfold withoutF at ht
  by_cases e : j = i
  · subst e
    rw [List.getElem?_set_self'] at ht
    cases hq : T[j]? with
    | none => rw [hq] at ht; cases ht
    | some q =>
      have hg : T.getD j noTk = q := by rw [List.getD_eq_getElem?_getD, hq]; rfl
      rw [hq, hg] at ht
      cases ht
      exact h.tk j q hq
  · rw [List.getElem?_set_ne (Ne.symm e)] at ht
    exact h.tk j t ht
theorem min_ok {S : List (Int × Int)} {T : List Tk} (h : TksOk S T) : ∀ {k : Nat} {T' : List Tk} {L : List Nat}, minF S T k = some (T', L) → TksOk S T' ∧ T'.length = T.length ∧ L.length ≤ k
  | 0, _, _, e => by cases e; exact ⟨h, rfl, Nat.le_refl _⟩
  | k + 1, _, _, e => by
    obtain ⟨T', L, N', r, h1, h2, h3⟩ := min_back e
    obtain ⟨h4, h5, h6⟩ := min_ok h h1
    cases r
    · cases h3
      exact ⟨tk_wide h4 k, by unfold withoutF; rw [List.length_set]; exact h5, by omega⟩
    · cases h3
      exact ⟨h4, h5, by rw [List.length_append]; show _ + 1 ≤ _; omega⟩
theorem wl_own {ops : Array Oper} {rest : List Oper} {o : Oper} {a : Act} {Q : Exit → Act → World → Prop} {W : World} {base : Nat} (hgd : o.guard = none) (s x : Operand) (t e : TypeId) (i : TypeInfo) (z : Value) (size bytes : Nat)
    (ho : o.op = .call { callee := .builtin .append, args := #[s, x], argTypes := #[t, t] }) (hu : Try.prog.underlying t = some (.slice e)) (hi : Try.prog.info? e = some i) (hz : i.zero = some z) (hsize : i.size = size) (hby : i.bytes = bytes) (hzs : z.cells.size = size) (hsz : 0 < size)
    {v : Value} {n : Nat} {xs : List Value} (hs : a.eval s = v) (h : W.ownsRow base e size v n xs) (hb : base ≤ W.heap.size) (ad : Addr) (m c : Nat) (news : List Value) (hx : a.eval x = .slice (some ad) m c) (hl : news.length = m * size) (hnews : ∀ j u, news[j]? = some u → W.cell? (ad.add j) = some u) (h1 : ∀ u ∈ news, u.oneCell' = true) (h63 : n + m ≤ maxLen) (hbytes : (n + m) * bytes ≤ 140737488355328)
    (hK : ∀ v' W', W'.ownsRow base e size v' (n + m) (xs ++ news) → W.grownBy W' v.ownBlock → (∀ k, v'.ownBlock = some k → v.ownBlock = some k ∨ W.heap.size ≤ k) → wpList Try.prog ops Q rest (a.put o.dst v') W') : wpList Try.prog ops Q (o :: rest) a W :=
  wpList_plain hgd fun _ hK' => by
    obtain ⟨v', W', hrun, r1, r2, r3⟩ := own_app t o.type e i z size bytes hu hi hz hsize hby hzs hsz h hb ad m c news hl hnews h1 h63 hbytes
    unfold Oper.wp execOp
    simp only [ho, resolve, invoke, builtin, Sem.run_bind, Sem.run_pure, Result.andThen_ok, List.map_toArray, List.map_cons, List.map_nil, hs, hx, hrun]
    exact hK' _ _ (hK v' W' r1 r2 r3)
theorem SlcIn.far {w w' : World} {v : Value} {n : Nat} {cs : List Value} (h : SlcIn w v n cs) (hb : ∀ q, v.ownBlock = some q → w'.heap[q]? = w.heap[q]?) : SlcIn w' v n cs := by
  obtain ⟨p, c, rfl, h2, h3, h4⟩ := h
  refine ⟨p, c, rfl, h2, h3, h4.imp id fun ⟨g, o, h5, h6⟩ => ⟨g, o, h5, fun j u hu => ?_⟩⟩
  subst h5
  rw [World.cell?_of_block (w := w) (hb g rfl)]
  exact h6 j u hu
theorem SlcIn.lt {w : World} {v : Value} {n : Nat} {cs : List Value} (h : SlcIn w v n cs) (h0 : n ≠ 0) (hc : 0 < cs.length) : ∀ q, v.ownBlock = some q → q < w.heap.size := by
  obtain ⟨p, c, rfl, h2, h3, h4 | ⟨g, o, rfl, h6⟩⟩ := h
  · exact absurd h4 h0
  · intro q hq
    cases hq
    exact World.block_lt_of_cell? w _ (h6 0 _ (List.getElem?_eq_getElem hc))
structure MinAt (W : World) (S : List (Int × Int)) (T : List Tk) (v1 : Value) (k : Nat) (wr : World) (v : Value) : Prop where
  at_ : ∃ T' L v2, minF S T k = some (T', L) ∧ (∃ p c, v2 = .slice p T.length c) ∧ Blk wr W.heap.size #[v1, v2] 50 ∧ SlcIn wr v2 T.length (T'.flatMap tkC) ∧ wr.ownsRow (W.heap.size + 1) 3 1 v L.length (natC L) ∧ ∀ q, v.ownBlock = some q → v2.ownBlock ≠ some q
  old : Below W.heap.size W wr
def MinPost (W : World) (L : List Nat) (e : Ending) (W' : World) : Prop := ∃ v, e = .returned (.tuple #[v, .int .i64 0]) ∧ W'.ownsRow W.heap.size 3 1 v L.length (natC L) ∧ Below W.heap.size W W'
theorem SlcIn.shape2 {w : World} {v : Value} {n : Nat} {cs : List Value} (h : SlcIn w v n cs) : ∃ p c, v = .slice p n c := by
  obtain ⟨p, c, h1, _⟩ := h
  exact ⟨p, c, h1⟩

set_option maxRecDepth 100000 in
set_option maxHeartbeats 8000000 in
theorem minimal_yes (S : List (Int × Int)) (T : List Tk) (N' : Net) (T2 : List Tk) (L : List Nat) (v1 v2 : Value) (W : World) (hb : BookIn W v1 v2 S T) (hx : bookErr S T = 0) (hs : settleF (newF S T []) = some (N', false)) (ht : minF S T T.length = some (T2, L)) :
    Calls Try.prog 32 #[.agg #[v1, v2]] W (MinPost W L) := by
  obtain ⟨i0, g0, g1, g2, g3⟩ := info_parts info_int9
  have HI : Hid (Try.prog.info? 3 = some i0 ∧ i0.zero = some (.int .i64 0) ∧ i0.size = 1 ∧ i0.bytes = 8) := hid ⟨g0, g1, g2, g3⟩
  obtain ⟨p1, c1, rfl, hm1⟩ := hb.stock.shape
  obtain ⟨p2, c2, rfl, hm2⟩ := hb.tickets.shape
  obtain ⟨nt, hnt⟩ : ∃ nt, nt = T.length := ⟨_, rfl⟩
  obtain ⟨w1, hw1⟩ : ∃ w1, w1 = W.alloc (.cells #[.slice p1 S.length c1, .slice p2 nt c2] 50) := ⟨_, rfl⟩
  have hb1 : Below W.heap.size W w1 := by rw [hw1]; exact below_new W _
  have hB1 : Blk w1 W.heap.size #[.slice p1 S.length c1, .slice p2 nt c2] 50 := by rw [hw1]; exact Blk.new W _ _
  have HC := hid (book_any S T _ _ w1 (hb.later hb1))
  have HA := hid (fun w (h : BookIn w (.slice p1 S.length c1) (.slice p2 T.length c2) S T) => isCons_any S T N' false _ _ w h (book_ok hx).1 hs)
  have HBK := hid (hb.later hb1)
  have HST := hid hb.stock
  rw [← hnt] at HC HA HBK ht ⊢
  have q0 := hB1.cell (i := 0) rfl
  have q1 := hB1.cell (i := 1) rfl
  have HB1 := hid hb1
  have HBL := hid hB1
  have HW1 := hid hw1
  have HT := hid ht
  have HOK := hid (book_ok hx).1
  have HNT := hid hnt
  have hle : nt ≤ 128 := by rw [hnt]; exact (book_ok hx).1.few
  have hge : W.heap.size + 1 ≤ w1.heap.size := hB1.lt
  rw [hx] at HC
  clear hb hw1 hb1 hB1 hm1 hm2 hx hs hnt ht g0 g1 g2 g3
  go_enter Try.func32, Try.ntmps32
  go_wp2_with (first | (rw [← HW1.out]) | (go_at_call 27; (with_reducible refine HC.out.mono ?_); rintro e w2 ⟨rfl, hb⟩; have HB2 := hid hb; have HBL2 := HBL.out.later hb HBL.out.lt; have d0 := HBL2.cell (i := 0) rfl; have d1 := HBL2.cell (i := 1) rfl; have HBL2 := hid HBL2; clear hb) | (go_at_call 54; (with_reducible refine (HA.out _ (HBK.out.later HB2.out)).mono ?_); rintro e w3 ⟨rfl, hb⟩; have HB4 := hid (HB1.out.trans ((HB2.out.trans (hb.mono HB2.out.size)).mono (by omega))); have HBL3 := hid (HBL2.out.later hb HBL2.out.lt); have HS3 := hid ((HBK.out.tickets.later HB2.out).later hb); have d3 := HBL3.out.cell (i := 1) rfl; clear hb))
  go_loopw [5, 18] (fun v u wr => ∃ k : Nat, k ≤ nt ∧ u = .int .i64 k ∧ Hid (MinAt W S T (.slice p1 S.length c1) k wr v)) (fun _ u _ => nt - (intOf u).toNat)
  case atStart => exact ⟨0, Nat.zero_le _, rfl, hid ⟨⟨T, [], _, rfl, ⟨p2, c2, by rw [HNT.out]⟩, HBL3.out, HS3.out, World.ownsRow_nil _ _ _ _, fun q hq => by cases hq⟩, HB4.out⟩⟩
  case round =>
    clear d0 d1 d3
    obtain ⟨k, hk, rfl, HR⟩ := hrel
    obtain ⟨Tk', Lk, vk, hmk, ⟨pk, ck, rfl⟩, hblk, hslk, hok, hap⟩ := HR.out.at_
    obtain ⟨pv, cv, rfl⟩ := row_slice hok
    obtain ⟨ho1, ho2, ho3⟩ := min_ok HOK.out hmk
    have hsz : W.heap.size < wr.heap.size := hblk.lt
    by_cases hlt : k < nt
    · obtain ⟨R, hR⟩ := min_some HT.out (k + 1) (by omega)
      obtain ⟨Ta, La, Nb, r, e1, e2, e3⟩ := min_back hR
      rw [hmk] at e1
      cases e1
      have HWO := hid (without_any Tk' k (.slice p1 S.length c1) (.slice pk T.length ck) wr (by rw [ho2]; exact hslk) (by rw [ho2, ← HNT.out]; exact hlt) (by rw [ho2, ← HNT.out]; omega) rfl ⟨_, _, _, rfl⟩)
      have HIC := hid (fun w v (h : BookIn w (.slice p1 S.length c1) v S (withoutF Tk' k)) => isCons_any S (withoutF Tk' k) Nb r _ _ w h (tk_wide ho1 k) e2)
      have HAP := hid hap
      have HLT := hid (hslk.lt (by rw [← HNT.out]; omega) (by rw [tk_flat_len, ho2, ← HNT.out]; omega))
      have HOK2 := hid hok
      have HBLK := hid hblk
      have HSLK := hid hslk
      have HO2 : Hid (Tk'.length = T.length) := hid ho2
      have HWL : Hid ((withoutF Tk' k).length = T.length) := hid (by unfold withoutF; rw [List.length_set]; exact ho2)
      have HR1 := hid hR
      have HMK := hid hmk
      have hLk : Lk.length ≤ 128 := by omega
      have b0 := hblk.cell (i := 0) rfl
      have b1 := hblk.cell (i := 1) rfl
      cases r
      · have HNX : Hid (minF S T (k + 1) = some (withoutF Tk' k, Lk)) := hid (by rw [hR, e3]; rfl)
        clear hmk hblk hslk hok hap ho1 ho2 ho3 hR e2 e3
        go_wp2_with (first | (go_at_call 55; (with_reducible refine HWO.out.mono ?_); rintro e w4 ⟨v4, rfl, ho4, hb4⟩; obtain ⟨p4, c4, rfl⟩ := row_slice ho4; have HO4 := hid (ho4.alloc (.cells #[.slice p1 S.length c1, .slice p4 Tk'.length c4] 50)); have HB5 : Hid (Below wr.heap.size wr (w4.alloc (.cells #[.slice p1 S.length c1, .slice p4 Tk'.length c4] 50))) := hid (hb4.trans ((below_new w4 _).mono hb4.size)); have HN5 := hid (Blk.new w4 #[.slice p1 S.length c1, .slice p4 Tk'.length c4] 50); clear ho4 hb4) | (go_at_call 54; (with_reducible refine (HIC.out _ _ ⟨HST.out.later (HR.out.old.trans (HB5.out.mono (by omega))), by have h := SlcIn.own HO4.out; rw [HWL.out, ← HO2.out]; exact h⟩).mono ?_); rintro e w6 ⟨rfl, hb6⟩; have HB6 := hid (HB5.out.trans (hb6.mono HB5.out.size)); have HN6 := hid (HN5.out.later hb6 HN5.out.lt); have HO6 := hid (ownsRow_later HO4.out hb6); have HBX := hid (HBLK.out.later HB6.out HBLK.out.lt); have x0 := HN6.out.cell (i := 0) rfl; have x1 := HN6.out.cell (i := 1) rfl; have y0 := HBX.out.cell (i := 0) rfl; have y1 := HBX.out.cell (i := 1) rfl; have z0 := HBX.out.froz 0; have z1 := HBX.out.froz 1; clear hb6))
        have HEND : Hid (MinAt W S T (.slice p1 S.length c1) (k + 1) ((w6.setCell ⟨W.heap.size, 0, none⟩ (.slice p1 S.length c1)).setCell ⟨W.heap.size, 1, none⟩ (.slice p4 Tk'.length c4)) (.slice pv Lk.length cv)) := hid ⟨⟨withoutF Tk' k, Lk, .slice p4 Tk'.length c4, HNX.out, ⟨p4, c4, by rw [HO2.out]⟩, (HBX.out.set 0 _).set 1 _, by
          have h := SlcIn.own (own_set (own_set HO6.out (a := W.heap.size) (j := 0) (u := .slice p1 S.length c1) (fun q hq => by have := (World.ownsRow.lt HO6.out q hq).1; omega)) (a := W.heap.size) (j := 1) (u := .slice p4 Tk'.length c4) (fun q hq => by have := (World.ownsRow.lt HO6.out q hq).1; omega))
          rw [← HO2.out]
          exact h, own_set (own_set (ownsRow_later HOK2.out HB6.out) (fun q hq => by have := (World.ownsRow.lt HOK2.out q hq).1; omega)) (fun q hq => by have := (World.ownsRow.lt HOK2.out q hq).1; omega), fun q hq hq2 => by have h1 := (World.ownsRow.lt HOK2.out q hq).2; have h2 := (World.ownsRow.lt HO4.out q hq2).1; omega⟩, ((HR.out.old.trans (HB6.out.mono (by omega))).setCell (p := ⟨W.heap.size, 0, none⟩) (Nat.le_refl _) _).setCell (p := ⟨W.heap.size, 1, none⟩) (Nat.le_refl _) _⟩
        go_roundw
        case rel => exact ⟨k + 1, by omega, by go_num, HEND⟩
        case measure => simp [intOf]; omega
      · have HNX : Hid (minF S T (k + 1) = some (Tk', Lk ++ [k])) := hid (by rw [hR, e3]; rfl)
        clear hmk hblk hslk hok hap ho1 ho2 ho3 hR e2 e3
        go_wp2_with (first | (go_at_call 55; (with_reducible refine HWO.out.mono ?_); rintro e w4 ⟨v4, rfl, ho4, hb4⟩; obtain ⟨p4, c4, rfl⟩ := row_slice ho4; have HO4 := hid (ho4.alloc (.cells #[.slice p1 S.length c1, .slice p4 Tk'.length c4] 50)); have HB5 : Hid (Below wr.heap.size wr (w4.alloc (.cells #[.slice p1 S.length c1, .slice p4 Tk'.length c4] 50))) := hid (hb4.trans ((below_new w4 _).mono hb4.size)); have HN5 := hid (Blk.new w4 #[.slice p1 S.length c1, .slice p4 Tk'.length c4] 50); clear ho4 hb4) | (go_at_call 54; (with_reducible refine (HIC.out _ _ ⟨HST.out.later (HR.out.old.trans (HB5.out.mono (by omega))), by have h := SlcIn.own HO4.out; rw [HWL.out, ← HO2.out]; exact h⟩).mono ?_); rintro e w6 ⟨rfl, hb6⟩; have HB6 := hid (HB5.out.trans (hb6.mono HB5.out.size)); have HO6 := hid (ownsRow_later HOK2.out HB6.out); have h6s : wr.heap.size ≤ w6.heap.size := HB6.out.size; clear hb6) | (at_builtin; refine wl_own rfl _ _ 41 3 i0 (.int .i64 0) 1 8 rfl (by kernel_rfl) HI.out.1 HI.out.2.1 HI.out.2.2.1 HI.out.2.2.2 rfl (by decide) rfl (HO6.out.alloc _) (by simp; omega) ⟨w6.heap.size, 0, none⟩ 1 1 [.int .i64 k] rfl rfl (cells_new1 w6 [.int .i64 k] 3) (by simp [Value.oneCell']) (by unfold maxLen; omega) (by omega) ?_; intro v7 w7 ho7 hg7 hv7; have HG7 := hid hg7; have HV7 := hid hv7; have HB7 := hid (((below_new w6 _).mono (show W.heap.size + 1 ≤ w6.heap.size by omega)).trans (grown_base (HO6.out.alloc _) hg7 (by simp; omega))); have HO7 := hid ho7; clear hg7 ho7 hv7))
        have HEND : Hid (MinAt W S T (.slice p1 S.length c1) (k + 1) w7 v7) := hid ⟨⟨Tk', Lk ++ [k], .slice pk T.length ck, HNX.out, ⟨pk, ck, rfl⟩, (HBLK.out.later HB6.out HBLK.out.lt).later HB7.out (by omega), (((HSLK.out.later HB6.out).later (below_new w6 _)).far fun q hq => HG7.out.block q (by have := HLT.out q hq; have := HB6.out.size; simp; omega) (fun e => HAP.out q e.symm hq)), by
          rw [List.length_append, natC_append]
          exact HO7.out, fun q hq hq2 => by
            have h1 := HLT.out q hq2
            have h2 := HB6.out.size
            rcases HV7.out q hq with h3 | h3
            · exact HAP.out q h3 hq2
            · simp at h3; omega⟩, HR.out.old.trans ((HB6.out.mono (by omega)).trans (HB7.out.mono (by omega)))⟩
        go_roundw
        case rel => exact ⟨k + 1, by omega, by go_num, HEND⟩
        case measure => simp [intOf]; omega
    · have hkn : k = nt := by omega
      subst hkn
      rw [HT.out] at hmk
      cases hmk
      have HOK2 := hid hok
      clear hblk hslk hok hap
      go_wp2_with fail
      go_ret2
      exact ⟨_, rfl, HOK2.out.mono (by omega), HR.out.old⟩
end Go.Proofs.Ytlkefifffkhclaa
