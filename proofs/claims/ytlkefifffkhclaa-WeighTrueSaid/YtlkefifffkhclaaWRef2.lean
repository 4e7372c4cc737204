/-
  Sums of drafts, common masses: the program's and the reference's.
-/
import Derived.Test.YtlkefifffkhclaaWRef
namespace Go.Proofs.Ytlkefifffkhclaa
set_option linter.all false
open Go.RowKit

def massesErr (l : List (Int × Int)) : Int := if l.length = 0 then 2 else if 256 < l.length then 5 else eachErr massErr l
theorem masses_ok {l : List (Int × Int)} (h : massesErr l = 0) : l.length ≠ 0 ∧ l.length ≤ 256 ∧ ∀ (i : Nat) (r : Int × Int), l[i]? = some r → 0 ≤ r.1 ∧ r.1 ≤ r.2 ∧ r.2 ≤ 999999999 := by
  unfold massesErr at h
  split at h
  · cases h
  · split at h
    · cases h
    · exact ⟨by assumption, by omega, fun i r hr => mass_ok (each_ok h i r hr)⟩
def sumR (l : List (Int × Int)) : Nat → Int × Int
  | 0 => (0, 0)
  | k + 1 => addR (sumR l k) (l.getD k (0, 0))
def agrR (l : List (Int × Int)) : Nat → Int × Int
  | 0 => l.getD 0 (0, 0)
  | k + 1 => (max (agrR l k).1 (l.getD k (0, 0)).1, min (agrR l k).2 (l.getD k (0, 0)).2)
theorem sum_bd {l : List (Int × Int)} (h : ∀ (i : Nat) (r : Int × Int), l[i]? = some r → 0 ≤ r.1 ∧ r.1 ≤ r.2 ∧ r.2 ≤ 999999999) : ∀ k, k ≤ l.length → 0 ≤ (sumR l k).1 ∧ (sumR l k).1 ≤ (sumR l k).2 ∧ (sumR l k).2 ≤ (k : Int) * 999999999
  | 0, _ => by unfold sumR; simp
  | k + 1, hk => by
    have ih := sum_bd h k (by omega)
    have hx := List.getElem?_eq_getElem (l := l) (i := k) (by omega)
    have h1 := h k _ hx
    have hg : l.getD k (0, 0) = l[k] := by rw [List.getD_eq_getElem?_getD, hx]; rfl
    unfold sumR addR
    rw [hg]
    dsimp only
    omega
theorem agr_bd {l : List (Int × Int)} (h : ∀ (i : Nat) (r : Int × Int), l[i]? = some r → 0 ≤ r.1 ∧ r.1 ≤ r.2 ∧ r.2 ≤ 999999999) (h0 : l.length ≠ 0) : ∀ k, k ≤ l.length → 0 ≤ (agrR l k).1 ∧ (agrR l k).1 ≤ 999999999 ∧ 0 ≤ (agrR l k).2 ∧ (agrR l k).2 ≤ 999999999
  | 0, _ => by
    have hx := List.getElem?_eq_getElem (l := l) (i := 0) (by omega)
    have h1 := h 0 _ hx
    have hg : l.getD 0 (0, 0) = l[0] := by rw [List.getD_eq_getElem?_getD, hx]; rfl
    unfold agrR
    rw [hg]
    omega
  | k + 1, hk => by
    have ih := agr_bd h h0 k (by omega)
    have hx := List.getElem?_eq_getElem (l := l) (i := k) (by omega)
    have h1 := h k _ hx
    have hg : l.getD k (0, 0) = l[k] := by rw [List.getD_eq_getElem?_getD, hx]; rfl
    unfold agrR
    rw [hg]
    dsimp only
    omega

set_option maxRecDepth 100000 in
set_option maxHeartbeats 2000000 in
theorem massesW_any (l : List (Int × Int)) (v : Value) (W : World) (hl : SlcIn W v l.length (l.flatMap rgC)) : Calls Try.prog 38 #[v] W (Ret (.int .i64 (massesErr l)) W) := by
  obtain ⟨p, c, rfl, hm⟩ := hl.shape
  obtain ⟨n, hn⟩ : ∃ n, n = l.length := ⟨_, rfl⟩
  have HC := hid (each_mass l _ W hl)
  have HE : Hid (massesErr l = if n = 0 then 2 else if 256 < n then 5 else eachErr massErr l) := hid (by rw [hn]; rfl)
  rw [← hn] at HC ⊢
  clear hl hn hm
  by_cases h0 : n = 0
  · subst h0
    have HR : Hid (massesErr l = 2) := hid (by rw [HE.out, if_pos rfl])
    go_enter Try.func38, Try.ntmps38
    go_wp2_with fail
    go_ret
    exact ⟨by rw [HR.out]; rfl, Below.refl _ _⟩
  have hz : ((n : Int) == 0) = false := by simp; omega
  by_cases h1 : 256 < n
  · have HR : Hid (massesErr l = 5) := hid (by rw [HE.out, if_neg h0, if_pos h1])
    go_enter Try.func38, Try.ntmps38
    go_wp2_with fail
    go_ret
    exact ⟨by rw [HR.out]; rfl, Below.refl _ _⟩
  · have HR : Hid (massesErr l = eachErr massErr l) := hid (by rw [HE.out, if_neg h0, if_neg h1])
    have h1' : n ≤ 256 := by omega
    go_enter Try.func38, Try.ntmps38
    go_wp2_with (go_at_call 36; (with_reducible refine (HC.out).mono ?_); rintro e w' ⟨rfl, hb⟩; have HB := hid hb; clear hb)
    go_ret
    exact ⟨by rw [HR.out]; rfl, HB.out⟩

set_option maxRecDepth 100000 in
set_option maxHeartbeats 2000000 in
theorem refMasses_any (l : List (Int × Int)) (v : Value) (W : World) (hl : SlcIn W v l.length (l.flatMap rgC)) : Calls Try.prog 18 #[v] W (Ret (.int .i64 (massesErr l)) W) := by
  obtain ⟨p, c, rfl, hm⟩ := hl.shape
  obtain ⟨n, hn⟩ : ∃ n, n = l.length := ⟨_, rfl⟩
  have HE : Hid (massesErr l = if n = 0 then 2 else if 256 < n then 5 else eachErr massErr l) := hid (by rw [hn]; rfl)
  rw [← hn] at hl ⊢
  have HL := hid hl
  have HN := hid hn
  clear hl hn hm
  by_cases h0 : n = 0
  · subst h0
    have HR : Hid (massesErr l = 2) := hid (by rw [HE.out, if_pos rfl])
    go_enter Try.func18, Try.ntmps18
    go_wp2_with fail
    go_ret
    exact ⟨by rw [HR.out]; rfl, Below.refl _ _⟩
  have hz : ((n : Int) == 0) = false := by simp; omega
  by_cases h1 : 256 < n
  · have HR : Hid (massesErr l = 5) := hid (by rw [HE.out, if_neg h0, if_pos h1])
    go_enter Try.func18, Try.ntmps18
    go_wp2_with fail
    go_ret
    exact ⟨by rw [HR.out]; rfl, Below.refl _ _⟩
  · have HR : Hid (massesErr l = eachErr massErr l) := hid (by rw [HE.out, if_neg h0, if_neg h1])
    have h1' : n ≤ 256 := by omega
    go_enter Try.func18, Try.ntmps18
    go_wp2_with fail
    go_loopw [3] (fun u wr => ∃ k : Nat, k ≤ n ∧ u = .int .i64 k ∧ Hid (Below W.heap.size W wr) ∧ Hid (∀ (j : Nat) (r : Int × Int), j < k → l[j]? = some r → massErr r.1 r.2 = 0)) (fun u _ => n - (intOf u).toNat)
    case atStart => exact ⟨0, Nat.zero_le _, rfl, hid (Below.refl _ _), hid (fun j r hj _ => by omega)⟩
    case round =>
      obtain ⟨k, hk, rfl, HB, HZ⟩ := hrel
      by_cases hlt : k < n
      · obtain ⟨r, hr⟩ : ∃ r, l[k]? = some r := ⟨_, List.getElem?_eq_getElem (by rw [← HN.out]; exact hlt)⟩
        have hw := HL.out.later HB.out
        rw [HN.out] at hw
        obtain ⟨g, o, c', hv, r0, r1⟩ := hw.rgAt hr
        injection hv with e1 e2 e3
        subst e1
        have HC := hid (refMass_any r.1 r.2 wr)
        by_cases he : massErr r.1 r.2 = 0
        · have HZ2 : Hid (∀ (j : Nat) (x : Int × Int), j < k + 1 → l[j]? = some x → massErr x.1 x.2 = 0) := hid (fun j x hj hx => by
            by_cases e : j = k
            · subst e; rw [hr] at hx; cases hx; exact he
            · exact HZ.out j x (by omega) hx)
          rw [he] at HC
          clear hw e2 e3 hr he
          go_wp2_with (go_at_call 14; (with_reducible refine (HC.out).mono ?_); rintro e w2 ⟨rfl, hb⟩; have HB2 := hid (HB.out.trans (hb.mono HB.out.size)); clear hb)
          go_roundw
          case rel => exact ⟨k + 1, by omega, by go_num, HB2, HZ2⟩
          case measure => simp [intOf]; omega
        · have HE2 : Hid (eachErr massErr l = massErr r.1 r.2) := hid (each_at HZ.out hr he)
          obtain ⟨x, hx⟩ : ∃ x, x = massErr r.1 r.2 := ⟨_, rfl⟩
          rw [← hx] at HC HE2 he
          have hz : (x == 0) = false := by simpa using he
          have hz2 : (x != 0) = true := by simpa using he
          clear hw e2 e3 hr hx
          go_wp2_with (go_at_call 14; (with_reducible refine (HC.out).mono ?_); rintro e w2 ⟨rfl, hb⟩; have HB2 := hid (HB.out.trans (hb.mono HB.out.size)); clear hb)
          go_ret
          exact ⟨by rw [HR.out, HE2.out]; rfl, HB2.out⟩
      · have HE2 : Hid (eachErr massErr l = 0) := hid (each_none fun j r hj => HZ.out j r (by have := (List.getElem?_eq_some_iff.1 hj).1; have := HN.out; omega) hj)
        go_wp2_with fail
        go_ret
        exact ⟨by rw [HR.out, HE2.out]; rfl, HB.out⟩

/-- A range handed back out of a block. -/
theorem run_rg (w : World) {g : Nat} {a b : Int} (h : Blk w g #[.int .i64 a, .int .i64 b] 23) : (loadVar 23 ⟨g, 0, none⟩).run Try.prog w = .ok (.agg #[.int .i64 a, .int .i64 b]) w :=
  run_loadVar_row w g 23 23 _ (0, 0) (.struct (Try.prog.fieldsOf 23)) h (by kernel_rfl) rfl (by kernel_rfl)

set_option maxRecDepth 100000 in
set_option maxHeartbeats 4000000 in
theorem refNet_any (a b c d : Int) (W : World) (ha : 0 ≤ a ∧ a ≤ 999999999) (hb : 0 ≤ b ∧ b ≤ 999999999) (hc : 0 ≤ c ∧ c ≤ 999999999) (hd : 0 ≤ d ∧ d ≤ 999999999) : Calls Try.prog 15 #[.agg #[.int .i64 a, .int .i64 b], .agg #[.int .i64 c, .int .i64 d]] W (Ret (.tuple #[.agg #[.int .i64 (max 0 (a - d)), .int .i64 (b - c)], .bool (decide (0 ≤ b - c))]) W) := by
  obtain ⟨a1, a2⟩ := ha
  obtain ⟨b1, b2⟩ := hb
  obtain ⟨c1, c2⟩ := hc
  obtain ⟨d1, d2⟩ := hd
  obtain ⟨x, hx⟩ : ∃ x, x = max 0 (a - d) := ⟨_, rfl⟩
  obtain ⟨w3, hw3⟩ : ∃ w3, w3 = (((W.alloc (.cells #[.int .i64 a, .int .i64 b] 23)).alloc (.cells #[.int .i64 c, .int .i64 d] 23)).alloc (.cells #[.int .i64 0, .int .i64 0] 23)) := ⟨_, rfl⟩
  have hb3 : Below W.heap.size W w3 := by rw [hw3]; exact ((below_new W _).alloc (by simp) _).alloc (by simp; omega) _
  have hA : Blk w3 W.heap.size #[.int .i64 a, .int .i64 b] 23 := by rw [hw3]; exact ((Blk.new W _ _).alloc _).alloc _
  have hB : Blk w3 (W.heap.size + 1) #[.int .i64 c, .int .i64 d] 23 := by rw [hw3]; exact (Blk_newn _ _ _ (by simp)).alloc _
  have hC : Blk w3 (W.heap.size + 1 + 1) #[.int .i64 0, .int .i64 0] 23 := by rw [hw3]; exact Blk_newn _ _ _ (by simp)
  obtain ⟨w4, hw4⟩ : ∃ w4, w4 = (w3.alloc (.cells #[.int .i64 (max 0 (a - d)), .int .i64 (b - c)] 23)).drew := ⟨_, rfl⟩
  have hb4 : Below w3.heap.size w3 w4 := by rw [hw4]; exact (below_new w3 _).drew
  have hD : Blk w4 w3.heap.size #[.int .i64 (max 0 (a - d)), .int .i64 (b - c)] 23 := by rw [hw4]; exact (Blk.new w3 _ _).drew
  have hC4 := hC.later hb4 hC.lt
  have e0 := hA.cell (i := 0) rfl
  have e1 := hA.cell (i := 1) rfl
  have f0 := hB.cell (i := 0) rfl
  have f1 := hB.cell (i := 1) rfl
  have g0 := hD.cell (i := 0) rfl
  have g1 := hD.cell (i := 1) rfl
  have k0 := hC4.cell (i := 0) rfl
  have k1 := hC4.cell (i := 1) rfl
  have z0 := hC4.froz 0
  have z1 := hC4.froz 1
  have HBE := hid (((hb3.trans (hb4.mono hb3.size)).setCell (p := ⟨W.heap.size + 1 + 1, 0, none⟩) (by simp; omega) (.int .i64 (max 0 (a - d)))).setCell (p := ⟨W.heap.size + 1 + 1, 1, none⟩) (by simp; omega) (.int .i64 (b - c)))
  have HRF := hid ((hC4.set 0 (.int .i64 (max 0 (a - d)))).set 1 (.int .i64 (b - c)))
  have HNE : Hid (w3.heap.size ≠ W.heap.size + 1 + 1) := hid (by have := hC.lt; omega)
  have HD := hid hD
  have HW3 := hid hw3
  have HW4 := hid hw4
  clear hw3 hb3 hA hB hC hw4 hb4 hD hC4 hx
  go_enter Try.func15, Try.ntmps15
  go_wp2_with (rw [← HW3.out])
  refine region_held (fun w' => Blk w' w3.heap.size #[.int .i64 (max 0 (a - d)), .int .i64 (b - c)] 23) (by kernel_rfl) ?_
  rw [← HW4.out]
  refine' tkw 0 (v := .agg #[.int .i64 (max 0 (a - d)), .int .i64 (b - c)]) rfl (by kernel_rfl) (by kernel_rfl) HD.out (fun _ _ _ h => h) (fun w' hS => yield_ld 23 _ rfl rfl (run_rg w' hS)) ?_
  refine' tkw 1 (v := .pointer (some ⟨w3.heap.size, 1, none⟩)) rfl (by kernel_rfl) (by kernel_rfl) HD.out (fun _ _ _ h => h) (fun w' hS => by clear hS; go_simp; (try with_reducible rfl)) ?_
  refine' tkw 2 (v := .int .i64 (b - c)) rfl (by kernel_rfl) (by kernel_rfl) HD.out (fun _ _ _ h => h) (fun w' hS => by have h1 := hS.cell (i := 1) rfl; clear hS; go_simp; (try with_reducible rfl)) ?_
  refine' tkw 3 (v := .bool (decide (0 ≤ b - c))) rfl (by kernel_rfl) (by kernel_rfl) HD.out (fun _ _ _ h => h) (fun w' hS => by clear hS; go_simp; (try with_reducible rfl)) ?_
  try simp only [Act.put, List.setIfInBounds_toArray, List.set_cons_zero, List.set_cons_succ]
  refine wpAnyH_ready (rs := [4]) (by kernel_rfl) (by simp) ?_
  refine AllReadyH.cons rfl (fun K hK => ?_) AllReadyH.nil
  go_simp
  refine hK.out _ _ ((HD.out.setOther _ _ HNE.out).setOther _ _ HNE.out) (fun hHeld => ?_)
  clear hK
  refine' tkw 5 (v := .bool (decide (0 ≤ b - c))) rfl (by kernel_rfl) (by kernel_rfl) hHeld (fun _ _ _ h => h) (fun w' hS => by clear hS; go_simp; (try with_reducible rfl)) ?_
  clear hHeld
  try simp only [Act.put, List.setIfInBounds_toArray, List.set_cons_zero, List.set_cons_succ]
  refine wpAnyH_done (by kernel_rfl) ?_ _
  go_wp2_with fail
  refine bodyPost_ret (v := .tuple #[.agg #[.int .i64 (max 0 (a - d)), .int .i64 (b - c)], .bool (decide (0 ≤ b - c))]) ?_ rfl ⟨rfl, HBE.out⟩
  have r1 := run_rg _ HRF.out
  simp [results, Try.results15, asAddr, Act.put, r1]
end Go.Proofs.Ytlkefifffkhclaa
