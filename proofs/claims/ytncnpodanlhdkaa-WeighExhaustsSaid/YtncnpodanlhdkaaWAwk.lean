/-
  awake: the document's examples.
-/
import Derived.Test.YtncnpodanlhdkaaWEval
namespace Go.Proofs.Ytncnpodanlhdkaa
set_option linter.all false
open Go.RowKit

/-- A row of n elements, the cells cs, behind a number. -/
def RowPost (W : World) (n : Nat) (cs : List Value) (x : Int) (e : Ending) (W' : World) : Prop := ∃ g c, e = .returned (.tuple #[.slice (some ⟨g, 0, none⟩) n c, .int .i64 x]) ∧ SlcIn W' (.slice (some ⟨g, 0, none⟩) n c) n cs ∧ Below W.heap.size W W'
theorem row_of {W W' : World} {base : Nat} {ty : TypeId} {size : Nat} {v : Value} {n : Nat} {cs : List Value} (h : W'.ownsRow base ty size v n cs) (h0 : n ≠ 0) (x : Int) (hb : Below W.heap.size W W') : RowPost W n cs x (.returned (.tuple #[v, .int .i64 x])) W' := by
  have hs := SlcIn.own h
  obtain ⟨g, c, rfl, _⟩ := row_some h h0
  exact ⟨g, c, rfl, hs, hb⟩
theorem aw_net (w : World) : Calls Try.prog 42 #[.agg #[.int .i64 14000, .int .i64 14020], .agg #[.int .i64 4980, .int .i64 5000]] w (Ret (.tuple #[.agg #[.int .i64 9000, .int .i64 9040], .int .i64 0]) w) := by
  have h := net_any (14000, 14020) (4980, 5000) w
  rw [ev_net.1, ev_net.2] at h
  exact h
theorem aw_drift (w : World) (v : Value) (h : SlcIn w v 2 [.int .i64 1000, .int .i64 1000]) : Calls Try.prog 43 #[v, .agg #[.int .i64 0, .int .i64 0], .agg #[.int .i64 3, .int .i64 6]] w (RowPost w 2 [.int .i64 998, .int .i64 999, .int .i64 996, .int .i64 998] 0) := by
  refine (drift_yes [1000, 1000] (0, 0) (3, 6) v w h ev_shown ev_each).mono fun e W' hp => ?_
  rcases hp with ⟨⟨k, hk, hf⟩, _⟩ | ⟨_, v', rfl, ho, hb⟩
  · have h := List.all_eq_true.1 ev_near k (List.mem_range.2 hk)
    rw [hf] at h
    cases h
  · have e : driftL [1000, 1000] (0, 0) (3, 6) ([1000, 1000] : List Int).length = [(998, 999), (996, 998)] := ev_drift
    rw [e] at ho
    exact row_of ho (by decide) 0 hb
theorem aw_holds (w : World) (v1 v2 v3 : Value) (hb : BookIn w v1 v2 exS (exT 50 100)) (h : SlcIn w v3 4 [.int .i64 500, .int .i64 480, .int .i64 980, .int .i64 50]) : Calls Try.prog 40 #[.agg #[v1, v2], v3] w (Ret (.tuple #[.bool true, .int .i64 0]) w) := by
  have h := holds_yes exS (exT 50 100) [500, 480, 980, 50] v1 v2 v3 w hb h ev_book1 rfl
  rw [ev_holds] at h
  exact h
theorem aw_tight (w : World) (v1 v2 : Value) (hb : BookIn w v1 v2 exS (exT 50 100)) : Calls Try.prog 15 #[.agg #[v1, v2]] w (RowPost w 4 [.int .i64 500, .int .i64 510, .int .i64 480, .int .i64 500, .int .i64 980, .int .i64 1010, .int .i64 50, .int .i64 100] 0) := by
  have h := ev_tight
  cases h1 : settleF (newF exS (exT 50 100) []) with
  | none => rw [h1] at h; cases h
  | some R =>
    obtain ⟨N', r⟩ := R
    rw [h1] at h
    simp only [Option.map_some, Option.some.injEq, Prod.mk.injEq] at h
    obtain ⟨rfl, h2⟩ := h
    cases h3 : tightF N' 4 with
    | none => rw [h3] at h2; cases h2
    | some Q =>
      obtain ⟨N2, L⟩ := Q
      rw [h3] at h2
      simp only [Option.map_some, Option.some.injEq] at h2
      subst h2
      refine (tighten_yes exS (exT 50 100) N' N2 _ v1 v2 w hb ev_book1 h1 h3).mono fun e W' ⟨v, e1, ho, hb'⟩ => ?_
      subst e1
      exact row_of ho (by decide) 0 hb'
theorem aw_no (w : World) (v1 v2 : Value) (hb : BookIn w v1 v2 exS (exT 120 130)) : Calls Try.prog 15 #[.agg #[v1, v2]] w (Ret (.tuple #[.slice none 0 0, .int .i64 15]) w) := by
  have h := ev_no
  cases h1 : settleF (newF exS (exT 120 130) []) with
  | none => rw [h1] at h; cases h
  | some R =>
    obtain ⟨N', r⟩ := R
    rw [h1] at h
    simp only [Option.map_some, Option.some.injEq] at h
    subst h
    exact tighten_no exS (exT 120 130) N' v1 v2 w hb ev_book2 h1
theorem aw_min (w : World) (v1 v2 : Value) (hb : BookIn w v1 v2 exS (exT 120 130)) : Calls Try.prog 31 #[.agg #[v1, v2]] w (RowPost w 3 [.int .i64 0, .int .i64 1, .int .i64 3] 0) := by
  have h := ev_no
  cases h1 : settleF (newF exS (exT 120 130) []) with
  | none => rw [h1] at h; cases h
  | some R =>
    obtain ⟨N', r⟩ := R
    rw [h1] at h
    simp only [Option.map_some, Option.some.injEq] at h
    subst h
    have h2 := ev_min
    cases h3 : minF exS (exT 120 130) 4 with
    | none => rw [h3] at h2; cases h2
    | some Q =>
      obtain ⟨T2, L⟩ := Q
      rw [h3] at h2
      simp only [Option.map_some, Option.some.injEq] at h2
      subst h2
      refine (minimal_yes exS (exT 120 130) N' T2 _ v1 v2 w hb ev_book2 h1 h3).mono fun e W' ⟨v, e1, ho, hb'⟩ => ?_
      subst e1
      exact row_of ho (by decide) 0 hb'
theorem aw_conf (w : World) (v1 v2 v3 : Value) (hb : BookIn w v1 v2 exS (exT 120 130)) (h : SlcIn w v3 2 [.int .i64 0, .int .i64 1]) : Calls Try.prog 29 #[.agg #[v1, v2], v3] w (Ret (.int .i64 0) w) := by
  have h := conf_any exS (exT 120 130) [0, 1] v1 v2 v3 w hb h (by decide)
  rw [ev_conf] at h
  exact h
theorem aw_change (w : World) (v1 v2 v3 : Value) (hb : BookIn w v1 v2 exS (exT 50 100)) (hj : SlcIn w v3 2 [.int .i64 1, .int .i64 0]) : Calls Try.prog 20 #[.agg #[v1, v2], v3] w (Ret (.tuple #[.agg #[.int .i64 900, .int .i64 950], .int .i64 0]) w) := by
  have h := ev_change
  cases h1 : settleF (newF exS (exT 50 100) [1, 0]) with
  | none => rw [h1] at h; cases h
  | some R =>
    obtain ⟨N', r⟩ := R
    rw [h1] at h
    simp only [Option.map_some, Option.some.injEq, Prod.mk.injEq] at h
    obtain ⟨rfl, hl, h2⟩ := h
    cases h3 : extF N' (N'.arcs.length - 1) with
    | none => rw [h3] at h2; cases h2
    | some Q =>
      obtain ⟨N2, lo, hi⟩ := Q
      rw [h3] at h2
      simp only [Option.map_some, Option.some.injEq, Prod.mk.injEq] at h2
      obtain ⟨rfl, rfl⟩ := h2
      exact change_yes exS (exT 50 100) [1, 0] N' N2 900 950 v1 v2 v3 w hb hj ev_book1 ev_nums h1 h3 (by omega) (by decide) (by decide)
theorem aw_same (w : World) (v1 v2 : Value) (h1 : SlcIn w v1 3 [.int .i64 0, .int .i64 1, .int .i64 3]) (h2 : SlcIn w v2 3 [.int .i64 0, .int .i64 1, .int .i64 3]) : Calls Try.prog 33 #[v1, v2] w (Ret (.bool true) w) :=
  same_any [0, 1, 3] [0, 1, 3] v1 v2 w h1 h2

theorem SlcIn.at0 {w : World} {g n c : Nat} {cs : List Value} (h : SlcIn w (.slice (some ⟨g, 0, none⟩) n c) n cs) (h0 : n ≠ 0) : ∀ (j : Nat) (u : Value), cs[j]? = some u → w.cell? ⟨g, j, none⟩ = some u := by
  obtain ⟨p, c', h1, h2, h3, h4 | ⟨g', o, h5, h6⟩⟩ := h
  · exact absurd h4 h0
  · intro j u hu
    injection h1 with e1 _ _
    rw [h5] at e1
    injection e1 with e1
    injection e1 with e1 e2 _
    subst e1
    subst e2
    have := h6 j u hu
    rwa [Nat.zero_add] at this
set_option maxRecDepth 100000 in
set_option maxHeartbeats 8000000 in
theorem awake_any (W : World) : Calls Try.prog 12 #[] W (Ret (.bool true) W) := by
  have K1 := hid (aw_net W)
  go_enter Try.func12, Try.ntmps12
  go_wp2_with fail
  refine K1.out.mono ?_
  rintro e w1 ⟨rfl, hb1⟩
  clear K1
  obtain ⟨wa, hwa⟩ : ∃ wa, wa = (w1.alloc (.cells #[.int .i64 9000, .int .i64 9040] 38)).alloc (.cells #[.int .i64 1000, .int .i64 1000] 3) := ⟨_, rfl⟩
  have HN : Hid (Blk wa w1.heap.size #[.int .i64 9000, .int .i64 9040] 38) := hid (by rw [hwa]; exact (Blk.new w1 _ _).alloc _)
  have HB : Hid (Below W.heap.size W wa) := hid (by rw [hwa]; exact hb1.trans (((below_new w1 _).alloc (by simp) _).mono hb1.size))
  have HV : Hid (SlcIn wa (.slice (some ⟨w1.heap.size + 1, 0, none⟩) 2 2) 2 [.int .i64 1000, .int .i64 1000]) := hid (by
    rw [hwa]
    have h := slc_new (w1.alloc (.cells #[.int .i64 9000, .int .i64 9040] 38)) [.int .i64 1000, .int .i64 1000] 3 2 (by decide)
    rw [World.size_alloc] at h
    exact h)
  have HWA := hid hwa
  have K := hid (aw_drift wa _ HV.out)
  clear hwa hb1 HV
  go_wp2_with (rw [← HWA.out])
  refine K.out.mono ?_
  rintro e w2 ⟨gd, cd, rfl, hd, hb2⟩
  clear K HWA
  have HD := hid hd
  have HN2 := hid (HN.out.later hb2 HN.out.lt)
  have HB2 := hid (HB.out.trans (hb2.mono HB.out.size))
  clear hd hb2 HN HB
  have K := hid (example_any 50 100 w2)
  go_wp2_with fail
  refine K.out.mono ?_
  rintro e w3 ⟨v1, v2, rfl, hbk, hb3, ⟨p1, c1, rfl⟩, ⟨p2, c2, rfl⟩⟩
  clear K
  obtain ⟨wb, hwb⟩ : ∃ wb, wb = w3.alloc (.cells #[.int .i64 500, .int .i64 480, .int .i64 980, .int .i64 50] 3) := ⟨_, rfl⟩
  have hbb : Below w2.heap.size w2 wb := by rw [hwb]; exact hb3.trans ((below_new w3 _).mono hb3.size)
  have K := hid (aw_holds wb _ _ (.slice (some ⟨w3.heap.size, 0, none⟩) 4 4) (by rw [hwb]; exact hbk.later (below_new w3 _)) (by rw [hwb]; exact slc_new w3 [.int .i64 500, .int .i64 480, .int .i64 980, .int .i64 50] 3 4 (by decide)))
  have HWB := hid hwb
  have HBB := hid hbb
  clear hwb hbb hbk hb3
  go_wp2_with (rw [← HWB.out])
  refine K.out.mono ?_
  rintro e w4 ⟨rfl, hb4⟩
  clear K HWB
  have hs := HBB.out.trans (hb4.mono HBB.out.size)
  have HD4 := hid (HD.out.later hs)
  have HN4 := hid (HN2.out.later hs HN2.out.lt)
  have HB4 := hid (HB2.out.trans (hs.mono HB2.out.size))
  clear hs hb4 HBB HD HN2 HB2
  have K := hid (example_any 50 100 w4)
  go_wp2_with fail
  refine K.out.mono ?_
  rintro e w5 ⟨v1, v2, rfl, hbk, hb5, ⟨p3, c3, rfl⟩, ⟨p4, c4, rfl⟩⟩
  clear K
  have K := hid (aw_tight w5 _ _ hbk)
  have HB5 := hid hb5
  clear hbk hb5
  go_wp2_with fail
  refine K.out.mono ?_
  rintro e w6 ⟨gt, ct, rfl, ht, hb6⟩
  clear K
  have hs := HB5.out.trans (hb6.mono HB5.out.size)
  have HT6 := hid ht
  have HD6 := hid (HD4.out.later hs)
  have HN6 := hid (HN4.out.later hs HN4.out.lt)
  have HB6 := hid (HB4.out.trans (hs.mono HB4.out.size))
  clear hs ht hb6 HB5 HD4 HN4 HB4
  have K := hid (example_any 120 130 w6)
  go_wp2_with fail
  refine K.out.mono ?_
  rintro e w7 ⟨v1, v2, rfl, hbk, hb7, ⟨p5, c5, rfl⟩, ⟨p6, c6, rfl⟩⟩
  clear K
  have K := hid (aw_no w7 _ _ hbk)
  have HB7 := hid hb7
  clear hbk hb7
  go_wp2_with fail
  refine K.out.mono ?_
  rintro e w8 ⟨rfl, hb8⟩
  clear K
  have hs := HB7.out.trans (hb8.mono HB7.out.size)
  have HT8 := hid (HT6.out.later hs)
  have HD8 := hid (HD6.out.later hs)
  have HN8 := hid (HN6.out.later hs HN6.out.lt)
  have HB8 := hid (HB6.out.trans (hs.mono HB6.out.size))
  clear hs hb8 HB7 HT6 HD6 HN6 HB6
  have K := hid (example_any 120 130 w8)
  go_wp2_with fail
  refine K.out.mono ?_
  rintro e w9 ⟨v1, v2, rfl, hbk, hb9, ⟨p7, c7, rfl⟩, ⟨p8, c8, rfl⟩⟩
  clear K
  have K := hid (aw_min w9 _ _ hbk)
  have HB9 := hid hb9
  clear hbk hb9
  go_wp2_with fail
  refine K.out.mono ?_
  rintro e w10 ⟨gm, cm, rfl, hm, hb10⟩
  clear K
  have hs := HB9.out.trans (hb10.mono HB9.out.size)
  have HM10 := hid hm
  have HT10 := hid (HT8.out.later hs)
  have HD10 := hid (HD8.out.later hs)
  have HN10 := hid (HN8.out.later hs HN8.out.lt)
  have HB10 := hid (HB8.out.trans (hs.mono HB8.out.size))
  clear hs hm hb10 HB9 HT8 HD8 HN8 HB8
  have K := hid (example_any 120 130 w10)
  go_wp2_with fail
  refine K.out.mono ?_
  rintro e w11 ⟨v1, v2, rfl, hbk, hb11, ⟨p9, c9, rfl⟩, ⟨p10, c10, rfl⟩⟩
  clear K
  obtain ⟨wc, hwc⟩ : ∃ wc, wc = w11.alloc (.cells #[.int .i64 0, .int .i64 1] 3) := ⟨_, rfl⟩
  have hbc : Below w10.heap.size w10 wc := by rw [hwc]; exact hb11.trans ((below_new w11 _).mono hb11.size)
  have K := hid (aw_conf wc _ _ (.slice (some ⟨w11.heap.size, 0, none⟩) 2 2) (by rw [hwc]; exact hbk.later (below_new w11 _)) (by rw [hwc]; exact slc_new w11 [.int .i64 0, .int .i64 1] 3 2 (by decide)))
  have HWC := hid hwc
  have HBC := hid hbc
  clear hwc hbc hbk hb11
  go_wp2_with (rw [← HWC.out])
  refine K.out.mono ?_
  rintro e w12 ⟨rfl, hb12⟩
  clear K HWC
  have hs := HBC.out.trans (hb12.mono HBC.out.size)
  have HM12 := hid (HM10.out.later hs)
  have HT12 := hid (HT10.out.later hs)
  have HD12 := hid (HD10.out.later hs)
  have HN12 := hid (HN10.out.later hs HN10.out.lt)
  have HB12 := hid (HB10.out.trans (hs.mono HB10.out.size))
  clear hs hb12 HBC HM10 HT10 HD10 HN10 HB10
  have K := hid (example_any 50 100 w12)
  go_wp2_with fail
  refine K.out.mono ?_
  rintro e w13 ⟨v1, v2, rfl, hbk, hb13, ⟨p11, c11, rfl⟩, ⟨p12, c12, rfl⟩⟩
  clear K
  obtain ⟨wd, hwd⟩ : ∃ wd, wd = w13.alloc (.cells #[.int .i64 1, .int .i64 0] 3) := ⟨_, rfl⟩
  have hbd : Below w12.heap.size w12 wd := by rw [hwd]; exact hb13.trans ((below_new w13 _).mono hb13.size)
  have K := hid (aw_change wd _ _ (.slice (some ⟨w13.heap.size, 0, none⟩) 2 2) (by rw [hwd]; exact hbk.later (below_new w13 _)) (by rw [hwd]; exact slc_new w13 [.int .i64 1, .int .i64 0] 3 2 (by decide)))
  have HWD := hid hwd
  have HBD := hid hbd
  clear hwd hbd hbk hb13
  go_wp2_with (rw [← HWD.out])
  refine K.out.mono ?_
  rintro e w14 ⟨rfl, hb14⟩
  clear K HWD
  obtain ⟨we, hwe⟩ : ∃ we, we = w14.alloc (.cells #[.int .i64 900, .int .i64 950] 38) := ⟨_, rfl⟩
  have hs : Below w12.heap.size w12 we := by rw [hwe]; exact (HBD.out.trans (hb14.mono HBD.out.size)).trans ((below_new w14 _).mono (Nat.le_trans HBD.out.size hb14.size))
  have HCE : Hid (Blk we w14.heap.size #[.int .i64 900, .int .i64 950] 38) := hid (by rw [hwe]; exact Blk.new w14 _ _)
  have HME := hid (HM12.out.later hs)
  have HTE := hid (HT12.out.later hs)
  have HDE := hid (HD12.out.later hs)
  have HNE := hid (HN12.out.later hs HN12.out.lt)
  have HBE := hid (HB12.out.trans (hs.mono HB12.out.size))
  have HWE := hid hwe
  have n0 := HNE.out.cell (i := 0) rfl
  have n1 := HNE.out.cell (i := 1) rfl
  have m0 := HCE.out.cell (i := 0) rfl
  have m1 := HCE.out.cell (i := 1) rfl
  have hat : ∀ {v : Nat} {n c : Nat} {cs : List Value}, SlcIn we (.slice (some ⟨v, 0, none⟩) n c) n cs → n ≠ 0 → ∀ (j : Nat) (u : Value), cs[j]? = some u → we.cell? ⟨v, j, none⟩ = some u := fun h h0 j u hu => h.at0 h0 j u hu
  have y0 := hat HDE.out (by decide) 0 _ rfl
  have y1 := hat HDE.out (by decide) 1 _ rfl
  have y2 := hat HDE.out (by decide) 2 _ rfl
  have y3 := hat HDE.out (by decide) 3 _ rfl
  have x4 := hat HTE.out (by decide) 4 _ rfl
  have x5 := hat HTE.out (by decide) 5 _ rfl
  have x6 := hat HTE.out (by decide) 6 _ rfl
  have x7 := hat HTE.out (by decide) 7 _ rfl
  clear hs hb14 HBD HM12 HT12 HD12 HN12 HB12 hwe hat
  go_wp2_with (rw [← HWE.out])
  have K := hid (aw_same (we.alloc (.cells #[.int .i64 0, .int .i64 1, .int .i64 3] 3)) _ _ (HME.out.later (below_new we _)) (slc_new we [.int .i64 0, .int .i64 1, .int .i64 3] 3 3 (by decide)))
  refine K.out.mono ?_
  rintro e wf ⟨rfl, hbf⟩
  clear K
  have HF := hid (HBE.out.trans (((below_new we (.cells #[.int .i64 0, .int .i64 1, .int .i64 3] 3)).trans (hbf.mono (by simp))).mono HBE.out.size))
  clear hbf
  go_wp2_with fail
  go_ret
  exact ⟨rfl, HF.out⟩
end Go.Proofs.Ytncnpodanlhdkaa
