/-
  WeighNets: the walk.
-/
import Derived.Test.YtlkefifffkhclaaWAgree
import Derived.Test.YtlkefifffkhclaaWAwk
namespace Go.Proofs.Ytlkefifffkhclaa
set_option linter.all false
open Go.RowKit

/-- Ranges that lie in blocks of their own. -/
def Bx (w : World) (L : List (Nat × Int × Int)) : Prop := ∀ p ∈ L, Blk w p.1 #[.int .i64 p.2.1, .int .i64 p.2.2] 23
theorem Bx.later {w w' : World} {L : List (Nat × Int × Int)} (h : Bx w L) (hb : Below w.heap.size w w') : Bx w' L := fun p hp => (h p hp).later hb (h p hp).lt
theorem Bx.new {w : World} {L : List (Nat × Int × Int)} (h : Bx w L) (x y : Int) : Bx (w.alloc (.cells #[.int .i64 x, .int .i64 y] 23)) ((w.heap.size, x, y) :: L) := fun p hp => by
  rcases List.mem_cons.1 hp with rfl | hp
  · exact Blk.new w _ _
  · exact (h p hp).alloc _
theorem Bx.at0 {w : World} {L : List (Nat × Int × Int)} (h : Bx w L) {g : Nat} {x y : Int} (hm : (g, x, y) ∈ L) : w.cell? ⟨g, 0, none⟩ = some (.int .i64 x) := (h _ hm).cell (i := 0) rfl
theorem Bx.at1 {w : World} {L : List (Nat × Int × Int)} (h : Bx w L) {g : Nat} {x y : Int} (hm : (g, x, y) ∈ L) : w.cell? ⟨g, 1, none⟩ = some (.int .i64 y) := (h _ hm).cell (i := 1) rfl
theorem Bx.ge {w : World} {L : List (Nat × Int × Int)} (h : Bx w L) {g : Nat} {x y : Int} (hm : (g, x, y) ∈ L) : g < w.heap.size := (h _ hm).lt
theorem Bx.put {w : World} {L : List (Nat × Int × Int)} {g : Nat} {x y : Int} (h : Bx w ((g, x, y) :: L)) (hl : ∀ p ∈ L, p.1 < g) (x' y' : Int) : Bx ((w.setCell ⟨g, 0, none⟩ (.int .i64 x')).setCell ⟨g, 1, none⟩ (.int .i64 y')) ((g, x', y') :: L) := fun p hp => by
  rcases List.mem_cons.1 hp with rfl | hp
  · exact ((h _ (List.mem_cons_self ..)).set 0 _).set 1 _
  · have hne : p.1 ≠ g := Nat.ne_of_lt (hl p hp)
    exact ((h p (List.mem_cons_of_mem _ hp)).setOther _ _ hne).setOther _ _ hne
theorem Bx.drew {w : World} {L : List (Nat × Int × Int)} (h : Bx w L) : Bx w.drew L := h
theorem rg_flat_len (T : List (Int × Int)) : (T.flatMap rgC).length = T.length * 2 := by
  induction T with
  | nil => rfl
  | cons t T ih => rw [List.flatMap_cons, List.length_append, ih, List.length_cons, Nat.add_mul, Nat.add_comm]; rfl
theorem SlcIn.far0 {w w' : World} {v : Value} {n : Nat} {cs : List Value} (h : SlcIn w v n cs) (hb : n ≠ 0 → ∀ q, v.ownBlock = some q → w'.heap[q]? = w.heap[q]?) : SlcIn w' v n cs := by
  by_cases h0 : n = 0
  · obtain ⟨p, c, h1, h2, h3, _⟩ := h
    exact ⟨p, c, h1, h2, h3, .inl h0⟩
  · exact h.far (hb h0)
theorem first_masses (a b c d : Int) : firstF [massErr a b, massErr c d] = eachErr massErr [(a, b), (c, d)] := by
  unfold firstF eachErr eachErr eachErr
  by_cases h : massErr a b = 0
  · by_cases h2 : massErr c d = 0 <;> simp [h, h2]
  · simp [h]
/-- What the law wants of Net. -/
theorem nets_one (a b c d : Int) (h : eachErr massErr [(a, b), (c, d)] ≠ 0) : alikeF (netRg (a, b) (c, d)) (netErr (a, b) (c, d)) (eachErr massErr [(a, b), (c, d)]) (0, 0) = true := by
  have e : netErr (a, b) (c, d) = eachErr massErr [(a, b), (c, d)] := by unfold netErr; rw [if_pos h]
  have r : netRg (a, b) (c, d) = (0, 0) := by unfold netRg; rw [e, if_pos h]
  unfold alikeF
  rw [if_pos h, e, r]
  simp
theorem nets_two (a b c d : Int) (h : eachErr massErr [(a, b), (c, d)] = 0) : alikeF (netRg (a, b) (c, d)) (netErr (a, b) (c, d)) (if (!decide (0 ≤ b - c)) = true then 15 else 0) (max 0 (a - d), b - c) = true := by
  by_cases hb : b < c
  · have e : netErr (a, b) (c, d) = 15 := by unfold netErr; simp [h, hb]
    have r : netRg (a, b) (c, d) = (0, 0) := by unfold netRg; rw [e]; rfl
    have hd : decide (0 ≤ b - c) = false := by simp; omega
    rw [hd, e, r]
    rfl
  · have e : netErr (a, b) (c, d) = 0 := by unfold netErr; simp [h, hb] <;> omega
    have r : netRg (a, b) (c, d) = (max 0 (a - d), b - c) := by unfold netRg; rw [e]; rfl
    have hd : decide (0 ≤ b - c) = true := by simp; omega
    rw [hd, e, r]
    unfold alikeF
    simp
theorem nets_three (l : List (Int × Int)) (h : massesErr l ≠ 0) : alikeF (draftsRg l) (draftsErr l) (massesErr l) (draftsRg l) = true ∧ alikeF (agreeRg l) (agreeErr l) (massesErr l) (agreeRg l) = true := by
  rcases drafts_ways l with ⟨_, e, r⟩ | ⟨h1, _⟩ | ⟨h1, _⟩
  · rcases agree_ways l with ⟨_, e2, r2⟩ | ⟨h2, _⟩ | ⟨h2, _⟩
    · unfold alikeF
      rw [if_pos h, if_pos h, e, r, e2, r2]
      simp
    · exact absurd h2 h
    · exact absurd h2 h
  · exact absurd h1 h
  · exact absurd h1 h
theorem nets_four (l : List (Int × Int)) (h : massesErr l = 0) : alikeF (draftsRg l) (draftsErr l) (if decide (999999999 < (sumR l l.length).2) = true then 4 else 0) (sumR l l.length) = true := by
  obtain ⟨_, _, hb⟩ := masses_ok h
  have hbd := sum_bd hb l.length (Nat.le_refl _)
  rcases drafts_ways l with ⟨h1, _⟩ | ⟨_, hf, e, r⟩ | ⟨_, hf, e, r⟩
  · exact absurd h h1
  · have hd : decide (999999999 < (sumR l l.length).2) = true := by
      unfold far2 far at hf
      simp at hf
      simp
      omega
    rw [hd, e, r]
    rfl
  · have hd : decide (999999999 < (sumR l l.length).2) = false := by
      unfold far2 far at hf
      simp at hf
      simp
      omega
    rw [hd, e, r]
    unfold alikeF
    simp
theorem nets_five (l : List (Int × Int)) (h : massesErr l = 0) : alikeF (agreeRg l) (agreeErr l) (if (!decide ((agrR l l.length).1 ≤ (agrR l l.length).2)) = true then 15 else 0) (agrR l l.length) = true := by
  rcases agree_ways l with ⟨h1, _⟩ | ⟨_, hf, e, r⟩ | ⟨_, hf, e, r⟩
  · exact absurd h h1
  · have hd : decide ((agrR l l.length).1 ≤ (agrR l l.length).2) = false := by simp; omega
    rw [hd, e, r]
    rfl
  · have hd : decide ((agrR l l.length).1 ≤ (agrR l l.length).2) = true := by simp; omega
    rw [hd, e, r]
    unfold alikeF
    simp

set_option maxRecDepth 100000 in
set_option maxHeartbeats 8000000 in
theorem nets_many (a b c d : Int) (p : Option Addr) (n cap : Nat) (W : World) (hn : 300 < n) (hn2 : n ≤ 9223372036854775807) : Calls Try.prog 3 #[.agg #[.int .i64 a, .int .i64 b], .agg #[.int .i64 c, .int .i64 d], .slice p n cap] W (Ret (.bool true) W) := by
  obtain ⟨w0, hw0⟩ : ∃ w0, w0 = (W.alloc (.cells #[.int .i64 a, .int .i64 b] 23)).alloc (.cells #[.int .i64 c, .int .i64 d] 23) := ⟨_, rfl⟩
  have HB0 : Hid (Below W.heap.size W w0) := hid (by rw [hw0]; exact (below_new W _).alloc (by simp) _)
  have HAW := hid (fun w => awake_any w)
  have HW0 := hid hw0
  clear hw0
  go_enter Try.func3, Try.ntmps3
  go_wp2_with (rw [← HW0.out])
  refine (HAW.out _).mono ?_
  rintro e w1 ⟨rfl, hb⟩
  have HB1 := hid (HB0.out.trans (hb.mono HB0.out.size))
  clear hb
  go_wp2_with fail
  refine (HAW.out _).mono ?_
  rintro e w2 ⟨rfl, hb⟩
  have HB2 := hid (HB1.out.trans (hb.mono HB1.out.size))
  clear hb
  go_wp2_with fail
  go_ret
  exact ⟨rfl, HB2.out⟩

set_option maxRecDepth 100000 in
set_option maxHeartbeats 8000000 in
theorem nets_any (a b c d : Int) (l : List (Int × Int)) (v : Value) (W : World) (hl : SlcIn W v l.length (l.flatMap rgC)) (hlen : l.length ≤ 300) : Calls Try.prog 3 #[.agg #[.int .i64 a, .int .i64 b], .agg #[.int .i64 c, .int .i64 d], v] W (Ret (.bool true) W) := by
  obtain ⟨p, cp, rfl, _⟩ := hl.shape
  obtain ⟨w0, hw0⟩ : ∃ w0, w0 = (W.alloc (.cells #[.int .i64 a, .int .i64 b] 23)).alloc (.cells #[.int .i64 c, .int .i64 d] 23) := ⟨_, rfl⟩
  have hb0 : Below W.heap.size W w0 := by rw [hw0]; exact (below_new W _).alloc (by simp) _
  have hx0 : Bx w0 [(W.heap.size, a, b), (W.heap.size + 1, c, d)] := fun p hp => by
    simp only [List.mem_cons, List.not_mem_nil, or_false] at hp
    rcases hp with rfl | rfl
    · rw [hw0]; exact (Blk.new W _ _).alloc _
    · rw [hw0]; exact Blk_newn _ _ _ (by simp)
  have HL := hid (hl.later hb0)
  have HB0 := hid hb0
  have HX0 := hid hx0
  have HW0 := hid hw0
  have hl0 := hlen
  obtain ⟨n, hn⟩ : ∃ n, n = l.length := ⟨_, rfl⟩
  rw [← hn] at hl0 ⊢
  have HN := hid hn
  have HAW := hid (fun w => awake_any w)
  have HNET : Hid (∀ w, Calls Try.prog 8 #[.agg #[.int .i64 a, .int .i64 b], .agg #[.int .i64 c, .int .i64 d]] w (Ret (.tuple #[.agg #[.int .i64 (netRg (a, b) (c, d)).1, .int .i64 (netRg (a, b) (c, d)).2], .int .i64 (netErr (a, b) (c, d))]) w)) := hid (fun w => net_any (a, b) (c, d) w)
  have HDR := hid (fun w (h : SlcIn w (.slice p l.length cp) l.length (l.flatMap rgC)) => drafts_any l _ w h)
  have HAG := hid (fun w (h : SlcIn w (.slice p l.length cp) l.length (l.flatMap rgC)) => agree_any l _ w h)
  have HCR := hid (fun w => checkRange_any a b w)
  have HRR := hid (fun w => refRange_any a b w)
  have HM1 := hid (fun w => refMass_any a b w)
  have HM2 := hid (fun w => refMass_any c d w)
  have hne := nets_one a b c d
  have hne2 := nets_two a b c d
  have HFM := hid (first_masses a b c d)
  have HMO : Hid (eachErr massErr [(a, b), (c, d)] = 0 → (0 ≤ a ∧ a ≤ b ∧ b ≤ 999999999) ∧ (0 ≤ c ∧ c ≤ d ∧ d ≤ 999999999)) := hid (fun h => ⟨mass_ok (each_ok h 0 _ rfl), mass_ok (each_ok h 1 _ rfl)⟩)
  obtain ⟨nr, hnr⟩ : ∃ nr, nr = netRg (a, b) (c, d) := ⟨_, rfl⟩
  obtain ⟨ne, hnee⟩ : ∃ ne, ne = netErr (a, b) (c, d) := ⟨_, rfl⟩
  obtain ⟨sr, hsr⟩ : ∃ sr, sr = draftsRg l := ⟨_, rfl⟩
  obtain ⟨se, hse⟩ : ∃ se, se = draftsErr l := ⟨_, rfl⟩
  obtain ⟨ar, har⟩ : ∃ ar, ar = agreeRg l := ⟨_, rfl⟩
  obtain ⟨ae, hae⟩ : ∃ ae, ae = agreeErr l := ⟨_, rfl⟩
  rw [← hnr, ← hnee] at HNET hne hne2
  rw [← hsr, ← hse, ← hn] at HDR
  rw [← har, ← hae, ← hn] at HAG
  rw [← hn] at HL
  obtain ⟨rr, hrr⟩ : ∃ rr, rr = rangeErr a b := ⟨_, rfl⟩
  rw [← hrr] at HCR HRR
  have HNE := hid hne
  have HNE2 := hid hne2
  have HSR := hid hsr
  have HSE := hid hse
  have HAR := hid har
  have HAE := hid hae
  clear hw0 hb0 hx0 hn hne hne2 hnr hnee hsr hse har hae hrr hl hlen
  go_enter Try.func3, Try.ntmps3
  go_wp2_with (rw [← HW0.out])
  refine (HAW.out _).mono ?_
  rintro e w1 ⟨rfl, hb⟩
  have HB1 := hid (HB0.out.trans (hb.mono HB0.out.size))
  have HX1 := hid (HX0.out.later hb)
  have HL1 := hid (HL.out.later hb)
  have x0 := HX1.out.at0 (g := W.heap.size) (x := a) (y := b) (by simp)
  have x1 := HX1.out.at1 (g := W.heap.size) (x := a) (y := b) (by simp)
  have y0 := HX1.out.at0 (g := W.heap.size + 1) (x := c) (y := d) (by simp)
  have y1 := HX1.out.at1 (g := W.heap.size + 1) (x := c) (y := d) (by simp)
  clear hb HX0 HB0 HL HAW
  go_wp2_with fail
  refine (HNET.out _).mono ?_
  rintro e w2 ⟨rfl, hb⟩
  obtain ⟨w3, hw3⟩ : ∃ w3, w3 = w2.alloc (.cells #[.int .i64 nr.1, .int .i64 nr.2] 23) := ⟨_, rfl⟩
  have HB3 : Hid (Below W.heap.size W w3) := hid (by rw [hw3]; exact HB1.out.trans ((hb.trans ((below_new w2 _).mono hb.size)).mono HB1.out.size))
  have HX3 : Hid (Bx w3 [(w2.heap.size, nr.1, nr.2), (W.heap.size, a, b), (W.heap.size + 1, c, d)]) := hid (by rw [hw3]; exact (HX1.out.later hb).new _ _)
  have HL3 : Hid (SlcIn w3 (.slice p n cp) n (l.flatMap rgC)) := hid (by rw [hw3]; exact (HL1.out.later hb).later (below_new w2 _))
  have HW3 := hid hw3
  clear hb hw3 HX1 HB1 HL1 HNET x0 x1 y0 y1
  go_wp2_with (rw [← HW3.out])
  refine (HDR.out _ HL3.out).mono ?_
  rintro e w4 ⟨rfl, hb⟩
  obtain ⟨w5, hw5⟩ : ∃ w5, w5 = w4.alloc (.cells #[.int .i64 sr.1, .int .i64 sr.2] 23) := ⟨_, rfl⟩
  have HB5 : Hid (Below W.heap.size W w5) := hid (by rw [hw5]; exact HB3.out.trans ((hb.trans ((below_new w4 _).mono hb.size)).mono HB3.out.size))
  have HX5 : Hid (Bx w5 [(w4.heap.size, sr.1, sr.2), (w2.heap.size, nr.1, nr.2), (W.heap.size, a, b), (W.heap.size + 1, c, d)]) := hid (by rw [hw5]; exact (HX3.out.later hb).new _ _)
  have HL5 : Hid (SlcIn w5 (.slice p n cp) n (l.flatMap rgC)) := hid (by rw [hw5]; exact (HL3.out.later hb).later (below_new w4 _))
  have HW5 := hid hw5
  clear hb hw5 HX3 HB3 HL3 HDR HW3
  go_wp2_with (rw [← HW5.out])
  refine (HAG.out _ HL5.out).mono ?_
  rintro e w6 ⟨rfl, hb⟩
  obtain ⟨w7, hw7⟩ : ∃ w7, w7 = w6.alloc (.cells #[.int .i64 ar.1, .int .i64 ar.2] 23) := ⟨_, rfl⟩
  have HB7 : Hid (Below W.heap.size W w7) := hid (by rw [hw7]; exact HB5.out.trans ((hb.trans ((below_new w6 _).mono hb.size)).mono HB5.out.size))
  have HX7 : Hid (Bx w7 [(w6.heap.size, ar.1, ar.2), (w4.heap.size, sr.1, sr.2), (w2.heap.size, nr.1, nr.2), (W.heap.size, a, b), (W.heap.size + 1, c, d)]) := hid (by rw [hw7]; exact (HX5.out.later hb).new _ _)
  have HL7 : Hid (SlcIn w7 (.slice p n cp) n (l.flatMap rgC)) := hid (by rw [hw7]; exact (HL5.out.later hb).later (below_new w6 _))
  have HW7 := hid hw7
  clear hb hw7 HX5 HB5 HL5 HAG HW5
  go_wp2_with (rw [← HW7.out])
  have HS : Hid (∀ w', Below w7.heap.size w7 w' → w'.cell? ⟨W.heap.size, 0, none⟩ = some (.int .i64 a) ∧ w'.cell? ⟨W.heap.size, 1, none⟩ = some (.int .i64 b)) := hid (fun w' hb => ⟨(HX7.out.later hb).at0 (g := W.heap.size) (x := a) (y := b) (by simp), (HX7.out.later hb).at1 (g := W.heap.size) (x := a) (y := b) (by simp)⟩)
  have HBc : Hid (Below w7.heap.size w7 w7.drew) := hid (Below.refl _ _).drew
  have hz : (rr != rr) = false := by simp
  go_region_held3 (fun w' => w'.cell? ⟨W.heap.size, 0, none⟩ = some (.int .i64 a) ∧ w'.cell? ⟨W.heap.size, 1, none⟩ = some (.int .i64 b)) (exact HS.out _ HBc.out) ((first | (go_at_call 11; (with_reducible refine (HCR.out _).mono ?_); rintro e wA ⟨rfl, hb⟩; have HBc := hid (HBc.out.trans (hb.mono HBc.out.size)); clear hb) | (go_at_call 12; (with_reducible refine (HRR.out _).mono ?_); rintro e wA ⟨rfl, hb⟩; have HBc := hid (HBc.out.trans (hb.mono HBc.out.size)); clear hb)))
  clear hz HS
  have HX8 := hid (HX7.out.later HBc.out)
  have HB8 := hid (HB7.out.trans (HBc.out.mono HB7.out.size))
  have HL8 := hid (HL7.out.later HBc.out)
  obtain ⟨w8, hw8⟩ : ∃ w8, w8 = wA := ⟨_, rfl⟩
  rw [← hw8] at HX8 HB8 HL8
  rw [← hw8]
  clear hw8 HBc HX7 HB7 HL7 HW7
  go_wp2_with fail
  have HS : Hid (∀ w', Below w8.heap.size w8 w' → w'.cell? ⟨W.heap.size, 0, none⟩ = some (.int .i64 a) ∧ w'.cell? ⟨W.heap.size, 1, none⟩ = some (.int .i64 b) ∧ w'.cell? ⟨W.heap.size + 1, 0, none⟩ = some (.int .i64 c) ∧ w'.cell? ⟨W.heap.size + 1, 1, none⟩ = some (.int .i64 d)) := hid (fun w' hb => ⟨(HX8.out.later hb).at0 (g := W.heap.size) (x := a) (y := b) (by simp), (HX8.out.later hb).at1 (g := W.heap.size) (x := a) (y := b) (by simp), (HX8.out.later hb).at0 (g := W.heap.size + 1) (x := c) (y := d) (by simp), (HX8.out.later hb).at1 (g := W.heap.size + 1) (x := c) (y := d) (by simp)⟩)
  have HBc : Hid (Below w8.heap.size w8 w8.drew) := hid (Below.refl _ _).drew
  obtain ⟨m1, hm1⟩ : ∃ m1, m1 = massErr a b := ⟨_, rfl⟩
  obtain ⟨m2, hm2⟩ : ∃ m2, m2 = massErr c d := ⟨_, rfl⟩
  obtain ⟨xx, hxx⟩ : ∃ xx, xx = eachErr massErr [(a, b), (c, d)] := ⟨_, rfl⟩
  rw [← hm1] at HM1 HFM
  rw [← hm2] at HM2 HFM
  rw [← hxx] at HFM HNE HNE2 HMO
  have HFI : Hid (∀ w : World, Calls Try.prog 13 #[.slice (some ⟨w.heap.size, 0, none⟩) 2 2] (w.alloc (.cells #[.int .i64 m1, .int .i64 m2] 3)) fun e w' => e = .returned (.int .i64 xx) ∧ (w.alloc (.cells #[.int .i64 m1, .int .i64 m2] 3)) = w') := hid (fun w => by
    have h := first_any [m1, m2] (.slice (some ⟨w.heap.size, 0, none⟩) 2 2) (w.alloc (.cells #[.int .i64 m1, .int .i64 m2] 3)) (slc_new w [.int .i64 m1, .int .i64 m2] 3 2 (by decide))
    rw [HFM.out] at h
    exact h)
  clear hm1 hm2 hxx
  go_region_held3 (fun w' => w'.cell? ⟨W.heap.size, 0, none⟩ = some (.int .i64 a) ∧ w'.cell? ⟨W.heap.size, 1, none⟩ = some (.int .i64 b) ∧ w'.cell? ⟨W.heap.size + 1, 0, none⟩ = some (.int .i64 c) ∧ w'.cell? ⟨W.heap.size + 1, 1, none⟩ = some (.int .i64 d)) (first | exact HS.out _ HBc.out | exact HS.out _ (HBc.out.trans ((below_new _ _).mono HBc.out.size))) ((first | (go_at_call 14; first | ((with_reducible refine (HM1.out _).mono ?_); rintro e wA ⟨rfl, hb⟩; have HBc := hid (HBc.out.trans (hb.mono HBc.out.size)); clear hb) | ((with_reducible refine (HM2.out _).mono ?_); rintro e wA ⟨rfl, hb⟩; have HBc := hid (HBc.out.trans (hb.mono HBc.out.size)); clear hb)) | (go_at_call 13; (with_reducible refine (HFI.out _).mono ?_); rintro e w' ⟨rfl, rfl⟩)))
  have HX9 : Hid (Bx (wA.alloc (.cells #[.int .i64 m1, .int .i64 m2] 3)) [(w6.heap.size, ar.1, ar.2), (w4.heap.size, sr.1, sr.2), (w2.heap.size, nr.1, nr.2), (W.heap.size, a, b), (W.heap.size + 1, c, d)]) := hid ((HX8.out.later HBc.out).later (below_new wA _))
  have HB9 : Hid (Below W.heap.size W (wA.alloc (.cells #[.int .i64 m1, .int .i64 m2] 3))) := hid (HB8.out.trans ((HBc.out.trans ((below_new wA _).mono HBc.out.size)).mono HB8.out.size))
  have HL9 : Hid (SlcIn (wA.alloc (.cells #[.int .i64 m1, .int .i64 m2] 3)) (.slice p n cp) n (l.flatMap rgC)) := hid ((HL8.out.later HBc.out).later (below_new wA _))
  obtain ⟨w9, hw9⟩ : ∃ w9, w9 = wA.alloc (.cells #[.int .i64 m1, .int .i64 m2] 3) := ⟨_, rfl⟩
  rw [← hw9] at HX9 HB9 HL9
  rw [← hw9]
  clear hw9 HBc HX8 HB8 HL8 HS HFI HM1 HM2 HFM
  have HLT9 : Hid (n ≠ 0 → ∀ q, (Value.slice p n cp).ownBlock = some q → q < w9.heap.size) := hid (fun h0 q hq => HL9.out.lt h0 (by rw [rg_flat_len, ← HN.out]; omega) q hq)
  have HW9 : Hid (W.heap.size ≤ w9.heap.size) := hid HB9.out.size
  have HQ9 : Hid (∀ q ∈ [(w6.heap.size, ar.1, ar.2), (w4.heap.size, sr.1, sr.2), (w2.heap.size, nr.1, nr.2), (W.heap.size, a, b), (W.heap.size + 1, c, d)], q.1 < w9.heap.size) := hid (fun q hq => (HX9.out q hq).lt)
  have HX10 : Hid (Bx (w9.alloc (.cells #[.int .i64 0, .int .i64 0] 23)) [(w9.heap.size, 0, 0), (w6.heap.size, ar.1, ar.2), (w4.heap.size, sr.1, sr.2), (w2.heap.size, nr.1, nr.2), (W.heap.size, a, b), (W.heap.size + 1, c, d)]) := hid (by exact HX9.out.new 0 0)
  have HB10 : Hid (Below W.heap.size W (w9.alloc (.cells #[.int .i64 0, .int .i64 0] 23))) := hid (by exact HB9.out.trans ((below_new w9 _).mono HB9.out.size))
  have HL10 : Hid (SlcIn (w9.alloc (.cells #[.int .i64 0, .int .i64 0] 23)) (.slice p n cp) n (l.flatMap rgC)) := hid (by exact HL9.out.later (below_new w9 _))
  have g0 := HX10.out.at0 (g := w9.heap.size) (x := 0) (y := 0) (by simp)
  have g1 := HX10.out.at1 (g := w9.heap.size) (x := 0) (y := 0) (by simp)
  have g2 := HX10.out.at0 (g := w2.heap.size) (x := nr.1) (y := nr.2) (by simp)
  have g3 := HX10.out.at1 (g := w2.heap.size) (x := nr.1) (y := nr.2) (by simp)
  have g4 := HX10.out.at0 (g := W.heap.size) (x := a) (y := b) (by simp)
  have g5 := HX10.out.at1 (g := W.heap.size) (x := a) (y := b) (by simp)
  have g6 := HX10.out.at0 (g := W.heap.size + 1) (x := c) (y := d) (by simp)
  have g7 := HX10.out.at1 (g := W.heap.size + 1) (x := c) (y := d) (by simp)
  clear HX9 HB9 HL9
  by_cases hxz : xx = 0
  · subst hxz
    obtain ⟨⟨b1, b2, b3⟩, b4, b5, b6⟩ := HMO.out rfl
    have HRN := hid (fun w => refNet_any a b c d w (by omega) (by omega) (by omega) (by omega))
    have HA1 := hid (fun w => alike_any nr.1 nr.2 (max 0 (a - d)) (b - c) ne _ w (HNE2.out rfl))
    have HWH := hid (fun w => when_any (!decide (0 ≤ b - c)) 15 w)
    obtain ⟨mx, hmx⟩ : ∃ mx, mx = max 0 (a - d) := ⟨_, rfl⟩
    obtain ⟨kk, hkk⟩ : ∃ kk : Int, kk = (if (!decide (0 ≤ b - c)) = true then 15 else 0) := ⟨_, rfl⟩
    obtain ⟨ok, hok⟩ : ∃ ok, ok = decide (0 ≤ b - c) := ⟨_, rfl⟩
    rw [← hmx] at HRN HA1
    rw [← hkk] at HA1 HWH
    rw [← hok] at HRN HWH
    obtain ⟨bc, hbc⟩ : ∃ bc, bc = b - c := ⟨_, rfl⟩
    rw [← hbc] at HRN HA1
    clear hmx hkk hok hbc b1 b2 b3 b4 b5 b6
    go_wp2_with fail
    refine (HRN.out _).mono ?_
    rintro e w11 ⟨rfl, hb⟩
    have HX11 := hid (HX10.out.later hb)
    have HB11 := hid (HB10.out.trans (hb.mono HB10.out.size))
    have HL11 := hid (HL10.out.later hb)
    have e0 := HX11.out.at0 (List.mem_cons_self ..)
    have e1 := HX11.out.at1 (List.mem_cons_self ..)
    have ef0 := (HX11.out _ (List.mem_cons_self ..)).froz 0
    have ef1 := (HX11.out _ (List.mem_cons_self ..)).froz 1
    obtain ⟨w12, hw12⟩ : ∃ w12, w12 = (w11.setCell ⟨w9.heap.size, 0, none⟩ (.int .i64 mx)).setCell ⟨w9.heap.size, 1, none⟩ (.int .i64 bc) := ⟨_, rfl⟩
    have HX12 := hid (show Bx w12 _ from by rw [hw12]; exact HX11.out.put (HQ9.out) mx bc)
    have hbo : Below w9.heap.size w11 w12 := by rw [hw12]; exact ((Below.refl _ _).setCell (p := ⟨w9.heap.size, 0, none⟩) (Nat.le_refl _) _).setCell (p := ⟨w9.heap.size, 1, none⟩) (Nat.le_refl _) _
    have HB12 := hid (HB11.out.trans (hbo.mono HW9.out))
    have HL12 := hid (show SlcIn w12 (.slice p n cp) n (l.flatMap rgC) from (HL11.out.far0 fun h0 q hq => hbo.block q (HLT9.out h0 q hq)))
    have HW12 := hid hw12
    have p0 := HX12.out.at0 (g := w2.heap.size) (x := nr.1) (y := nr.2) (by simp)
    have p1 := HX12.out.at1 (g := w2.heap.size) (x := nr.1) (y := nr.2) (by simp)
    have p2 := HX12.out.at0 (g := w9.heap.size) (x := mx) (y := bc) (by simp)
    have p3 := HX12.out.at1 (g := w9.heap.size) (x := mx) (y := bc) (by simp)
    clear hb hw12 hbo HX10 HB10 HL10 HX11 HB11 HL11 HRN g0 g1 g2 g3 g4 g5 g6 g7
    go_wp2_with (first | (rw [← HW12.out]) | (go_at_call 16; (with_reducible refine (HWH.out _).mono ?_); rintro e w' ⟨rfl, rfl⟩))
    refine (HA1.out _).mono ?_
    rintro e wz ⟨rfl, hb⟩
    have HXz := hid (HX12.out.later hb)
    have HBz := hid (HB12.out.trans (hb.mono HB12.out.size))
    have HLz := hid (HL12.out.later hb)
    clear hb HX12 HB12 HL12 p0 p1 p2 p3 e0 e1 ef0 ef1 HA1 HWH HW12
    have HMS := hid (refMasses_any l (.slice p n cp) wz (by have h := HLz.out; rw [HN.out] at h ⊢; exact h))
    have hn4 := nets_four l
    have hn5 := nets_five l
    have hn3 := nets_three l
    have HMK := hid (fun h => masses_ok (l := l) h)
    have HRD := hid (fun w (h : SlcIn w (.slice p l.length cp) l.length (l.flatMap rgC)) hm => refDrafts_any l _ w h hm)
    have HRA := hid (fun w (h : SlcIn w (.slice p l.length cp) l.length (l.flatMap rgC)) hm => refAgree_any l _ w h hm)
    obtain ⟨mm, hmm⟩ : ∃ mm, mm = massesErr l := ⟨_, rfl⟩
    obtain ⟨su, hsu⟩ : ∃ su, su = sumR l l.length := ⟨_, rfl⟩
    obtain ⟨ag, hag⟩ : ∃ ag, ag = agrR l l.length := ⟨_, rfl⟩
    rw [← hmm] at HMS hn3 hn4 hn5 HRD HRA
    rw [← HSR.out, ← HSE.out] at hn3 hn4
    rw [← HAR.out, ← HAE.out] at hn3 hn5
    rw [← hsu] at hn4 HRD
    rw [← hag] at hn5 HRA
    rw [← HN.out] at HRD HRA
    have HN3 := hid hn3
    have HN4 := hid hn4
    have HN5 := hid hn5
    clear hn3 hn4 hn5 hmm hsu hag HMK
    by_cases hmz : mm = 0
    · subst hmz
      have HA6 := hid (fun w => alike_any sr.1 sr.2 su.1 su.2 se _ w (HN4.out rfl))
      have HA7 := hid (fun w => alike_any ar.1 ar.2 ag.1 ag.2 ae _ w (HN5.out rfl))
      have HWH1 := hid (fun w => when_any (decide (999999999 < su.2)) 4 w)
      have HWH2 := hid (fun w => when_any (!decide (ag.1 ≤ ag.2)) 15 w)
      obtain ⟨k4, hk4⟩ : ∃ k4 : Int, k4 = (if decide (999999999 < su.2) = true then 4 else 0) := ⟨_, rfl⟩
      obtain ⟨k15, hk15⟩ : ∃ k15 : Int, k15 = (if (!decide (ag.1 ≤ ag.2)) = true then 15 else 0) := ⟨_, rfl⟩
      rw [← hk4] at HA6 HWH1
      rw [← hk15] at HA7 HWH2
      clear hk4 hk15
      go_wp2_with fail
      refine HMS.out.mono ?_
      rintro e wm ⟨rfl, hb⟩
      have HXm := hid (HXz.out.later hb)
      have HBm := hid (HBz.out.trans (hb.mono HBz.out.size))
      have HLm := hid (HLz.out.later hb)
      clear hb HXz HBz HLz HMS
      go_wp2_with fail
      refine (HRD.out _ HLm.out (by trivial)).mono ?_
      rintro e wn ⟨rfl, hb⟩
      have HXn := hid (HXm.out.later hb)
      have HBn := hid (HBm.out.trans (hb.mono HBm.out.size))
      have HLn := hid (HLm.out.later hb)
      have e0 := HXn.out.at0 (List.mem_cons_self ..)
      have e1 := HXn.out.at1 (List.mem_cons_self ..)
      have ef0 := (HXn.out _ (List.mem_cons_self ..)).froz 0
      have ef1 := (HXn.out _ (List.mem_cons_self ..)).froz 1
      obtain ⟨wo, hwo⟩ : ∃ wo, wo = ((wn.setCell ⟨w9.heap.size, 0, none⟩ (.int .i64 su.1)).setCell ⟨w9.heap.size, 1, none⟩ (.int .i64 su.2)).drew := ⟨_, rfl⟩
      have HXo := hid (show Bx wo _ from by rw [hwo]; exact (HXn.out.put (HQ9.out) su.1 su.2).drew)
      have hbo : Below w9.heap.size wn wo := by rw [hwo]; exact (((Below.refl _ _).setCell (p := ⟨w9.heap.size, 0, none⟩) (Nat.le_refl _) _).setCell (p := ⟨w9.heap.size, 1, none⟩) (Nat.le_refl _) _).drew
      have HBo := hid (HBn.out.trans (hbo.mono HW9.out))
      have HLo := hid (show SlcIn wo (.slice p n cp) n (l.flatMap rgC) from (HLn.out.far0 fun h0 q hq => hbo.block q (HLT9.out h0 q hq)))
      have HWO := hid hwo
      have p0 := HXo.out.at0 (g := w4.heap.size) (x := sr.1) (y := sr.2) (by simp)
      have p1 := HXo.out.at1 (g := w4.heap.size) (x := sr.1) (y := sr.2) (by simp)
      have p2 := HXo.out.at0 (g := w9.heap.size) (x := su.1) (y := su.2) (by simp)
      have p3 := HXo.out.at1 (g := w9.heap.size) (x := su.1) (y := su.2) (by simp)
      clear hb hwo hbo HXm HBm HLm HRD
      go_wp2_with fail
      refine region_tail 7 (by kernel_rfl) (by kernel_rfl) ?_
      rw [← HWO.out]
      simp only [List.take_succ_cons, List.take_zero, List.drop_succ_cons, List.drop_zero]
      repeat still_step
      still_call ((HWH1.out _).mono fun e w' ⟨h1, h2⟩ => ⟨h1, h2.symm⟩)
      repeat still_step
      try refine wpStill_nil ?_
      clear e0 e1 ef0 ef1 p0 p1 p2 p3 HWO
      go_wp2_with fail
      refine (HA6.out _).mono ?_
      rintro e wp ⟨rfl, hb⟩
      have HXp := hid (HXo.out.later hb)
      have HBp := hid (HBo.out.trans (hb.mono HBo.out.size))
      have HLp := hid (HLo.out.later hb)
      clear hb HXo HBo HLo HXn HBn HLn
      go_wp2_with fail
      refine (HRA.out _ HLp.out (by trivial)).mono ?_
      rintro e wq ⟨rfl, hb⟩
      obtain ⟨wr, hwr⟩ : ∃ wr, wr = (wq.alloc (.cells #[.int .i64 ag.1, .int .i64 ag.2] 23)).drew := ⟨_, rfl⟩
      have HXr := hid (show Bx wr _ from by rw [hwr]; exact ((HXp.out.later hb).new ag.1 ag.2).drew)
      have HBr : Hid (Below W.heap.size W wr) := hid (by rw [hwr]; exact HBp.out.trans ((hb.trans ((below_new wq _).drew.mono hb.size)).mono HBp.out.size))
      have HWR := hid hwr
      have p0 := HXr.out.at0 (g := w6.heap.size) (x := ar.1) (y := ar.2) (by simp)
      have p1 := HXr.out.at1 (g := w6.heap.size) (x := ar.1) (y := ar.2) (by simp)
      have p2 := HXr.out.at0 (g := wq.heap.size) (x := ag.1) (y := ag.2) (by simp)
      have p3 := HXr.out.at1 (g := wq.heap.size) (x := ag.1) (y := ag.2) (by simp)
      clear hb hwr HXp HBp HLp
      go_wp2_with fail
      refine region_tail 6 (by kernel_rfl) (by kernel_rfl) ?_
      rw [← HWR.out]
      simp only [List.take_succ_cons, List.take_zero, List.drop_succ_cons, List.drop_zero]
      repeat still_step
      still_call ((HWH2.out _).mono fun e w' ⟨h1, h2⟩ => ⟨h1, h2.symm⟩)
      repeat still_step
      try refine wpStill_nil ?_
      clear p0 p1 p2 p3 HWR
      go_wp2_with fail
      refine (HA7.out _).mono ?_
      rintro e ws ⟨rfl, hb⟩
      have HBs := hid (HBr.out.trans (hb.mono HBr.out.size))
      clear hb
      go_wp2_with fail
      go_ret
      exact ⟨rfl, HBs.out⟩
    · have hz : (mm == 0) = false := by simpa using hmz
      have hz2 : (mm != 0) = true := by simpa using hmz
      have HA3 := hid (fun w => alike_any sr.1 sr.2 sr.1 sr.2 se mm w (HN3.out hmz).1)
      have HA4 := hid (fun w => alike_any ar.1 ar.2 ar.1 ar.2 ae mm w (HN3.out hmz).2)
      clear hmz
      go_wp2_with fail
      refine HMS.out.mono ?_
      rintro e wm ⟨rfl, hb⟩
      have HXm := hid (HXz.out.later hb)
      have HBm := hid (HBz.out.trans (hb.mono HBz.out.size))
      have p0 := HXm.out.at0 (g := w4.heap.size) (x := sr.1) (y := sr.2) (by simp)
      have p1 := HXm.out.at1 (g := w4.heap.size) (x := sr.1) (y := sr.2) (by simp)
      clear hb
      go_wp2_with fail
      refine (HA3.out _).mono ?_
      rintro e wn ⟨rfl, hb⟩
      have HXn := hid (HXm.out.later hb)
      have HBn := hid (HBm.out.trans (hb.mono HBm.out.size))
      have q0 := HXn.out.at0 (g := w6.heap.size) (x := ar.1) (y := ar.2) (by simp)
      have q1 := HXn.out.at1 (g := w6.heap.size) (x := ar.1) (y := ar.2) (by simp)
      clear hb p0 p1
      go_wp2_with fail
      refine (HA4.out _).mono ?_
      rintro e wo ⟨rfl, hb⟩
      have HBo := hid (HBn.out.trans (hb.mono HBn.out.size))
      clear hb
      go_wp2_with fail
      go_ret
      exact ⟨rfl, HBo.out⟩
  · have hxe : (xx == 0) = false := by simpa using hxz
    have hxe2 : (xx != 0) = true := by simpa using hxz
    have HA1 := hid (fun w => alike_any nr.1 nr.2 0 0 ne xx w (HNE.out hxz))
    clear hxz
    go_wp2_with fail
    refine (HA1.out _).mono ?_
    rintro e wz ⟨rfl, hb⟩
    have HXz := hid (HX10.out.later hb)
    have HBz := hid (HB10.out.trans (hb.mono HB10.out.size))
    have HLz := hid (HL10.out.later hb)
    clear hb HX10 HB10 HL10 HA1 g0 g1 g2 g3 g4 g5 g6 g7
    have HMS := hid (refMasses_any l (.slice p n cp) wz (by have h := HLz.out; rw [HN.out] at h ⊢; exact h))
    have hn4 := nets_four l
    have hn5 := nets_five l
    have hn3 := nets_three l
    have HMK := hid (fun h => masses_ok (l := l) h)
    have HRD := hid (fun w (h : SlcIn w (.slice p l.length cp) l.length (l.flatMap rgC)) hm => refDrafts_any l _ w h hm)
    have HRA := hid (fun w (h : SlcIn w (.slice p l.length cp) l.length (l.flatMap rgC)) hm => refAgree_any l _ w h hm)
    obtain ⟨mm, hmm⟩ : ∃ mm, mm = massesErr l := ⟨_, rfl⟩
    obtain ⟨su, hsu⟩ : ∃ su, su = sumR l l.length := ⟨_, rfl⟩
    obtain ⟨ag, hag⟩ : ∃ ag, ag = agrR l l.length := ⟨_, rfl⟩
    rw [← hmm] at HMS hn3 hn4 hn5 HRD HRA
    rw [← HSR.out, ← HSE.out] at hn3 hn4
    rw [← HAR.out, ← HAE.out] at hn3 hn5
    rw [← hsu] at hn4 HRD
    rw [← hag] at hn5 HRA
    rw [← HN.out] at HRD HRA
    have HN3 := hid hn3
    have HN4 := hid hn4
    have HN5 := hid hn5
    clear hn3 hn4 hn5 hmm hsu hag HMK
    by_cases hmz : mm = 0
    · subst hmz
      have HA6 := hid (fun w => alike_any sr.1 sr.2 su.1 su.2 se _ w (HN4.out rfl))
      have HA7 := hid (fun w => alike_any ar.1 ar.2 ag.1 ag.2 ae _ w (HN5.out rfl))
      have HWH1 := hid (fun w => when_any (decide (999999999 < su.2)) 4 w)
      have HWH2 := hid (fun w => when_any (!decide (ag.1 ≤ ag.2)) 15 w)
      obtain ⟨k4, hk4⟩ : ∃ k4 : Int, k4 = (if decide (999999999 < su.2) = true then 4 else 0) := ⟨_, rfl⟩
      obtain ⟨k15, hk15⟩ : ∃ k15 : Int, k15 = (if (!decide (ag.1 ≤ ag.2)) = true then 15 else 0) := ⟨_, rfl⟩
      rw [← hk4] at HA6 HWH1
      rw [← hk15] at HA7 HWH2
      clear hk4 hk15
      go_wp2_with fail
      refine HMS.out.mono ?_
      rintro e wm ⟨rfl, hb⟩
      have HXm := hid (HXz.out.later hb)
      have HBm := hid (HBz.out.trans (hb.mono HBz.out.size))
      have HLm := hid (HLz.out.later hb)
      clear hb HXz HBz HLz HMS
      go_wp2_with fail
      refine (HRD.out _ HLm.out (by trivial)).mono ?_
      rintro e wn ⟨rfl, hb⟩
      have HXn := hid (HXm.out.later hb)
      have HBn := hid (HBm.out.trans (hb.mono HBm.out.size))
      have HLn := hid (HLm.out.later hb)
      have e0 := HXn.out.at0 (List.mem_cons_self ..)
      have e1 := HXn.out.at1 (List.mem_cons_self ..)
      have ef0 := (HXn.out _ (List.mem_cons_self ..)).froz 0
      have ef1 := (HXn.out _ (List.mem_cons_self ..)).froz 1
      obtain ⟨wo, hwo⟩ : ∃ wo, wo = ((wn.setCell ⟨w9.heap.size, 0, none⟩ (.int .i64 su.1)).setCell ⟨w9.heap.size, 1, none⟩ (.int .i64 su.2)).drew := ⟨_, rfl⟩
      have HXo := hid (show Bx wo _ from by rw [hwo]; exact (HXn.out.put (HQ9.out) su.1 su.2).drew)
      have hbo : Below w9.heap.size wn wo := by rw [hwo]; exact (((Below.refl _ _).setCell (p := ⟨w9.heap.size, 0, none⟩) (Nat.le_refl _) _).setCell (p := ⟨w9.heap.size, 1, none⟩) (Nat.le_refl _) _).drew
      have HBo := hid (HBn.out.trans (hbo.mono HW9.out))
      have HLo := hid (show SlcIn wo (.slice p n cp) n (l.flatMap rgC) from (HLn.out.far0 fun h0 q hq => hbo.block q (HLT9.out h0 q hq)))
      have HWO := hid hwo
      have p0 := HXo.out.at0 (g := w4.heap.size) (x := sr.1) (y := sr.2) (by simp)
      have p1 := HXo.out.at1 (g := w4.heap.size) (x := sr.1) (y := sr.2) (by simp)
      have p2 := HXo.out.at0 (g := w9.heap.size) (x := su.1) (y := su.2) (by simp)
      have p3 := HXo.out.at1 (g := w9.heap.size) (x := su.1) (y := su.2) (by simp)
      clear hb hwo hbo HXm HBm HLm HRD
      go_wp2_with fail
      refine region_tail 7 (by kernel_rfl) (by kernel_rfl) ?_
      rw [← HWO.out]
      simp only [List.take_succ_cons, List.take_zero, List.drop_succ_cons, List.drop_zero]
      repeat still_step
      still_call ((HWH1.out _).mono fun e w' ⟨h1, h2⟩ => ⟨h1, h2.symm⟩)
      repeat still_step
      try refine wpStill_nil ?_
      clear e0 e1 ef0 ef1 p0 p1 p2 p3 HWO
      go_wp2_with fail
      refine (HA6.out _).mono ?_
      rintro e wp ⟨rfl, hb⟩
      have HXp := hid (HXo.out.later hb)
      have HBp := hid (HBo.out.trans (hb.mono HBo.out.size))
      have HLp := hid (HLo.out.later hb)
      clear hb HXo HBo HLo HXn HBn HLn
      go_wp2_with fail
      refine (HRA.out _ HLp.out (by trivial)).mono ?_
      rintro e wq ⟨rfl, hb⟩
      obtain ⟨wr, hwr⟩ : ∃ wr, wr = (wq.alloc (.cells #[.int .i64 ag.1, .int .i64 ag.2] 23)).drew := ⟨_, rfl⟩
      have HXr := hid (show Bx wr _ from by rw [hwr]; exact ((HXp.out.later hb).new ag.1 ag.2).drew)
      have HBr : Hid (Below W.heap.size W wr) := hid (by rw [hwr]; exact HBp.out.trans ((hb.trans ((below_new wq _).drew.mono hb.size)).mono HBp.out.size))
      have HWR := hid hwr
      have p0 := HXr.out.at0 (g := w6.heap.size) (x := ar.1) (y := ar.2) (by simp)
      have p1 := HXr.out.at1 (g := w6.heap.size) (x := ar.1) (y := ar.2) (by simp)
      have p2 := HXr.out.at0 (g := wq.heap.size) (x := ag.1) (y := ag.2) (by simp)
      have p3 := HXr.out.at1 (g := wq.heap.size) (x := ag.1) (y := ag.2) (by simp)
      clear hb hwr HXp HBp HLp
      go_wp2_with fail
      refine region_tail 6 (by kernel_rfl) (by kernel_rfl) ?_
      rw [← HWR.out]
      simp only [List.take_succ_cons, List.take_zero, List.drop_succ_cons, List.drop_zero]
      repeat still_step
      still_call ((HWH2.out _).mono fun e w' ⟨h1, h2⟩ => ⟨h1, h2.symm⟩)
      repeat still_step
      try refine wpStill_nil ?_
      clear p0 p1 p2 p3 HWR
      go_wp2_with fail
      refine (HA7.out _).mono ?_
      rintro e ws ⟨rfl, hb⟩
      have HBs := hid (HBr.out.trans (hb.mono HBr.out.size))
      clear hb
      go_wp2_with fail
      go_ret
      exact ⟨rfl, HBs.out⟩
    · have hz : (mm == 0) = false := by simpa using hmz
      have hz2 : (mm != 0) = true := by simpa using hmz
      have HA3 := hid (fun w => alike_any sr.1 sr.2 sr.1 sr.2 se mm w (HN3.out hmz).1)
      have HA4 := hid (fun w => alike_any ar.1 ar.2 ar.1 ar.2 ae mm w (HN3.out hmz).2)
      clear hmz
      go_wp2_with fail
      refine HMS.out.mono ?_
      rintro e wm ⟨rfl, hb⟩
      have HXm := hid (HXz.out.later hb)
      have HBm := hid (HBz.out.trans (hb.mono HBz.out.size))
      have p0 := HXm.out.at0 (g := w4.heap.size) (x := sr.1) (y := sr.2) (by simp)
      have p1 := HXm.out.at1 (g := w4.heap.size) (x := sr.1) (y := sr.2) (by simp)
      clear hb
      go_wp2_with fail
      refine (HA3.out _).mono ?_
      rintro e wn ⟨rfl, hb⟩
      have HXn := hid (HXm.out.later hb)
      have HBn := hid (HBm.out.trans (hb.mono HBm.out.size))
      have q0 := HXn.out.at0 (g := w6.heap.size) (x := ar.1) (y := ar.2) (by simp)
      have q1 := HXn.out.at1 (g := w6.heap.size) (x := ar.1) (y := ar.2) (by simp)
      clear hb p0 p1
      go_wp2_with fail
      refine (HA4.out _).mono ?_
      rintro e wo ⟨rfl, hb⟩
      have HBo := hid (HBn.out.trans (hb.mono HBn.out.size))
      clear hb
      go_wp2_with fail
      go_ret
      exact ⟨rfl, HBo.out⟩
end Go.Proofs.Ytlkefifffkhclaa
