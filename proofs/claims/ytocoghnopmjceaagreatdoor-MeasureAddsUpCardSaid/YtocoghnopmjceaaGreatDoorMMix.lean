/-
  Mix, where it has no error.
-/
import Derived.Test.YtocoghnopmjceaaGreatDoorMSharesOf
import Derived.BigQuiet
namespace Go.Proofs.YtocoghnopmjceaaGreatDoor
open Go.RowKit

def lookD (D : List (ByteArray × Rat)) (k : ByteArray) : Rat := ((D.find? fun p => k == p.1).map (·.2)).getD 0

theorem lookQ_data (E : Ent) (k : ByteArray) : lookQ E k = lookD (dataE E) k := by
  unfold lookQ lookD dataE
  rw [List.find?_map, Option.map_map]
  rfl

theorem addD_key {D : List (ByteArray × Rat)} {k : ByteArray} {d : Rat} {N : Nat} (h : ∀ p ∈ D, p.1.size ≤ N) (hk : k.size ≤ N) : ∀ p ∈ addD D k d, p.1.size ≤ N := by
  intro p hp
  unfold addD at hp
  split at hp
  · rw [List.mem_map] at hp
    obtain ⟨q, hq, rfl⟩ := hp
    split
    · exact h q hq
    · exact h q hq
  · rw [List.mem_append, List.mem_singleton] at hp
    rcases hp with hp | rfl
    · exact h p hp
    · exact hk

theorem addD_ne {D : List (ByteArray × Rat)} {k : ByteArray} {d : Rat} : addD D k d ≠ [] := by
  unfold addD
  split
  · rename_i h
    intro h2
    rw [List.map_eq_nil_iff] at h2
    subst h2
    cases h
  · simp

theorem sharesD_key {m : Int} {N : Nat} (ss : List (ByteArray × ByteArray)) : ∀ {D : List (ByteArray × Rat)}, (∀ p ∈ D, p.1.size ≤ N) → (∀ s ∈ ss, s.1.size ≤ N) → ∀ p ∈ sharesD m D ss, p.1.size ≤ N := by
  induction ss with
  | nil => intro D h _; exact h
  | cons s ss ih =>
    intro D h hs
    exact ih (D := addD D s.1 (partQ s * ((m : Int) : Rat))) (addD_key h (hs s (List.mem_cons_self ..))) (fun t ht => hs t (List.mem_cons_of_mem _ ht))

theorem sharesD_ne {m : Int} (ss : List (ByteArray × ByteArray)) : ∀ {D : List (ByteArray × Rat)}, (D ≠ [] ∨ ss ≠ []) → sharesD m D ss ≠ [] := by
  induction ss with
  | nil => intro D h; exact h.resolve_right (fun h => h rfl)
  | cons s ss ih => intro D _; exact ih (D := addD D s.1 (partQ s * ((m : Int) : Rat))) (.inl addD_ne)

theorem massD_key {N : Nat} (l : List Lay) (h : ∀ x ∈ l, ∀ s ∈ x.shares, s.1.size ≤ N) : ∀ p ∈ massD l, p.1.size ≤ N := by
  induction l using list_rev_ind with
  | h0 => intro p hp; cases hp
  | h1 l x ih =>
    rw [massD_snoc]
    exact sharesD_key _ (ih fun y hy => h y (List.mem_append_left _ hy)) (h x (by simp))

theorem massD_ne (l : List Lay) (hl : l ≠ []) (h : ∀ x ∈ l, x.shares ≠ []) : massD l ≠ [] := by
  induction l using list_rev_ind with
  | h0 => exact absurd rfl hl
  | h1 l x ih =>
    rw [massD_snoc]
    exact sharesD_ne _ (.inr (h x (by simp)))

theorem firstE_zeros {α : Type} (f : α → Nat) (l : List α) (h : ∀ x ∈ l, f x = 0) : firstE (l.map f) = 0 := by
  induction l with
  | nil => rfl
  | cons a l ih =>
    show (if f a = 0 then firstE (l.map f) else f a) = 0
    rw [if_pos (h a (List.mem_cons_self ..))]
    exact ih fun x hx => h x (List.mem_cons_of_mem _ hx)

/-- The sum of the masses. -/
def massSum (l : List Lay) : Int := l.foldl (fun a x => a + x.mass) 0
theorem massSum_snoc (l : List Lay) (x : Lay) : massSum (l ++ [x]) = massSum l + x.mass := by unfold massSum; rw [List.foldl_append]; rfl
theorem massSum_bd (l : List Lay) (h : ∀ x ∈ l, layErr x = 0) : (l.length : Int) ≤ massSum l ∧ massSum l ≤ 999999999 * (l.length : Int) := by
  induction l using list_rev_ind with
  | h0 => exact ⟨Int.le_refl _, Int.le_refl _⟩
  | h1 l x ih =>
    rw [massSum_snoc, List.length_append, List.length_singleton]
    obtain ⟨h1, h2⟩ := ih fun y hy => h y (List.mem_append_left _ hy)
    obtain ⟨h3, h4, _⟩ := layErr_parts (h x (by simp))
    omega

/-- What Mix answers, if there is no error. -/
def MixGood (l : List Lay) (g0 : ByteArray) (w : World) (e : Ending) (w' : World) : Prop :=
  ∃ (ss : List (List UInt8)) (g : Nat), ss.Perm ((massD l).map fun p => p.1.data.toList) ∧ w.heap.size ≤ g ∧
    e = .returned (.tuple #[.agg #[.string g0, .int .i64 (massSum l), .slice (some ⟨g, 0, none⟩) (keysIn ss).length (keysIn ss).length], .int .i64 0]) ∧
    RowOf shK w' g (keysIn ss).length ((keysIn ss).map fun s => (s, wtext (lookD (massD l) s / ((massSum l : Int) : Rat)))) ∧ Below w.heap.size w w'

theorem each_layer_good {l : List Lay} {b o c : Nat} {w : World} (hg : GW w) (hrow : LayersAt w b o l) (hl : l.length ≤ 64) (hs : ∀ x ∈ l, ∀ s ∈ x.shares, s.2.size ≤ 1073741824) (hok : ∀ x ∈ l, layErr x = 0) :
    Calls Tryz.prog 44 #[.slice (some ⟨b, o, none⟩) l.length c, .func (.func 45) #[] #[]] w fun e w' => (∃ g, w.heap.size ≤ g ∧ e = .returned (.tuple #[.slice (some ⟨g, 0, none⟩) l.length l.length, .int .i64 0]) ∧ RowOf rowK w' g l.length (l.map layQ)) ∧ Below w.heap.size w w' :=
  (each_layer l b o c w hg hrow (by omega) hs).mono fun e w' h => by
    unfold EachK at h
    rw [if_pos (firstE_zeros layErr l hok), List.length_map] at h
    exact h

theorem sh_keep3 {W : World} {g g' cap : Nat} {l : List (ByteArray × ByteArray)} (h : RowOf shK W g cap l) (hne : g ≠ g') (x y z : Value) : RowOf shK (((W.setCell ⟨g', 0, none⟩ x).setCell ⟨g', 1, none⟩ y).setCell ⟨g', 2, none⟩ z) g cap l := by
  obtain ⟨h1, cur, hg, h2, h3, h4⟩ := h
  exact ⟨h1, cur, HBlk.other3 (W := W) (g := g) (cs := cur) (t := shK.ty) hg hne x y z, h2, h3, h4⟩

set_option maxRecDepth 100000 in
set_option maxHeartbeats 8000000 in
theorem mix_good (l : List Lay) (g0 : ByteArray) (b o c : Nat) (w : World) (hg : GW w) (hrow : LayersAt w b o l) (hl1 : 1 ≤ l.length) (hl : l.length ≤ 64) (_hc : c ≤ maxLen)
    (hs : ∀ x ∈ l, ∀ s ∈ x.shares, s.1.size ≤ 1073741824 ∧ s.2.size ≤ 1073741824) (hok : ∀ x ∈ l, layErr x = 0) (hgr : ∀ x ∈ l, x.grain = g0) (hsum : massSum l ≤ 999999999)
    (hlots : (massD l).length ≤ 64) (hfit : ∀ s, werr (lookD (massD l) s / ((massSum l : Int) : Rat)) = 0) :
    Calls Tryz.prog 17 #[.slice (some ⟨b, o, none⟩) l.length c] w (MixGood l g0 w) := by
  have hal : Below w.heap.size w (w.alloc (.cells #[.string ⟨#[]⟩, .int .i64 0, .slice none 0 0] 53)) := (Below.refl _ _).alloc (Nat.le_refl _) _
  have HAL := hid hal
  have HO := hid (own_three w 53 (.string ⟨#[]⟩) (.int .i64 0) (.slice none 0 0))
  have HEL := hid (each_layer_good (c := c) (hg.later hal) (hrow.later hal) hl (fun x hx s hs' => (hs x hx s hs').2) hok)
  have HROW := hid hrow
  obtain ⟨hm1, hm2⟩ := massSum_bd l hok
  have HOK := hid hok
  have HGR := hid hgr
  have HMO : Hid (∀ W g, Below w.heap.size w W → RowOf rowK W g l.length (l.map layQ) → Calls Tryz.prog 47 #[.slice (some ⟨b, o, none⟩) l.length c, .slice (some ⟨g, 0, none⟩) l.length l.length] W fun e w' => (∃ E, e = .returned (.map (some W.heap.size)) ∧ NMapE w' W.heap.size E ∧ dataE E = massD l ∧ ∀ e ∈ E, bd e.2.2 (602 * 64 * 64 + 1)) ∧ Below W.heap.size W w') := hid fun W g hW hr => massesOf_any l b o c g W (hrow.later hW) hl hok hr
  have HSO : Hid (∀ W E r, dataE E = massD l → NMapE W r E → (∀ e ∈ E, bd e.2.2 (602 * 64 * 64 + 1)) → Calls Tryz.prog 46 #[.map (some r), .int .i64 (massSum l)] W fun e w' => ∃ (ss : List (List UInt8)) (g : Nat), ss.Perm ((massD l).map fun p => p.1.data.toList) ∧ W.heap.size ≤ g ∧ e = .returned (.tuple #[.slice (some ⟨g, 0, none⟩) (keysIn ss).length (keysIn ss).length, .int .i64 0]) ∧ RowOf shK w' g (keysIn ss).length ((keysIn ss).map fun s => (s, wtext (lookD (massD l) s / ((massSum l : Int) : Rat)))) ∧ Below W.heap.size W w') := hid fun W E r hd hN hb => by
    have hkeys := massD_key l (N := 1073741824) fun x hx s hs' => (hs x hx s hs').1
    have hne := massD_ne l (by rintro rfl; exact absurd hl1 (by decide)) fun x hx h => by
      have := (layErr_parts (hok x hx)).2.2.1
      rw [h] at this
      exact absurd this (by decide)
    rw [← hd] at hkeys hne hlots
    have hEl : E.length ≤ 64 := by unfold dataE at hlots; rwa [List.length_map] at hlots
    refine (sharesOf_any r E (massSum l) W hN (by rintro rfl; exact hne rfl) (fun e he => ?_) (by omega) hsum hb).mono fun e w' h => ?_
    · have := hkeys (e.1, e.2.2) (by unfold dataE; exact List.mem_map_of_mem (f := fun e : ByteArray × NV × Rat => (e.1, e.2.2)) he)
      exact Nat.le_trans this (by decide)
    · unfold MixOf at h
      rw [if_neg (by omega)] at h
      obtain ⟨ss, hp, h⟩ := h
      have hq : ∀ s, mixQ E (massSum l) s = lookD (massD l) s / ((massSum l : Int) : Rat) := fun s => by unfold mixQ; rw [lookQ_data, hd]
      unfold EachK at h
      simp only [hq] at h
      rw [if_pos (firstE_zeros _ _ fun s _ => hfit s), List.length_map] at h
      obtain ⟨⟨g, h1, h2, h3⟩, h4⟩ := h
      refine ⟨ss, g, ?_, h1, h2, h3, h4⟩
      rw [← hd]
      unfold dataE
      rw [List.map_map]
      exact hp
  have hb0 : ((l.length : Int) == 0) = false := beq_eq_false_iff_ne.2 (by omega)
  have HLZ := hid hl1
  clear hg hrow hs hok hgr hlots hfit hal
  go_enter Tryz.func17, Tryz.ntmps17
  go_wp2_with fail
  refine HEL.out.mono ?_
  rintro e w1 ⟨⟨gp, hgp, rfl, hr⟩, hb⟩
  have HR := hid hr
  have HB := hid (HAL.out.trans (hb.mono HAL.out.size))
  have HO1 := hid (HO.out.later (hb.mono HO.out.1))
  clear hr hb HEL HO
  go_wp2_with fail
  go_loopw [6, 29] (fun a i wr => ∃ k : Nat, k ≤ l.length ∧ i = .int .i64 k ∧ a = .int .i64 (massSum (l.take k)) ∧ Hid (Below w1.heap.size w1 wr)) (fun _ i _ => l.length - (intOf i).toNat)
  case atStart => exact ⟨0, Nat.zero_le _, rfl, rfl, hid (Below.refl _ _)⟩
  case round =>
    obtain ⟨k, hk, rfl, rfl, HBW⟩ := hrel
    by_cases hkl : k < l.length
    · obtain ⟨x, hsk⟩ : ∃ x, l[k]? = some x := ⟨l[k], List.getElem?_eq_getElem hkl⟩
      obtain ⟨y, hy⟩ : ∃ y, l[0]? = some y := ⟨l[0]'(by omega), List.getElem?_eq_getElem _⟩
      obtain ⟨e0, e1, p, cc, e2, _⟩ := HROW.out k x hsk
      obtain ⟨f0, _⟩ := HROW.out 0 y hy
      rw [HGR.out x (List.mem_of_getElem? hsk)] at e0
      rw [HGR.out y (List.mem_of_getElem? hy)] at f0
      have hbw := HB.out.trans (HBW.out.mono HB.out.size)
      have c0 : wr.cell? ⟨b, o + k * 3, none⟩ = some (.string g0) := by rw [hbw.cell (World.block_lt_of_cell? w _ e0)]; exact e0
      have c1 : wr.cell? ⟨b, o + k * 3 + 1, none⟩ = some (.int .i64 x.mass) := by rw [hbw.cell (World.block_lt_of_cell? w _ e1)]; exact e1
      have c2 : wr.cell? ⟨b, o + k * 3 + 2, none⟩ = some (.slice p x.shares.length cc) := by rw [hbw.cell (World.block_lt_of_cell? w _ e2)]; exact e2
      have hal : Below wr.heap.size wr (wr.alloc (.cells #[.string g0, .int .i64 x.mass, .slice p x.shares.length cc] 53)) := (Below.refl _ _).alloc (Nat.le_refl _) _
      have d0 : (wr.alloc (.cells #[.string g0, .int .i64 x.mass, .slice p x.shares.length cc] 53)).cell? ⟨b, o, none⟩ = some (.string g0) := by
        have h1 := (hbw.trans (hal.mono hbw.size)).cell (World.block_lt_of_cell? w _ f0)
        rw [f0] at h1
        simpa using h1
      have ho := own_three wr 53 (.string g0) (.int .i64 x.mass) (.slice p x.shares.length cc)
      obtain ⟨a0, _⟩ := ho.2 0 (by omega)
      obtain ⟨a1, _⟩ := ho.2 1 (by omega)
      simp only [three', if_pos, Nat.one_ne_zero] at a0 a1
      obtain ⟨hx0, hx1, _⟩ := layErr_parts (HOK.out x (List.mem_of_getElem? hsk))
      obtain ⟨hs0, hs1⟩ := massSum_bd (l.take k) fun z hz => HOK.out z (List.mem_of_mem_take hz)
      have hlt : (l.take k).length ≤ 64 := Nat.le_trans (List.length_take_le' ..) hl
      have HTK : Hid (massSum (l.take (k + 1)) = massSum (l.take k) + x.mass) := hid (by rw [take_next hsk, massSum_snoc])
      have HBW2 := hid (HBW.out.trans (hal.mono HBW.out.size))
      clear e0 e1 e2 f0 hbw hal ho hsk hy HBW
      generalize x.mass = mx at *
      generalize x.shares.length = nx at *
      generalize massSum (l.take k) = a at *
      go_wp2_with fail
      go_quiet (fail)
      go_wp2_with fail
      go_roundw
      case rel => exact ⟨k + 1, by omega, by go_num, by rw [HTK.out], hid (below_drewN HBW2.out _)⟩
      case measure => simp [intOf]; omega
    · obtain rfl : k = l.length := by omega
      rw [List.take_length]
      have HBZ := hid (HB.out.trans (HBW.out.mono HB.out.size))
      have HRZ := hid (HR.out.later rowK_law HBW.out)
      have HMC := hid (HMO.out wr gp HBZ.out HRZ.out)
      have HOZ := hid (HO1.out.later (HBW.out.mono HO1.out.1))
      obtain ⟨y, hy⟩ : ∃ y, l[0]? = some y := ⟨l[0]'(by omega), List.getElem?_eq_getElem _⟩
      obtain ⟨f0, _⟩ := HROW.out 0 y hy
      rw [HGR.out y (List.mem_of_getElem? hy), Nat.zero_mul, Nat.add_zero] at f0
      have HF0 := hid f0
      have hms : ¬ 999999999 < massSum l := by omega
      clear hy f0 HMO HBW HO1 HR
      go_wp2_with fail
      refine HMC.out.mono ?_
      rintro e w2 ⟨⟨E, rfl, hN, hD, hbd⟩, hb⟩
      have HSC := hid (HSO.out w2 E _ hD hN hbd)
      have HB2 := hid (HBZ.out.trans (hb.mono HBZ.out.size))
      have HO2 := hid (HOZ.out.later (hb.mono HOZ.out.1))
      clear hN hD hbd hb HMC HSO HBZ HOZ
      go_wp2_with fail
      refine HSC.out.mono ?_
      rintro e w3 ⟨ss, g, hp, hg, rfl, hrow, hb⟩
      have HO3 := hid (HO2.out.later (hb.mono HO2.out.1))
      have HB3 := hid (HB2.out.trans (hb.mono HB2.out.size))
      have hgn : g ≠ w.heap.size := by have := HB2.out.size; have := HO2.out.1; omega
      have HGS : Hid (w.heap.size ≤ g) := hid (Nat.le_trans HB2.out.size hg)
      have HROW3 := hid hrow
      have hf : w3.cell? ⟨b, o, none⟩ = some (.string g0) := by rw [HB3.out.cell (World.block_lt_of_cell? w _ HF0.out)]; exact HF0.out
      obtain ⟨a0, b0⟩ := HO3.out.2 0 (by omega)
      obtain ⟨a1, b1⟩ := HO3.out.2 1 (by omega)
      obtain ⟨a2, b2⟩ := HO3.out.2 2 (by omega)
      simp only [three', if_pos, Nat.one_ne_zero] at a0 a1 a2
      have HP := hid hp
      clear hp hg hrow hb HSC
      go_wp2_with fail
      refine bodyPost_ret (v := .tuple #[.agg #[.string g0, .int .i64 (massSum l), .slice (some ⟨g, 0, none⟩) (keysIn ss).length (keysIn ss).length], .int .i64 0]) ?_ rfl ?_
      · simp [results, Tryz.results17, go_sem, a0, a1, a2]
      · exact ⟨ss, g, HP.out, HGS.out, rfl, sh_keep3 HROW3.out hgn _ _ _, ((HB3.out.setCell (p := ⟨w.heap.size, 0, none⟩) (Nat.le_refl _) _).setCell (p := ⟨w.heap.size, 1, none⟩) (Nat.le_refl _) _).setCell (p := ⟨w.heap.size, 2, none⟩) (Nat.le_refl _) _⟩
end Go.Proofs.YtocoghnopmjceaaGreatDoor

