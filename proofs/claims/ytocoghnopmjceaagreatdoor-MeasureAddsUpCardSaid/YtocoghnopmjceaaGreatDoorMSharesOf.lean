/-
  The closure of sharesOf.
-/
import Derived.Test.YtocoghnopmjceaaGreatDoorMMassesOf
import Derived.Test.YtocoghnopmjceaaGreatDoorIter
namespace Go.Proofs.YtocoghnopmjceaaGreatDoor
open Go.RowKit

def MC (gb gm r : Nat) (ms : Int) (W : World) : Prop := W.cell? ⟨gb, 0, none⟩ = some (.map (some r)) ∧ W.cell? ⟨gm, 0, none⟩ = some (.int .i64 ms)
theorem MC.later {gb gm r : Nat} {ms : Int} {W W' : World} (h : MC gb gm r ms W) (hb : Below W.heap.size W W') : MC gb gm r ms W' := by
  obtain ⟨h0, h1⟩ := h
  refine ⟨?_, ?_⟩
  · rw [hb.cell (World.block_lt_of_cell? W _ h0)]; exact h0
  · rw [hb.cell (World.block_lt_of_cell? W _ h1)]; exact h1

def mixQ (E : Ent) (ms : Int) (k : ByteArray) : Rat := lookQ E k / ((ms : Int) : Rat)

set_option maxRecDepth 100000 in
set_option maxHeartbeats 8000000 in
theorem mixClo_any (gb gm r : Nat) (E : Ent) (ms : Int) (k : ByteArray) (w : World) (hc : MC gb gm r ms w) (hN : NMapE w r E) (h1 : 1 ≤ ms) (h2 : ms ≤ 999999999) (hbd : ∀ e ∈ E, bd e.2.2 (602 * 64 * 64 + 1)) :
    Calls Tryz.prog 84 #[.string k, .pointer (some ⟨gb, 0, none⟩), .pointer (some ⟨gm, 0, none⟩)] w fun e w' => e = .returned (.tuple #[.agg #[.string k, .string (wtext (mixQ E ms k))], .int .i64 (werr (mixQ E ms k) : Nat)]) ∧ Below w.heap.size w w' := by
  have hal : Below w.heap.size w (w.alloc (.cells #[.string ⟨#[]⟩, .string ⟨#[]⟩] 58)) := (Below.refl _ _).alloc (Nat.le_refl _) _
  have HAL := hid (hal.trans ((Below.refl w.heap.size _).drew))
  have HO := hid ((own_two w 58 (.string ⟨#[]⟩) (.string ⟨#[]⟩)).later ((Below.refl _ _).drew))
  have HC0 := hid ((hc.later hal).later ((Below.refl _ _).drew))
  have HN0 := hid ((hN.later hal).later ((Below.refl _ _).drew))
  have bm := bd_int ms (by omega) h2
  have bl := lookQ_bd (k := k) hbd (by omega)
  have HCAP : Hid (rs (lookQ E k) + rs ((ms : Int) : Rat) ≤ Cap ∧ rs (mixQ E ms k) ≤ Cap) := hid (by
    have a1 := bl.rs; have a2 := bm.rs; have a3 := (bd_div bl bm).rs
    unfold mixQ Cap; omega)
  have HNZ : Hid (((ms : Int) : Rat).num ≠ 0) := hid (by show ms ≠ 0; omega)
  have HWH := hid (call_nv (whole_any ms (w.alloc (.cells #[.string ⟨#[]⟩, .string ⟨#[]⟩] 58)).drew (by omega) (by omega)))
  obtain ⟨L0, HZ0⟩ := run_lookE HN0.out k
  have e0 : (w.alloc (.cells #[.string ⟨#[]⟩, .string ⟨#[]⟩] 58)).drew.cell? ⟨gb, 0, none⟩ = some (.map (some r)) ∧ (w.alloc (.cells #[.string ⟨#[]⟩, .string ⟨#[]⟩] 58)).drew.cell? ⟨gm, 0, none⟩ = some (.int .i64 ms) := HC0.out
  clear hal hc hN bm bl hbd
  go_enter Tryz.func84, Tryz.ntmps84
  go_wp2_with fail
  generalize w.alloc (.cells #[.string ⟨#[]⟩, .string ⟨#[]⟩] 58) = w1 at *
  go_region_held3 (fun W => W.cell? ⟨gb, 0, none⟩ = some (.map (some r)) ∧ W.cell? ⟨gm, 0, none⟩ = some (.int .i64 ms)) (first | with_reducible exact eA | with_reducible exact eB | with_reducible exact eC | exact e0)
    (first
      | (go_at_call 39; ((with_reducible refine HWH.out.mono ?_); rintro e wA ⟨⟨t1, rfl, hn⟩, hb⟩; have HV1 := hid hn; have HBA := hid (HAL.out.trans (hb.mono HAL.out.size)); have HNA := hid (HN0.out.later hb); have HOA := hid (HO.out.later (hb.mono HO.out.1)); have HCA := hid (HC0.out.later hb); have eA : wA.cell? ⟨gb, 0, none⟩ = some (.map (some r)) ∧ wA.cell? ⟨gm, 0, none⟩ = some (.int .i64 ms) := HCA.out; obtain ⟨LA, HZA⟩ := run_lookE HNA.out k; clear hn hb))
      | (go_at_call 43; ((with_reducible refine (call_nv (over_some _ _ _ _ wA HZA HV1.out HNZ.out HCAP.out.1)).mono ?_); rintro e wB ⟨⟨t2, rfl, hn⟩, hb⟩; have HV2 : Hid (NumV wB (.agg #[.bool t2.b, .slice t2.p t2.k t2.c, .slice t2.q t2.j t2.d]) (mixQ E ms k)) := hid hn; have HBB := hid (HBA.out.trans (hb.mono HBA.out.size)); have HOB := hid (HOA.out.later (hb.mono HOA.out.1)); have HCB := hid (HCA.out.later hb); have eB : wB.cell? ⟨gb, 0, none⟩ = some (.map (some r)) ∧ wB.cell? ⟨gm, 0, none⟩ = some (.int .i64 ms) := HCB.out; clear hn hb))
      | (go_at_call 31; ((with_reducible refine (write_any _ _ wB HV2.out HCAP.out.2).mono ?_); rintro e wC h; obtain ⟨rfl, hb⟩ := ratOf_w h; have HBC := hid (HBB.out.trans (hb.mono HBB.out.size)); have HOC := hid (HOB.out.later (hb.mono HOB.out.1)); have HCC := hid (HCB.out.later hb); have eC : wC.cell? ⟨gb, 0, none⟩ = some (.map (some r)) ∧ wC.cell? ⟨gm, 0, none⟩ = some (.int .i64 ms) := HCC.out; obtain ⟨⟨r0, g0'⟩, ⟨r1, g1⟩⟩ := two_out' HOC.out; clear hb h)))
  all_goals
    have HBF := hid (two_stored HBC.out (Nat.le_refl _) (.string k) (.string (wtext (mixQ E ms k))))
    go_wp2_with fail
    refine bodyPost_ret (v := .tuple #[.agg #[.string k, .string (wtext (mixQ E ms k))], .int .i64 (werr (mixQ E ms k) : Nat)]) ?_ rfl ?_
    · simp [results, Tryz.results84, go_sem, r0, r1]
    · exact ⟨rfl, HBF.out⟩
end Go.Proofs.YtocoghnopmjceaaGreatDoor

/-
  readEach of the lots of a mixture.
-/
namespace Go.Proofs.YtocoghnopmjceaaGreatDoor
open Go.RowKit

/-- Shares as elements. -/
def shK : Kind (ByteArray × ByteArray) where
  ty := 58
  size := 2
  ok := fun c => ∃ s, c = .string s
  E := fun _ cs x => cs = [.string x.1, .string x.2]

theorem shK_law : shK.Law where
  pos := by show 0 < 2; omega
  cells := by
    rintro W cs x rfl
    refine ⟨rfl, fun c hc => ?_⟩
    simp only [List.mem_cons, List.not_mem_nil, or_false] at hc
    rcases hc with rfl | rfl <;> exact ⟨⟨_, rfl⟩, rfl⟩
  later := by
    rintro W W' cs x rfl _
    rfl
  set := by
    rintro W g cur ty fr cs x cs' rfl _ _
    rfl

/-- Texts in a row. -/
def StrsAt (W : World) (b o : Nat) (l : List ByteArray) : Prop := ∀ (j : Nat) (s : ByteArray), l[j]? = some s → W.cell? ⟨b, o + j, none⟩ = some (.string s)

theorem StrsAt.later {W W' : World} {b o : Nat} {l : List ByteArray} (h : StrsAt W b o l) (hb : Below W.heap.size W W') : StrsAt W' b o l := fun j s hj => by
  rw [hb.cell (World.block_lt_of_cell? W _ (h j s hj))]
  exact h j s hj

theorem make_shs (n : Nat) (hn : n ≤ 1048576) (w : World) :
    (Instr.makeSlice 51 (.int .i64 0) (.int .i64 (n : Int))).run Tryz.prog w = .ok (.slice (some ⟨w.heap.size, 0, none⟩) 0 n) (w.alloc (.cells (madeCells #[.string ⟨#[]⟩, .string ⟨#[]⟩] (n * 2)) 58)) := by
  obtain ⟨i0, hi, hz0, hz1, hz2⟩ := info_parts (show (Tryz.prog.info? 58).map (fun i => (i.zero, i.size, i.bytes)) = some (some (.agg #[.string ⟨#[]⟩, .string ⟨#[]⟩]), 2, 32) by kernel_rfl)
  have h := run_make (P := Tryz.prog) w 51 58 i0 _ Tryz.underlying51 hi hz0 .i64 .i64 0 (n : Int) (Int.le_refl _) (by omega) (by rw [hz2]; omega) (by omega)
  rw [hz1] at h
  simpa [Value.cells] using h

set_option maxRecDepth 100000 in
set_option maxHeartbeats 4000000 in
/-- readEach with the closure of sharesOf. -/
theorem each_mix (gb gm r : Nat) (E : Ent) (ms : Int) (l : List ByteArray) (b o c : Nat) (w : World) (hrow : StrsAt w b o l) (hl : l.length ≤ 64) (hmc : MC gb gm r ms w) (hN : NMapE w r E) (h1 : 1 ≤ ms) (h2 : ms ≤ 999999999) (hbd : ∀ e ∈ E, bd e.2.2 (602 * 64 * 64 + 1)) :
    Calls Tryz.prog 81 #[.slice (some ⟨b, o, none⟩) l.length c, .func (.func 84) #[] #[.pointer (some ⟨gb, 0, none⟩), .pointer (some ⟨gm, 0, none⟩)]] w
      (EachK shK (l.map fun s => werr (mixQ E ms s)) (l.map fun s => (s, wtext (mixQ E ms s))) w) := by
  have HROW := hid hrow
  have HCL : Hid (∀ W s, Below w.heap.size w W → Calls Tryz.prog 84 #[.string s, .pointer (some ⟨gb, 0, none⟩), .pointer (some ⟨gm, 0, none⟩)] W fun e w' => e = .returned (.tuple #[.agg #[.string s, .string (wtext (mixQ E ms s))], .int .i64 (werr (mixQ E ms s) : Nat)]) ∧ Below W.heap.size W w') := hid fun W s hW => mixClo_any gb gm r E ms s W (hmc.later hW) (hN.later hW) h1 h2 hbd
  have hmk := make_shs l.length (by omega)
  obtain ⟨i0, hi, hz0, hz1, hz2⟩ := info_parts (show (Tryz.prog.info? 58).map (fun i => (i.zero, i.size, i.bytes)) = some (some (.agg #[.string ⟨#[]⟩, .string ⟨#[]⟩]), 2, 32) by kernel_rfl)
  have HI := hid hi
  clear hrow hi hz0 hz2 hmc hN hbd
  have HN0 := hid (rowOf_start shK_law w l.length (l.length * 2) #[.string ⟨#[]⟩, .string ⟨#[]⟩] rfl rfl (by
    intro c hc
    simp only [List.mem_cons, List.not_mem_nil, or_false] at hc
    rcases hc with rfl | rfl <;> exact ⟨_, rfl⟩))
  have HB0 : Hid (Below w.heap.size w (w.alloc (.cells (madeCells #[.string ⟨#[]⟩, .string ⟨#[]⟩] (l.length * 2)) 58))) := hid ((Below.refl _ _).alloc (Nat.le_refl _) _)
  obtain ⟨ef, hef⟩ : ∃ ef : ByteArray → Nat, ef = fun s => werr (mixQ E ms s) := ⟨_, rfl⟩
  obtain ⟨tf, htf⟩ : ∃ tf : ByteArray → ByteArray, tf = fun s => wtext (mixQ E ms s) := ⟨_, rfl⟩
  have e1 : ∀ s, wtext (mixQ E ms s) = tf s := fun s => by rw [htf]
  have e2 : ∀ s, werr (mixQ E ms s) = ef s := fun s => by rw [hef]
  simp only [e1, e2] at HCL ⊢
  clear e1 e2 hef htf
  obtain ⟨pf, hpf⟩ : ∃ pf : ByteArray → ByteArray × ByteArray, pf = fun s => (s, tf s) := ⟨_, rfl⟩
  have HPF : Hid (∀ s, pf s = (s, tf s)) := hid fun s => by rw [hpf]
  rw [show (l.map fun s => (s, tf s)) = l.map pf from by rw [hpf], show (l.map fun s => ef s) = l.map ef from rfl]
  clear hpf
  go_enter Tryz.func81, Tryz.ntmps81
  go_wp2_with fail
  clear hmk
  replace HN0 : Hid (RowOf shK (w.alloc (.cells (madeCells #[.string ⟨#[]⟩, .string ⟨#[]⟩] (l.length * 2)) 58)) w.heap.size l.length []) := HN0
  generalize w.alloc (.cells (madeCells #[.string ⟨#[]⟩, .string ⟨#[]⟩] (l.length * 2)) 58) = w0 at *
  go_loopw [6, 16] (fun r i wr => ∃ k : Nat, k ≤ l.length ∧ i = .int .i64 k ∧ r = .slice (some ⟨w.heap.size, 0, none⟩) k l.length ∧ Hid (RowOf shK wr w.heap.size l.length ((l.take k).map pf)) ∧ Hid (firstE ((l.take k).map ef) = 0) ∧ Hid (Below w.heap.size w wr)) (fun _ i _ => l.length - (intOf i).toNat)
  case atStart => exact ⟨0, Nat.zero_le _, rfl, rfl, HN0, hid rfl, HB0⟩
  case round =>
    obtain ⟨k, hk, rfl, rfl, HN, HE, HB⟩ := hrel
    clear HN0 HB0
    by_cases hkl : k < l.length
    · obtain ⟨s, hsk⟩ : ∃ s, l[k]? = some s := ⟨l[k], List.getElem?_eq_getElem hkl⟩
      have e0 := HROW.out k s hsk
      have hc0 : wr.cell? ⟨b, o + k, none⟩ = some (.string s) := by rw [HB.out.cell (World.block_lt_of_cell? w _ e0)]; exact e0
      have HRD := hid (HCL.out wr s HB.out)
      have HSK := hid hsk
      clear e0 hsk
      by_cases hc : ef s = 0
      · have HE2 := hid (first_good ef HSK.out HE.out hc)
        rw [hc] at HRD
        have hqs : ((l.take k).map pf) ++ [(s, tf s)] = (l.take (k + 1)).map pf := by
          rw [take_next HSK.out, List.map_append, ← HPF.out]; rfl
        have HQS := hid hqs
        have hql : ((l.take k).map pf).length = k := by rw [List.length_map, List.length_take]; omega
        have HN1 := HN
        have HB1 := HB
        clear HE hc hqs HN HB
        generalize tf s = q at *
        generalize ((l.take k).map pf) = qs at *
        go_wp2_with fail
        refine HRD.out.mono ?_
        rintro e w1 ⟨rfl, hb⟩
        have hal : Below w1.heap.size w1 (w1.alloc (.cells #[.string s, .string q] 58)) := (Below.refl _ _).alloc (Nat.le_refl _) _
        have HN2 := hid ((HN1.out.later shK_law hb).later shK_law hal)
        have HBB := hid (HB1.out.trans (hb.mono HB1.out.size))
        have hbs : w.heap.size ≤ w1.heap.size := HBB.out.size
        have HB2 := hid (HBB.out.trans (hal.mono hbs))
        obtain ⟨y0, y1⟩ := two_cells' (own_two w1 58 (.string s) (.string q))
        have hal2 : Below (w1.alloc (.cells #[.string s, .string q] 58)).heap.size (w1.alloc (.cells #[.string s, .string q] 58)) ((w1.alloc (.cells #[.string s, .string q] 58)).alloc (.cells #[.string s, .string q] 58)) := (Below.refl _ _).alloc (Nat.le_refl _) _
        obtain ⟨cur, hcur, hfit, hnew, hbel⟩ := (HN2.out.later shK_law hal2).push shK_law (cs := [.string s, .string q]) (x := (s, q)) (by rw [hql]; exact hkl) rfl
        have hnb := heap_alloc_new (w1.alloc (.cells #[.string s, .string q] 58)) (.cells #[.string s, .string q] 58)
        rw [World.size_alloc] at hnb
        rw [hql] at hfit hnew hbel
        simp only [List.append_assoc, List.cons_append, List.nil_append, shK, List.length_cons, List.length_nil, Nat.zero_add, Nat.reduceAdd] at hnew hbel hfit hcur
        have HNEW : Hid (RowOf shK _ _ _ _) := hid hnew
        have HBEL := hid (HB2.out.trans ((hal2.mono (by rw [World.size_alloc]; omega)).trans (hbel w.heap.size (Nat.le_refl _))))
        have HCUR := hid hcur
        have HNB := hid hnb
        have HFIT := hid hfit
        clear hal hal2 hbs hcur hfit hnew hbel hnb HN1 HB1 HN2 HB2 hql hb HBB hc0 HRD
        go_wp2_with (at_builtin; refine wpList_append_exact _ rfl _ _ 51 rfl 58 i0 2 Tryz.underlying51 HI.out hz1 w.heap.size k l.length cur rfl HCUR.out ⟨w1.heap.size + 1, 0, none⟩ 1 1 [.string s, .string q] rfl rfl (World.news_of_block HNB.out) ?qc1 (by omega) HFIT.out ?_)
        case qc1 =>
          intro u hu
          simp only [List.mem_cons, List.not_mem_nil, or_false] at hu
          rcases hu with rfl | rfl <;> rfl
        clear y0 y1
        go_wp2_with fail
        go_roundw
        case rel => exact ⟨k + 1, hkl, by go_num, rfl, hid (by rw [← HQS.out]; exact HNEW.out), HE2, HBEL⟩
        case measure => simp [intOf]; omega
      · have HF := hid (first_bad ef HSK.out HE.out hc)
        clear HE
        generalize ef s = ck at *
        generalize tf s = q at *
        have hck : ((ck : Int) == 0) = false := beq_eq_false_iff_ne.2 (by omega)
        have HCK := hid hc
        clear hc
        go_wp2_with fail
        refine HRD.out.mono ?_
        rintro e w1 ⟨rfl, hb⟩
        have h1 := HB.out.trans (hb.mono HB.out.size)
        have HB1 := hid (h1.trans ((Below.refl w.heap.size w1).alloc h1.size (.cells #[.string s, .string q] 58)))
        clear hb HB HRD hc0 h1
        go_wp2_with fail
        go_ret2
        exact eachK_bad HF.out HCK.out rfl HB1.out
    · obtain rfl : k = l.length := by omega
      have hE := HE.out
      have hN := HN.out
      rw [List.take_length] at hE hN
      have HE' := hid hE
      have HN' := hid hN
      clear hE hN HE HN
      go_wp2_with fail
      go_ret2
      exact eachK_good HE'.out (by rw [List.length_map]) (Nat.le_refl _) rfl HN'.out HB.out
end Go.Proofs.YtocoghnopmjceaaGreatDoor

/-
  sharesOf.
-/
namespace Go.Proofs.YtocoghnopmjceaaGreatDoor
open Go.RowKit Go.Maps Go.Sort Go.Shelf

def ofBytes (l : List UInt8) : ByteArray := ⟨l.toArray⟩
theorem ofBytes_data (s : ByteArray) : ofBytes s.data.toList = s := rfl

/-- The keys in their order. -/
def keysIn (ss : List (List UInt8)) : List ByteArray := (ss.mergeSort (fun x y => decide (x ≤ y))).map ofBytes

/-- What sharesOf answers. -/
def MixOf (E : Ent) (ms : Int) (w : World) (e : Ending) (w' : World) : Prop :=
  if 64 < E.length then e = .returned (.tuple #[.slice none 0 0, .int .i64 5]) ∧ Below w.heap.size w w'
  else ∃ ss : List (List UInt8), ss.Perm (E.map fun e => e.1.data.toList) ∧ EachK shK ((keysIn ss).map fun s => werr (mixQ E ms s)) ((keysIn ss).map fun s => (s, wtext (mixQ E ms s))) w e w'

theorem eachK_from {α : Type} {K : Kind α} {errs : List Nat} {l : List α} {w W w' : World} {e : Ending} (h : EachK K errs l W e w') (hb : Below w.heap.size w W) : EachK K errs l w e w' := by
  obtain ⟨h1, h2⟩ := h
  refine ⟨?_, hb.trans (h2.mono hb.size)⟩
  split
  · rename_i h0
    rw [if_pos h0] at h1
    obtain ⟨g, hg, he, hr⟩ := h1
    exact ⟨g, Nat.le_trans hb.size hg, he, hr⟩
  · rename_i h0
    rw [if_neg h0] at h1
    exact h1

theorem eachK_open {α : Type} {K : Kind α} {errs : List Nat} {l : List α} {W w' : World} {e : Ending} (h : EachK K errs l W e w') : ∃ (p : Option Addr) (n c : Nat) (z : Int), e = .returned (.tuple #[.slice p n c, .int .i64 z]) := by
  obtain ⟨h1, _⟩ := h
  split at h1
  · obtain ⟨g, _, he, _⟩ := h1
    exact ⟨_, _, _, _, he⟩
  · exact ⟨_, _, _, _, h1⟩

theorem keys_call (r : Nat) (W : World) : Calls Tryz.prog 83 #[.map (some r)] W fun e w' => e = .returned (.func (.func 126) #[] #[.pointer (some ⟨W.heap.size, 0, none⟩)]) ∧ w' = W.alloc (.cells #[.map (some r)] 105) :=
  callsIn_wide.1 (Tryz.maps_Keys_83 (some r) W)

theorem sorted_call {r n : Nat} {E : Ent} {W : World} (hn : n = W.heap.size) (hN : NMapE W r E) (hne : E ≠ []) (hl : E.length ≤ 64) (hk : ∀ e ∈ E, e.1.size ≤ maxLen) :
    Calls Tryz.prog 82 #[.func (.func 126) #[] #[.pointer (some ⟨n, 0, none⟩)]] (W.alloc (.cells #[.map (some r)] 105)) fun e w' => ∃ (ss : List (List UInt8)) (g c : Nat), ss.Perm (E.map fun e => e.1.data.toList) ∧ e = .returned (.slice (some ⟨g, 0, none⟩) (keysIn ss).length c) ∧ StrsAt w' g 0 (keysIn ss) ∧ Below W.heap.size W w' := by
  subst hn
  obtain ⟨D0, hown, hperm, hsz⟩ := hN.1.owns (H := Nat) (P := Tryz.prog) (kt := 9) Tryz.underlying9 (fun p hp => by
    rw [List.mem_map] at hp
    obtain ⟨e, he, rfl⟩ := hp
    exact hk e he) (by rw [List.length_map]; omega)
  rw [List.length_map] at hsz
  refine (callsIn_wide.1 (Tryz.slices_Sorted_keys_82_83 r _ D0 _ W hown (by rw [hsz]; unfold maxLen; omega) (by rw [hsz]; omega))).mono ?_
  rintro e w' ⟨v, ss, rfl, hp, hrow, hnil, hb⟩
  have hp2 := hp.trans hperm
  rw [List.map_map] at hp2
  have hlen := hp2.length_eq
  rw [List.length_map] at hlen
  have hss : ss ≠ [] := by
    rintro rfl
    exact hne (List.length_eq_zero_iff.1 hlen.symm)
  have hkl : (keysIn ss).length = ss.length := by unfold keysIn; rw [List.length_map, List.length_mergeSort]
  obtain ⟨h1, h2⟩ := hrow
  rcases h2 with ⟨h2, _⟩ | ⟨g, cap, cur, h3, h4, h5, h6, h7, h8, h9⟩
  · exact absurd (hnil.1 h2) hss
  · refine ⟨ss, g, cap, hp2, by rw [h3, hkl], fun j s hs => ?_, ((Below.refl _ _).alloc (Nat.le_refl _) _).trans (hb.mono (by rw [World.size_alloc]; omega))⟩
    rw [Nat.zero_add, cell_of_row w' g _ cur _ (0, 0) h5, ← Array.getElem?_toList]
    have hj : j < ss.length := by rw [← hkl]; exact (List.getElem?_eq_some_iff.1 hs).1
    have h10 : (cur.toList.take (ss.length * 1))[j]? = some (Value.string s) := by
      rw [h9]
      unfold keysIn at hs
      rw [List.getElem?_map] at hs ⊢
      cases hm : (ss.mergeSort (fun x y => decide (x ≤ y)))[j]? with
      | none => rw [hm] at hs; cases hs
      | some t =>
        rw [hm] at hs
        simp only [Option.map_some, Option.some.injEq] at hs
        subst hs
        rfl
    rwa [List.getElem?_take_of_lt (by omega)] at h10

set_option maxRecDepth 100000 in
set_option maxHeartbeats 4000000 in
/-- sharesOf: the shares of the lots, sorted, or the first error. -/
theorem sharesOf_any (r : Nat) (E : Ent) (ms : Int) (w : World) (hN : NMapE w r E) (hne : E ≠ []) (hk : ∀ e ∈ E, e.1.size ≤ maxLen) (h1 : 1 ≤ ms) (h2 : ms ≤ 999999999) (hbd : ∀ e ∈ E, bd e.2.2 (602 * 64 * 64 + 1)) :
    Calls Tryz.prog 46 #[.map (some r), .int .i64 ms] w (MixOf E ms w) := by
  have hal1 : Below w.heap.size w (w.alloc (.cells #[.map (some r)] 105)) := (Below.refl _ _).alloc (Nat.le_refl _) _
  have hal : Below w.heap.size w ((w.alloc (.cells #[.map (some r)] 105)).alloc (.cells #[.int .i64 ms] 3)) := hal1.alloc (by simp) _
  have HN2 := hid (hN.later hal)
  have HMC : Hid (MC w.heap.size (w.heap.size + 1) r ms ((w.alloc (.cells #[.map (some r)] 105)).alloc (.cells #[.int .i64 ms] 3))) := hid ⟨by simp, by simp⟩
  obtain ⟨m0, m1⟩ : ((w.alloc (.cells #[.map (some r)] 105)).alloc (.cells #[.int .i64 ms] 3)).cell? ⟨w.heap.size, 0, none⟩ = some (.map (some r)) ∧ ((w.alloc (.cells #[.map (some r)] 105)).alloc (.cells #[.int .i64 ms] 3)).cell? ⟨w.heap.size + 1, 0, none⟩ = some (.int .i64 ms) := HMC.out
  obtain ⟨es, clock, hb, hes⟩ : ∃ es clock, ((w.alloc (.cells #[.map (some r)] 105)).alloc (.cells #[.int .i64 ms] 3)).heap[r]? = some (.map es clock) ∧ es.size = E.length := by
    obtain ⟨es, clock, g1, g2, _⟩ := HN2.out.1
    refine ⟨es, clock, g1, ?_⟩
    have := congrArg List.length g2
    rw [List.length_map, List.length_map, List.length_map, Array.length_toList] at this
    exact this
  have hrl : (Builtin.len_ #[105] 3 #[.map (some r)]).run Tryz.prog ((w.alloc (.cells #[.map (some r)] 105)).alloc (.cells #[.int .i64 ms] 3)) = .ok (.int .i64 (es.size : Nat)) ((w.alloc (.cells #[.map (some r)] 105)).alloc (.cells #[.int .i64 ms] 3)) := run_len_map _ _ _ r es clock (by kernel_rfl) hb
  have HAL := hid hal
  by_cases hbig : 64 < E.length
  · have HF : Hid (∀ w', Below w.heap.size w w' → MixOf E ms w (.returned (.tuple #[.slice none 0 0, .int .i64 5])) w') := hid fun w' hb => by
      unfold MixOf; rw [if_pos hbig]; exact ⟨rfl, hb⟩
    have hgt : 64 < es.size := by omega
    clear hal hal1 hN hbd hk hne
    go_enter Tryz.func46, Tryz.ntmps46
    go_wp2_with fail
    go_ret2
    exact HF.out _ HAL.out
  · have hgt : ¬ 64 < es.size := by omega
    have HF : Hid (∀ (W : World) (ss : List (List UInt8)) e w', ss.Perm (E.map fun e => e.1.data.toList) → Below w.heap.size w W → EachK shK ((keysIn ss).map fun s => werr (mixQ E ms s)) ((keysIn ss).map fun s => (s, wtext (mixQ E ms s))) W e w' → MixOf E ms w e w') := hid fun W ss e w' hp hb h => by
      unfold MixOf; rw [if_neg hbig]; exact ⟨ss, hp, eachK_from h hb⟩
    have HSC := hid (sorted_call (n := w.heap.size + 1 + 1) (by simp) HN2.out hne (by omega) hk)
    have HKC := hid (keys_call r ((w.alloc (.cells #[.map (some r)] 105)).alloc (.cells #[.int .i64 ms] 3)))
    have HEM : Hid (∀ W ss g c, Below ((w.alloc (.cells #[.map (some r)] 105)).alloc (.cells #[.int .i64 ms] 3)).heap.size ((w.alloc (.cells #[.map (some r)] 105)).alloc (.cells #[.int .i64 ms] 3)) W → ss.Perm (E.map fun e => e.1.data.toList) → StrsAt W g 0 (keysIn ss) → Calls Tryz.prog 81 #[.slice (some ⟨g, 0, none⟩) (keysIn ss).length c, .func (.func 84) #[] #[.pointer (some ⟨w.heap.size, 0, none⟩), .pointer (some ⟨w.heap.size + 1, 0, none⟩)]] W (EachK shK ((keysIn ss).map fun s => werr (mixQ E ms s)) ((keysIn ss).map fun s => (s, wtext (mixQ E ms s))) W)) := hid fun W ss g c hW hp hs =>
      each_mix _ _ r E ms _ g 0 c W hs (by have := hp.length_eq; rw [List.length_map] at this; unfold keysIn; rw [List.length_map, List.length_mergeSort]; omega) (HMC.out.later hW) (HN2.out.later hW) h1 h2 hbd
    clear hal hal1 hN hbd hk hne
    go_enter Tryz.func46, Tryz.ntmps46
    go_wp2_with fail
    refine HKC.out.mono ?_
    rintro e w3 ⟨rfl, rfl⟩
    go_wp2_with fail
    refine HSC.out.mono ?_
    rintro e w4 ⟨ss, g, c, hp, rfl, hs, hb⟩
    have HEC := hid (HEM.out w4 ss g c hb hp hs)
    have HFF := hid (fun e w' h => HF.out w4 ss e w' hp (HAL.out.trans (hb.mono HAL.out.size)) h)
    clear hp hs hb HEM HSC HKC HF
    go_wp2_with fail
    refine HEC.out.mono ?_
    rintro e w5 h
    have HR := hid (HFF.out _ _ h)
    obtain ⟨p, n, c', z, rfl⟩ := eachK_open h
    clear h HFF HEC
    go_wp2_with fail
    go_ret2
    exact HR.out
end Go.Proofs.YtocoghnopmjceaaGreatDoor

