/-
  measure.read: the walk.
-/
import Derived.Test.YtocoghnopmjceaaGreatDoorMNumRead
namespace Go.Proofs.YtocoghnopmjceaaGreatDoor
open Go.RowKit

set_option maxRecDepth 100000 in
set_option maxHeartbeats 2000000 in
theorem read_top_bad (s a b : ByteArray) (neg f : Bool) (w : World) (R : ReadSet s a b neg f w) (h : plainD a.data.toList = false) :
    Calls Tryz.prog 32 #[.string s] w (NumOf s.data.toList w) := by
  have HW0 := hid (lone_start w false (.slice none 0 0) (.slice none 0 0))
  obtain ⟨d, hcp, hcut⟩ := R.leadPart
  have HCP := hid hcp
  have HCUT := hid hcut
  clear hcp hcut
  have HCK : Hid (checkR s.data.toList = 1) := hid (by rw [check_of R, h]; rfl)
  have HPA := hid (fun W hW => isPlain_res (w := w) a false h W hW)
  clear R h
  go_enter Tryz.func32, Tryz.ntmps32
  go_wp2_with fail
  refine (HCP.out _).mono ?_
  rintro e w1 ⟨rfl, hw1⟩
  rw [hw1]
  clear hw1 HCP
  go_wp2_with fail
  refine (HCUT.out _ HW0.out).mono ?_
  rintro e w2 ⟨rfl, hr⟩
  have HR := hid hr
  clear hr HCUT HW0
  go_wp2_with fail
  refine (HPA.out _ HR.out).mono ?_
  rintro e w3 ⟨rfl, hr⟩
  clear HR HPA
  have HR := hid hr
  clear hr
  obtain ⟨⟨r0, g0⟩, ⟨r1, g1⟩, ⟨r2, g2⟩⟩ := lone_out HR.out
  have HBEL := hid (below_stored HR.out.1 (Nat.le_refl w.heap.size) (.bool false) (.slice none 0 0) (.slice none 0 0))
  clear HR
  go_wp2_with fail
  refine bodyPost_ret (v := .tuple #[.agg #[.bool false, .slice none 0 0, .slice none 0 0], .int .i64 1]) ?_ rfl ?_
  · simp [results, Tryz.results32, go_sem, r0, r1, r2]
  · exact numOf_bad (by rw [HCK.out]; omega) (by rw [HCK.out]; rfl) rfl HBEL.out
set_option maxRecDepth 100000 in
set_option maxHeartbeats 2000000 in
theorem read_minus_zero (s a b : ByteArray) (neg f : Bool) (w : World) (R : ReadSet s a b neg f w) (h : plainD a.data.toList = true) (hn : neg = true) (hz : (a.data.toList == [48]) = true) :
    Calls Tryz.prog 32 #[.string s] w (NumOf s.data.toList w) := by
  have HW0 := hid (lone_start w false (.slice none 0 0) (.slice none 0 0))
  obtain ⟨d, hcp, hcut⟩ := R.leadPart
  have HCP := hid hcp
  have HCUT := hid hcut
  clear hcp hcut
  have HCK : Hid (checkR s.data.toList = 1) := hid (by rw [check_of R, h, hn, hz]; rfl)
  have HPA := hid (fun W hW => isPlain_res (w := w) a true h W hW)
  have hs1 := toList_eq' hz
  subst hn
  clear R h hz
  go_enter Tryz.func32, Tryz.ntmps32
  go_wp2_with fail
  refine (HCP.out _).mono ?_
  rintro e w1 ⟨rfl, hw1⟩
  rw [hw1]
  clear hw1 HCP
  go_wp2_with fail
  refine (HCUT.out _ HW0.out).mono ?_
  rintro e w2 ⟨rfl, hr⟩
  have HR := hid hr
  clear hr HCUT HW0
  go_wp2_with fail
  refine (HPA.out _ HR.out).mono ?_
  rintro e w3 ⟨rfl, hr⟩
  clear HR HPA
  have HR := hid hr
  clear hr
  obtain ⟨⟨r0, g0⟩, ⟨r1, g1⟩, ⟨r2, g2⟩⟩ := lone_out HR.out
  have HBEL := hid (below_stored HR.out.1 (Nat.le_refl w.heap.size) (.bool false) (.slice none 0 0) (.slice none 0 0))
  clear HR
  go_wp2_with fail
  refine bodyPost_ret (v := .tuple #[.agg #[.bool false, .slice none 0 0, .slice none 0 0], .int .i64 1]) ?_ rfl ?_
  · simp [results, Tryz.results32, go_sem, r0, r1, r2]
  · exact numOf_bad (by rw [HCK.out]; omega) (by rw [HCK.out]; rfl) rfl HBEL.out
set_option maxRecDepth 100000 in
set_option maxHeartbeats 2000000 in
theorem read_pos_no_la (s a b : ByteArray) (neg f : Bool) (w : World) (R : ReadSet s a b neg f w) (h : plainD a.data.toList = true) (hn : neg = false) (hf : f = false) (hl : 600 < a.data.toList.length) :
    Calls Tryz.prog 32 #[.string s] w (NumOf s.data.toList w) := by
  have HW0 := hid (lone_start w false (.slice none 0 0) (.slice none 0 0))
  obtain ⟨d, hcp, hcut⟩ := R.leadPart
  have HCP := hid hcp
  have HCUT := hid hcut
  clear hcp hcut
  have ha63 : a.size ≤ 1073741824 := R.short.1
  have hb63 : b.size ≤ 1073741824 := R.short.2
  have HPA := hid (fun W hW => isPlain_res (w := w) a true h W hW)
  have HCK : Hid (checkR s.data.toList = 4) := hid (by rw [check_of R, h, hn, hf]; exact (show (if 600 < a.data.toList.length ∨ 600 < b.data.toList.length then (4 : Nat) else if textQ s.data.toList = s.data.toList then 0 else 1) = 4 from if_pos (.inl hl)))
  have hla : 600 < a.size := by have := size_list a; omega
  clear hl
  clear R h
  subst hn
  subst hf
  go_enter Tryz.func32, Tryz.ntmps32
  go_wp2_with fail
  refine (HCP.out _).mono ?_
  rintro e w1 ⟨rfl, hw1⟩
  rw [hw1]
  clear hw1 HCP
  go_wp2_with fail
  refine (HCUT.out _ HW0.out).mono ?_
  rintro e w2 ⟨rfl, hr⟩
  have HR := hid hr
  clear hr HCUT HW0
  go_wp2_with fail
  refine (HPA.out _ HR.out).mono ?_
  rintro e w3 ⟨rfl, hr⟩
  clear HR HPA
  have HR := hid hr
  clear hr
  obtain ⟨⟨r0, g0⟩, ⟨r1, g1⟩, ⟨r2, g2⟩⟩ := lone_out HR.out
  have HBEL := hid (below_stored HR.out.1 (Nat.le_refl w.heap.size) (.bool false) (.slice none 0 0) (.slice none 0 0))
  clear HR
  go_wp2_with fail
  refine bodyPost_ret (v := .tuple #[.agg #[.bool false, .slice none 0 0, .slice none 0 0], .int .i64 4]) ?_ rfl ?_
  · simp [results, Tryz.results32, go_sem, r0, r1, r2]
  · exact numOf_bad (by rw [HCK.out]; omega) (by rw [HCK.out]; rfl) rfl HBEL.out
set_option maxRecDepth 100000 in
set_option maxHeartbeats 2000000 in
theorem read_pos_no_eq (s a b : ByteArray) (neg f : Bool) (w : World) (R : ReadSet s a b neg f w) (h : plainD a.data.toList = true) (hn : neg = false) (hf : f = false) (hl : ¬ 600 < a.data.toList.length) (hl2 : ¬ 600 < b.data.toList.length) (he : textQ s.data.toList = s.data.toList) :
    Calls Tryz.prog 32 #[.string s] w (NumOf s.data.toList w) := by
  have HW0 := hid (lone_start w false (.slice none 0 0) (.slice none 0 0))
  obtain ⟨d, hcp, hcut⟩ := R.leadPart
  have HCP := hid hcp
  have HCUT := hid hcut
  clear hcp hcut
  have ha63 : a.size ≤ 1073741824 := R.short.1
  have hb63 : b.size ≤ 1073741824 := R.short.2
  have HPA := hid (fun W hW => isPlain_res (w := w) a true h W hW)
  have HCK : Hid (checkR s.data.toList = 0) := hid (by rw [check_of R, h, hn, hf]; exact (show (if 600 < a.data.toList.length ∨ 600 < b.data.toList.length then (4 : Nat) else if textQ s.data.toList = s.data.toList then 0 else 1) = 0 from by rw [if_neg (by omega)]; first | exact if_pos he | exact if_neg he))
  have hla : ¬ 600 < a.size := by have := size_list a; omega
  have hlb : ¬ 600 < b.size := by have := size_list b; omega
  have HQ := hid (readQ_some R h (fun e => by rw [hf] at e; cases e))
  have HRD := hid (fun W hW => read_num (w := w) s R.gw R.size HQ.out W hW)
  have HTX := hid (fun (W : World) (v : Value) (hv : NumV W v (numQ s.data.toList)) => text_num hv (num_cap R))
  have HTV : Hid ((if fitsQ (numQ s.data.toList) 600 then (⟨(ratText (numQ s.data.toList)).toArray⟩ : ByteArray) else ⟨#[]⟩) = s) := hid (bytes_eq (by
    refine Eq.trans ?_ he
    unfold textQ
    split <;> simp))
  obtain ⟨fl, hfl⟩ : ∃ fl, fl = fitsQ (numQ s.data.toList) 600 := ⟨_, rfl⟩
  have HFV : Hid (fitsQ (numQ s.data.toList) 600 = fl) := hid hfl.symm
  clear hl hl2 he hfl HQ
  clear R h
  subst hn
  subst hf
  go_enter Tryz.func32, Tryz.ntmps32
  go_wp2_with fail
  refine (HCP.out _).mono ?_
  rintro e w1 ⟨rfl, hw1⟩
  rw [hw1]
  clear hw1 HCP
  go_wp2_with fail
  refine (HCUT.out _ HW0.out).mono ?_
  rintro e w2 ⟨rfl, hr⟩
  have HR := hid hr
  clear hr HCUT HW0
  go_wp2_with fail
  refine (HPA.out _ HR.out).mono ?_
  rintro e w3 ⟨rfl, hr⟩
  clear HR HPA
  have HR := hid hr
  clear hr
  go_wp2_with fail
  refine (HRD.out _ HR.out).mono ?_
  rintro e w9 ⟨⟨v9, rfl, hv⟩, hr⟩
  clear HR HRD
  have HR := hid hr
  have HV := hid hv
  obtain ⟨pt, kt, ct, pf, kf, cf, rfl, hp1, hp2⟩ := hv.parts
  clear hr hv hp1 hp2
  have hown := own3 w9 (decide ((numQ s.data.toList).num < 0)) (.slice pt kt ct) (.slice pf kf cf)
  have hal : Below w9.heap.size w9 (w9.alloc (.cells #[.bool (decide ((numQ s.data.toList).num < 0)), .slice pt kt ct, .slice pf kf cf] 75)) := (Below.refl _ _).alloc (Nat.le_refl _) _
  have HTX2 := hid (HTX.out (w9.alloc (.cells #[.bool (decide ((numQ s.data.toList).num < 0)), .slice pt kt ct, .slice pf kf cf] 75)) _ (HV.out.later hal))
  have HAL := hid hal
  have HOWN := hid hown
  have hsz9 : w.heap.size < w9.heap.size := HR.out.2.1
  rw [HTV.out, HFV.out] at HTX2
  generalize decide ((numQ s.data.toList).num < 0) = sg at *
  clear hown hal HTX HTV
  go_wp2_with fail
  refine HTX2.out.mono ?_
  rintro e w10 ⟨rfl, hb⟩
  have HRT := hid ((HR.out.later HAL.out).later hb)
  have HO10 : Hid (Own w10 w9.heap.size 3 (numCell sg (.slice pt kt ct) (.slice pf kf cf))) := hid (HOWN.out.later (hb.mono HOWN.out.1))
  have HV10 := hid ((HV.out.later HAL.out).later hb)
  clear hb HTX2 HR HV HOWN HAL
  obtain ⟨⟨r0, g0⟩, ⟨r1, g1⟩, ⟨r2, g2⟩⟩ := lone_out HRT.out
  obtain ⟨x0, x1, x2⟩ := box_cells HO10.out
  have HFIN := hid (num_stored HV10.out r0 r1 r2)
  have HBEL := hid (below_stored HRT.out.1 (Nat.le_refl w.heap.size) (.bool sg) (.slice pt kt ct) (.slice pf kf cf))
  clear HRT HO10 HV10
  go_wp2_with fail
  refine bodyPost_ret (v := .tuple #[.agg #[.bool sg, .slice pt kt ct, .slice pf kf cf], .int .i64 0]) ?_ rfl ?_
  · simp [results, Tryz.results32, go_sem, r0, r1, r2]
  · exact numOf_ok HCK.out rfl HFIN.out HBEL.out
set_option maxRecDepth 100000 in
set_option maxHeartbeats 2000000 in
theorem read_pos_no_ne (s a b : ByteArray) (neg f : Bool) (w : World) (R : ReadSet s a b neg f w) (h : plainD a.data.toList = true) (hn : neg = false) (hf : f = false) (hl : ¬ 600 < a.data.toList.length) (hl2 : ¬ 600 < b.data.toList.length) (he : ¬ textQ s.data.toList = s.data.toList) :
    Calls Tryz.prog 32 #[.string s] w (NumOf s.data.toList w) := by
  have HW0 := hid (lone_start w false (.slice none 0 0) (.slice none 0 0))
  obtain ⟨d, hcp, hcut⟩ := R.leadPart
  have HCP := hid hcp
  have HCUT := hid hcut
  clear hcp hcut
  have ha63 : a.size ≤ 1073741824 := R.short.1
  have hb63 : b.size ≤ 1073741824 := R.short.2
  have HPA := hid (fun W hW => isPlain_res (w := w) a true h W hW)
  have HCK : Hid (checkR s.data.toList = 1) := hid (by rw [check_of R, h, hn, hf]; exact (show (if 600 < a.data.toList.length ∨ 600 < b.data.toList.length then (4 : Nat) else if textQ s.data.toList = s.data.toList then 0 else 1) = 1 from by rw [if_neg (by omega)]; first | exact if_pos he | exact if_neg he))
  have hla : ¬ 600 < a.size := by have := size_list a; omega
  have hlb : ¬ 600 < b.size := by have := size_list b; omega
  have HQ := hid (readQ_some R h (fun e => by rw [hf] at e; cases e))
  have HRD := hid (fun W hW => read_num (w := w) s R.gw R.size HQ.out W hW)
  have HTX := hid (fun (W : World) (v : Value) (hv : NumV W v (numQ s.data.toList)) => text_num hv (num_cap R))
  obtain ⟨tx, htx⟩ : ∃ tx : ByteArray, tx = (if fitsQ (numQ s.data.toList) 600 then (⟨(ratText (numQ s.data.toList)).toArray⟩ : ByteArray) else ⟨#[]⟩) := ⟨_, rfl⟩
  have HTV : Hid ((if fitsQ (numQ s.data.toList) 600 then (⟨(ratText (numQ s.data.toList)).toArray⟩ : ByteArray) else ⟨#[]⟩) = tx) := hid htx.symm
  have hs4 : ¬ tx.toList = s.toList := by
    rw [ByteArray.toList_eq, ByteArray.toList_eq, htx]
    intro e
    apply he
    refine Eq.trans ?_ e
    unfold textQ
    split <;> simp
  have hs5 : (!tx.toList == s.toList) = true := by rw [beq_eq_false_iff_ne.2 hs4]; rfl
  clear htx
  obtain ⟨fl, hfl⟩ : ∃ fl, fl = fitsQ (numQ s.data.toList) 600 := ⟨_, rfl⟩
  have HFV : Hid (fitsQ (numQ s.data.toList) 600 = fl) := hid hfl.symm
  clear hl hl2 he hfl HQ
  clear R h
  subst hn
  subst hf
  go_enter Tryz.func32, Tryz.ntmps32
  go_wp2_with fail
  refine (HCP.out _).mono ?_
  rintro e w1 ⟨rfl, hw1⟩
  rw [hw1]
  clear hw1 HCP
  go_wp2_with fail
  refine (HCUT.out _ HW0.out).mono ?_
  rintro e w2 ⟨rfl, hr⟩
  have HR := hid hr
  clear hr HCUT HW0
  go_wp2_with fail
  refine (HPA.out _ HR.out).mono ?_
  rintro e w3 ⟨rfl, hr⟩
  clear HR HPA
  have HR := hid hr
  clear hr
  go_wp2_with fail
  refine (HRD.out _ HR.out).mono ?_
  rintro e w9 ⟨⟨v9, rfl, hv⟩, hr⟩
  clear HR HRD
  have HR := hid hr
  have HV := hid hv
  obtain ⟨pt, kt, ct, pf, kf, cf, rfl, hp1, hp2⟩ := hv.parts
  clear hr hv hp1 hp2
  have hown := own3 w9 (decide ((numQ s.data.toList).num < 0)) (.slice pt kt ct) (.slice pf kf cf)
  have hal : Below w9.heap.size w9 (w9.alloc (.cells #[.bool (decide ((numQ s.data.toList).num < 0)), .slice pt kt ct, .slice pf kf cf] 75)) := (Below.refl _ _).alloc (Nat.le_refl _) _
  have HTX2 := hid (HTX.out (w9.alloc (.cells #[.bool (decide ((numQ s.data.toList).num < 0)), .slice pt kt ct, .slice pf kf cf] 75)) _ (HV.out.later hal))
  have HAL := hid hal
  have HOWN := hid hown
  have hsz9 : w.heap.size < w9.heap.size := HR.out.2.1
  rw [HTV.out, HFV.out] at HTX2
  generalize decide ((numQ s.data.toList).num < 0) = sg at *
  clear hown hal HTX HTV
  go_wp2_with fail
  refine HTX2.out.mono ?_
  rintro e w10 ⟨rfl, hb⟩
  have HRT := hid ((HR.out.later HAL.out).later hb)
  have HO10 : Hid (Own w10 w9.heap.size 3 (numCell sg (.slice pt kt ct) (.slice pf kf cf))) := hid (HOWN.out.later (hb.mono HOWN.out.1))
  have HV10 := hid ((HV.out.later HAL.out).later hb)
  clear hb HTX2 HR HV HOWN HAL
  obtain ⟨⟨r0, g0⟩, ⟨r1, g1⟩, ⟨r2, g2⟩⟩ := lone_out HRT.out
  have HBEL := hid (below_stored HRT.out.1 (Nat.le_refl w.heap.size) (.bool false) (.slice none 0 0) (.slice none 0 0))
  clear HRT HO10 HV10
  go_wp2_with fail
  refine bodyPost_ret (v := .tuple #[.agg #[.bool false, .slice none 0 0, .slice none 0 0], .int .i64 1]) ?_ rfl ?_
  · simp [results, Tryz.results32, go_sem, r0, r1, r2]
  · exact numOf_bad (by rw [HCK.out]; omega) (by rw [HCK.out]; rfl) rfl HBEL.out
set_option maxRecDepth 100000 in
set_option maxHeartbeats 2000000 in
theorem read_pos_yes_p (s a b : ByteArray) (neg f : Bool) (w : World) (R : ReadSet s a b neg f w) (h : plainD a.data.toList = true) (hn : neg = false) (hf : f = true) (hp : plainD b.data.toList = false) :
    Calls Tryz.prog 32 #[.string s] w (NumOf s.data.toList w) := by
  have HW0 := hid (lone_start w false (.slice none 0 0) (.slice none 0 0))
  obtain ⟨d, hcp, hcut⟩ := R.leadPart
  have HCP := hid hcp
  have HCUT := hid hcut
  clear hcp hcut
  have ha63 : a.size ≤ 1073741824 := R.short.1
  have hb63 : b.size ≤ 1073741824 := R.short.2
  have HPA := hid (fun W hW => isPlain_res (w := w) a true h W hW)
  have HCK : Hid (checkR s.data.toList = 1) := hid (by rw [check_of R, h, hn, hf, hp]; rfl)
  have HPB := hid (fun W hW => isPlain_res (w := w) b false hp W hW)
  clear R h hp
  subst hn
  subst hf
  go_enter Tryz.func32, Tryz.ntmps32
  go_wp2_with fail
  refine (HCP.out _).mono ?_
  rintro e w1 ⟨rfl, hw1⟩
  rw [hw1]
  clear hw1 HCP
  go_wp2_with fail
  refine (HCUT.out _ HW0.out).mono ?_
  rintro e w2 ⟨rfl, hr⟩
  have HR := hid hr
  clear hr HCUT HW0
  go_wp2_with fail
  refine (HPA.out _ HR.out).mono ?_
  rintro e w3 ⟨rfl, hr⟩
  clear HR HPA
  have HR := hid hr
  clear hr
  go_wp2_with fail
  refine (HPB.out _ HR.out).mono ?_
  rintro e w3 ⟨rfl, hr⟩
  clear HR HPB
  have HR := hid hr
  clear hr
  obtain ⟨⟨r0, g0⟩, ⟨r1, g1⟩, ⟨r2, g2⟩⟩ := lone_out HR.out
  have HBEL := hid (below_stored HR.out.1 (Nat.le_refl w.heap.size) (.bool false) (.slice none 0 0) (.slice none 0 0))
  clear HR
  go_wp2_with fail
  refine bodyPost_ret (v := .tuple #[.agg #[.bool false, .slice none 0 0, .slice none 0 0], .int .i64 1]) ?_ rfl ?_
  · simp [results, Tryz.results32, go_sem, r0, r1, r2]
  · exact numOf_bad (by rw [HCK.out]; omega) (by rw [HCK.out]; rfl) rfl HBEL.out
set_option maxRecDepth 100000 in
set_option maxHeartbeats 2000000 in
theorem read_pos_yes_0 (s a b : ByteArray) (neg f : Bool) (w : World) (R : ReadSet s a b neg f w) (h : plainD a.data.toList = true) (hn : neg = false) (hf : f = true) (hp : plainD b.data.toList = true) (hb0 : (b.data.toList == [48]) = true) :
    Calls Tryz.prog 32 #[.string s] w (NumOf s.data.toList w) := by
  have HW0 := hid (lone_start w false (.slice none 0 0) (.slice none 0 0))
  obtain ⟨d, hcp, hcut⟩ := R.leadPart
  have HCP := hid hcp
  have HCUT := hid hcut
  clear hcp hcut
  have ha63 : a.size ≤ 1073741824 := R.short.1
  have hb63 : b.size ≤ 1073741824 := R.short.2
  have HPA := hid (fun W hW => isPlain_res (w := w) a true h W hW)
  have HCK : Hid (checkR s.data.toList = 1) := hid (by rw [check_of R, h, hn, hf, hp, hb0]; rfl)
  have HPB := hid (fun W hW => isPlain_res (w := w) b true hp W hW)
  have hs2 := toList_eq' hb0
  clear R h hp hb0
  subst hn
  subst hf
  go_enter Tryz.func32, Tryz.ntmps32
  go_wp2_with fail
  refine (HCP.out _).mono ?_
  rintro e w1 ⟨rfl, hw1⟩
  rw [hw1]
  clear hw1 HCP
  go_wp2_with fail
  refine (HCUT.out _ HW0.out).mono ?_
  rintro e w2 ⟨rfl, hr⟩
  have HR := hid hr
  clear hr HCUT HW0
  go_wp2_with fail
  refine (HPA.out _ HR.out).mono ?_
  rintro e w3 ⟨rfl, hr⟩
  clear HR HPA
  have HR := hid hr
  clear hr
  go_wp2_with fail
  refine (HPB.out _ HR.out).mono ?_
  rintro e w3 ⟨rfl, hr⟩
  clear HR HPB
  have HR := hid hr
  clear hr
  obtain ⟨⟨r0, g0⟩, ⟨r1, g1⟩, ⟨r2, g2⟩⟩ := lone_out HR.out
  have HBEL := hid (below_stored HR.out.1 (Nat.le_refl w.heap.size) (.bool false) (.slice none 0 0) (.slice none 0 0))
  clear HR
  go_wp2_with fail
  refine bodyPost_ret (v := .tuple #[.agg #[.bool false, .slice none 0 0, .slice none 0 0], .int .i64 1]) ?_ rfl ?_
  · simp [results, Tryz.results32, go_sem, r0, r1, r2]
  · exact numOf_bad (by rw [HCK.out]; omega) (by rw [HCK.out]; rfl) rfl HBEL.out
set_option maxRecDepth 100000 in
set_option maxHeartbeats 2000000 in
theorem read_pos_yes_1 (s a b : ByteArray) (neg f : Bool) (w : World) (R : ReadSet s a b neg f w) (h : plainD a.data.toList = true) (hn : neg = false) (hf : f = true) (hp : plainD b.data.toList = true) (hb0 : (b.data.toList == [48]) = false) (hb1 : (b.data.toList == [49]) = true) :
    Calls Tryz.prog 32 #[.string s] w (NumOf s.data.toList w) := by
  have HW0 := hid (lone_start w false (.slice none 0 0) (.slice none 0 0))
  obtain ⟨d, hcp, hcut⟩ := R.leadPart
  have HCP := hid hcp
  have HCUT := hid hcut
  clear hcp hcut
  have ha63 : a.size ≤ 1073741824 := R.short.1
  have hb63 : b.size ≤ 1073741824 := R.short.2
  have HPA := hid (fun W hW => isPlain_res (w := w) a true h W hW)
  have HCK : Hid (checkR s.data.toList = 1) := hid (by rw [check_of R, h, hn, hf, hp, hb0, hb1]; rfl)
  have HPB := hid (fun W hW => isPlain_res (w := w) b true hp W hW)
  have hs2 := toList_ne hb0
  have hs3 := toList_eq' hb1
  clear R h hp hb0 hb1
  subst hn
  subst hf
  go_enter Tryz.func32, Tryz.ntmps32
  go_wp2_with fail
  refine (HCP.out _).mono ?_
  rintro e w1 ⟨rfl, hw1⟩
  rw [hw1]
  clear hw1 HCP
  go_wp2_with fail
  refine (HCUT.out _ HW0.out).mono ?_
  rintro e w2 ⟨rfl, hr⟩
  have HR := hid hr
  clear hr HCUT HW0
  go_wp2_with fail
  refine (HPA.out _ HR.out).mono ?_
  rintro e w3 ⟨rfl, hr⟩
  clear HR HPA
  have HR := hid hr
  clear hr
  go_wp2_with fail
  refine (HPB.out _ HR.out).mono ?_
  rintro e w3 ⟨rfl, hr⟩
  clear HR HPB
  have HR := hid hr
  clear hr
  obtain ⟨⟨r0, g0⟩, ⟨r1, g1⟩, ⟨r2, g2⟩⟩ := lone_out HR.out
  have HBEL := hid (below_stored HR.out.1 (Nat.le_refl w.heap.size) (.bool false) (.slice none 0 0) (.slice none 0 0))
  clear HR
  go_wp2_with fail
  refine bodyPost_ret (v := .tuple #[.agg #[.bool false, .slice none 0 0, .slice none 0 0], .int .i64 1]) ?_ rfl ?_
  · simp [results, Tryz.results32, go_sem, r0, r1, r2]
  · exact numOf_bad (by rw [HCK.out]; omega) (by rw [HCK.out]; rfl) rfl HBEL.out
set_option maxRecDepth 100000 in
set_option maxHeartbeats 2000000 in
theorem read_pos_yes_la (s a b : ByteArray) (neg f : Bool) (w : World) (R : ReadSet s a b neg f w) (h : plainD a.data.toList = true) (hn : neg = false) (hf : f = true) (hp : plainD b.data.toList = true) (hb0 : (b.data.toList == [48]) = false) (hb1 : (b.data.toList == [49]) = false) (hl : 600 < a.data.toList.length) :
    Calls Tryz.prog 32 #[.string s] w (NumOf s.data.toList w) := by
  have HW0 := hid (lone_start w false (.slice none 0 0) (.slice none 0 0))
  obtain ⟨d, hcp, hcut⟩ := R.leadPart
  have HCP := hid hcp
  have HCUT := hid hcut
  clear hcp hcut
  have ha63 : a.size ≤ 1073741824 := R.short.1
  have hb63 : b.size ≤ 1073741824 := R.short.2
  have HPA := hid (fun W hW => isPlain_res (w := w) a true h W hW)
  have HPB := hid (fun W hW => isPlain_res (w := w) b true hp W hW)
  have hs2 := toList_ne hb0
  have hs3 := toList_ne hb1
  have hs6 := beq_eq_false_iff_ne.2 hs2
  have hs7 := beq_eq_false_iff_ne.2 hs3
  have HCK : Hid (checkR s.data.toList = 4) := hid (by rw [check_of R, h, hn, hf, hp, hb0, hb1]; exact (show (if 600 < a.data.toList.length ∨ 600 < b.data.toList.length then (4 : Nat) else if textQ s.data.toList = s.data.toList then 0 else 1) = 4 from if_pos (.inl hl)))
  have hla : 600 < a.size := by have := size_list a; omega
  clear hl
  clear R h hp hb0 hb1
  subst hn
  subst hf
  go_enter Tryz.func32, Tryz.ntmps32
  go_wp2_with fail
  refine (HCP.out _).mono ?_
  rintro e w1 ⟨rfl, hw1⟩
  rw [hw1]
  clear hw1 HCP
  go_wp2_with fail
  refine (HCUT.out _ HW0.out).mono ?_
  rintro e w2 ⟨rfl, hr⟩
  have HR := hid hr
  clear hr HCUT HW0
  go_wp2_with fail
  refine (HPA.out _ HR.out).mono ?_
  rintro e w3 ⟨rfl, hr⟩
  clear HR HPA
  have HR := hid hr
  clear hr
  go_wp2_with fail
  refine (HPB.out _ HR.out).mono ?_
  rintro e w3 ⟨rfl, hr⟩
  clear HR HPB
  have HR := hid hr
  clear hr
  obtain ⟨⟨r0, g0⟩, ⟨r1, g1⟩, ⟨r2, g2⟩⟩ := lone_out HR.out
  have HBEL := hid (below_stored HR.out.1 (Nat.le_refl w.heap.size) (.bool false) (.slice none 0 0) (.slice none 0 0))
  clear HR
  go_wp2_with fail
  refine bodyPost_ret (v := .tuple #[.agg #[.bool false, .slice none 0 0, .slice none 0 0], .int .i64 4]) ?_ rfl ?_
  · simp [results, Tryz.results32, go_sem, r0, r1, r2]
  · exact numOf_bad (by rw [HCK.out]; omega) (by rw [HCK.out]; rfl) rfl HBEL.out
set_option maxRecDepth 100000 in
set_option maxHeartbeats 2000000 in
theorem read_pos_yes_lb (s a b : ByteArray) (neg f : Bool) (w : World) (R : ReadSet s a b neg f w) (h : plainD a.data.toList = true) (hn : neg = false) (hf : f = true) (hp : plainD b.data.toList = true) (hb0 : (b.data.toList == [48]) = false) (hb1 : (b.data.toList == [49]) = false) (hl : ¬ 600 < a.data.toList.length) (hl2 : 600 < b.data.toList.length) :
    Calls Tryz.prog 32 #[.string s] w (NumOf s.data.toList w) := by
  have HW0 := hid (lone_start w false (.slice none 0 0) (.slice none 0 0))
  obtain ⟨d, hcp, hcut⟩ := R.leadPart
  have HCP := hid hcp
  have HCUT := hid hcut
  clear hcp hcut
  have ha63 : a.size ≤ 1073741824 := R.short.1
  have hb63 : b.size ≤ 1073741824 := R.short.2
  have HPA := hid (fun W hW => isPlain_res (w := w) a true h W hW)
  have HPB := hid (fun W hW => isPlain_res (w := w) b true hp W hW)
  have hs2 := toList_ne hb0
  have hs3 := toList_ne hb1
  have hs6 := beq_eq_false_iff_ne.2 hs2
  have hs7 := beq_eq_false_iff_ne.2 hs3
  have HCK : Hid (checkR s.data.toList = 4) := hid (by rw [check_of R, h, hn, hf, hp, hb0, hb1]; exact (show (if 600 < a.data.toList.length ∨ 600 < b.data.toList.length then (4 : Nat) else if textQ s.data.toList = s.data.toList then 0 else 1) = 4 from if_pos (.inr hl2)))
  have hla : ¬ 600 < a.size := by have := size_list a; omega
  have hlb : 600 < b.size := by have := size_list b; omega
  clear hl hl2
  clear R h hp hb0 hb1
  subst hn
  subst hf
  go_enter Tryz.func32, Tryz.ntmps32
  go_wp2_with fail
  refine (HCP.out _).mono ?_
  rintro e w1 ⟨rfl, hw1⟩
  rw [hw1]
  clear hw1 HCP
  go_wp2_with fail
  refine (HCUT.out _ HW0.out).mono ?_
  rintro e w2 ⟨rfl, hr⟩
  have HR := hid hr
  clear hr HCUT HW0
  go_wp2_with fail
  refine (HPA.out _ HR.out).mono ?_
  rintro e w3 ⟨rfl, hr⟩
  clear HR HPA
  have HR := hid hr
  clear hr
  go_wp2_with fail
  refine (HPB.out _ HR.out).mono ?_
  rintro e w3 ⟨rfl, hr⟩
  clear HR HPB
  have HR := hid hr
  clear hr
  obtain ⟨⟨r0, g0⟩, ⟨r1, g1⟩, ⟨r2, g2⟩⟩ := lone_out HR.out
  have HBEL := hid (below_stored HR.out.1 (Nat.le_refl w.heap.size) (.bool false) (.slice none 0 0) (.slice none 0 0))
  clear HR
  go_wp2_with fail
  refine bodyPost_ret (v := .tuple #[.agg #[.bool false, .slice none 0 0, .slice none 0 0], .int .i64 4]) ?_ rfl ?_
  · simp [results, Tryz.results32, go_sem, r0, r1, r2]
  · exact numOf_bad (by rw [HCK.out]; omega) (by rw [HCK.out]; rfl) rfl HBEL.out
set_option maxRecDepth 100000 in
set_option maxHeartbeats 2000000 in
theorem read_pos_yes_eq (s a b : ByteArray) (neg f : Bool) (w : World) (R : ReadSet s a b neg f w) (h : plainD a.data.toList = true) (hn : neg = false) (hf : f = true) (hp : plainD b.data.toList = true) (hb0 : (b.data.toList == [48]) = false) (hb1 : (b.data.toList == [49]) = false) (hl : ¬ 600 < a.data.toList.length) (hl2 : ¬ 600 < b.data.toList.length) (he : textQ s.data.toList = s.data.toList) :
    Calls Tryz.prog 32 #[.string s] w (NumOf s.data.toList w) := by
  have HW0 := hid (lone_start w false (.slice none 0 0) (.slice none 0 0))
  obtain ⟨d, hcp, hcut⟩ := R.leadPart
  have HCP := hid hcp
  have HCUT := hid hcut
  clear hcp hcut
  have ha63 : a.size ≤ 1073741824 := R.short.1
  have hb63 : b.size ≤ 1073741824 := R.short.2
  have HPA := hid (fun W hW => isPlain_res (w := w) a true h W hW)
  have HPB := hid (fun W hW => isPlain_res (w := w) b true hp W hW)
  have hs2 := toList_ne hb0
  have hs3 := toList_ne hb1
  have hs6 := beq_eq_false_iff_ne.2 hs2
  have hs7 := beq_eq_false_iff_ne.2 hs3
  have HCK : Hid (checkR s.data.toList = 0) := hid (by rw [check_of R, h, hn, hf, hp, hb0, hb1]; exact (show (if 600 < a.data.toList.length ∨ 600 < b.data.toList.length then (4 : Nat) else if textQ s.data.toList = s.data.toList then 0 else 1) = 0 from by rw [if_neg (by omega)]; first | exact if_pos he | exact if_neg he))
  have hla : ¬ 600 < a.size := by have := size_list a; omega
  have hlb : ¬ 600 < b.size := by have := size_list b; omega
  have HQ := hid (readQ_some R h (fun _ => ⟨hp, beq_eq_false_iff_ne.1 hb0⟩))
  have HRD := hid (fun W hW => read_num (w := w) s R.gw R.size HQ.out W hW)
  have HTX := hid (fun (W : World) (v : Value) (hv : NumV W v (numQ s.data.toList)) => text_num hv (num_cap R))
  have HTV : Hid ((if fitsQ (numQ s.data.toList) 600 then (⟨(ratText (numQ s.data.toList)).toArray⟩ : ByteArray) else ⟨#[]⟩) = s) := hid (bytes_eq (by
    refine Eq.trans ?_ he
    unfold textQ
    split <;> simp))
  obtain ⟨fl, hfl⟩ : ∃ fl, fl = fitsQ (numQ s.data.toList) 600 := ⟨_, rfl⟩
  have HFV : Hid (fitsQ (numQ s.data.toList) 600 = fl) := hid hfl.symm
  clear hl hl2 he hfl HQ
  clear R h hp hb0 hb1
  subst hn
  subst hf
  go_enter Tryz.func32, Tryz.ntmps32
  go_wp2_with fail
  refine (HCP.out _).mono ?_
  rintro e w1 ⟨rfl, hw1⟩
  rw [hw1]
  clear hw1 HCP
  go_wp2_with fail
  refine (HCUT.out _ HW0.out).mono ?_
  rintro e w2 ⟨rfl, hr⟩
  have HR := hid hr
  clear hr HCUT HW0
  go_wp2_with fail
  refine (HPA.out _ HR.out).mono ?_
  rintro e w3 ⟨rfl, hr⟩
  clear HR HPA
  have HR := hid hr
  clear hr
  go_wp2_with fail
  refine (HPB.out _ HR.out).mono ?_
  rintro e w3 ⟨rfl, hr⟩
  clear HR HPB
  have HR := hid hr
  clear hr
  go_wp2_with fail
  refine (HRD.out _ HR.out).mono ?_
  rintro e w9 ⟨⟨v9, rfl, hv⟩, hr⟩
  clear HR HRD
  have HR := hid hr
  have HV := hid hv
  obtain ⟨pt, kt, ct, pf, kf, cf, rfl, hp1, hp2⟩ := hv.parts
  clear hr hv hp1 hp2
  have hown := own3 w9 (decide ((numQ s.data.toList).num < 0)) (.slice pt kt ct) (.slice pf kf cf)
  have hal : Below w9.heap.size w9 (w9.alloc (.cells #[.bool (decide ((numQ s.data.toList).num < 0)), .slice pt kt ct, .slice pf kf cf] 75)) := (Below.refl _ _).alloc (Nat.le_refl _) _
  have HTX2 := hid (HTX.out (w9.alloc (.cells #[.bool (decide ((numQ s.data.toList).num < 0)), .slice pt kt ct, .slice pf kf cf] 75)) _ (HV.out.later hal))
  have HAL := hid hal
  have HOWN := hid hown
  have hsz9 : w.heap.size < w9.heap.size := HR.out.2.1
  rw [HTV.out, HFV.out] at HTX2
  generalize decide ((numQ s.data.toList).num < 0) = sg at *
  clear hown hal HTX HTV
  go_wp2_with fail
  refine HTX2.out.mono ?_
  rintro e w10 ⟨rfl, hb⟩
  have HRT := hid ((HR.out.later HAL.out).later hb)
  have HO10 : Hid (Own w10 w9.heap.size 3 (numCell sg (.slice pt kt ct) (.slice pf kf cf))) := hid (HOWN.out.later (hb.mono HOWN.out.1))
  have HV10 := hid ((HV.out.later HAL.out).later hb)
  clear hb HTX2 HR HV HOWN HAL
  obtain ⟨⟨r0, g0⟩, ⟨r1, g1⟩, ⟨r2, g2⟩⟩ := lone_out HRT.out
  obtain ⟨x0, x1, x2⟩ := box_cells HO10.out
  have HFIN := hid (num_stored HV10.out r0 r1 r2)
  have HBEL := hid (below_stored HRT.out.1 (Nat.le_refl w.heap.size) (.bool sg) (.slice pt kt ct) (.slice pf kf cf))
  clear HRT HO10 HV10
  go_wp2_with fail
  refine bodyPost_ret (v := .tuple #[.agg #[.bool sg, .slice pt kt ct, .slice pf kf cf], .int .i64 0]) ?_ rfl ?_
  · simp [results, Tryz.results32, go_sem, r0, r1, r2]
  · exact numOf_ok HCK.out rfl HFIN.out HBEL.out
set_option maxRecDepth 100000 in
set_option maxHeartbeats 2000000 in
theorem read_pos_yes_ne (s a b : ByteArray) (neg f : Bool) (w : World) (R : ReadSet s a b neg f w) (h : plainD a.data.toList = true) (hn : neg = false) (hf : f = true) (hp : plainD b.data.toList = true) (hb0 : (b.data.toList == [48]) = false) (hb1 : (b.data.toList == [49]) = false) (hl : ¬ 600 < a.data.toList.length) (hl2 : ¬ 600 < b.data.toList.length) (he : ¬ textQ s.data.toList = s.data.toList) :
    Calls Tryz.prog 32 #[.string s] w (NumOf s.data.toList w) := by
  have HW0 := hid (lone_start w false (.slice none 0 0) (.slice none 0 0))
  obtain ⟨d, hcp, hcut⟩ := R.leadPart
  have HCP := hid hcp
  have HCUT := hid hcut
  clear hcp hcut
  have ha63 : a.size ≤ 1073741824 := R.short.1
  have hb63 : b.size ≤ 1073741824 := R.short.2
  have HPA := hid (fun W hW => isPlain_res (w := w) a true h W hW)
  have HPB := hid (fun W hW => isPlain_res (w := w) b true hp W hW)
  have hs2 := toList_ne hb0
  have hs3 := toList_ne hb1
  have hs6 := beq_eq_false_iff_ne.2 hs2
  have hs7 := beq_eq_false_iff_ne.2 hs3
  have HCK : Hid (checkR s.data.toList = 1) := hid (by rw [check_of R, h, hn, hf, hp, hb0, hb1]; exact (show (if 600 < a.data.toList.length ∨ 600 < b.data.toList.length then (4 : Nat) else if textQ s.data.toList = s.data.toList then 0 else 1) = 1 from by rw [if_neg (by omega)]; first | exact if_pos he | exact if_neg he))
  have hla : ¬ 600 < a.size := by have := size_list a; omega
  have hlb : ¬ 600 < b.size := by have := size_list b; omega
  have HQ := hid (readQ_some R h (fun _ => ⟨hp, beq_eq_false_iff_ne.1 hb0⟩))
  have HRD := hid (fun W hW => read_num (w := w) s R.gw R.size HQ.out W hW)
  have HTX := hid (fun (W : World) (v : Value) (hv : NumV W v (numQ s.data.toList)) => text_num hv (num_cap R))
  obtain ⟨tx, htx⟩ : ∃ tx : ByteArray, tx = (if fitsQ (numQ s.data.toList) 600 then (⟨(ratText (numQ s.data.toList)).toArray⟩ : ByteArray) else ⟨#[]⟩) := ⟨_, rfl⟩
  have HTV : Hid ((if fitsQ (numQ s.data.toList) 600 then (⟨(ratText (numQ s.data.toList)).toArray⟩ : ByteArray) else ⟨#[]⟩) = tx) := hid htx.symm
  have hs4 : ¬ tx.toList = s.toList := by
    rw [ByteArray.toList_eq, ByteArray.toList_eq, htx]
    intro e
    apply he
    refine Eq.trans ?_ e
    unfold textQ
    split <;> simp
  have hs5 : (!tx.toList == s.toList) = true := by rw [beq_eq_false_iff_ne.2 hs4]; rfl
  clear htx
  obtain ⟨fl, hfl⟩ : ∃ fl, fl = fitsQ (numQ s.data.toList) 600 := ⟨_, rfl⟩
  have HFV : Hid (fitsQ (numQ s.data.toList) 600 = fl) := hid hfl.symm
  clear hl hl2 he hfl HQ
  clear R h hp hb0 hb1
  subst hn
  subst hf
  go_enter Tryz.func32, Tryz.ntmps32
  go_wp2_with fail
  refine (HCP.out _).mono ?_
  rintro e w1 ⟨rfl, hw1⟩
  rw [hw1]
  clear hw1 HCP
  go_wp2_with fail
  refine (HCUT.out _ HW0.out).mono ?_
  rintro e w2 ⟨rfl, hr⟩
  have HR := hid hr
  clear hr HCUT HW0
  go_wp2_with fail
  refine (HPA.out _ HR.out).mono ?_
  rintro e w3 ⟨rfl, hr⟩
  clear HR HPA
  have HR := hid hr
  clear hr
  go_wp2_with fail
  refine (HPB.out _ HR.out).mono ?_
  rintro e w3 ⟨rfl, hr⟩
  clear HR HPB
  have HR := hid hr
  clear hr
  go_wp2_with fail
  refine (HRD.out _ HR.out).mono ?_
  rintro e w9 ⟨⟨v9, rfl, hv⟩, hr⟩
  clear HR HRD
  have HR := hid hr
  have HV := hid hv
  obtain ⟨pt, kt, ct, pf, kf, cf, rfl, hp1, hp2⟩ := hv.parts
  clear hr hv hp1 hp2
  have hown := own3 w9 (decide ((numQ s.data.toList).num < 0)) (.slice pt kt ct) (.slice pf kf cf)
  have hal : Below w9.heap.size w9 (w9.alloc (.cells #[.bool (decide ((numQ s.data.toList).num < 0)), .slice pt kt ct, .slice pf kf cf] 75)) := (Below.refl _ _).alloc (Nat.le_refl _) _
  have HTX2 := hid (HTX.out (w9.alloc (.cells #[.bool (decide ((numQ s.data.toList).num < 0)), .slice pt kt ct, .slice pf kf cf] 75)) _ (HV.out.later hal))
  have HAL := hid hal
  have HOWN := hid hown
  have hsz9 : w.heap.size < w9.heap.size := HR.out.2.1
  rw [HTV.out, HFV.out] at HTX2
  generalize decide ((numQ s.data.toList).num < 0) = sg at *
  clear hown hal HTX HTV
  go_wp2_with fail
  refine HTX2.out.mono ?_
  rintro e w10 ⟨rfl, hb⟩
  have HRT := hid ((HR.out.later HAL.out).later hb)
  have HO10 : Hid (Own w10 w9.heap.size 3 (numCell sg (.slice pt kt ct) (.slice pf kf cf))) := hid (HOWN.out.later (hb.mono HOWN.out.1))
  have HV10 := hid ((HV.out.later HAL.out).later hb)
  clear hb HTX2 HR HV HOWN HAL
  obtain ⟨⟨r0, g0⟩, ⟨r1, g1⟩, ⟨r2, g2⟩⟩ := lone_out HRT.out
  have HBEL := hid (below_stored HRT.out.1 (Nat.le_refl w.heap.size) (.bool false) (.slice none 0 0) (.slice none 0 0))
  clear HRT HO10 HV10
  go_wp2_with fail
  refine bodyPost_ret (v := .tuple #[.agg #[.bool false, .slice none 0 0, .slice none 0 0], .int .i64 1]) ?_ rfl ?_
  · simp [results, Tryz.results32, go_sem, r0, r1, r2]
  · exact numOf_bad (by rw [HCK.out]; omega) (by rw [HCK.out]; rfl) rfl HBEL.out
set_option maxRecDepth 100000 in
set_option maxHeartbeats 2000000 in
theorem read_neg_no_la (s a b : ByteArray) (neg f : Bool) (w : World) (R : ReadSet s a b neg f w) (h : plainD a.data.toList = true) (hn : neg = true) (hz : (a.data.toList == [48]) = false) (hf : f = false) (hl : 600 < a.data.toList.length) :
    Calls Tryz.prog 32 #[.string s] w (NumOf s.data.toList w) := by
  have HW0 := hid (lone_start w false (.slice none 0 0) (.slice none 0 0))
  obtain ⟨d, hcp, hcut⟩ := R.leadPart
  have HCP := hid hcp
  have HCUT := hid hcut
  clear hcp hcut
  have ha63 : a.size ≤ 1073741824 := R.short.1
  have hb63 : b.size ≤ 1073741824 := R.short.2
  have HPA := hid (fun W hW => isPlain_res (w := w) a true h W hW)
  have HCK : Hid (checkR s.data.toList = 4) := hid (by rw [check_of R, h, hn, hz, hf]; exact (show (if 600 < a.data.toList.length ∨ 600 < b.data.toList.length then (4 : Nat) else if textQ s.data.toList = s.data.toList then 0 else 1) = 4 from if_pos (.inl hl)))
  have hla : 600 < a.size := by have := size_list a; omega
  clear hl
  clear R h
  have hs1 := toList_ne hz
  have hs8 := beq_eq_false_iff_ne.2 hs1
  subst hn
  clear hz
  subst hf
  go_enter Tryz.func32, Tryz.ntmps32
  go_wp2_with fail
  refine (HCP.out _).mono ?_
  rintro e w1 ⟨rfl, hw1⟩
  rw [hw1]
  clear hw1 HCP
  go_wp2_with fail
  refine (HCUT.out _ HW0.out).mono ?_
  rintro e w2 ⟨rfl, hr⟩
  have HR := hid hr
  clear hr HCUT HW0
  go_wp2_with fail
  refine (HPA.out _ HR.out).mono ?_
  rintro e w3 ⟨rfl, hr⟩
  clear HR HPA
  have HR := hid hr
  clear hr
  obtain ⟨⟨r0, g0⟩, ⟨r1, g1⟩, ⟨r2, g2⟩⟩ := lone_out HR.out
  have HBEL := hid (below_stored HR.out.1 (Nat.le_refl w.heap.size) (.bool false) (.slice none 0 0) (.slice none 0 0))
  clear HR
  go_wp2_with fail
  refine bodyPost_ret (v := .tuple #[.agg #[.bool false, .slice none 0 0, .slice none 0 0], .int .i64 4]) ?_ rfl ?_
  · simp [results, Tryz.results32, go_sem, r0, r1, r2]
  · exact numOf_bad (by rw [HCK.out]; omega) (by rw [HCK.out]; rfl) rfl HBEL.out
set_option maxRecDepth 100000 in
set_option maxHeartbeats 2000000 in
theorem read_neg_no_eq (s a b : ByteArray) (neg f : Bool) (w : World) (R : ReadSet s a b neg f w) (h : plainD a.data.toList = true) (hn : neg = true) (hz : (a.data.toList == [48]) = false) (hf : f = false) (hl : ¬ 600 < a.data.toList.length) (hl2 : ¬ 600 < b.data.toList.length) (he : textQ s.data.toList = s.data.toList) :
    Calls Tryz.prog 32 #[.string s] w (NumOf s.data.toList w) := by
  have HW0 := hid (lone_start w false (.slice none 0 0) (.slice none 0 0))
  obtain ⟨d, hcp, hcut⟩ := R.leadPart
  have HCP := hid hcp
  have HCUT := hid hcut
  clear hcp hcut
  have ha63 : a.size ≤ 1073741824 := R.short.1
  have hb63 : b.size ≤ 1073741824 := R.short.2
  have HPA := hid (fun W hW => isPlain_res (w := w) a true h W hW)
  have HCK : Hid (checkR s.data.toList = 0) := hid (by rw [check_of R, h, hn, hz, hf]; exact (show (if 600 < a.data.toList.length ∨ 600 < b.data.toList.length then (4 : Nat) else if textQ s.data.toList = s.data.toList then 0 else 1) = 0 from by rw [if_neg (by omega)]; first | exact if_pos he | exact if_neg he))
  have hla : ¬ 600 < a.size := by have := size_list a; omega
  have hlb : ¬ 600 < b.size := by have := size_list b; omega
  have HQ := hid (readQ_some R h (fun e => by rw [hf] at e; cases e))
  have HRD := hid (fun W hW => read_num (w := w) s R.gw R.size HQ.out W hW)
  have HTX := hid (fun (W : World) (v : Value) (hv : NumV W v (numQ s.data.toList)) => text_num hv (num_cap R))
  have HTV : Hid ((if fitsQ (numQ s.data.toList) 600 then (⟨(ratText (numQ s.data.toList)).toArray⟩ : ByteArray) else ⟨#[]⟩) = s) := hid (bytes_eq (by
    refine Eq.trans ?_ he
    unfold textQ
    split <;> simp))
  obtain ⟨fl, hfl⟩ : ∃ fl, fl = fitsQ (numQ s.data.toList) 600 := ⟨_, rfl⟩
  have HFV : Hid (fitsQ (numQ s.data.toList) 600 = fl) := hid hfl.symm
  clear hl hl2 he hfl HQ
  clear R h
  have hs1 := toList_ne hz
  have hs8 := beq_eq_false_iff_ne.2 hs1
  subst hn
  clear hz
  subst hf
  go_enter Tryz.func32, Tryz.ntmps32
  go_wp2_with fail
  refine (HCP.out _).mono ?_
  rintro e w1 ⟨rfl, hw1⟩
  rw [hw1]
  clear hw1 HCP
  go_wp2_with fail
  refine (HCUT.out _ HW0.out).mono ?_
  rintro e w2 ⟨rfl, hr⟩
  have HR := hid hr
  clear hr HCUT HW0
  go_wp2_with fail
  refine (HPA.out _ HR.out).mono ?_
  rintro e w3 ⟨rfl, hr⟩
  clear HR HPA
  have HR := hid hr
  clear hr
  go_wp2_with fail
  refine (HRD.out _ HR.out).mono ?_
  rintro e w9 ⟨⟨v9, rfl, hv⟩, hr⟩
  clear HR HRD
  have HR := hid hr
  have HV := hid hv
  obtain ⟨pt, kt, ct, pf, kf, cf, rfl, hp1, hp2⟩ := hv.parts
  clear hr hv hp1 hp2
  have hown := own3 w9 (decide ((numQ s.data.toList).num < 0)) (.slice pt kt ct) (.slice pf kf cf)
  have hal : Below w9.heap.size w9 (w9.alloc (.cells #[.bool (decide ((numQ s.data.toList).num < 0)), .slice pt kt ct, .slice pf kf cf] 75)) := (Below.refl _ _).alloc (Nat.le_refl _) _
  have HTX2 := hid (HTX.out (w9.alloc (.cells #[.bool (decide ((numQ s.data.toList).num < 0)), .slice pt kt ct, .slice pf kf cf] 75)) _ (HV.out.later hal))
  have HAL := hid hal
  have HOWN := hid hown
  have hsz9 : w.heap.size < w9.heap.size := HR.out.2.1
  rw [HTV.out, HFV.out] at HTX2
  generalize decide ((numQ s.data.toList).num < 0) = sg at *
  clear hown hal HTX HTV
  go_wp2_with fail
  refine HTX2.out.mono ?_
  rintro e w10 ⟨rfl, hb⟩
  have HRT := hid ((HR.out.later HAL.out).later hb)
  have HO10 : Hid (Own w10 w9.heap.size 3 (numCell sg (.slice pt kt ct) (.slice pf kf cf))) := hid (HOWN.out.later (hb.mono HOWN.out.1))
  have HV10 := hid ((HV.out.later HAL.out).later hb)
  clear hb HTX2 HR HV HOWN HAL
  obtain ⟨⟨r0, g0⟩, ⟨r1, g1⟩, ⟨r2, g2⟩⟩ := lone_out HRT.out
  obtain ⟨x0, x1, x2⟩ := box_cells HO10.out
  have HFIN := hid (num_stored HV10.out r0 r1 r2)
  have HBEL := hid (below_stored HRT.out.1 (Nat.le_refl w.heap.size) (.bool sg) (.slice pt kt ct) (.slice pf kf cf))
  clear HRT HO10 HV10
  go_wp2_with fail
  refine bodyPost_ret (v := .tuple #[.agg #[.bool sg, .slice pt kt ct, .slice pf kf cf], .int .i64 0]) ?_ rfl ?_
  · simp [results, Tryz.results32, go_sem, r0, r1, r2]
  · exact numOf_ok HCK.out rfl HFIN.out HBEL.out
set_option maxRecDepth 100000 in
set_option maxHeartbeats 2000000 in
theorem read_neg_no_ne (s a b : ByteArray) (neg f : Bool) (w : World) (R : ReadSet s a b neg f w) (h : plainD a.data.toList = true) (hn : neg = true) (hz : (a.data.toList == [48]) = false) (hf : f = false) (hl : ¬ 600 < a.data.toList.length) (hl2 : ¬ 600 < b.data.toList.length) (he : ¬ textQ s.data.toList = s.data.toList) :
    Calls Tryz.prog 32 #[.string s] w (NumOf s.data.toList w) := by
  have HW0 := hid (lone_start w false (.slice none 0 0) (.slice none 0 0))
  obtain ⟨d, hcp, hcut⟩ := R.leadPart
  have HCP := hid hcp
  have HCUT := hid hcut
  clear hcp hcut
  have ha63 : a.size ≤ 1073741824 := R.short.1
  have hb63 : b.size ≤ 1073741824 := R.short.2
  have HPA := hid (fun W hW => isPlain_res (w := w) a true h W hW)
  have HCK : Hid (checkR s.data.toList = 1) := hid (by rw [check_of R, h, hn, hz, hf]; exact (show (if 600 < a.data.toList.length ∨ 600 < b.data.toList.length then (4 : Nat) else if textQ s.data.toList = s.data.toList then 0 else 1) = 1 from by rw [if_neg (by omega)]; first | exact if_pos he | exact if_neg he))
  have hla : ¬ 600 < a.size := by have := size_list a; omega
  have hlb : ¬ 600 < b.size := by have := size_list b; omega
  have HQ := hid (readQ_some R h (fun e => by rw [hf] at e; cases e))
  have HRD := hid (fun W hW => read_num (w := w) s R.gw R.size HQ.out W hW)
  have HTX := hid (fun (W : World) (v : Value) (hv : NumV W v (numQ s.data.toList)) => text_num hv (num_cap R))
  obtain ⟨tx, htx⟩ : ∃ tx : ByteArray, tx = (if fitsQ (numQ s.data.toList) 600 then (⟨(ratText (numQ s.data.toList)).toArray⟩ : ByteArray) else ⟨#[]⟩) := ⟨_, rfl⟩
  have HTV : Hid ((if fitsQ (numQ s.data.toList) 600 then (⟨(ratText (numQ s.data.toList)).toArray⟩ : ByteArray) else ⟨#[]⟩) = tx) := hid htx.symm
  have hs4 : ¬ tx.toList = s.toList := by
    rw [ByteArray.toList_eq, ByteArray.toList_eq, htx]
    intro e
    apply he
    refine Eq.trans ?_ e
    unfold textQ
    split <;> simp
  have hs5 : (!tx.toList == s.toList) = true := by rw [beq_eq_false_iff_ne.2 hs4]; rfl
  clear htx
  obtain ⟨fl, hfl⟩ : ∃ fl, fl = fitsQ (numQ s.data.toList) 600 := ⟨_, rfl⟩
  have HFV : Hid (fitsQ (numQ s.data.toList) 600 = fl) := hid hfl.symm
  clear hl hl2 he hfl HQ
  clear R h
  have hs1 := toList_ne hz
  have hs8 := beq_eq_false_iff_ne.2 hs1
  subst hn
  clear hz
  subst hf
  go_enter Tryz.func32, Tryz.ntmps32
  go_wp2_with fail
  refine (HCP.out _).mono ?_
  rintro e w1 ⟨rfl, hw1⟩
  rw [hw1]
  clear hw1 HCP
  go_wp2_with fail
  refine (HCUT.out _ HW0.out).mono ?_
  rintro e w2 ⟨rfl, hr⟩
  have HR := hid hr
  clear hr HCUT HW0
  go_wp2_with fail
  refine (HPA.out _ HR.out).mono ?_
  rintro e w3 ⟨rfl, hr⟩
  clear HR HPA
  have HR := hid hr
  clear hr
  go_wp2_with fail
  refine (HRD.out _ HR.out).mono ?_
  rintro e w9 ⟨⟨v9, rfl, hv⟩, hr⟩
  clear HR HRD
  have HR := hid hr
  have HV := hid hv
  obtain ⟨pt, kt, ct, pf, kf, cf, rfl, hp1, hp2⟩ := hv.parts
  clear hr hv hp1 hp2
  have hown := own3 w9 (decide ((numQ s.data.toList).num < 0)) (.slice pt kt ct) (.slice pf kf cf)
  have hal : Below w9.heap.size w9 (w9.alloc (.cells #[.bool (decide ((numQ s.data.toList).num < 0)), .slice pt kt ct, .slice pf kf cf] 75)) := (Below.refl _ _).alloc (Nat.le_refl _) _
  have HTX2 := hid (HTX.out (w9.alloc (.cells #[.bool (decide ((numQ s.data.toList).num < 0)), .slice pt kt ct, .slice pf kf cf] 75)) _ (HV.out.later hal))
  have HAL := hid hal
  have HOWN := hid hown
  have hsz9 : w.heap.size < w9.heap.size := HR.out.2.1
  rw [HTV.out, HFV.out] at HTX2
  generalize decide ((numQ s.data.toList).num < 0) = sg at *
  clear hown hal HTX HTV
  go_wp2_with fail
  refine HTX2.out.mono ?_
  rintro e w10 ⟨rfl, hb⟩
  have HRT := hid ((HR.out.later HAL.out).later hb)
  have HO10 : Hid (Own w10 w9.heap.size 3 (numCell sg (.slice pt kt ct) (.slice pf kf cf))) := hid (HOWN.out.later (hb.mono HOWN.out.1))
  have HV10 := hid ((HV.out.later HAL.out).later hb)
  clear hb HTX2 HR HV HOWN HAL
  obtain ⟨⟨r0, g0⟩, ⟨r1, g1⟩, ⟨r2, g2⟩⟩ := lone_out HRT.out
  have HBEL := hid (below_stored HRT.out.1 (Nat.le_refl w.heap.size) (.bool false) (.slice none 0 0) (.slice none 0 0))
  clear HRT HO10 HV10
  go_wp2_with fail
  refine bodyPost_ret (v := .tuple #[.agg #[.bool false, .slice none 0 0, .slice none 0 0], .int .i64 1]) ?_ rfl ?_
  · simp [results, Tryz.results32, go_sem, r0, r1, r2]
  · exact numOf_bad (by rw [HCK.out]; omega) (by rw [HCK.out]; rfl) rfl HBEL.out
set_option maxRecDepth 100000 in
set_option maxHeartbeats 2000000 in
theorem read_neg_yes_p (s a b : ByteArray) (neg f : Bool) (w : World) (R : ReadSet s a b neg f w) (h : plainD a.data.toList = true) (hn : neg = true) (hz : (a.data.toList == [48]) = false) (hf : f = true) (hp : plainD b.data.toList = false) :
    Calls Tryz.prog 32 #[.string s] w (NumOf s.data.toList w) := by
  have HW0 := hid (lone_start w false (.slice none 0 0) (.slice none 0 0))
  obtain ⟨d, hcp, hcut⟩ := R.leadPart
  have HCP := hid hcp
  have HCUT := hid hcut
  clear hcp hcut
  have ha63 : a.size ≤ 1073741824 := R.short.1
  have hb63 : b.size ≤ 1073741824 := R.short.2
  have HPA := hid (fun W hW => isPlain_res (w := w) a true h W hW)
  have HCK : Hid (checkR s.data.toList = 1) := hid (by rw [check_of R, h, hn, hz, hf, hp]; rfl)
  have HPB := hid (fun W hW => isPlain_res (w := w) b false hp W hW)
  clear R h hp
  have hs1 := toList_ne hz
  have hs8 := beq_eq_false_iff_ne.2 hs1
  subst hn
  clear hz
  subst hf
  go_enter Tryz.func32, Tryz.ntmps32
  go_wp2_with fail
  refine (HCP.out _).mono ?_
  rintro e w1 ⟨rfl, hw1⟩
  rw [hw1]
  clear hw1 HCP
  go_wp2_with fail
  refine (HCUT.out _ HW0.out).mono ?_
  rintro e w2 ⟨rfl, hr⟩
  have HR := hid hr
  clear hr HCUT HW0
  go_wp2_with fail
  refine (HPA.out _ HR.out).mono ?_
  rintro e w3 ⟨rfl, hr⟩
  clear HR HPA
  have HR := hid hr
  clear hr
  go_wp2_with fail
  refine (HPB.out _ HR.out).mono ?_
  rintro e w3 ⟨rfl, hr⟩
  clear HR HPB
  have HR := hid hr
  clear hr
  obtain ⟨⟨r0, g0⟩, ⟨r1, g1⟩, ⟨r2, g2⟩⟩ := lone_out HR.out
  have HBEL := hid (below_stored HR.out.1 (Nat.le_refl w.heap.size) (.bool false) (.slice none 0 0) (.slice none 0 0))
  clear HR
  go_wp2_with fail
  refine bodyPost_ret (v := .tuple #[.agg #[.bool false, .slice none 0 0, .slice none 0 0], .int .i64 1]) ?_ rfl ?_
  · simp [results, Tryz.results32, go_sem, r0, r1, r2]
  · exact numOf_bad (by rw [HCK.out]; omega) (by rw [HCK.out]; rfl) rfl HBEL.out
set_option maxRecDepth 100000 in
set_option maxHeartbeats 2000000 in
theorem read_neg_yes_0 (s a b : ByteArray) (neg f : Bool) (w : World) (R : ReadSet s a b neg f w) (h : plainD a.data.toList = true) (hn : neg = true) (hz : (a.data.toList == [48]) = false) (hf : f = true) (hp : plainD b.data.toList = true) (hb0 : (b.data.toList == [48]) = true) :
    Calls Tryz.prog 32 #[.string s] w (NumOf s.data.toList w) := by
  have HW0 := hid (lone_start w false (.slice none 0 0) (.slice none 0 0))
  obtain ⟨d, hcp, hcut⟩ := R.leadPart
  have HCP := hid hcp
  have HCUT := hid hcut
  clear hcp hcut
  have ha63 : a.size ≤ 1073741824 := R.short.1
  have hb63 : b.size ≤ 1073741824 := R.short.2
  have HPA := hid (fun W hW => isPlain_res (w := w) a true h W hW)
  have HCK : Hid (checkR s.data.toList = 1) := hid (by rw [check_of R, h, hn, hz, hf, hp, hb0]; rfl)
  have HPB := hid (fun W hW => isPlain_res (w := w) b true hp W hW)
  have hs2 := toList_eq' hb0
  clear R h hp hb0
  have hs1 := toList_ne hz
  have hs8 := beq_eq_false_iff_ne.2 hs1
  subst hn
  clear hz
  subst hf
  go_enter Tryz.func32, Tryz.ntmps32
  go_wp2_with fail
  refine (HCP.out _).mono ?_
  rintro e w1 ⟨rfl, hw1⟩
  rw [hw1]
  clear hw1 HCP
  go_wp2_with fail
  refine (HCUT.out _ HW0.out).mono ?_
  rintro e w2 ⟨rfl, hr⟩
  have HR := hid hr
  clear hr HCUT HW0
  go_wp2_with fail
  refine (HPA.out _ HR.out).mono ?_
  rintro e w3 ⟨rfl, hr⟩
  clear HR HPA
  have HR := hid hr
  clear hr
  go_wp2_with fail
  refine (HPB.out _ HR.out).mono ?_
  rintro e w3 ⟨rfl, hr⟩
  clear HR HPB
  have HR := hid hr
  clear hr
  obtain ⟨⟨r0, g0⟩, ⟨r1, g1⟩, ⟨r2, g2⟩⟩ := lone_out HR.out
  have HBEL := hid (below_stored HR.out.1 (Nat.le_refl w.heap.size) (.bool false) (.slice none 0 0) (.slice none 0 0))
  clear HR
  go_wp2_with fail
  refine bodyPost_ret (v := .tuple #[.agg #[.bool false, .slice none 0 0, .slice none 0 0], .int .i64 1]) ?_ rfl ?_
  · simp [results, Tryz.results32, go_sem, r0, r1, r2]
  · exact numOf_bad (by rw [HCK.out]; omega) (by rw [HCK.out]; rfl) rfl HBEL.out
set_option maxRecDepth 100000 in
set_option maxHeartbeats 2000000 in
theorem read_neg_yes_1 (s a b : ByteArray) (neg f : Bool) (w : World) (R : ReadSet s a b neg f w) (h : plainD a.data.toList = true) (hn : neg = true) (hz : (a.data.toList == [48]) = false) (hf : f = true) (hp : plainD b.data.toList = true) (hb0 : (b.data.toList == [48]) = false) (hb1 : (b.data.toList == [49]) = true) :
    Calls Tryz.prog 32 #[.string s] w (NumOf s.data.toList w) := by
  have HW0 := hid (lone_start w false (.slice none 0 0) (.slice none 0 0))
  obtain ⟨d, hcp, hcut⟩ := R.leadPart
  have HCP := hid hcp
  have HCUT := hid hcut
  clear hcp hcut
  have ha63 : a.size ≤ 1073741824 := R.short.1
  have hb63 : b.size ≤ 1073741824 := R.short.2
  have HPA := hid (fun W hW => isPlain_res (w := w) a true h W hW)
  have HCK : Hid (checkR s.data.toList = 1) := hid (by rw [check_of R, h, hn, hz, hf, hp, hb0, hb1]; rfl)
  have HPB := hid (fun W hW => isPlain_res (w := w) b true hp W hW)
  have hs2 := toList_ne hb0
  have hs3 := toList_eq' hb1
  clear R h hp hb0 hb1
  have hs1 := toList_ne hz
  have hs8 := beq_eq_false_iff_ne.2 hs1
  subst hn
  clear hz
  subst hf
  go_enter Tryz.func32, Tryz.ntmps32
  go_wp2_with fail
  refine (HCP.out _).mono ?_
  rintro e w1 ⟨rfl, hw1⟩
  rw [hw1]
  clear hw1 HCP
  go_wp2_with fail
  refine (HCUT.out _ HW0.out).mono ?_
  rintro e w2 ⟨rfl, hr⟩
  have HR := hid hr
  clear hr HCUT HW0
  go_wp2_with fail
  refine (HPA.out _ HR.out).mono ?_
  rintro e w3 ⟨rfl, hr⟩
  clear HR HPA
  have HR := hid hr
  clear hr
  go_wp2_with fail
  refine (HPB.out _ HR.out).mono ?_
  rintro e w3 ⟨rfl, hr⟩
  clear HR HPB
  have HR := hid hr
  clear hr
  obtain ⟨⟨r0, g0⟩, ⟨r1, g1⟩, ⟨r2, g2⟩⟩ := lone_out HR.out
  have HBEL := hid (below_stored HR.out.1 (Nat.le_refl w.heap.size) (.bool false) (.slice none 0 0) (.slice none 0 0))
  clear HR
  go_wp2_with fail
  refine bodyPost_ret (v := .tuple #[.agg #[.bool false, .slice none 0 0, .slice none 0 0], .int .i64 1]) ?_ rfl ?_
  · simp [results, Tryz.results32, go_sem, r0, r1, r2]
  · exact numOf_bad (by rw [HCK.out]; omega) (by rw [HCK.out]; rfl) rfl HBEL.out
set_option maxRecDepth 100000 in
set_option maxHeartbeats 2000000 in
theorem read_neg_yes_la (s a b : ByteArray) (neg f : Bool) (w : World) (R : ReadSet s a b neg f w) (h : plainD a.data.toList = true) (hn : neg = true) (hz : (a.data.toList == [48]) = false) (hf : f = true) (hp : plainD b.data.toList = true) (hb0 : (b.data.toList == [48]) = false) (hb1 : (b.data.toList == [49]) = false) (hl : 600 < a.data.toList.length) :
    Calls Tryz.prog 32 #[.string s] w (NumOf s.data.toList w) := by
  have HW0 := hid (lone_start w false (.slice none 0 0) (.slice none 0 0))
  obtain ⟨d, hcp, hcut⟩ := R.leadPart
  have HCP := hid hcp
  have HCUT := hid hcut
  clear hcp hcut
  have ha63 : a.size ≤ 1073741824 := R.short.1
  have hb63 : b.size ≤ 1073741824 := R.short.2
  have HPA := hid (fun W hW => isPlain_res (w := w) a true h W hW)
  have HPB := hid (fun W hW => isPlain_res (w := w) b true hp W hW)
  have hs2 := toList_ne hb0
  have hs3 := toList_ne hb1
  have hs6 := beq_eq_false_iff_ne.2 hs2
  have hs7 := beq_eq_false_iff_ne.2 hs3
  have HCK : Hid (checkR s.data.toList = 4) := hid (by rw [check_of R, h, hn, hz, hf, hp, hb0, hb1]; exact (show (if 600 < a.data.toList.length ∨ 600 < b.data.toList.length then (4 : Nat) else if textQ s.data.toList = s.data.toList then 0 else 1) = 4 from if_pos (.inl hl)))
  have hla : 600 < a.size := by have := size_list a; omega
  clear hl
  clear R h hp hb0 hb1
  have hs1 := toList_ne hz
  have hs8 := beq_eq_false_iff_ne.2 hs1
  subst hn
  clear hz
  subst hf
  go_enter Tryz.func32, Tryz.ntmps32
  go_wp2_with fail
  refine (HCP.out _).mono ?_
  rintro e w1 ⟨rfl, hw1⟩
  rw [hw1]
  clear hw1 HCP
  go_wp2_with fail
  refine (HCUT.out _ HW0.out).mono ?_
  rintro e w2 ⟨rfl, hr⟩
  have HR := hid hr
  clear hr HCUT HW0
  go_wp2_with fail
  refine (HPA.out _ HR.out).mono ?_
  rintro e w3 ⟨rfl, hr⟩
  clear HR HPA
  have HR := hid hr
  clear hr
  go_wp2_with fail
  refine (HPB.out _ HR.out).mono ?_
  rintro e w3 ⟨rfl, hr⟩
  clear HR HPB
  have HR := hid hr
  clear hr
  obtain ⟨⟨r0, g0⟩, ⟨r1, g1⟩, ⟨r2, g2⟩⟩ := lone_out HR.out
  have HBEL := hid (below_stored HR.out.1 (Nat.le_refl w.heap.size) (.bool false) (.slice none 0 0) (.slice none 0 0))
  clear HR
  go_wp2_with fail
  refine bodyPost_ret (v := .tuple #[.agg #[.bool false, .slice none 0 0, .slice none 0 0], .int .i64 4]) ?_ rfl ?_
  · simp [results, Tryz.results32, go_sem, r0, r1, r2]
  · exact numOf_bad (by rw [HCK.out]; omega) (by rw [HCK.out]; rfl) rfl HBEL.out
set_option maxRecDepth 100000 in
set_option maxHeartbeats 2000000 in
theorem read_neg_yes_lb (s a b : ByteArray) (neg f : Bool) (w : World) (R : ReadSet s a b neg f w) (h : plainD a.data.toList = true) (hn : neg = true) (hz : (a.data.toList == [48]) = false) (hf : f = true) (hp : plainD b.data.toList = true) (hb0 : (b.data.toList == [48]) = false) (hb1 : (b.data.toList == [49]) = false) (hl : ¬ 600 < a.data.toList.length) (hl2 : 600 < b.data.toList.length) :
    Calls Tryz.prog 32 #[.string s] w (NumOf s.data.toList w) := by
  have HW0 := hid (lone_start w false (.slice none 0 0) (.slice none 0 0))
  obtain ⟨d, hcp, hcut⟩ := R.leadPart
  have HCP := hid hcp
  have HCUT := hid hcut
  clear hcp hcut
  have ha63 : a.size ≤ 1073741824 := R.short.1
  have hb63 : b.size ≤ 1073741824 := R.short.2
  have HPA := hid (fun W hW => isPlain_res (w := w) a true h W hW)
  have HPB := hid (fun W hW => isPlain_res (w := w) b true hp W hW)
  have hs2 := toList_ne hb0
  have hs3 := toList_ne hb1
  have hs6 := beq_eq_false_iff_ne.2 hs2
  have hs7 := beq_eq_false_iff_ne.2 hs3
  have HCK : Hid (checkR s.data.toList = 4) := hid (by rw [check_of R, h, hn, hz, hf, hp, hb0, hb1]; exact (show (if 600 < a.data.toList.length ∨ 600 < b.data.toList.length then (4 : Nat) else if textQ s.data.toList = s.data.toList then 0 else 1) = 4 from if_pos (.inr hl2)))
  have hla : ¬ 600 < a.size := by have := size_list a; omega
  have hlb : 600 < b.size := by have := size_list b; omega
  clear hl hl2
  clear R h hp hb0 hb1
  have hs1 := toList_ne hz
  have hs8 := beq_eq_false_iff_ne.2 hs1
  subst hn
  clear hz
  subst hf
  go_enter Tryz.func32, Tryz.ntmps32
  go_wp2_with fail
  refine (HCP.out _).mono ?_
  rintro e w1 ⟨rfl, hw1⟩
  rw [hw1]
  clear hw1 HCP
  go_wp2_with fail
  refine (HCUT.out _ HW0.out).mono ?_
  rintro e w2 ⟨rfl, hr⟩
  have HR := hid hr
  clear hr HCUT HW0
  go_wp2_with fail
  refine (HPA.out _ HR.out).mono ?_
  rintro e w3 ⟨rfl, hr⟩
  clear HR HPA
  have HR := hid hr
  clear hr
  go_wp2_with fail
  refine (HPB.out _ HR.out).mono ?_
  rintro e w3 ⟨rfl, hr⟩
  clear HR HPB
  have HR := hid hr
  clear hr
  obtain ⟨⟨r0, g0⟩, ⟨r1, g1⟩, ⟨r2, g2⟩⟩ := lone_out HR.out
  have HBEL := hid (below_stored HR.out.1 (Nat.le_refl w.heap.size) (.bool false) (.slice none 0 0) (.slice none 0 0))
  clear HR
  go_wp2_with fail
  refine bodyPost_ret (v := .tuple #[.agg #[.bool false, .slice none 0 0, .slice none 0 0], .int .i64 4]) ?_ rfl ?_
  · simp [results, Tryz.results32, go_sem, r0, r1, r2]
  · exact numOf_bad (by rw [HCK.out]; omega) (by rw [HCK.out]; rfl) rfl HBEL.out
set_option maxRecDepth 100000 in
set_option maxHeartbeats 2000000 in
theorem read_neg_yes_eq (s a b : ByteArray) (neg f : Bool) (w : World) (R : ReadSet s a b neg f w) (h : plainD a.data.toList = true) (hn : neg = true) (hz : (a.data.toList == [48]) = false) (hf : f = true) (hp : plainD b.data.toList = true) (hb0 : (b.data.toList == [48]) = false) (hb1 : (b.data.toList == [49]) = false) (hl : ¬ 600 < a.data.toList.length) (hl2 : ¬ 600 < b.data.toList.length) (he : textQ s.data.toList = s.data.toList) :
    Calls Tryz.prog 32 #[.string s] w (NumOf s.data.toList w) := by
  have HW0 := hid (lone_start w false (.slice none 0 0) (.slice none 0 0))
  obtain ⟨d, hcp, hcut⟩ := R.leadPart
  have HCP := hid hcp
  have HCUT := hid hcut
  clear hcp hcut
  have ha63 : a.size ≤ 1073741824 := R.short.1
  have hb63 : b.size ≤ 1073741824 := R.short.2
  have HPA := hid (fun W hW => isPlain_res (w := w) a true h W hW)
  have HPB := hid (fun W hW => isPlain_res (w := w) b true hp W hW)
  have hs2 := toList_ne hb0
  have hs3 := toList_ne hb1
  have hs6 := beq_eq_false_iff_ne.2 hs2
  have hs7 := beq_eq_false_iff_ne.2 hs3
  have HCK : Hid (checkR s.data.toList = 0) := hid (by rw [check_of R, h, hn, hz, hf, hp, hb0, hb1]; exact (show (if 600 < a.data.toList.length ∨ 600 < b.data.toList.length then (4 : Nat) else if textQ s.data.toList = s.data.toList then 0 else 1) = 0 from by rw [if_neg (by omega)]; first | exact if_pos he | exact if_neg he))
  have hla : ¬ 600 < a.size := by have := size_list a; omega
  have hlb : ¬ 600 < b.size := by have := size_list b; omega
  have HQ := hid (readQ_some R h (fun _ => ⟨hp, beq_eq_false_iff_ne.1 hb0⟩))
  have HRD := hid (fun W hW => read_num (w := w) s R.gw R.size HQ.out W hW)
  have HTX := hid (fun (W : World) (v : Value) (hv : NumV W v (numQ s.data.toList)) => text_num hv (num_cap R))
  have HTV : Hid ((if fitsQ (numQ s.data.toList) 600 then (⟨(ratText (numQ s.data.toList)).toArray⟩ : ByteArray) else ⟨#[]⟩) = s) := hid (bytes_eq (by
    refine Eq.trans ?_ he
    unfold textQ
    split <;> simp))
  obtain ⟨fl, hfl⟩ : ∃ fl, fl = fitsQ (numQ s.data.toList) 600 := ⟨_, rfl⟩
  have HFV : Hid (fitsQ (numQ s.data.toList) 600 = fl) := hid hfl.symm
  clear hl hl2 he hfl HQ
  clear R h hp hb0 hb1
  have hs1 := toList_ne hz
  have hs8 := beq_eq_false_iff_ne.2 hs1
  subst hn
  clear hz
  subst hf
  go_enter Tryz.func32, Tryz.ntmps32
  go_wp2_with fail
  refine (HCP.out _).mono ?_
  rintro e w1 ⟨rfl, hw1⟩
  rw [hw1]
  clear hw1 HCP
  go_wp2_with fail
  refine (HCUT.out _ HW0.out).mono ?_
  rintro e w2 ⟨rfl, hr⟩
  have HR := hid hr
  clear hr HCUT HW0
  go_wp2_with fail
  refine (HPA.out _ HR.out).mono ?_
  rintro e w3 ⟨rfl, hr⟩
  clear HR HPA
  have HR := hid hr
  clear hr
  go_wp2_with fail
  refine (HPB.out _ HR.out).mono ?_
  rintro e w3 ⟨rfl, hr⟩
  clear HR HPB
  have HR := hid hr
  clear hr
  go_wp2_with fail
  refine (HRD.out _ HR.out).mono ?_
  rintro e w9 ⟨⟨v9, rfl, hv⟩, hr⟩
  clear HR HRD
  have HR := hid hr
  have HV := hid hv
  obtain ⟨pt, kt, ct, pf, kf, cf, rfl, hp1, hp2⟩ := hv.parts
  clear hr hv hp1 hp2
  have hown := own3 w9 (decide ((numQ s.data.toList).num < 0)) (.slice pt kt ct) (.slice pf kf cf)
  have hal : Below w9.heap.size w9 (w9.alloc (.cells #[.bool (decide ((numQ s.data.toList).num < 0)), .slice pt kt ct, .slice pf kf cf] 75)) := (Below.refl _ _).alloc (Nat.le_refl _) _
  have HTX2 := hid (HTX.out (w9.alloc (.cells #[.bool (decide ((numQ s.data.toList).num < 0)), .slice pt kt ct, .slice pf kf cf] 75)) _ (HV.out.later hal))
  have HAL := hid hal
  have HOWN := hid hown
  have hsz9 : w.heap.size < w9.heap.size := HR.out.2.1
  rw [HTV.out, HFV.out] at HTX2
  generalize decide ((numQ s.data.toList).num < 0) = sg at *
  clear hown hal HTX HTV
  go_wp2_with fail
  refine HTX2.out.mono ?_
  rintro e w10 ⟨rfl, hb⟩
  have HRT := hid ((HR.out.later HAL.out).later hb)
  have HO10 : Hid (Own w10 w9.heap.size 3 (numCell sg (.slice pt kt ct) (.slice pf kf cf))) := hid (HOWN.out.later (hb.mono HOWN.out.1))
  have HV10 := hid ((HV.out.later HAL.out).later hb)
  clear hb HTX2 HR HV HOWN HAL
  obtain ⟨⟨r0, g0⟩, ⟨r1, g1⟩, ⟨r2, g2⟩⟩ := lone_out HRT.out
  obtain ⟨x0, x1, x2⟩ := box_cells HO10.out
  have HFIN := hid (num_stored HV10.out r0 r1 r2)
  have HBEL := hid (below_stored HRT.out.1 (Nat.le_refl w.heap.size) (.bool sg) (.slice pt kt ct) (.slice pf kf cf))
  clear HRT HO10 HV10
  go_wp2_with fail
  refine bodyPost_ret (v := .tuple #[.agg #[.bool sg, .slice pt kt ct, .slice pf kf cf], .int .i64 0]) ?_ rfl ?_
  · simp [results, Tryz.results32, go_sem, r0, r1, r2]
  · exact numOf_ok HCK.out rfl HFIN.out HBEL.out
set_option maxRecDepth 100000 in
set_option maxHeartbeats 2000000 in
theorem read_neg_yes_ne (s a b : ByteArray) (neg f : Bool) (w : World) (R : ReadSet s a b neg f w) (h : plainD a.data.toList = true) (hn : neg = true) (hz : (a.data.toList == [48]) = false) (hf : f = true) (hp : plainD b.data.toList = true) (hb0 : (b.data.toList == [48]) = false) (hb1 : (b.data.toList == [49]) = false) (hl : ¬ 600 < a.data.toList.length) (hl2 : ¬ 600 < b.data.toList.length) (he : ¬ textQ s.data.toList = s.data.toList) :
    Calls Tryz.prog 32 #[.string s] w (NumOf s.data.toList w) := by
  have HW0 := hid (lone_start w false (.slice none 0 0) (.slice none 0 0))
  obtain ⟨d, hcp, hcut⟩ := R.leadPart
  have HCP := hid hcp
  have HCUT := hid hcut
  clear hcp hcut
  have ha63 : a.size ≤ 1073741824 := R.short.1
  have hb63 : b.size ≤ 1073741824 := R.short.2
  have HPA := hid (fun W hW => isPlain_res (w := w) a true h W hW)
  have HPB := hid (fun W hW => isPlain_res (w := w) b true hp W hW)
  have hs2 := toList_ne hb0
  have hs3 := toList_ne hb1
  have hs6 := beq_eq_false_iff_ne.2 hs2
  have hs7 := beq_eq_false_iff_ne.2 hs3
  have HCK : Hid (checkR s.data.toList = 1) := hid (by rw [check_of R, h, hn, hz, hf, hp, hb0, hb1]; exact (show (if 600 < a.data.toList.length ∨ 600 < b.data.toList.length then (4 : Nat) else if textQ s.data.toList = s.data.toList then 0 else 1) = 1 from by rw [if_neg (by omega)]; first | exact if_pos he | exact if_neg he))
  have hla : ¬ 600 < a.size := by have := size_list a; omega
  have hlb : ¬ 600 < b.size := by have := size_list b; omega
  have HQ := hid (readQ_some R h (fun _ => ⟨hp, beq_eq_false_iff_ne.1 hb0⟩))
  have HRD := hid (fun W hW => read_num (w := w) s R.gw R.size HQ.out W hW)
  have HTX := hid (fun (W : World) (v : Value) (hv : NumV W v (numQ s.data.toList)) => text_num hv (num_cap R))
  obtain ⟨tx, htx⟩ : ∃ tx : ByteArray, tx = (if fitsQ (numQ s.data.toList) 600 then (⟨(ratText (numQ s.data.toList)).toArray⟩ : ByteArray) else ⟨#[]⟩) := ⟨_, rfl⟩
  have HTV : Hid ((if fitsQ (numQ s.data.toList) 600 then (⟨(ratText (numQ s.data.toList)).toArray⟩ : ByteArray) else ⟨#[]⟩) = tx) := hid htx.symm
  have hs4 : ¬ tx.toList = s.toList := by
    rw [ByteArray.toList_eq, ByteArray.toList_eq, htx]
    intro e
    apply he
    refine Eq.trans ?_ e
    unfold textQ
    split <;> simp
  have hs5 : (!tx.toList == s.toList) = true := by rw [beq_eq_false_iff_ne.2 hs4]; rfl
  clear htx
  obtain ⟨fl, hfl⟩ : ∃ fl, fl = fitsQ (numQ s.data.toList) 600 := ⟨_, rfl⟩
  have HFV : Hid (fitsQ (numQ s.data.toList) 600 = fl) := hid hfl.symm
  clear hl hl2 he hfl HQ
  clear R h hp hb0 hb1
  have hs1 := toList_ne hz
  have hs8 := beq_eq_false_iff_ne.2 hs1
  subst hn
  clear hz
  subst hf
  go_enter Tryz.func32, Tryz.ntmps32
  go_wp2_with fail
  refine (HCP.out _).mono ?_
  rintro e w1 ⟨rfl, hw1⟩
  rw [hw1]
  clear hw1 HCP
  go_wp2_with fail
  refine (HCUT.out _ HW0.out).mono ?_
  rintro e w2 ⟨rfl, hr⟩
  have HR := hid hr
  clear hr HCUT HW0
  go_wp2_with fail
  refine (HPA.out _ HR.out).mono ?_
  rintro e w3 ⟨rfl, hr⟩
  clear HR HPA
  have HR := hid hr
  clear hr
  go_wp2_with fail
  refine (HPB.out _ HR.out).mono ?_
  rintro e w3 ⟨rfl, hr⟩
  clear HR HPB
  have HR := hid hr
  clear hr
  go_wp2_with fail
  refine (HRD.out _ HR.out).mono ?_
  rintro e w9 ⟨⟨v9, rfl, hv⟩, hr⟩
  clear HR HRD
  have HR := hid hr
  have HV := hid hv
  obtain ⟨pt, kt, ct, pf, kf, cf, rfl, hp1, hp2⟩ := hv.parts
  clear hr hv hp1 hp2
  have hown := own3 w9 (decide ((numQ s.data.toList).num < 0)) (.slice pt kt ct) (.slice pf kf cf)
  have hal : Below w9.heap.size w9 (w9.alloc (.cells #[.bool (decide ((numQ s.data.toList).num < 0)), .slice pt kt ct, .slice pf kf cf] 75)) := (Below.refl _ _).alloc (Nat.le_refl _) _
  have HTX2 := hid (HTX.out (w9.alloc (.cells #[.bool (decide ((numQ s.data.toList).num < 0)), .slice pt kt ct, .slice pf kf cf] 75)) _ (HV.out.later hal))
  have HAL := hid hal
  have HOWN := hid hown
  have hsz9 : w.heap.size < w9.heap.size := HR.out.2.1
  rw [HTV.out, HFV.out] at HTX2
  generalize decide ((numQ s.data.toList).num < 0) = sg at *
  clear hown hal HTX HTV
  go_wp2_with fail
  refine HTX2.out.mono ?_
  rintro e w10 ⟨rfl, hb⟩
  have HRT := hid ((HR.out.later HAL.out).later hb)
  have HO10 : Hid (Own w10 w9.heap.size 3 (numCell sg (.slice pt kt ct) (.slice pf kf cf))) := hid (HOWN.out.later (hb.mono HOWN.out.1))
  have HV10 := hid ((HV.out.later HAL.out).later hb)
  clear hb HTX2 HR HV HOWN HAL
  obtain ⟨⟨r0, g0⟩, ⟨r1, g1⟩, ⟨r2, g2⟩⟩ := lone_out HRT.out
  have HBEL := hid (below_stored HRT.out.1 (Nat.le_refl w.heap.size) (.bool false) (.slice none 0 0) (.slice none 0 0))
  clear HRT HO10 HV10
  go_wp2_with fail
  refine bodyPost_ret (v := .tuple #[.agg #[.bool false, .slice none 0 0, .slice none 0 0], .int .i64 1]) ?_ rfl ?_
  · simp [results, Tryz.results32, go_sem, r0, r1, r2]
  · exact numOf_bad (by rw [HCK.out]; omega) (by rw [HCK.out]; rfl) rfl HBEL.out
/-- read returns the number of a text, or its error. -/
theorem readNum_any (s : ByteArray) (w : World) (hg : GW w) (hs : s.size ≤ 1073741824) :
    Calls Tryz.prog 32 #[.string s] w (NumOf s.data.toList w) := by
  obtain ⟨a, b, neg, f, R⟩ := readSet_mk s w hg hs
  cases h : plainD a.data.toList
  · exact read_top_bad s a b neg f w R h
  cases hn : neg
  · cases hf : f
    · have hb0 : b.data.toList.length = 0 := by
        have := cut_none (l := Lib.trimPrefix s.data.toList [45]) (sep := [47]) (by rw [R.found, hf])
        rw [R.bottom] at this
        rw [this]; rfl
      by_cases hl : 600 < a.data.toList.length
      · exact read_pos_no_la s a b neg f w R h hn hf hl
      by_cases he : textQ s.data.toList = s.data.toList
      · exact read_pos_no_eq s a b neg f w R h hn hf hl (by omega) he
      · exact read_pos_no_ne s a b neg f w R h hn hf hl (by omega) he
    · cases hp : plainD b.data.toList
      · exact read_pos_yes_p s a b neg f w R h hn hf hp
      cases hb0 : (b.data.toList == [48])
      · cases hb1 : (b.data.toList == [49])
        · by_cases hl : 600 < a.data.toList.length
          · exact read_pos_yes_la s a b neg f w R h hn hf hp hb0 hb1 hl
          by_cases hl2 : 600 < b.data.toList.length
          · exact read_pos_yes_lb s a b neg f w R h hn hf hp hb0 hb1 hl hl2
          by_cases he : textQ s.data.toList = s.data.toList
          · exact read_pos_yes_eq s a b neg f w R h hn hf hp hb0 hb1 hl hl2 he
          · exact read_pos_yes_ne s a b neg f w R h hn hf hp hb0 hb1 hl hl2 he
        · exact read_pos_yes_1 s a b neg f w R h hn hf hp hb0 hb1
      · exact read_pos_yes_0 s a b neg f w R h hn hf hp hb0
  · cases hz : (a.data.toList == [48])
    · cases hf : f
      · have hb0 : b.data.toList.length = 0 := by
          have := cut_none (l := Lib.trimPrefix s.data.toList [45]) (sep := [47]) (by rw [R.found, hf])
          rw [R.bottom] at this
          rw [this]; rfl
        by_cases hl : 600 < a.data.toList.length
        · exact read_neg_no_la s a b neg f w R h hn hz hf hl
        by_cases he : textQ s.data.toList = s.data.toList
        · exact read_neg_no_eq s a b neg f w R h hn hz hf hl (by omega) he
        · exact read_neg_no_ne s a b neg f w R h hn hz hf hl (by omega) he
      · cases hp : plainD b.data.toList
        · exact read_neg_yes_p s a b neg f w R h hn hz hf hp
        cases hb0 : (b.data.toList == [48])
        · cases hb1 : (b.data.toList == [49])
          · by_cases hl : 600 < a.data.toList.length
            · exact read_neg_yes_la s a b neg f w R h hn hz hf hp hb0 hb1 hl
            by_cases hl2 : 600 < b.data.toList.length
            · exact read_neg_yes_lb s a b neg f w R h hn hz hf hp hb0 hb1 hl hl2
            by_cases he : textQ s.data.toList = s.data.toList
            · exact read_neg_yes_eq s a b neg f w R h hn hz hf hp hb0 hb1 hl hl2 he
            · exact read_neg_yes_ne s a b neg f w R h hn hz hf hp hb0 hb1 hl hl2 he
          · exact read_neg_yes_1 s a b neg f w R h hn hz hf hp hb0 hb1
        · exact read_neg_yes_0 s a b neg f w R h hn hz hf hp hb0
    · exact read_minus_zero s a b neg f w R h hn hz
end Go.Proofs.YtocoghnopmjceaaGreatDoor

