/-
  way: a shortest way from some nodes to some others.
-/
import Derived.Test.YtncnpodanlhdkaaWReverse
namespace Go.Proofs.Ytncnpodanlhdkaa
set_option linter.all false
open Go.RowKit Go.Shelf
attribute [local go_sem] Oper.semAt_some

set_option maxRecDepth 100000 in
set_option maxHeartbeats 20000000 in
theorem way_in (F : Fence) (n : Nat) (h74 : F.fn 91) (h76 : F.fn 95) (h77 : F.fn 96) (h78 : F.fn 97) (hro : F.round = none) (hn : 4 ≤ n) (base a : Nat) (N : Net) (va : Value) (vs : List Value) (frm to : List Bool) (m0 m1 : Nat) (R : Bfs × Option Nat) (p : List Step) (mk : List Bool) (hN : N.Ok) (w : World) (hnet : NetIn base w a N va vs) (hf : frm.length = 34) (ht : to.length = 34) (hR : bfs N to m0 ⟨frm, noS, marked frm 34⟩ = some R) (hP : found frm m1 R = some (p, mk)) (hm1 : m1 ≤ 1000) :
    CallsIn F n Try.prog 91 #[.pointer (some ⟨a, 0, none⟩), .agg (bools frm), .agg (bools to)] w (WayPost w p mk) := by
  have hz := (zero_of_info zero_marks).1
  have hz2 := (zero_of_info zero_steps).1
  have HF := hid hf
  have HT := hid ht
  have HNET := hid hnet
  have HN := hid hN
  have HR := hid hR
  have HP := hid hP
  clear hf ht hnet hN hR hP
  obtain ⟨w3, hw3⟩ : ∃ w3, w3 = ((w.alloc (.cells (bools frm) 85)).alloc (.cells (bools to) 85)).alloc (.cells (bools noM) 85) := ⟨_, rfl⟩
  have HB1 : Hid (Blk w3 w.heap.size (bools frm) 85) := hid (by rw [hw3]; exact ((Blk.new _ _ _).alloc _).alloc _)
  have R1 := hid (run_marks w3 HB1.out HF.out)
  have R2 := hid (put_marks_new w3 (old := noM) (t := 85) (g := w.heap.size + 1 + 1 + 1) noM_len HF.out (by rw [hw3]; simp))
  rw [hw3] at R1 R2
  refine callsIn_of_wp_marks Try.func91 rfl h74 ?_ hro
  simp only [Try.ntmps91, List.size_toArray, List.length_cons, List.length_nil, Nat.reduceAdd, Nat.reduceSub, Array.replicate_succ, Array.replicate_zero, List.push_toArray, List.append_toArray, List.nil_append, List.cons_append]
  gi_wp2_with fail
  apply wpIn_scope
  gi_wp2_with (first | (with_reducible refine ldI 85 _ rfl rfl rfl R1.out ?_) | (with_reducible refine stI 85 _ _ rfl rfl rfl rfl R2.out ?_))
  have H0 := hid (way_start w frm to HF.out)
  clear hw3 R1 R2 HB1
  gi_loopw [18] (fun i wr => ∃ k : Nat, k ≤ 34 ∧ i = .int .i64 k ∧ ∃ v, Hid (WayAt w wr frm to frm noS v (marked frm k))) (fun i _ => 34 - (intOf i).toNat)
  case atStart => exact ⟨0, by omega, rfl, _, H0⟩
  case round =>
    obtain ⟨k, hk, rfl, v, HW⟩ := hrel
    by_cases hlt : k < 34
    · obtain ⟨b, hb⟩ : ∃ b, frm[k]? = some b := ⟨frm[k]'(by rw [HF.out]; exact hlt), List.getElem?_eq_getElem _⟩
      have c0 := HW.out.b0.cell (bools_get hb)
      have c5 : wr.cell? ⟨w.heap.size + 1 + 1 + 1 + 1 + 1, 0, none⟩ = some v := HW.out.b5.cell rfl
      have f5 := HW.out.b5.froz 0
      have HNX := hid (marked_next frm k hb)
      have HLE := hid (marked_len frm k)
      have HTOP := HW.out.top
      clear hb
      cases b with
      | true =>
        rw [if_pos rfl] at HNX
        have HQ := hid (HW.out.alloc (.cells #[.int .i64 k] 3)).qa
        gi_wp2_with (refine q_app _ _ rfl rfl (v := v) (ad := ⟨wr.heap.size, 0, none⟩) (i := k) rfl rfl HQ.out (by simp; omega) (by have := HLE.out; omega) ((Blk.new wr _ _).cell rfl) ?c2)
        case c2 =>
          intro p m' c' W' hq hg hk
          have hwq := ((HW.out.alloc (.cells #[.int .i64 k] 3)).queue hg.out hq.out)
          have HWQ := hid hwq
          have c5 : W'.cell? ⟨w.heap.size + 1 + 1 + 1 + 1 + 1, 0, none⟩ = some v := ((HW.out.alloc (.cells #[.int .i64 k] 3)).b5.grown hg.out (fun e => by have := (HW.out.qa.lt _ e).1; omega)).cell rfl
          have f5 : W'.frozen? ⟨w.heap.size + 1 + 1 + 1 + 1 + 1, 0, none⟩ = false := ((HW.out.alloc (.cells #[.int .i64 k] 3)).b5.grown hg.out (fun e => by have := (HW.out.qa.lt _ e).1; omega)).froz 0
          clear hq hg hk hwq HW HQ
          gi_wp2_with fail
          go_roundw
          case rel => exact ⟨k + 1, by omega, by go_num, _, by rw [HNX.out]; exact HWQ⟩
          case measure => simp [intOf]; omega
      | false =>
        rw [if_neg (by simp), List.append_nil] at HNX
        gi_wp2_with fail
        go_roundw
        case rel => exact ⟨k + 1, by omega, by go_num, _, by rw [HNX.out]; exact HW⟩
        case measure => simp [intOf]; omega
    · obtain rfl : k = 34 := by omega
      clear H0 hz hz2
      gi_wp2_with fail
      apply wpIn_label
      obtain ⟨E, hE⟩ : ∃ E, E = wr.heap.size := ⟨_, rfl⟩
      have HS : Hid (Stand w (wr.alloc (.cells #[.int .i64 (-1)] 3)) frm to ⟨frm, noS, marked frm 34⟩ v E (-1) []) := hid ⟨HW.out.alloc _, Blk_newn _ _ _ hE, by rw [hE]; exact HW.out.top, fun k hk e => by
        rw [List.mem_singleton.1 hk] at e
        have := (HW.out.qa.lt _ e).2
        omega⟩
      rw [← hE]
      clear hE HW hk hlt
      gi_wp2_with fail
      rename_i K hK
      have fin : ∀ u11 u13 u14 u20 u21 u22 u23 u24 u25 u26 u27 u28 u29 u30 u31 u32 u33 u34 u35 u36 u37 u38 u39 u40 u41 u42 u43 u44 u45 u46 u47 u48 u49 u50 u51 u52 u53 u54 u55 u56 u57 u58 u59 u60 u61 u62 ds s v e W', Hid (Stand w W' frm to s v E e []) → Hid (Marks (w.heap.size + 1 + 1 + 1 + 1 + 1 + 1) W' W'.heap.size ds) → (Hid (R = (s, none)) ∧ Hid (e = -1) ∨ ∃ d : Nat, Hid (R = (s, some d)) ∧ Hid (e = d)) → K { tmps := #[.pointer (some ⟨a, 0, none⟩), .agg (bools frm), .agg (bools to), undef, .pointer (some ⟨w.heap.size, 0, none⟩), .pointer (some ⟨w.heap.size + 1, 0, none⟩), .slice none 0 0, .pointer (some ⟨w.heap.size + 1 + 1, 0, none⟩), .pointer (some ⟨w.heap.size + 1 + 1 + 1, 0, none⟩), .pointer (some ⟨w.heap.size + 1 + 1 + 1 + 1, 0, none⟩), .pointer (some ⟨w.heap.size + 1 + 1 + 1 + 1 + 1, 0, none⟩), u11, .pointer (some ⟨E, 0, none⟩), u13, u14, undef, undef, .agg (bools frm), .int .i64 (34 : Nat), .bool false, u20, u21, u22, u23, u24, u25, u26, u27, u28, u29, u30, u31, u32, u33, u34, u35, u36, u37, u38, u39, u40, u41, u42, u43, u44, u45, u46, u47, u48, u49, u50, u51, u52, u53, u54, u55, u56, u57, u58, u59, u60, u61, u62, undef, undef, undef, undef, undef, undef, undef, undef, undef, undef, undef, undef, undef, undef, undef, undef, undef, undef, undef, undef, undef, undef], defers := ds } W' := by
        intro u11 u13 u14 u20 u21 u22 u23 u24 u25 u26 u27 u28 u29 u30 u31 u32 u33 u34 u35 u36 u37 u38 u39 u40 u41 u42 u43 u44 u45 u46 u47 u48 u49 u50 u51 u52 u53 u54 u55 u56 u57 u58 u59 u60 u61 u62 ds s v e W' HS HM hR'
        have hcE : W'.cell? ⟨E, 0, none⟩ = some (.int .i64 e) := HS.out.blk.cell rfl
        refine hK _ _ ?_
        have HRB := HR
        have HSR : Hid (Srcs noS) := hid (fun i x hx => by unfold noS at hx; rw [List.getElem?_replicate] at hx; split at hx <;> cases hx; show (0 : Nat) < 34; omega)
        clear hK HR
        rcases hR' with ⟨HR, HE⟩ | ⟨d, HR, HE⟩
        · rw [HE.out] at hcE
          clear HE
          have hl3 := HS.out.way.l3
          have hp : Hid (p = [] ∧ mk = s.reached) := hid (by have h := HP.out; rw [HR.out] at h; cases h; exact ⟨rfl, rfl⟩)
          have HL3 := hid hl3
          clear hl3
          gi_wp2_with fail
          refine tail_round 2 (by kernel_rfl) (by kernel_rfl) (by kernel_rfl) ?nq ?_
          case nq =>
            rintro ⟨a', w', h⟩
            exact wayPost_in _ _ _ _ h
          simp only [List.take_succ_cons, List.take_zero, List.drop_succ_cons, List.drop_zero]
          refine still_want rfl fun K hK => still_ld 85 _ rfl rfl (run_marks W'.drew HS.out.way.b3.drew HL3.out) (hK _ ?_)
          clear hK K
          still_step
          refine wpStill_nil ?_
          refine st_marks _ _ rfl rfl rfl rfl HS.out.way.b2.drew noM_len HL3.out ?_
          refine wpList_nil ?_
          have HM2 : Hid (Marks (w.heap.size + 1 + 1 + 1 + 1 + 1 + 1) (W'.drew.setRow (w.heap.size + 1 + 1) (bools s.reached)) W'.heap.size ds) := hid ((HM.out.others (KeepsOthers.drew W')).others (others_row HS.out.way.b2.drew _))
          have HB2 : Hid (Blk (W'.drew.setRow (w.heap.size + 1 + 1) (bools s.reached)) (w.heap.size + 1 + 1) (bools s.reached) 85) := hid (HS.out.way.b2.drew.row _)
          have HBW : Hid (Below w.heap.size w (W'.drew.setRow (w.heap.size + 1 + 1) (bools s.reached))) := hid (below_setRow HS.out.way.below.drew (by omega) _)
          clear hcE HM
          gi_wp2_with fail
          refine leaves_marks ds _ _ HM2.out fun W3 hW3 => ?_
          have r1 := run_marks W3 (hW3.blk HB2.out) HL3.out
          refine ⟨.tuple #[.slice none 0 0, .agg (bools s.reached)], ?_, ?_⟩
          · simp [results, Try.results91, asAddr, Act.put, r1]
          · rw [hp.out.1, hp.out.2]
            exact ⟨_, rfl, World.ownsRow_nil _ _ _ _, HBW.out.trans (hW3.2.mono (by omega))⟩
        · rw [HE.out] at hcE
          clear HE
          have hde : ((d : Int) == -1) = false := beq_eq_false_iff_ne.2 (by omega)
          obtain ⟨pl, hpl⟩ : ∃ pl, Hid (back frm s.last m1 d = some pl) ∧ Hid (p = pl.reverse ∧ mk = noM) := by
            have h := HP.out
            rw [HR.out] at h
            obtain ⟨pl, h1, h2⟩ := found_out h
            exact ⟨pl, hid h1, hid h2⟩
          obtain ⟨HBK, HPL⟩ := hpl
          have HBKA := HBK
          have hsrc := bfs_src HN.out HRB.out HSR.out
          rw [HR.out] at hsrc
          have HSRC := hid hsrc.1
          have hd34 := hsrc.2 d rfl
          have HL4 := hid HS.out.way.l4
          clear hsrc
          gi_wp2_with fail
          refine wpIn_loop_num (fun m act W => ∃ u67 u68 u69 u70 u71 u72 u73 u74 u75 u76 u77 u78 u79 u80 vw nd l r, act = { tmps := #[.pointer (some ⟨a, 0, none⟩), .agg (bools frm), .agg (bools to), undef, .pointer (some ⟨w.heap.size, 0, none⟩), .pointer (some ⟨w.heap.size + 1, 0, none⟩), .slice none 0 0, .pointer (some ⟨w.heap.size + 1 + 1, 0, none⟩), .pointer (some ⟨w.heap.size + 1 + 1 + 1, 0, none⟩), .pointer (some ⟨w.heap.size + 1 + 1 + 1 + 1, 0, none⟩), .pointer (some ⟨w.heap.size + 1 + 1 + 1 + 1 + 1, 0, none⟩), u11, .pointer (some ⟨E, 0, none⟩), u13, u14, vw, .int .i64 (nd : Nat), .agg (bools frm), .int .i64 (34 : Nat), .bool false, u20, u21, u22, u23, u24, u25, u26, u27, u28, u29, u30, u31, u32, u33, u34, u35, u36, u37, u38, u39, u40, u41, u42, u43, u44, u45, u46, u47, u48, u49, u50, u51, u52, u53, u54, u55, u56, u57, u58, u59, u60, u61, u62, .int .i64 (d : Nat), .bool false, undef, .int .i64 (d : Nat), u67, u68, u69, u70, u71, u72, u73, u74, u75, u76, u77, u78, u79, u80, undef, undef, undef, undef], defers := ds } ∧ nd < 34 ∧ Hid (Below W'.heap.size W' W) ∧ Hid (RowS W'.heap.size W vw l) ∧ Hid (back frm s.last m nd = some r) ∧ Hid (l ++ r = pl)) m1 ?h0 ?hz ?round
          case h0 => exact ⟨_, _, _, _, _, _, _, _, _, _, _, _, _, _, _, d, [], pl, rfl, hd34, hid (Below.refl _ _), hid (World.ownsRow_nil _ _ _ _), HBK, hid rfl⟩
          case hz =>
            rintro a' W2 ⟨u67, u68, u69, u70, u71, u72, u73, u74, u75, u76, u77, u78, u79, u80, vw, nd, l, r, _, _, _, _, h, _⟩
            cases h.out
          case round =>
            rintro m a' W2 ⟨u67, u68, u69, u70, u71, u72, u73, u74, u75, u76, u77, u78, u79, u80, vw, nd, l, r, rfl, hnd, HB2, HRW, HBK, HLR⟩
            obtain ⟨b, hb⟩ : ∃ b, frm[nd]? = some b := ⟨frm[nd]'(by rw [HF.out]; exact hnd), List.getElem?_eq_getElem _⟩
            obtain ⟨x, hx⟩ : ∃ x, s.last[nd]? = some x := ⟨s.last[nd]'(by rw [HL4.out]; exact hnd), List.getElem?_eq_getElem _⟩
            have b0 := HS.out.way.b0.later HB2.out HS.out.way.b0.lt
            have b4 := HS.out.way.b4.later HB2.out HS.out.way.b4.lt
            have c0 := b0.cell (bools_get hb)
            have c1 : W2.cell? ⟨w.heap.size + 1 + 1 + 1 + 1, nd * 5, none⟩ = some (.int .i64 x.arc) := b4.cell (steps_cell hx (j := 0) rfl)
            have c2 := b4.cell (steps_cell hx (j := 1) rfl)
            have c3 := b4.cell (steps_cell hx (j := 2) rfl)
            have c4 := b4.cell (steps_cell hx (j := 3) rfl)
            have c5 := b4.cell (steps_cell hx (j := 4) rfl)
            have HX := hid (HSRC.out nd x hx)
            have HBC := hid (back_cons hb hx HBK.out)
            have HC3 : Hid ((steps s.last)[nd * 5 + 2]? = some (.int .i64 x.src)) := hid (steps_cell hx (j := 2) rfl)
            clear b0 b4 hb hx
            cases b with
            | true =>
              have hr : r = [] := by
                rcases HBC.out with ⟨_, h⟩ | ⟨h, _⟩
                · exact h
                · cases h
              subst hr
              have HLP : Hid (l = pl) := hid (by have h := HLR.out; rwa [List.append_nil] at h)
              have HSTE := HS.out
              clear c1 c2 c3 c4 c5 HBC HBK HLR HX
              have h1 : 1 ≤ n := by omega
              gi_wp2_with fail
              refine (reverse_in F (n - 1) h77 hro W'.heap.size vw l W2 HRW.out).mono ?_
              rintro e3 W3 ⟨⟨u, rfl⟩, hr, hb⟩
              have HB3 := hid (HB2.out.trans hb)
              have HR3 := hid hr
              have b2 := HS.out.way.b2.later HB3.out HS.out.way.b2.lt
              have R3 := hid (put_marks W3 b2 noM_len noM_len)
              rw [setRow_same b2] at R3
              have B2 := hid b2
              have HM3 : Hid (Marks (w.heap.size + 1 + 1 + 1 + 1 + 1 + 1) W3 W'.heap.size ds) := hid (HM.out.below HB3.out (Nat.le_refl _))
              have HBW := hid (HS.out.way.below.trans (HB3.out.mono HS.out.way.below.size))
              clear hr hb c0 HB2 HRW b2
              gi_wp2_with (with_reducible refine stI 85 _ _ rfl rfl rfl ?hy R3.out ?_)
              case hy => rfl
              refine leaves_marks ds _ _ HM3.out fun W4 hW4 => ?_
              have r1 := run_marks W4 (hW4.blk B2.out) noM_len
              refine ⟨.tuple #[vw, .agg (bools noM)], ?_, ?_⟩
              · simp [results, Try.results91, asAddr, Act.put, r1]
              · rw [HPL.out.1, HPL.out.2, ← HLP.out]
                refine ⟨_, rfl, ?_, HBW.out.trans (hW4.2.mono (by omega))⟩
                have h := hW4.own HR3.out
                unfold RowS at h
                rw [List.length_reverse] at h ⊢
                exact World.ownsRow.mono h (HS.out.way.below.size)
            | false =>
              obtain ⟨r', HBK', hr⟩ : ∃ r', Hid (back frm s.last m x.src = some r') ∧ r = x :: r' := by
                rcases HBC.out with ⟨h, _⟩ | ⟨_, r', h1, h2⟩
                · cases h
                · exact ⟨r', hid h1, h2⟩
              subst hr
              obtain ⟨i0, hi, hz0, hz1, hz2⟩ := info_parts (show (Try.prog.info? 129).map (fun i => (i.zero, i.size, i.bytes)) = some (some (.agg (stepC noStep).toArray), 5, 40) by kernel_rfl)
              have HI := hid hi
              have HLEN : Hid (l.length ≤ 1000) := hid (by have h1 := back_len HBKA.out; rw [← HLR.out, List.length_append] at h1; omega)
              clear hi HBC HBK
              gi_wp2_with (refine wpListIn_append_own _ rfl _ _ 123 rfl W'.heap.size 129 i0 (.agg (stepC noStep).toArray) 5 40 (by kernel_rfl) HI.out hz0 hz1 hz2 rfl (by decide) vw l.length (l.flatMap stepC) rfl (World.ownsRow.alloc HRW.out _) ⟨W2.heap.size, 0, none⟩ 1 1 (stepC x) rfl rfl ?c1 ?c2 ?c3 ?c4 ?c5 ?c6)
              case c1 =>
                intro j u hj
                rw [show (⟨W2.heap.size, 0, none⟩ : Addr).add j = ⟨W2.heap.size, j, none⟩ by unfold Addr.add; split <;> simp_all]
                exact (Blk.new W2 (stepC x).toArray 129).cell (by rw [List.getElem?_toArray]; exact hj)
              case c2 =>
                intro u hu
                unfold stepC at hu
                simp at hu
                rcases hu with rfl | rfl | rfl | rfl | rfl <;> rfl
              case c3 => have := HLEN.out; unfold maxLen; omega
              case c4 => have := HLEN.out; omega
              case c5 => have := HB2.out.size; simp; omega
              case c6 =>
                intro v' w' hown hgrow _
                have hb3 := (HB2.out.alloc HB2.out.size (.cells (stepC x).toArray 129)).grown hgrow (by have := HB2.out.size; simp; omega) (fun k hk => (World.ownsRow.lt HRW.out k hk).1)
                have HB3 := hid hb3
                have HRN : Hid (RowS W'.heap.size w' v' (l ++ [x])) := hid (by unfold RowS; rw [List.length_append, List.flatMap_append, List.flatMap_cons, List.flatMap_nil, List.append_nil]; exact hown)
                have hb4 := HS.out.way.b4.later hb3 HS.out.way.b4.lt
                have c3' : w'.cell? ⟨w.heap.size + 1 + 1 + 1 + 1, nd * 5 + 2, none⟩ = some (.int .i64 x.src) := hb4.cell HC3.out
                have HLN : Hid (l ++ [x] ++ r' = pl) := hid (by rw [List.append_assoc]; exact HLR.out)
                clear hown hgrow hb3 hb4 c0 c1 c2 c3 c4 c5 HRW HB2 HC3
                gi_wp2_with fail
                exact ⟨_, _, _, _, _, _, _, _, _, _, _, _, _, _, v', x.src, l ++ [x], r', rfl, HX.out, HB3, HRN, HBK', HLN⟩
      have HQ0 : Hid (Qok ⟨frm, noS, marked frm 34⟩) := hid ⟨fun x hx => by
        unfold marked at hx
        have := (List.mem_filter.1 hx).1
        simpa using this, by
        have h1 := marked_len frm 34
        have h2 : frm.count false ≤ frm.length := List.count_le_length
        have h3 := HF.out
        show (marked frm 34).length + frm.count false ≤ 68
        omega⟩
      clear hK
      refine wpIn_loop_num (fun m act W => ∃ u11 u13 u14 u20 u21 u22 u23 u24 u25 u26 u27 u28 u29 u30 u31 u32 u33 u34 u35 u36 u37 u38 u39 u40 u41 u42 u43 u44 u45 u46 u47 u48 u49 u50 u51 u52 u53 u54 u55 u56 u57 u58 u59 u60 u61 u62 ds s v, act = { tmps := #[.pointer (some ⟨a, 0, none⟩), .agg (bools frm), .agg (bools to), undef, .pointer (some ⟨w.heap.size, 0, none⟩), .pointer (some ⟨w.heap.size + 1, 0, none⟩), .slice none 0 0, .pointer (some ⟨w.heap.size + 1 + 1, 0, none⟩), .pointer (some ⟨w.heap.size + 1 + 1 + 1, 0, none⟩), .pointer (some ⟨w.heap.size + 1 + 1 + 1 + 1, 0, none⟩), .pointer (some ⟨w.heap.size + 1 + 1 + 1 + 1 + 1, 0, none⟩), u11, .pointer (some ⟨E, 0, none⟩), u13, u14, undef, undef, .agg (bools frm), .int .i64 (34 : Nat), .bool false, u20, u21, u22, u23, u24, u25, u26, u27, u28, u29, u30, u31, u32, u33, u34, u35, u36, u37, u38, u39, u40, u41, u42, u43, u44, u45, u46, u47, u48, u49, u50, u51, u52, u53, u54, u55, u56, u57, u58, u59, u60, u61, u62, undef, undef, undef, undef, undef, undef, undef, undef, undef, undef, undef, undef, undef, undef, undef, undef, undef, undef, undef, undef, undef, undef], defers := ds } ∧ Hid (Stand w W frm to s v E (-1) []) ∧ Hid (Marks (w.heap.size + 1 + 1 + 1 + 1 + 1 + 1) W W.heap.size ds) ∧ Hid (bfs N to m s = some R) ∧ Hid (Qok s)) m0 ?h0 ?hz ?round
      case h0 => exact ⟨_, _, _, _, _, _, _, _, _, _, _, _, _, _, _, _, _, _, _, _, _, _, _, _, _, _, _, _, _, _, _, _, _, _, _, _, _, _, _, _, _, _, _, _, _, _, _, _, _, rfl, HS, hid (show Marks _ _ _ [] from trivial), HR, HQ0⟩
      case hz =>
        rintro a W ⟨u11, u13, u14, u20, u21, u22, u23, u24, u25, u26, u27, u28, u29, u30, u31, u32, u33, u34, u35, u36, u37, u38, u39, u40, u41, u42, u43, u44, u45, u46, u47, u48, u49, u50, u51, u52, u53, u54, u55, u56, u57, u58, u59, u60, u61, u62, ds, s, v, _, _, _, h, _⟩
        cases h.out
      case round =>
        rintro m a W ⟨u11, u13, u14, u20, u21, u22, u23, u24, u25, u26, u27, u28, u29, u30, u31, u32, u33, u34, u35, u36, u37, u38, u39, u40, u41, u42, u43, u44, u45, u46, u47, u48, u49, u50, u51, u52, u53, u54, u55, u56, u57, u58, u59, u60, u61, u62, ds, s, v, rfl, HS, HM, HBF, HQK⟩
        have hq5 : W.cell? ⟨w.heap.size + 1 + 1 + 1 + 1 + 1, 0, none⟩ = some v := HS.out.way.b5.cell rfl
        have fq5 := HS.out.way.b5.froz 0
        rcases hq : s.queue with _ | ⟨v0, q⟩
        · obtain ⟨p', c', hv⟩ := HS.out.way.qa.shape
          rw [hq] at hv
          subst hv
          have HRR : Hid (R = (s, none)) := hid (bfs_nil HBF.out hq)
          clear hq
          gi_wp2_with fail
          exact fin _ _ _ _ _ _ _ _ _ _ _ _ _ _ _ _ _ _ _ _ _ _ _ _ _ _ _ _ _ _ _ _ _ _ _ _ _ _ _ _ _ _ _ _ _ _ _ _ _ _ _ HS HM (.inl ⟨HRR, hid rfl⟩)
        · have hqa := HS.out.way.qa
          rw [hq] at hqa
          obtain ⟨g, o, c, rfl, hc0, hc1, hcq, hone, hmore⟩ := hqa.head
          have HQ := hid hq
          have HONE := hid hone
          have HMORE := hid hmore
          have hpop := qok_pop HQK.out hq
          have HPOP := hid hpop.1
          have hv0 := hpop.2
          unfold maxLen at hc1
          clear hq hqa hone hmore hpop
          have h1 : 1 ≤ n := by omega
          by_cases hc : c = 1
          · subst hc
            have HSQ : Hid (Stand w (W.setCell ⟨w.heap.size + 1 + 1 + 1 + 1 + 1, 0, none⟩ (.slice (some ⟨g, o, none⟩) 0 0)) frm to ⟨s.reached, s.last, q⟩ (.slice (some ⟨g, o, none⟩) 0 0) E (-1) []) := hid (HS.out.queue ⟨rfl, rfl, rfl, Nat.le_refl _, fun _ _ _ => rfl⟩ (HONE.out rfl) (fun k hk e => HS.out.apart k hk e))
            have hg := (HS.out.way.qa.lt g rfl).2
            have HGL := hid hg
            clear hg
            gi_wp2_with fail
            refine (steps_in F (n - 1) h76 hro _ _ _).mono ?_
            rintro e4 W4 ⟨rfl, rfl⟩
            rw [World.size_setCell]
            obtain ⟨WL, hWL⟩ : ∃ WL, WL = ((W.setCell ⟨w.heap.size + 1 + 1 + 1 + 1 + 1, 0, none⟩ (.slice (some ⟨g, o, none⟩) 0 0)).alloc (.cells #[.pointer (some ⟨a, 0, none⟩)] 66)).alloc (.cells #[.int .i64 (v0 : Nat)] 3) := ⟨_, rfl⟩
            have hsz : WL.heap.size = W.heap.size + 1 + 1 := by rw [hWL]; simp
            have HSL : Hid (Stand w WL frm to ⟨s.reached, s.last, q⟩ (.slice (some ⟨g, o, none⟩) 0 0) E (-1) [W.heap.size, W.heap.size + 1]) := hid (by
              rw [hWL]
              have h := (HSQ.out.alloc (.cells #[.pointer (some ⟨a, 0, none⟩)] 66)).alloc (.cells #[.int .i64 (v0 : Nat)] 3)
              refine ⟨h.way, h.blk, h.low, fun k hk e => ?_⟩
              have hkg : k = g := (Option.some.inj e).symm
              subst hkg
              have := HGL.out
              rcases List.mem_cons.1 hk with hk | hk
              · exact HS.out.apart k (by rw [hk]; exact List.mem_cons_self) rfl
              · rcases List.mem_cons.1 hk with hk | hk
                · omega
                · have := List.mem_singleton.1 hk; omega)
            have HBN : Hid (Blk WL W.heap.size #[.pointer (some ⟨a, 0, none⟩)] 66) := hid (by rw [hWL]; exact (Blk_newn _ _ _ (by simp)).alloc _)
            have HBV : Hid (Blk WL (W.heap.size + 1) #[.int .i64 (v0 : Nat)] 3) := hid (by rw [hWL]; exact Blk_newn _ _ _ (by simp))
            have HML : Hid (Marks (w.heap.size + 1 + 1 + 1 + 1 + 1 + 1) WL WL.heap.size ds) := hid ((HM.out.others (by rw [hWL]; exact ((KeepsOthers.setCell _ _ _).trans (KeepsOthers.alloc _ _)).trans (KeepsOthers.alloc _ _))).mono (by omega))
            rw [← hWL]
            clear hWL HM HSQ hq5 fq5 hcq
            gi_wp2_with fail
            obtain ⟨l, hl⟩ : ∃ l, N.ends[v0]? = some l := ⟨N.ends[v0]'(by rw [HN.out.len]; exact hv0), List.getElem?_eq_getElem _⟩
            refine wpIn_rangeFunc_ownH hro h1 (gf := 97) (lb := #[.pointer (some ⟨W.heap.size, 0, none⟩), .pointer (some ⟨W.heap.size + 1, 0, none⟩)]) rfl h78 (enters_of Try.func97 (by kernel_rfl) rfl)
              (steps_stops F (n - 1) h78 hro (by omega) base a v0 W.heap.size (W.heap.size + 1) N va vs l HN.out hv0 hl w WL HNET.out HSL.out.way.below HBN.out HBV.out)
              kpw_trans (kpw_put HSL.out.way.below.size) (Below.refl _ _) (fun _ => rfl)
              (fun pre W5 => ∃ s' v', scan to ⟨s.reached, s.last, q⟩ (valG pre) = (s', none) ∧ Stand w W5 frm to s' v' E (-1) [W.heap.size, W.heap.size + 1] ∧ Qok s' ∧ Marks (w.heap.size + 1 + 1 + 1 + 1 + 1 + 1) W5 WL.heap.size ds)
              (fun c pre W5 => c = .exit 2 ∧ ∃ s' v' d, scan to ⟨s.reached, s.last, q⟩ (valG pre) = (s', some d) ∧ Stand w W5 frm to s' v' E (d : Nat) [W.heap.size, W.heap.size + 1] ∧ Marks (w.heap.size + 1 + 1 + 1 + 1 + 1 + 1) W5 WL.heap.size ds)
              (fun pre A B row ⟨s', v', h2, h3, h4, h5⟩ hg hr => ⟨s', v', h2, h3.far hg hr HSL.out.way.below.size, h4, h5.far hg (fun r e => (hr r e).1) (Nat.le_refl _)⟩)
              (fun c pre A B row ⟨h0, s', v', d, h2, h3, h5⟩ hg hr => ⟨h0, s', v', d, h2, h3.far hg hr HSL.out.way.below.size, h5.far hg (fun r e => (hr r e).1) (Nat.le_refl _)⟩)
              ⟨_, _, rfl, HSL.out, HPOP.out, HML.out⟩
              (fun x a' W5 => ∃ Bx, Blk W5 Bx #[.int .i64 x.1.arc, .int .i64 x.1.sign, .int .i64 x.1.src, .int .i64 x.1.dst, .int .i64 x.1.room] 129 ∧ a' = { tmps := #[.pointer (some ⟨a, 0, none⟩), .agg (bools frm), .agg (bools to), undef, .pointer (some ⟨w.heap.size, 0, none⟩), .pointer (some ⟨w.heap.size + 1, 0, none⟩), .slice none 0 0, .pointer (some ⟨w.heap.size + 1 + 1, 0, none⟩), .pointer (some ⟨w.heap.size + 1 + 1 + 1, 0, none⟩), .pointer (some ⟨w.heap.size + 1 + 1 + 1 + 1, 0, none⟩), .pointer (some ⟨w.heap.size + 1 + 1 + 1 + 1 + 1, 0, none⟩), u11, .pointer (some ⟨E, 0, none⟩), .int .i64 (v0 : Nat), .pointer (some ⟨Bx, 0, none⟩), undef, undef, .agg (bools frm), .int .i64 (34 : Nat), .bool false, u20, u21, u22, u23, u24, u25, u26, u27, u28, .slice (some ⟨g, o, none⟩) (q.length + 1) 1, .int .i64 ((q.length : Int) + 1), .bool true, .slice (some ⟨g, o, none⟩) (q.length + 1) 1, .pointer (some ⟨g, o, none⟩), .int .i64 (v0 : Nat), .slice (some ⟨g, o, none⟩) (q.length + 1) 1, .slice (some ⟨g, o, none⟩) 0 0, .pointer (some ⟨a, 0, none⟩), .int .i64 (v0 : Nat), .func (.func 97) #[] #[.pointer (some ⟨W.heap.size, 0, none⟩), .pointer (some ⟨W.heap.size + 1, 0, none⟩)], .agg #[.int .i64 x.1.arc, .int .i64 x.1.sign, .int .i64 x.1.src, .int .i64 x.1.dst, .int .i64 x.1.room], u41, u42, u43, u44, u45, u46, u47, u48, u49, u50, u51, u52, u53, u54, u55, u56, u57, u58, u59, u60, u61, u62, undef, undef, undef, undef, undef, undef, undef, undef, undef, undef, undef, undef, undef, undef, undef, undef, undef, undef, undef, undef, undef, undef], defers := [] })
              (fun x a' _ A B row ⟨Bx, h2, h3⟩ hg hr => ⟨Bx, h2.far hg (fun r e => (hr r e).2), h3⟩) ?assign1 ?body1 ?done1 ?stop1
            case assign1 =>
              rintro lx pre x W5 K5 ⟨s', v', h2, h3, h4, h5⟩ hK5
              have HK5 := hid hK5
              have H3 := hid h3
              have H5 := hid h5
              have H4 := hid h4
              have H2 := hid h2
              clear hK5 h3 h5 h4 h2
              dsimp only [stepC]
              gi_wp2_with fail
              exact HK5.out _ _ ((KeepsOthers.alloc _ _).from _) (kpw_alloc _ _ H3.out.way.below.size) ⟨s', v', H2.out, H3.out.alloc _, H4.out, H5.out.others (KeepsOthers.alloc _ _)⟩ ⟨W5.heap.size, Blk.new _ _ _, rfl⟩
            case body1 =>
              rintro lx pre x a' W5 hlx ⟨rr, hrr⟩ ⟨s', v', h2, h3, h4, h5⟩ ⟨Bx, hbx, rfl⟩ hlen
              obtain ⟨b1, hb1⟩ : ∃ b1, s'.reached[x.1.dst]? = some b1 := ⟨s'.reached[x.1.dst]'(by rw [h3.way.l3]; exact x.2), List.getElem?_eq_getElem _⟩
              obtain ⟨b2, hb2⟩ : ∃ b2, to[x.1.dst]? = some b2 := ⟨to[x.1.dst]'(by rw [HT.out]; exact x.2), List.getElem?_eq_getElem _⟩
              obtain ⟨y, hy⟩ : ∃ y, s'.last[x.1.dst]? = some y := ⟨s'.last[x.1.dst]'(by rw [h3.way.l4]; exact x.2), List.getElem?_eq_getElem _⟩
              have hx := x.2
              have HXI : Hid (((x.1.dst : Nat) : Int) < 34) := hid (by omega)
              have c0 : W5.cell? ⟨Bx, 0, none⟩ = some (.int .i64 x.1.arc) := hbx.cell rfl
              have c1 : W5.cell? ⟨Bx, 1, none⟩ = some (.int .i64 x.1.sign) := hbx.cell rfl
              have c2 : W5.cell? ⟨Bx, 2, none⟩ = some (.int .i64 x.1.src) := hbx.cell rfl
              have c3 : W5.cell? ⟨Bx, 3, none⟩ = some (.int .i64 x.1.dst) := hbx.cell rfl
              have c4 : W5.cell? ⟨Bx, 4, none⟩ = some (.int .i64 x.1.room) := hbx.cell rfl
              have d0 := h3.way.b3.cell (bools_get hb1)
              have t0 := h3.way.b1.cell (bools_get hb2)
              have HBX := hid hbx
              have H2 := hid h2
              have H3 := hid h3
              have H4 := hid h4
              have H5 := hid h5
              have HB1 := hid hb1
              have HB2 := hid hb2
              have HY := hid hy
              have HWS : Hid (W.heap.size + 1 < W5.heap.size) := hid (by have h9 := (Array.getElem?_eq_some_iff.1 hrr).1; omega)
              have HVS : Hid (valG (pre ++ [x]) = valG pre ++ [x.1]) := hid (valG_snoc pre x)
              clear h2 h3 h4 h5 hbx hb1 hb2 hy hlen hrr
              cases b1 with
              | true =>
                gi_wp2_with fail
                exact ⟨KeepsFrom.refl _ _, ⟨Below.refl _ _, fun _ _ _ h => h, fun _ _ _ h => h⟩, s', v', by rw [HVS.out, scan_on _ H2.out]; exact scan_skip HB1.out, H3.out, H4.out, H5.out⟩
              | false =>
                have e0 : W5.cell? ⟨w.heap.size + 1 + 1 + 1 + 1, x.1.dst * 5, none⟩ = some (.int .i64 y.arc) := H3.out.way.b4.cell (steps_cell HY.out (j := 0) rfl)
                have e1 := H3.out.way.b4.cell (steps_cell HY.out (j := 1) rfl)
                have e2 := H3.out.way.b4.cell (steps_cell HY.out (j := 2) rfl)
                have e3 := H3.out.way.b4.cell (steps_cell HY.out (j := 3) rfl)
                have e4 := H3.out.way.b4.cell (steps_cell HY.out (j := 4) rfl)
                have f3 := H3.out.way.b3.froz x.1.dst
                have g0 := H3.out.way.b4.froz (x.1.dst * 5)
                have g1 := H3.out.way.b4.froz (x.1.dst * 5 + 1)
                have g2 := H3.out.way.b4.froz (x.1.dst * 5 + 2)
                have g3 := H3.out.way.b4.froz (x.1.dst * 5 + 3)
                have g4 := H3.out.way.b4.froz (x.1.dst * 5 + 4)
                have hne3 : Bx ≠ w.heap.size + 1 + 1 + 1 := HBX.out.ne_type H3.out.way.b3 (by decide)
                have hne4 : Bx ≠ w.heap.size + 1 + 1 + 1 + 1 := HBX.out.ne_type H3.out.way.b4 (by decide)
                gi_wp2_with fail
                refine region_round (fun Wx => Wx.cell? ⟨Bx, 0, none⟩ = some (.int .i64 x.1.arc) ∧ Wx.cell? ⟨Bx, 1, none⟩ = some (.int .i64 x.1.sign) ∧ Wx.cell? ⟨Bx, 2, none⟩ = some (.int .i64 x.1.src) ∧ Wx.cell? ⟨Bx, 3, none⟩ = some (.int .i64 x.1.dst) ∧ Wx.cell? ⟨Bx, 4, none⟩ = some (.int .i64 x.1.room)) (by kernel_rfl) (by kernel_rfl) ?nq ?_
                case nq =>
                  rintro ⟨a7, w7, h7⟩
                  exact h7
                have hHeld0 := five_of HBX.out
                refine' tkw 0 (v := _) rfl (by kernel_rfl) (by kernel_rfl) hHeld0 (fun _ _ _ h => h) ?_ ?_
                rotate_left
                · intro w hSw; (try dsimp only at hSw); go_simp; (try rw [if_pos HXI.out]); (try with_reducible rfl)
                try simp only [Act.put, List.setIfInBounds_toArray, List.set_cons_zero, List.set_cons_succ]
                refine' tkw 1 (v := _) rfl (by kernel_rfl) (by kernel_rfl) hHeld0 (fun _ _ _ h => h) ?_ ?_
                rotate_left
                · intro w hSw; (try dsimp only at hSw); go_simp; (try rw [if_pos HXI.out]); (try with_reducible rfl)
                try simp only [Act.put, List.setIfInBounds_toArray, List.set_cons_zero, List.set_cons_succ]
                refine' tkw 2 (v := _) rfl (by kernel_rfl) (by kernel_rfl) hHeld0 (fun _ _ _ h => h) ?_ ?_
                rotate_left
                · intro w hSw; (try dsimp only at hSw); go_simp; (try rw [if_pos HXI.out]); (try with_reducible rfl)
                try simp only [Act.put, List.setIfInBounds_toArray, List.set_cons_zero, List.set_cons_succ]
                refine' tkw 3 (v := _) rfl (by kernel_rfl) (by kernel_rfl) hHeld0 (fun _ _ _ h => h) ?_ ?_
                rotate_left
                · intro w hSw; (try dsimp only at hSw); go_simp; (try rw [if_pos HXI.out]); (try with_reducible rfl)
                try simp only [Act.put, List.setIfInBounds_toArray, List.set_cons_zero, List.set_cons_succ]
                refine' tkw 4 (v := _) rfl (by kernel_rfl) (by kernel_rfl) hHeld0 (fun _ _ _ h => h) ?_ ?_
                rotate_left
                · intro w hSw; (try dsimp only at hSw); go_simp; (try rw [if_pos HXI.out]); (try with_reducible rfl)
                try simp only [Act.put, List.setIfInBounds_toArray, List.set_cons_zero, List.set_cons_succ]
                refine' tkw 5 (v := _) rfl (by kernel_rfl) (by kernel_rfl) hHeld0 (fun _ _ _ h => h) ?_ ?_
                rotate_left
                · intro w hSw; (try dsimp only at hSw); go_simp; (try rw [if_pos HXI.out]); (try with_reducible rfl)
                try simp only [Act.put, List.setIfInBounds_toArray, List.set_cons_zero, List.set_cons_succ]
                refine wpAnyH_ready (rs := [6]) (by kernel_rfl) (by simp) ?_
                refine AllReadyH.cons rfl (fun K hK => ?_) ?_
                · go_simp
                  refine hK.out _ _ ?_ (fun hHeld1 => ?_)
                  · exact five_of (HBX.out.setOther _ _ hne3).drew
                  clear hK
                  refine' tkw 7 (v := _) rfl (by kernel_rfl) (by kernel_rfl) hHeld1 (fun _ _ _ h => h) ?_ ?_
                  rotate_left
                  · intro w hSw; (try dsimp only at hSw); go_simp; (try rw [if_pos HXI.out]); (try with_reducible rfl)
                  try simp only [Act.put, List.setIfInBounds_toArray, List.set_cons_zero, List.set_cons_succ]
                  refine wpAnyH_ready (rs := [8]) (by kernel_rfl) (by simp) ?_
                  refine AllReadyH.cons rfl (fun K hK => ?_) ?_
                  · go_simp
                    refine hK.out _ _ ?_ (fun hHeld2 => ?_)
                    · with_reducible exact five_of ((((((HBX.out.setOther _ _ hne3).setOther _ _ hne4).setOther _ _ hne4).setOther _ _ hne4).setOther _ _ hne4).setOther _ _ hne4).drew
                    clear hK
                    refine wpAnyH_done (by kernel_rfl) ?_ _
                    obtain ⟨W6, hW6⟩ : ∃ W6, W6 = (reachW w W5 x.1).drew := ⟨_, rfl⟩
                    have hall := reach_all (bn := W.heap.size) (bv := W.heap.size + 1) H3.out hx HBX.out hne3 hne4 (by have := HS.out.way.top; omega) (by have := HS.out.way.top; omega)
                    rw [← hW6] at hall
                    obtain ⟨h6, hbx6, ho6, hk6, s6⟩ := hall
                    have H6 := hid h6
                    have HBX6 := hid hbx6
                    have HO6 := hid ho6
                    have HK6 := hid hk6
                    clear h6 hbx6 ho6 hk6 s6
                    unfold reachW at hW6
                    rw [← hW6]
                    have c3' : W6.cell? ⟨Bx, 3, none⟩ = some (.int .i64 x.1.dst) := HBX6.out.cell rfl
                    have t0' := H6.out.way.b1.cell (bools_get HB2.out)
                    have hEW := H6.out.low
                    clear hW6 hHeld0 hHeld1 hHeld2 c0 c1 c2 c3 c4 t0 d0 e0 e1 e2 e3 e4 f3 g0 g1 g2 g3 g4 hne3 hne4
                    cases b2 with
                    | true =>
                      have cE : W6.cell? ⟨E, 0, none⟩ = some (.int .i64 (-1)) := H6.out.blk.cell rfl
                      have fE := H6.out.blk.froz 0
                      gi_wp2_with fail
                      refine ⟨(HO6.out.trans (KeepsOthers.setCell _ _ _)).from _, rfl, s'.take x.1, v', x.1.dst, ?_, H6.out.found, (H5.out.others HO6.out).others (KeepsOthers.setCell _ _ _)⟩
                      rw [HVS.out, scan_on _ H2.out]
                      exact scan_end HB1.out HB2.out
                    | false =>
                      have c5 : W6.cell? ⟨w.heap.size + 1 + 1 + 1 + 1 + 1, 0, none⟩ = some v' := H6.out.way.b5.cell rfl
                      have HQ := hid (H6.out.way.alloc (.cells #[.int .i64 x.1.dst] 3)).qa
                      have hlow := H6.out.way.top
                      gi_wp2_with (refine q_app _ _ rfl rfl (v := v') (ad := ⟨W6.heap.size, 0, none⟩) (i := x.1.dst) rfl rfl HQ.out (by simp; omega) (by have := H4.out.2; show s'.queue.length ≤ 1000; omega) ((Blk.new W6 _ _).cell rfl) ?c2)
                      case c2 =>
                        intro p m' c' W8 hq hg hk
                        have hal := H6.out.alloc (.cells #[.int .i64 x.1.dst] 3)
                        have hE1 := H6.out.blk.lt
                        have hL1 := HSL.out.way.below.size
                        have hap : ∀ k ∈ E :: [W.heap.size, W.heap.size + 1], (Value.slice p m' c').ownBlock ≠ some k := fun k hkm e => by
                          rcases hk.out k e with h | h
                          · exact H6.out.apart k hkm h
                          · have h6s := HK6.out.1.size
                            rcases List.mem_cons.1 hkm with h' | h'
                            · omega
                            · have hl := HWS.out
                              rcases List.mem_cons.1 h' with h' | h'
                              · omega
                              · have := List.mem_singleton.1 h'; omega
                        have hst := hal.queue hg.out hq.out hap
                        have hrow : ∀ (j : Nat) (o : Obj), v'.ownBlock = some j → (W6.alloc (.cells #[.int .i64 x.1.dst] 3)).heap[j]? = some o → o.isCells = true := fun j o e ho => by
                          obtain ⟨cs, hb⟩ := hal.way.qa.blk j e
                          have := ho.symm.trans hb
                          cases this
                          rfl
                        have hko := ((HO6.out.trans (KeepsOthers.alloc W6 (.cells #[.int .i64 x.1.dst] 3))).trans (KeepsOthers.of_grownBy hg.out hrow)).trans (KeepsOthers.setCell W8 ⟨w.heap.size + 1 + 1 + 1 + 1 + 1, 0, none⟩ (.slice p m' c'))
                        have hkk := kpw_trans (kpw_trans (kpw_trans HK6.out (kpw_alloc W6 (.cells #[.int .i64 x.1.dst] 3) H6.out.way.below.size)) (kpw_of hg.out hal.way.below.size (fun r e => ⟨by have := (hal.way.qa.lt r e).1; omega, fun h => hal.apart r (by rw [h]; simp) e, fun h => hal.apart r (by rw [h]; simp) e⟩))) (kpw_of (grown_set W8 (w.heap.size + 1 + 1 + 1 + 1 + 1) 0 (.slice p m' c')) (Nat.le_trans hal.way.below.size hg.out.size) (fun r e => by cases e; have := HS.out.way.top; exact ⟨by omega, by omega, by omega⟩))
                        have HST := hid hst
                        have HKO := hid hko
                        have HKK := hid hkk
                        have b5' := (hal.way.b5.grown hg.out (fun e => by have := (H6.out.way.qa.lt _ e).1; omega))
                        have c5' : W8.cell? ⟨w.heap.size + 1 + 1 + 1 + 1 + 1, 0, none⟩ = some v' := b5'.cell rfl
                        have f5' := b5'.froz 0
                        clear hal hE1 hL1 hap hst hrow hko hkk hq hg hk c5 c3' t0' b5' HQ
                        gi_wp2_with fail
                        refine ⟨HKO.out.from _, HKK.out, s'.push x.1, _, ?_, HST.out, qok_push H4.out hx HB1.out, H5.out.others HKO.out⟩
                        rw [HVS.out, scan_on _ H2.out]
                        exact scan_push HB1.out HB2.out
                  exact AllReadyH.nil
                exact AllReadyH.nil
            case done1 =>
              rintro D xs W5 hD hxs ⟨s', v', h2, h3, h4, h5⟩ hKD
              have HS5 := hid h3.few
              have hlo := h3.way.top
              have HM5 : Hid (Marks (w.heap.size + 1 + 1 + 1 + 1 + 1 + 1) W5 W5.heap.size (calls D :: ds)) := hid ⟨D, rfl, by have := HSL.out.way.top; omega, (Array.getElem?_eq_some_iff.1 hKD).1, hKD, h5.mono hD⟩
              have HB5 : Hid (bfs N to m s' = some R) := hid (bfs_on HBF.out HQ.out (by rw [← hxs]; exact h2))
              have HQ5 := hid h4
              clear h2 h3 h4 h5 hKD hxs hD hlo
              gi_wp2_with fail
              exact ⟨_, _, _, _, _, _, _, _, _, _, _, _, _, _, _, _, _, _, _, _, _, _, _, _, _, _, _, _, _, _, _, _, _, _, _, _, _, _, _, _, _, _, _, _, _, _, calls D :: ds, s', v', rfl, HS5, HM5, HB5, HQ5⟩
            case stop1 =>
              rintro D c5 pre W5 hD hpre ⟨rfl, s', v', d, h2, h3, h5⟩ hKD
              have HS5 := hid h3.few
              have HM5 : Hid (Marks (w.heap.size + 1 + 1 + 1 + 1 + 1 + 1) W5 W5.heap.size (calls D :: ds)) := hid ⟨D, rfl, by have := HSL.out.way.top; omega, (Array.getElem?_eq_some_iff.1 hKD).1, hKD, h5.mono hD⟩
              have HR5 : Hid (R = (s', some d)) := hid (by
                obtain ⟨r5, hr5⟩ := hpre
                exact bfs_end HBF.out HQ.out (by rw [← hr5]; exact scan_stop r5 h2))
              clear h2 h3 h5 hKD hpre hD
              gi_wp2_with fail
              exact fin _ _ _ _ _ _ _ _ _ _ _ _ _ _ _ _ _ _ _ _ _ _ _ _ _ _ _ _ _ _ _ _ _ _ _ _ _ _ _ _ _ _ _ _ _ _ (calls D :: ds) s' v' d W5 HS5 HM5 (.inr ⟨d, HR5, hid rfl⟩)
          · have hcge : 1 < c := by omega
            have HSQ : Hid (Stand w (W.setCell ⟨w.heap.size + 1 + 1 + 1 + 1 + 1, 0, none⟩ (.slice (some ⟨g, o + 1, none⟩) q.length (c - 1))) frm to ⟨s.reached, s.last, q⟩ (.slice (some ⟨g, o + 1, none⟩) q.length (c - 1)) E (-1) []) := hid (HS.out.queue ⟨rfl, rfl, rfl, Nat.le_refl _, fun _ _ _ => rfl⟩ (HMORE.out (by omega)) (fun k hk e => HS.out.apart k hk e))
            have hg := (HS.out.way.qa.lt g rfl).2
            have HGL := hid hg
            clear hg
            gi_wp2_with fail
            refine (steps_in F (n - 1) h76 hro _ _ _).mono ?_
            rintro e4 W4 ⟨rfl, rfl⟩
            rw [World.size_setCell]
            obtain ⟨WL, hWL⟩ : ∃ WL, WL = ((W.setCell ⟨w.heap.size + 1 + 1 + 1 + 1 + 1, 0, none⟩ (.slice (some ⟨g, o + 1, none⟩) q.length (c - 1))).alloc (.cells #[.pointer (some ⟨a, 0, none⟩)] 66)).alloc (.cells #[.int .i64 (v0 : Nat)] 3) := ⟨_, rfl⟩
            have hsz : WL.heap.size = W.heap.size + 1 + 1 := by rw [hWL]; simp
            have HSL : Hid (Stand w WL frm to ⟨s.reached, s.last, q⟩ (.slice (some ⟨g, o + 1, none⟩) q.length (c - 1)) E (-1) [W.heap.size, W.heap.size + 1]) := hid (by
              rw [hWL]
              have h := (HSQ.out.alloc (.cells #[.pointer (some ⟨a, 0, none⟩)] 66)).alloc (.cells #[.int .i64 (v0 : Nat)] 3)
              refine ⟨h.way, h.blk, h.low, fun k hk e => ?_⟩
              have hkg : k = g := (Option.some.inj e).symm
              subst hkg
              have := HGL.out
              rcases List.mem_cons.1 hk with hk | hk
              · exact HS.out.apart k (by rw [hk]; exact List.mem_cons_self) rfl
              · rcases List.mem_cons.1 hk with hk | hk
                · omega
                · have := List.mem_singleton.1 hk; omega)
            have HBN : Hid (Blk WL W.heap.size #[.pointer (some ⟨a, 0, none⟩)] 66) := hid (by rw [hWL]; exact (Blk_newn _ _ _ (by simp)).alloc _)
            have HBV : Hid (Blk WL (W.heap.size + 1) #[.int .i64 (v0 : Nat)] 3) := hid (by rw [hWL]; exact Blk_newn _ _ _ (by simp))
            have HML : Hid (Marks (w.heap.size + 1 + 1 + 1 + 1 + 1 + 1) WL WL.heap.size ds) := hid ((HM.out.others (by rw [hWL]; exact ((KeepsOthers.setCell _ _ _).trans (KeepsOthers.alloc _ _)).trans (KeepsOthers.alloc _ _))).mono (by omega))
            rw [← hWL]
            clear hWL HM HSQ hq5 fq5 hcq
            gi_wp2_with fail
            obtain ⟨l, hl⟩ : ∃ l, N.ends[v0]? = some l := ⟨N.ends[v0]'(by rw [HN.out.len]; exact hv0), List.getElem?_eq_getElem _⟩
            refine wpIn_rangeFunc_ownH hro h1 (gf := 97) (lb := #[.pointer (some ⟨W.heap.size, 0, none⟩), .pointer (some ⟨W.heap.size + 1, 0, none⟩)]) rfl h78 (enters_of Try.func97 (by kernel_rfl) rfl)
              (steps_stops F (n - 1) h78 hro (by omega) base a v0 W.heap.size (W.heap.size + 1) N va vs l HN.out hv0 hl w WL HNET.out HSL.out.way.below HBN.out HBV.out)
              kpw_trans (kpw_put HSL.out.way.below.size) (Below.refl _ _) (fun _ => rfl)
              (fun pre W5 => ∃ s' v', scan to ⟨s.reached, s.last, q⟩ (valG pre) = (s', none) ∧ Stand w W5 frm to s' v' E (-1) [W.heap.size, W.heap.size + 1] ∧ Qok s' ∧ Marks (w.heap.size + 1 + 1 + 1 + 1 + 1 + 1) W5 WL.heap.size ds)
              (fun c pre W5 => c = .exit 2 ∧ ∃ s' v' d, scan to ⟨s.reached, s.last, q⟩ (valG pre) = (s', some d) ∧ Stand w W5 frm to s' v' E (d : Nat) [W.heap.size, W.heap.size + 1] ∧ Marks (w.heap.size + 1 + 1 + 1 + 1 + 1 + 1) W5 WL.heap.size ds)
              (fun pre A B row ⟨s', v', h2, h3, h4, h5⟩ hg hr => ⟨s', v', h2, h3.far hg hr HSL.out.way.below.size, h4, h5.far hg (fun r e => (hr r e).1) (Nat.le_refl _)⟩)
              (fun c pre A B row ⟨h0, s', v', d, h2, h3, h5⟩ hg hr => ⟨h0, s', v', d, h2, h3.far hg hr HSL.out.way.below.size, h5.far hg (fun r e => (hr r e).1) (Nat.le_refl _)⟩)
              ⟨_, _, rfl, HSL.out, HPOP.out, HML.out⟩
              (fun x a' W5 => ∃ Bx, Blk W5 Bx #[.int .i64 x.1.arc, .int .i64 x.1.sign, .int .i64 x.1.src, .int .i64 x.1.dst, .int .i64 x.1.room] 129 ∧ a' = { tmps := #[.pointer (some ⟨a, 0, none⟩), .agg (bools frm), .agg (bools to), undef, .pointer (some ⟨w.heap.size, 0, none⟩), .pointer (some ⟨w.heap.size + 1, 0, none⟩), .slice none 0 0, .pointer (some ⟨w.heap.size + 1 + 1, 0, none⟩), .pointer (some ⟨w.heap.size + 1 + 1 + 1, 0, none⟩), .pointer (some ⟨w.heap.size + 1 + 1 + 1 + 1, 0, none⟩), .pointer (some ⟨w.heap.size + 1 + 1 + 1 + 1 + 1, 0, none⟩), u11, .pointer (some ⟨E, 0, none⟩), .int .i64 (v0 : Nat), .pointer (some ⟨Bx, 0, none⟩), undef, undef, .agg (bools frm), .int .i64 (34 : Nat), .bool false, u20, u21, u22, u23, u24, u25, u26, u27, u28, .slice (some ⟨g, o, none⟩) (q.length + 1) c, .int .i64 ((q.length : Int) + 1), .bool true, .slice (some ⟨g, o, none⟩) (q.length + 1) c, .pointer (some ⟨g, o, none⟩), .int .i64 (v0 : Nat), .slice (some ⟨g, o, none⟩) (q.length + 1) c, .slice (some ⟨g, o + 1, none⟩) q.length (c - 1), .pointer (some ⟨a, 0, none⟩), .int .i64 (v0 : Nat), .func (.func 97) #[] #[.pointer (some ⟨W.heap.size, 0, none⟩), .pointer (some ⟨W.heap.size + 1, 0, none⟩)], .agg #[.int .i64 x.1.arc, .int .i64 x.1.sign, .int .i64 x.1.src, .int .i64 x.1.dst, .int .i64 x.1.room], u41, u42, u43, u44, u45, u46, u47, u48, u49, u50, u51, u52, u53, u54, u55, u56, u57, u58, u59, u60, u61, u62, undef, undef, undef, undef, undef, undef, undef, undef, undef, undef, undef, undef, undef, undef, undef, undef, undef, undef, undef, undef, undef, undef], defers := [] })
              (fun x a' _ A B row ⟨Bx, h2, h3⟩ hg hr => ⟨Bx, h2.far hg (fun r e => (hr r e).2), h3⟩) ?assign2 ?body2 ?done2 ?stop2
            case assign2 =>
              rintro lx pre x W5 K5 ⟨s', v', h2, h3, h4, h5⟩ hK5
              have HK5 := hid hK5
              have H3 := hid h3
              have H5 := hid h5
              have H4 := hid h4
              have H2 := hid h2
              clear hK5 h3 h5 h4 h2
              dsimp only [stepC]
              gi_wp2_with fail
              exact HK5.out _ _ ((KeepsOthers.alloc _ _).from _) (kpw_alloc _ _ H3.out.way.below.size) ⟨s', v', H2.out, H3.out.alloc _, H4.out, H5.out.others (KeepsOthers.alloc _ _)⟩ ⟨W5.heap.size, Blk.new _ _ _, rfl⟩
            case body2 =>
              rintro lx pre x a' W5 hlx ⟨rr, hrr⟩ ⟨s', v', h2, h3, h4, h5⟩ ⟨Bx, hbx, rfl⟩ hlen
              obtain ⟨b1, hb1⟩ : ∃ b1, s'.reached[x.1.dst]? = some b1 := ⟨s'.reached[x.1.dst]'(by rw [h3.way.l3]; exact x.2), List.getElem?_eq_getElem _⟩
              obtain ⟨b2, hb2⟩ : ∃ b2, to[x.1.dst]? = some b2 := ⟨to[x.1.dst]'(by rw [HT.out]; exact x.2), List.getElem?_eq_getElem _⟩
              obtain ⟨y, hy⟩ : ∃ y, s'.last[x.1.dst]? = some y := ⟨s'.last[x.1.dst]'(by rw [h3.way.l4]; exact x.2), List.getElem?_eq_getElem _⟩
              have hx := x.2
              have HXI : Hid (((x.1.dst : Nat) : Int) < 34) := hid (by omega)
              have c0 : W5.cell? ⟨Bx, 0, none⟩ = some (.int .i64 x.1.arc) := hbx.cell rfl
              have c1 : W5.cell? ⟨Bx, 1, none⟩ = some (.int .i64 x.1.sign) := hbx.cell rfl
              have c2 : W5.cell? ⟨Bx, 2, none⟩ = some (.int .i64 x.1.src) := hbx.cell rfl
              have c3 : W5.cell? ⟨Bx, 3, none⟩ = some (.int .i64 x.1.dst) := hbx.cell rfl
              have c4 : W5.cell? ⟨Bx, 4, none⟩ = some (.int .i64 x.1.room) := hbx.cell rfl
              have d0 := h3.way.b3.cell (bools_get hb1)
              have t0 := h3.way.b1.cell (bools_get hb2)
              have HBX := hid hbx
              have H2 := hid h2
              have H3 := hid h3
              have H4 := hid h4
              have H5 := hid h5
              have HB1 := hid hb1
              have HB2 := hid hb2
              have HY := hid hy
              have HWS : Hid (W.heap.size + 1 < W5.heap.size) := hid (by have h9 := (Array.getElem?_eq_some_iff.1 hrr).1; omega)
              have HVS : Hid (valG (pre ++ [x]) = valG pre ++ [x.1]) := hid (valG_snoc pre x)
              clear h2 h3 h4 h5 hbx hb1 hb2 hy hlen hrr
              cases b1 with
              | true =>
                gi_wp2_with fail
                exact ⟨KeepsFrom.refl _ _, ⟨Below.refl _ _, fun _ _ _ h => h, fun _ _ _ h => h⟩, s', v', by rw [HVS.out, scan_on _ H2.out]; exact scan_skip HB1.out, H3.out, H4.out, H5.out⟩
              | false =>
                have e0 : W5.cell? ⟨w.heap.size + 1 + 1 + 1 + 1, x.1.dst * 5, none⟩ = some (.int .i64 y.arc) := H3.out.way.b4.cell (steps_cell HY.out (j := 0) rfl)
                have e1 := H3.out.way.b4.cell (steps_cell HY.out (j := 1) rfl)
                have e2 := H3.out.way.b4.cell (steps_cell HY.out (j := 2) rfl)
                have e3 := H3.out.way.b4.cell (steps_cell HY.out (j := 3) rfl)
                have e4 := H3.out.way.b4.cell (steps_cell HY.out (j := 4) rfl)
                have f3 := H3.out.way.b3.froz x.1.dst
                have g0 := H3.out.way.b4.froz (x.1.dst * 5)
                have g1 := H3.out.way.b4.froz (x.1.dst * 5 + 1)
                have g2 := H3.out.way.b4.froz (x.1.dst * 5 + 2)
                have g3 := H3.out.way.b4.froz (x.1.dst * 5 + 3)
                have g4 := H3.out.way.b4.froz (x.1.dst * 5 + 4)
                have hne3 : Bx ≠ w.heap.size + 1 + 1 + 1 := HBX.out.ne_type H3.out.way.b3 (by decide)
                have hne4 : Bx ≠ w.heap.size + 1 + 1 + 1 + 1 := HBX.out.ne_type H3.out.way.b4 (by decide)
                gi_wp2_with fail
                refine region_round (fun Wx => Wx.cell? ⟨Bx, 0, none⟩ = some (.int .i64 x.1.arc) ∧ Wx.cell? ⟨Bx, 1, none⟩ = some (.int .i64 x.1.sign) ∧ Wx.cell? ⟨Bx, 2, none⟩ = some (.int .i64 x.1.src) ∧ Wx.cell? ⟨Bx, 3, none⟩ = some (.int .i64 x.1.dst) ∧ Wx.cell? ⟨Bx, 4, none⟩ = some (.int .i64 x.1.room)) (by kernel_rfl) (by kernel_rfl) ?nq ?_
                case nq =>
                  rintro ⟨a7, w7, h7⟩
                  exact h7
                have hHeld0 := five_of HBX.out
                refine' tkw 0 (v := _) rfl (by kernel_rfl) (by kernel_rfl) hHeld0 (fun _ _ _ h => h) ?_ ?_
                rotate_left
                · intro w hSw; (try dsimp only at hSw); go_simp; (try rw [if_pos HXI.out]); (try with_reducible rfl)
                try simp only [Act.put, List.setIfInBounds_toArray, List.set_cons_zero, List.set_cons_succ]
                refine' tkw 1 (v := _) rfl (by kernel_rfl) (by kernel_rfl) hHeld0 (fun _ _ _ h => h) ?_ ?_
                rotate_left
                · intro w hSw; (try dsimp only at hSw); go_simp; (try rw [if_pos HXI.out]); (try with_reducible rfl)
                try simp only [Act.put, List.setIfInBounds_toArray, List.set_cons_zero, List.set_cons_succ]
                refine' tkw 2 (v := _) rfl (by kernel_rfl) (by kernel_rfl) hHeld0 (fun _ _ _ h => h) ?_ ?_
                rotate_left
                · intro w hSw; (try dsimp only at hSw); go_simp; (try rw [if_pos HXI.out]); (try with_reducible rfl)
                try simp only [Act.put, List.setIfInBounds_toArray, List.set_cons_zero, List.set_cons_succ]
                refine' tkw 3 (v := _) rfl (by kernel_rfl) (by kernel_rfl) hHeld0 (fun _ _ _ h => h) ?_ ?_
                rotate_left
                · intro w hSw; (try dsimp only at hSw); go_simp; (try rw [if_pos HXI.out]); (try with_reducible rfl)
                try simp only [Act.put, List.setIfInBounds_toArray, List.set_cons_zero, List.set_cons_succ]
                refine' tkw 4 (v := _) rfl (by kernel_rfl) (by kernel_rfl) hHeld0 (fun _ _ _ h => h) ?_ ?_
                rotate_left
                · intro w hSw; (try dsimp only at hSw); go_simp; (try rw [if_pos HXI.out]); (try with_reducible rfl)
                try simp only [Act.put, List.setIfInBounds_toArray, List.set_cons_zero, List.set_cons_succ]
                refine' tkw 5 (v := _) rfl (by kernel_rfl) (by kernel_rfl) hHeld0 (fun _ _ _ h => h) ?_ ?_
                rotate_left
                · intro w hSw; (try dsimp only at hSw); go_simp; (try rw [if_pos HXI.out]); (try with_reducible rfl)
                try simp only [Act.put, List.setIfInBounds_toArray, List.set_cons_zero, List.set_cons_succ]
                refine wpAnyH_ready (rs := [6]) (by kernel_rfl) (by simp) ?_
                refine AllReadyH.cons rfl (fun K hK => ?_) ?_
                · go_simp
                  refine hK.out _ _ ?_ (fun hHeld1 => ?_)
                  · exact five_of (HBX.out.setOther _ _ hne3).drew
                  clear hK
                  refine' tkw 7 (v := _) rfl (by kernel_rfl) (by kernel_rfl) hHeld1 (fun _ _ _ h => h) ?_ ?_
                  rotate_left
                  · intro w hSw; (try dsimp only at hSw); go_simp; (try rw [if_pos HXI.out]); (try with_reducible rfl)
                  try simp only [Act.put, List.setIfInBounds_toArray, List.set_cons_zero, List.set_cons_succ]
                  refine wpAnyH_ready (rs := [8]) (by kernel_rfl) (by simp) ?_
                  refine AllReadyH.cons rfl (fun K hK => ?_) ?_
                  · go_simp
                    refine hK.out _ _ ?_ (fun hHeld2 => ?_)
                    · with_reducible exact five_of ((((((HBX.out.setOther _ _ hne3).setOther _ _ hne4).setOther _ _ hne4).setOther _ _ hne4).setOther _ _ hne4).setOther _ _ hne4).drew
                    clear hK
                    refine wpAnyH_done (by kernel_rfl) ?_ _
                    obtain ⟨W6, hW6⟩ : ∃ W6, W6 = (reachW w W5 x.1).drew := ⟨_, rfl⟩
                    have hall := reach_all (bn := W.heap.size) (bv := W.heap.size + 1) H3.out hx HBX.out hne3 hne4 (by have := HS.out.way.top; omega) (by have := HS.out.way.top; omega)
                    rw [← hW6] at hall
                    obtain ⟨h6, hbx6, ho6, hk6, s6⟩ := hall
                    have H6 := hid h6
                    have HBX6 := hid hbx6
                    have HO6 := hid ho6
                    have HK6 := hid hk6
                    clear h6 hbx6 ho6 hk6 s6
                    unfold reachW at hW6
                    rw [← hW6]
                    have c3' : W6.cell? ⟨Bx, 3, none⟩ = some (.int .i64 x.1.dst) := HBX6.out.cell rfl
                    have t0' := H6.out.way.b1.cell (bools_get HB2.out)
                    have hEW := H6.out.low
                    clear hW6 hHeld0 hHeld1 hHeld2 c0 c1 c2 c3 c4 t0 d0 e0 e1 e2 e3 e4 f3 g0 g1 g2 g3 g4 hne3 hne4
                    cases b2 with
                    | true =>
                      have cE : W6.cell? ⟨E, 0, none⟩ = some (.int .i64 (-1)) := H6.out.blk.cell rfl
                      have fE := H6.out.blk.froz 0
                      gi_wp2_with fail
                      refine ⟨(HO6.out.trans (KeepsOthers.setCell _ _ _)).from _, rfl, s'.take x.1, v', x.1.dst, ?_, H6.out.found, (H5.out.others HO6.out).others (KeepsOthers.setCell _ _ _)⟩
                      rw [HVS.out, scan_on _ H2.out]
                      exact scan_end HB1.out HB2.out
                    | false =>
                      have c5 : W6.cell? ⟨w.heap.size + 1 + 1 + 1 + 1 + 1, 0, none⟩ = some v' := H6.out.way.b5.cell rfl
                      have HQ := hid (H6.out.way.alloc (.cells #[.int .i64 x.1.dst] 3)).qa
                      have hlow := H6.out.way.top
                      gi_wp2_with (refine q_app _ _ rfl rfl (v := v') (ad := ⟨W6.heap.size, 0, none⟩) (i := x.1.dst) rfl rfl HQ.out (by simp; omega) (by have := H4.out.2; show s'.queue.length ≤ 1000; omega) ((Blk.new W6 _ _).cell rfl) ?c2)
                      case c2 =>
                        intro p m' c' W8 hq hg hk
                        have hal := H6.out.alloc (.cells #[.int .i64 x.1.dst] 3)
                        have hE1 := H6.out.blk.lt
                        have hL1 := HSL.out.way.below.size
                        have hap : ∀ k ∈ E :: [W.heap.size, W.heap.size + 1], (Value.slice p m' c').ownBlock ≠ some k := fun k hkm e => by
                          rcases hk.out k e with h | h
                          · exact H6.out.apart k hkm h
                          · have h6s := HK6.out.1.size
                            rcases List.mem_cons.1 hkm with h' | h'
                            · omega
                            · have hl := HWS.out
                              rcases List.mem_cons.1 h' with h' | h'
                              · omega
                              · have := List.mem_singleton.1 h'; omega
                        have hst := hal.queue hg.out hq.out hap
                        have hrow : ∀ (j : Nat) (o : Obj), v'.ownBlock = some j → (W6.alloc (.cells #[.int .i64 x.1.dst] 3)).heap[j]? = some o → o.isCells = true := fun j o e ho => by
                          obtain ⟨cs, hb⟩ := hal.way.qa.blk j e
                          have := ho.symm.trans hb
                          cases this
                          rfl
                        have hko := ((HO6.out.trans (KeepsOthers.alloc W6 (.cells #[.int .i64 x.1.dst] 3))).trans (KeepsOthers.of_grownBy hg.out hrow)).trans (KeepsOthers.setCell W8 ⟨w.heap.size + 1 + 1 + 1 + 1 + 1, 0, none⟩ (.slice p m' c'))
                        have hkk := kpw_trans (kpw_trans (kpw_trans HK6.out (kpw_alloc W6 (.cells #[.int .i64 x.1.dst] 3) H6.out.way.below.size)) (kpw_of hg.out hal.way.below.size (fun r e => ⟨by have := (hal.way.qa.lt r e).1; omega, fun h => hal.apart r (by rw [h]; simp) e, fun h => hal.apart r (by rw [h]; simp) e⟩))) (kpw_of (grown_set W8 (w.heap.size + 1 + 1 + 1 + 1 + 1) 0 (.slice p m' c')) (Nat.le_trans hal.way.below.size hg.out.size) (fun r e => by cases e; have := HS.out.way.top; exact ⟨by omega, by omega, by omega⟩))
                        have HST := hid hst
                        have HKO := hid hko
                        have HKK := hid hkk
                        have b5' := (hal.way.b5.grown hg.out (fun e => by have := (H6.out.way.qa.lt _ e).1; omega))
                        have c5' : W8.cell? ⟨w.heap.size + 1 + 1 + 1 + 1 + 1, 0, none⟩ = some v' := b5'.cell rfl
                        have f5' := b5'.froz 0
                        clear hal hE1 hL1 hap hst hrow hko hkk hq hg hk c5 c3' t0' b5' HQ
                        gi_wp2_with fail
                        refine ⟨HKO.out.from _, HKK.out, s'.push x.1, _, ?_, HST.out, qok_push H4.out hx HB1.out, H5.out.others HKO.out⟩
                        rw [HVS.out, scan_on _ H2.out]
                        exact scan_push HB1.out HB2.out
                  exact AllReadyH.nil
                exact AllReadyH.nil
            case done2 =>
              rintro D xs W5 hD hxs ⟨s', v', h2, h3, h4, h5⟩ hKD
              have HS5 := hid h3.few
              have hlo := h3.way.top
              have HM5 : Hid (Marks (w.heap.size + 1 + 1 + 1 + 1 + 1 + 1) W5 W5.heap.size (calls D :: ds)) := hid ⟨D, rfl, by have := HSL.out.way.top; omega, (Array.getElem?_eq_some_iff.1 hKD).1, hKD, h5.mono hD⟩
              have HB5 : Hid (bfs N to m s' = some R) := hid (bfs_on HBF.out HQ.out (by rw [← hxs]; exact h2))
              have HQ5 := hid h4
              clear h2 h3 h4 h5 hKD hxs hD hlo
              gi_wp2_with fail
              exact ⟨_, _, _, _, _, _, _, _, _, _, _, _, _, _, _, _, _, _, _, _, _, _, _, _, _, _, _, _, _, _, _, _, _, _, _, _, _, _, _, _, _, _, _, _, _, _, calls D :: ds, s', v', rfl, HS5, HM5, HB5, HQ5⟩
            case stop2 =>
              rintro D c5 pre W5 hD hpre ⟨rfl, s', v', d, h2, h3, h5⟩ hKD
              have HS5 := hid h3.few
              have HM5 : Hid (Marks (w.heap.size + 1 + 1 + 1 + 1 + 1 + 1) W5 W5.heap.size (calls D :: ds)) := hid ⟨D, rfl, by have := HSL.out.way.top; omega, (Array.getElem?_eq_some_iff.1 hKD).1, hKD, h5.mono hD⟩
              have HR5 : Hid (R = (s', some d)) := hid (by
                obtain ⟨r5, hr5⟩ := hpre
                exact bfs_end HBF.out HQ.out (by rw [← hr5]; exact scan_stop r5 h2))
              clear h2 h3 h5 hKD hpre hD
              gi_wp2_with fail
              exact fin _ _ _ _ _ _ _ _ _ _ _ _ _ _ _ _ _ _ _ _ _ _ _ _ _ _ _ _ _ _ _ _ _ _ _ _ _ _ _ _ _ _ _ _ _ _ (calls D :: ds) s' v' d W5 HS5 HM5 (.inr ⟨d, HR5, hid rfl⟩)
end Go.Proofs.Ytncnpodanlhdkaa
