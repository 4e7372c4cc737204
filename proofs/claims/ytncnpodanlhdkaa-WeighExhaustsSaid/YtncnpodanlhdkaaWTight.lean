/-
  Tighten: the ranges of all tickets.
-/
import Derived.Test.YtncnpodanlhdkaaWConf
namespace Go.Proofs.Ytncnpodanlhdkaa
set_option linter.all false
open Go.RowKit

def extF (N : Net) (i : Nat) : Option (Net × Int × Int) :=
  if N.okB = true then
    match stretchF fuel N i false with
    | none => none
    | some (N1, lo) => if N1.okB = true then
        match stretchF fuel N1 i true with
        | none => none
        | some (N2, hi) => some (N2, lo, hi)
      else none
  else none
theorem ext_out {N N2 : Net} {i : Nat} {lo hi : Int} (h : extF N i = some (N2, lo, hi)) : ∃ N1, N.Ok ∧ N1.Ok ∧ stretchF fuel N i false = some (N1, lo) ∧ stretchF fuel N1 i true = some (N2, hi) := by
  unfold extF at h
  split at h
  · rename_i h0
    split at h
    · cases h
    · rename_i N1 lo' h1
      split at h
      · rename_i h2
        split at h
        · cases h
        · rename_i N3 hi' h3
          cases h
          exact ⟨N1, ok_of h0, ok_of h2, h1, h3⟩
      · cases h
  · cases h
theorem ext_net {base a g c : Nat} {N N2 : Net} {i : Nat} {lo hi : Int} {vs : List Value} {W : World} (h : extF N i = some (N2, lo, hi)) (hn : NetIn base W a N (.slice (some ⟨g, 0, none⟩) N.arcs.length c) vs) :
    Calls Try.prog 48 #[.pointer (some ⟨a, 0, none⟩), .int .i64 i] W fun e W' => e = .returned (.agg #[.int .i64 lo, .int .i64 hi]) ∧ NetIn base W' a N2 (.slice (some ⟨g, 0, none⟩) N2.arcs.length c) vs ∧ W.grownBy W' (some g) := by
  obtain ⟨N1, h0, h1, h2, h3⟩ := ext_out h
  refine (extent_any base a g c fuel N N1 N2 i lo hi vs W hn h0 h1 h2 h3).mono fun e W' ⟨k1, k2, k3⟩ => ⟨k1, ?_, k3⟩
  have := row_len k2.arcs
  rw [this] at k2
  exact k2
def tightF (N : Net) : Nat → Option (Net × List (Int × Int))
  | 0 => some (N, [])
  | k + 1 => match tightF N k with
    | none => none
    | some (N', L) => match extF N' k with
      | none => none
      | some (N2, lo, hi) => some (N2, L ++ [(lo, hi)])
theorem tight_back {N : Net} {k : Nat} {R : Net × List (Int × Int)} (h : tightF N (k + 1) = some R) : ∃ N' L N2 lo hi, tightF N k = some (N', L) ∧ extF N' k = some (N2, lo, hi) ∧ R = (N2, L ++ [(lo, hi)]) := by
  unfold tightF at h
  split at h
  · cases h
  · rename_i N' L h1
    split at h
    · cases h
    · rename_i N2 lo hi h2
      cases h
      exact ⟨N', L, N2, lo, hi, h1, h2, rfl⟩
theorem tight_some {N : Net} : ∀ {n : Nat} {R : Net × List (Int × Int)}, tightF N n = some R → ∀ k, k ≤ n → ∃ R', tightF N k = some R'
  | 0, R, h, k, hk => by rw [Nat.le_zero.1 hk]; exact ⟨R, h⟩
  | n + 1, R, h, k, hk => by
    by_cases e : k = n + 1
    · rw [e]; exact ⟨R, h⟩
    · obtain ⟨N', L, N2, lo, hi, h1, _⟩ := tight_back h
      exact tight_some h1 k (by omega)
theorem tight_len {N : Net} : ∀ {n : Nat} {N' : Net} {L : List (Int × Int)}, tightF N n = some (N', L) → L.length = n
  | 0, _, _, h => by cases h; rfl
  | n + 1, _, _, h => by
    obtain ⟨N', L, N2, lo, hi, h1, _, h2⟩ := tight_back h
    cases h2
    rw [List.length_append, tight_len h1]; rfl
theorem rg_snoc (L : List (Int × Int)) (r : Int × Int) : (L ++ [r]).flatMap rgC = L.flatMap rgC ++ rgC r := by simp
theorem info_rg : (Try.prog.info? 38).map (fun i => (i.zero, i.size, i.bytes)) = some (some (.agg #[.int .i64 0, .int .i64 0]), 2, 16) := by kernel_rfl

theorem even_ends : ∀ {k : Nat} {N N' : Net} {l l' : List Int} {mk : List Bool}, evenF k N l = some (N', l', mk) → N'.ends.length = 34
  | 0, _, _, _, _, _, h => by cases h
  | k + 1, _, _, _, _, _, h => by
    obtain ⟨hok, _, hl, p, mk1, hw, hr⟩ := even_turn h
    rcases hr with ⟨_, rfl, _, _⟩ | ⟨_, _, _, _, _, _, _, _, _, _, _, h'⟩
    · exact hok.len
    · exact even_ends h'
theorem settle_ends {N N' : Net} {r : Bool} (h : settleF N = some (N', r)) : N'.ends.length = 34 := by
  obtain ⟨b, l', mk, _, h2, _⟩ := settle_out h
  exact even_ends h2
theorem low_len {B a g n m c : Nat} {vs : List Value} (h : Low B a (.slice (some ⟨g, 0, none⟩) n c) vs) : Low B a (.slice (some ⟨g, 0, none⟩) m c) vs := ⟨h.1, fun k hk => h.2.1 k hk, h.2.2⟩
structure TightAt (W w3 : World) (base a g c : Nat) (vs : List Value) (N0 : Net) (k : Nat) (wr : World) (v : Value) : Prop where
  at_ : ∃ N L, tightF N0 k = some (N, L) ∧ NetIn base wr a N (.slice (some ⟨g, 0, none⟩) N.arcs.length c) vs ∧ wr.ownsRow w3.heap.size 38 2 v k (L.flatMap rgC)
  old : Below W.heap.size W wr
  size : w3.heap.size ≤ wr.heap.size
def TightPost (W : World) (L : List (Int × Int)) (e : Ending) (W' : World) : Prop := ∃ v, e = .returned (.tuple #[v, .int .i64 0]) ∧ W'.ownsRow W.heap.size 38 2 v L.length (L.flatMap rgC) ∧ Below W.heap.size W W'

set_option maxRecDepth 100000 in
set_option maxHeartbeats 4000000 in
theorem tighten_err (S : List (Int × Int)) (T : List Tk) (x : Int) (v1 v2 : Value) (W : World) (hb : BookIn W v1 v2 S T) (hx : bookErr S T = x) (h0 : x ≠ 0) :
    Calls Try.prog 15 #[.agg #[v1, v2]] W (Ret (.tuple #[.slice none 0 0, .int .i64 x]) W) := by
  obtain ⟨p1, c1, rfl, hm1⟩ := hb.stock.shape
  obtain ⟨p2, c2, rfl, hm2⟩ := hb.tickets.shape
  obtain ⟨w1, hw1⟩ : ∃ w1, w1 = W.alloc (.cells #[.slice p1 S.length c1, .slice p2 T.length c2] 25) := ⟨_, rfl⟩
  have hb1 : Below W.heap.size W w1 := by rw [hw1]; exact below_new W _
  have hB1 : Blk w1 W.heap.size #[.slice p1 S.length c1, .slice p2 T.length c2] 25 := by rw [hw1]; exact Blk.new W _ _
  have HC := hid (book_any S T _ _ w1 (hb.later hb1))
  have q0 := hB1.cell (i := 0) rfl
  have q1 := hB1.cell (i := 1) rfl
  have HB1 := hid hb1
  have HW1 := hid hw1
  have hge : W.heap.size ≤ w1.heap.size := hb1.size
  rw [hx] at HC
  have hz : (x == 0) = false := by simpa using h0
  have hz2 : (x != 0) = true := by simpa using h0
  clear hb hw1 hb1 hB1 hm1 hm2 hx h0
  go_enter Try.func15, Try.ntmps15
  go_wp2_with (first | (rw [← HW1.out]) | (go_at_call 45; (with_reducible refine HC.out.mono ?_); rintro e w2 ⟨rfl, hb⟩; have HB4 := hid (HB1.out.trans (hb.mono hge)); clear hb))
  go_ret2
  exact ⟨rfl, HB4.out⟩
set_option maxRecDepth 100000 in
set_option maxHeartbeats 4000000 in
theorem tighten_no (S : List (Int × Int)) (T : List Tk) (N' : Net) (v1 v2 : Value) (W : World) (hb : BookIn W v1 v2 S T) (hx : bookErr S T = 0) (hs : settleF (newF S T []) = some (N', false)) :
    Calls Try.prog 15 #[.agg #[v1, v2]] W (Ret (.tuple #[.slice none 0 0, .int .i64 15]) W) := by
  obtain ⟨p1, c1, rfl, hm1⟩ := hb.stock.shape
  obtain ⟨p2, c2, rfl, hm2⟩ := hb.tickets.shape
  obtain ⟨w1, hw1⟩ : ∃ w1, w1 = W.alloc (.cells #[.slice p1 S.length c1, .slice p2 T.length c2] 25) := ⟨_, rfl⟩
  have hb1 : Below W.heap.size W w1 := by rw [hw1]; exact below_new W _
  have hB1 : Blk w1 W.heap.size #[.slice p1 S.length c1, .slice p2 T.length c2] 25 := by rw [hw1]; exact Blk.new W _ _
  have HC := hid (book_any S T _ _ w1 (hb.later hb1))
  have HA := hid (fun w (h : BookIn w (.slice p1 S.length c1) (.slice p2 T.length c2) S T) => assigned_no S T [] N' _ _ (.slice none 0 0) w h (nil_slc w _) (book_ok hx).1 hs)
  have HBK := hid (hb.later hb1)
  have q0 := hB1.cell (i := 0) rfl
  have q1 := hB1.cell (i := 1) rfl
  have HB1 := hid hb1
  have HBL := hid hB1
  have HW1 := hid hw1
  have hge : W.heap.size ≤ w1.heap.size := hb1.size
  rw [hx] at HC
  clear hb hw1 hb1 hB1 hm1 hm2 hx hs
  go_enter Try.func15, Try.ntmps15
  go_wp2_with (first | (rw [← HW1.out]) | (go_at_call 45; (with_reducible refine HC.out.mono ?_); rintro e w2 ⟨rfl, hb⟩; have HB2 := hid hb; have HBL2 := HBL.out.later hb HBL.out.lt; have d0 := HBL2.cell (i := 0) rfl; have d1 := HBL2.cell (i := 1) rfl; clear hb HBL2) | (go_at_call 47; (with_reducible refine (HA.out _ (HBK.out.later HB2.out)).mono ?_); rintro e w3 ⟨rfl, hb⟩; have HB4 := hid (HB1.out.trans ((HB2.out.trans (hb.mono HB2.out.size)).mono hge)); clear hb))
  go_ret2
  exact ⟨rfl, HB4.out⟩

set_option maxRecDepth 100000 in
set_option maxHeartbeats 4000000 in
theorem tighten_yes (S : List (Int × Int)) (T : List Tk) (N' N2 : Net) (L : List (Int × Int)) (v1 v2 : Value) (W : World) (hb : BookIn W v1 v2 S T) (hx : bookErr S T = 0) (hs : settleF (newF S T []) = some (N', true)) (ht : tightF N' T.length = some (N2, L)) :
    Calls Try.prog 15 #[.agg #[v1, v2]] W (TightPost W L) := by
  obtain ⟨i0, g0, g1, g2, g3⟩ := info_parts info_rg
  have HI : Hid (Try.prog.info? 38 = some i0 ∧ i0.zero = some (.agg #[.int .i64 0, .int .i64 0]) ∧ i0.size = 2 ∧ i0.bytes = 16) := hid ⟨g0, g1, g2, g3⟩
  obtain ⟨p1, c1, rfl, hm1⟩ := hb.stock.shape
  obtain ⟨p2, c2, rfl, hm2⟩ := hb.tickets.shape
  obtain ⟨nt, hnt⟩ : ∃ nt, nt = T.length := ⟨_, rfl⟩
  obtain ⟨w1, hw1⟩ : ∃ w1, w1 = W.alloc (.cells #[.slice p1 S.length c1, .slice p2 nt c2] 25) := ⟨_, rfl⟩
  have hb1 : Below W.heap.size W w1 := by rw [hw1]; exact below_new W _
  have hB1 : Blk w1 W.heap.size #[.slice p1 S.length c1, .slice p2 nt c2] 25 := by rw [hw1]; exact Blk.new W _ _
  have HC := hid (book_any S T _ _ w1 (hb.later hb1))
  have HA := hid (fun w (h : BookIn w (.slice p1 S.length c1) (.slice p2 T.length c2) S T) => assigned_yes S T [] N' _ _ (.slice none 0 0) w h (nil_slc w _) (book_ok hx).1 hs)
  have HBK := hid (hb.later hb1)
  rw [← hnt] at HC HA HBK ht ⊢
  have q0 := hB1.cell (i := 0) rfl
  have q1 := hB1.cell (i := 1) rfl
  have HB1 := hid hb1
  have HBL := hid hB1
  have HW1 := hid hw1
  have HT := hid ht
  have HS := hid hs
  have hle : nt ≤ 128 := by rw [hnt]; exact (book_ok hx).1.few
  have hge : W.heap.size ≤ w1.heap.size := hb1.size
  rw [hx] at HC
  clear hb hw1 hb1 hB1 hm1 hm2 hx hs hnt ht g0 g1 g2 g3
  go_enter Try.func15, Try.ntmps15
  go_wp2_with (first | (rw [← HW1.out]) | (go_at_call 45; (with_reducible refine HC.out.mono ?_); rintro e w2 ⟨rfl, hb⟩; have HB2 := hid hb; have HBL2 := HBL.out.later hb HBL.out.lt; have d0 := HBL2.cell (i := 0) rfl; have d1 := HBL2.cell (i := 1) rfl; have HBL2 := hid HBL2; clear hb) | (go_at_call 47; (with_reducible refine (HA.out _ (HBK.out.later HB2.out)).mono ?_); rintro e w3 ⟨a, rfl, ⟨g, c, vs, hn⟩, hb⟩; have HB4 := hid (HB1.out.trans ((HB2.out.trans (hb.mono HB2.out.size)).mono hge)); have d3 := (HBL2.out.later hb HBL2.out.lt).cell (i := 1) rfl; have HN3 := hid hn; clear hb hn))
  have HLOW := hid (HN3.out.below (settle_ends HS.out))
  have HG : Hid (g < w3.heap.size) := hid (World.ownsRow.lt HN3.out.arcs g rfl).2
  have HGL : Hid (W.heap.size ≤ g) := hid (by have h1 := (World.ownsRow.lt HN3.out.arcs g rfl).1; have h2 := HB2.out.size; omega)
  go_loopw [7, 25] (fun v u wr => ∃ k : Nat, k ≤ nt ∧ u = .int .i64 k ∧ Hid (TightAt W w3 w2.heap.size a g c vs N' k wr v)) (fun _ u _ => nt - (intOf u).toNat)
  case atStart => exact ⟨0, Nat.zero_le _, rfl, hid ⟨⟨N', [], rfl, HN3.out, World.ownsRow_nil _ _ _ _⟩, HB4.out, Nat.le_refl _⟩⟩
  case round =>
    clear d0 d1 d3
    obtain ⟨k, hk, rfl, HR⟩ := hrel
    obtain ⟨Nk, Lk, htk, hnk, hok⟩ := HR.out.at_
    obtain ⟨pv, cv, rfl⟩ := row_slice hok
    have hsz := HR.out.size
    by_cases hlt : k < nt
    · obtain ⟨R, hR⟩ := tight_some HT.out (k + 1) (by omega)
      obtain ⟨Na, La, Nb, lo, hi, e1, e2, e3⟩ := tight_back hR
      rw [htk] at e1
      cases e1
      have HEX := hid (ext_net e2 hnk)
      have HOK := hid hok
      have HNX : Hid (tightF N' (k + 1) = some (Nb, Lk ++ [(lo, hi)])) := hid (by rw [hR, e3])
      have HLL : Hid (Lk.length = k) := hid (tight_len htk)
      clear htk hnk hok hR e2 e3
      go_wp2_with (first | (go_at_call 48; (with_reducible refine HEX.out.mono ?_); rintro e w4 ⟨rfl, hn4, hg4⟩; have HN4 := hid hn4; have HO4 := hid (ownsRow_kept HOK.out (fun q hq => hg4.block q (World.ownsRow.lt HOK.out q hq).2 (fun e => by have h1 := (World.ownsRow.lt HOK.out q hq).1; have h2 := HG.out; cases e; omega))); have HB5 := hid (HR.out.old.trans (grown_low hg4 HGL.out (by have h1 := HR.out.old.size; omega))); have h4s : w3.heap.size ≤ w4.heap.size := Nat.le_trans hsz hg4.size; clear hn4 hg4) | (at_builtin; refine wpList_append_own _ rfl _ _ 22 rfl (w3.heap.size) 38 i0 (.agg #[.int .i64 0, .int .i64 0]) 2 16 (by kernel_rfl) HI.out.1 HI.out.2.1 HI.out.2.2.1 HI.out.2.2.2 rfl (by decide) _ _ _ rfl (HO4.out.alloc _) ⟨w4.heap.size, 0, none⟩ 1 1 [.int .i64 lo, .int .i64 hi] rfl rfl (cells_new1 w4 [.int .i64 lo, .int .i64 hi] 38) (by simp [Value.oneCell']) (by unfold maxLen; omega) (by omega) (by simp; omega) ?_; intro v6 w6 ho6 hg6 _; have HB6 := hid (((below_new w4 _).mono h4s).trans (grown_base (HO4.out.alloc _) hg6 (by simp; omega))); have HO6 := hid ho6; clear hg6 ho6))
      have HEND : Hid (TightAt W w3 w2.heap.size a g c vs N' (k + 1) w6 v6) := hid ⟨⟨Nb, Lk ++ [(lo, hi)], HNX.out, HN4.out.kept (low_len HLOW.out) HB6.out, by rw [rg_snoc]; exact HO6.out⟩, HB5.out.trans (HB6.out.mono (by have := HG.out; have := HGL.out; omega)), Nat.le_trans h4s HB6.out.size⟩
      go_roundw
      case rel => exact ⟨k + 1, by omega, by go_num, HEND⟩
      case measure => simp [intOf]; omega
    · have hkn : k = nt := by omega
      subst hkn
      rw [HT.out] at htk
      cases htk
      have HLL : Hid (L.length = k) := hid (tight_len HT.out)
      have HOK := hid hok
      clear hnk hok
      go_wp2_with fail
      go_ret2
      exact ⟨_, rfl, by rw [HLL.out]; exact HOK.out.mono (by have := HG.out; have := HGL.out; omega), HR.out.old⟩
end Go.Proofs.Ytncnpodanlhdkaa
