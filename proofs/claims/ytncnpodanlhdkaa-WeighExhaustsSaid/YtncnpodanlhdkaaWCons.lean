/-
  isConsistent, assigned: a network settled.
-/
import Derived.Test.YtncnpodanlhdkaaWNew
import Derived.Test.YtncnpodanlhdkaaWExtent
namespace Go.Proofs.Ytncnpodanlhdkaa
set_option linter.all false
open Go.RowKit

/-- How often at most a flow is evened. -/
def fuel : Nat := 1152921504606846976
def settleF (N : Net) : Option (Net × Bool) :=
  match balF N.arcs noB with
  | none => none
  | some b => match evenF fuel N b with
    | none => none
    | some (N', l', _) => some (N', nil l')
theorem settle_out {N N' : Net} {r : Bool} (h : settleF N = some (N', r)) : ∃ b l' mk, balF N.arcs noB = some b ∧ evenF fuel N b = some (N', l', mk) ∧ r = nil l' := by
  unfold settleF at h
  split at h
  · cases h
  · rename_i b hb
    split at h
    · cases h
    · rename_i N2 l' mk he
      cases h
      exact ⟨b, l', mk, hb, he, rfl⟩
theorem newF_few (S : List (Int × Int)) (T : List Tk) (J : List Int) : (newF S T J).Few (T.length + S.length + 1) := (few_stock (few_tick T _ (Nat.le_refl _)) J S _ (Nat.le_refl _)).add _ _ _ _
theorem nil_slc (w : World) (cs : List Value) : SlcIn w (.slice none 0 0) 0 cs := ⟨none, 0, rfl, Nat.le_refl _, Nat.zero_le _, .inl rfl⟩
/-- A network whose arcs lie in block g. -/
def NetGot (base : Nat) (W : World) (a : Nat) (N : Net) : Prop := ∃ g c vs, NetIn base W a N (.slice (some ⟨g, 0, none⟩) N.arcs.length c) vs
theorem got_of {base : Nat} {W : World} {a : Nat} {N : Net} {va : Value} {vs : List Value} (h : NetIn base W a N va vs) (h0 : N.arcs.length ≠ 0) : NetGot base W a N := by
  obtain ⟨g, c, rfl, _⟩ := row_some h.arcs h0
  exact ⟨g, c, vs, h⟩
theorem grown_low {W W' : World} {base g : Nat} (h : W.grownBy W' (some g)) (hb : base ≤ g) (hs : base ≤ W.heap.size) : Below base W W' :=
  ⟨h.os, h.tape, h.output, h.size, fun k hk => h.block k (by omega) fun e => by cases e; omega⟩
/-- settle, over a network that has been made. -/
theorem settle_got {base a : Nat} {N N' : Net} {r : Bool} {W : World} (hs : settleF N = some (N', r)) (h : NetGot base W a N) (he : N.ends.length = 34) (hb : base ≤ W.heap.size) :
    Calls Try.prog 61 #[.pointer (some ⟨a, 0, none⟩)] W fun e W' => ∃ mk : List Bool, mk.length = 34 ∧ e = .returned (.tuple #[.bool r, .agg (bools mk)]) ∧ NetGot base W' a N' ∧ Below base W W' := by
  obtain ⟨b, l', mk, h1, h2, rfl⟩ := settle_out hs
  obtain ⟨g, c, vs, hn⟩ := h
  have hg : base ≤ g := (World.ownsRow.lt hn.arcs g rfl).1
  refine (settle_any base a g c fuel N N' vs b l' mk W hn h1 h2).mono fun e W' ⟨h3, h4, h5⟩ => ⟨mk, (even_len h2).2, h3, ?_, grown_low h5 hg hb⟩
  have := row_len h4.arcs
  rw [this] at h4
  exact ⟨g, c, vs, h4⟩

set_option maxRecDepth 100000 in
set_option maxHeartbeats 4000000 in
theorem isCons_any (S : List (Int × Int)) (T : List Tk) (N' : Net) (r : Bool) (v1 v2 : Value) (W : World) (hb : BookIn W v1 v2 S T) (hok : TksOk S T) (hs : settleF (newF S T []) = some (N', r)) :
    Calls Try.prog 46 #[.agg #[v1, v2]] W (Ret (.bool r) W) := by
  have hz := (zero_of_info zero_marks).1
  obtain ⟨p2, c2, rfl, hm2⟩ := hb.tickets.shape
  obtain ⟨p1, c1, rfl, hm1⟩ := hb.stock.shape
  obtain ⟨w1, hw1⟩ : ∃ w1, w1 = W.alloc (.cells #[.slice p1 S.length c1, .slice p2 T.length c2] 25) := ⟨_, rfl⟩
  have hb1 : Below W.heap.size W w1 := by rw [hw1]; exact below_new W _
  have hB1 : Blk w1 W.heap.size #[.slice p1 S.length c1, .slice p2 T.length c2] 25 := by rw [hw1]; exact Blk.new W _ _
  have HC := hid (new_any S T [] _ _ (.slice none 0 0) w1 (hb.later hb1) (nil_slc w1 _) hok)
  have HF := hid (newF_few S T [])
  have q0 := hB1.cell (i := 0) rfl
  have q1 := hB1.cell (i := 1) rfl
  have HW1 := hid hw1
  have HB1 := hid hb1
  have HS := hid hs
  have hge : W.heap.size ≤ w1.heap.size := hb1.size
  clear hb hok hs hw1 hb1 hB1
  go_enter Try.func46, Try.ntmps46
  go_wp2_with (first | (rw [← HW1.out]) | (go_at_call 60; (with_reducible refine HC.out.mono ?_); rintro e w2 ⟨a, va, vs, rfl, hn, hb2⟩; have HN := hid (got_of hn (by rw [HF.out.arcs]; omega)); have HB2 := hid hb2; have HC2 := hid (settle_got HS.out HN.out HF.out.ends hb2.size); clear hn hb2) | (go_at_call 61; (with_reducible refine HC2.out.mono ?_); rintro e w3 ⟨mk, hmk, rfl, hn3, hb3⟩; have HB3 := hid (HB1.out.trans ((HB2.out.trans hb3).mono hge)); have R1 := hid (put_marks_new (t := 85) w3 noM_len hmk rfl); have HB4 : Hid (Below W.heap.size W ((w3.alloc (.cells (bools mk) 85)))) := hid (HB3.out.trans ((below_new w3 _).mono HB3.out.size)); clear hn3 hb3 hmk) | (with_reducible refine stP 85 _ _ rfl rfl (by with_unfolding_all rfl) (by with_unfolding_all rfl) R1.out ?_))
  go_ret
  exact ⟨rfl, HB4.out⟩

def Assigned (W : World) (N' : Net) (e : Ending) (W' : World) : Prop := ∃ a, e = .returned (.tuple #[.pointer (some ⟨a, 0, none⟩), .int .i64 0]) ∧ NetGot W.heap.size W' a N' ∧ Below W.heap.size W W'
theorem NetGot.base {base base' : Nat} {W : World} {a : Nat} {N : Net} (h : NetGot base W a N) (hb : base' ≤ base) : NetGot base' W a N := by
  obtain ⟨g, c, vs, h⟩ := h
  exact ⟨g, c, vs, NetIn.base h hb⟩
theorem NetGot.later {base : Nat} {W W' : World} {a : Nat} {N : Net} (h : NetGot base W a N) (hb : Below W.heap.size W W') : NetGot base W' a N := by
  obtain ⟨g, c, vs, h⟩ := h
  exact ⟨g, c, vs, NetIn.later h hb⟩
set_option maxRecDepth 100000 in
set_option maxHeartbeats 4000000 in
theorem assigned_yes (S : List (Int × Int)) (T : List Tk) (J : List Int) (N' : Net) (v1 v2 v3 : Value) (W : World) (hb : BookIn W v1 v2 S T) (hj : SlcIn W v3 J.length (J.map (Value.int .i64))) (hok : TksOk S T) (hs : settleF (newF S T J) = some (N', true)) :
    Calls Try.prog 47 #[.agg #[v1, v2], v3] W (Assigned W N') := by
  have hz := (zero_of_info zero_marks).1
  obtain ⟨p2, c2, rfl, hm2⟩ := hb.tickets.shape
  obtain ⟨p1, c1, rfl, hm1⟩ := hb.stock.shape
  obtain ⟨w1, hw1⟩ : ∃ w1, w1 = W.alloc (.cells #[.slice p1 S.length c1, .slice p2 T.length c2] 25) := ⟨_, rfl⟩
  have hb1 : Below W.heap.size W w1 := by rw [hw1]; exact below_new W _
  have hB1 : Blk w1 W.heap.size #[.slice p1 S.length c1, .slice p2 T.length c2] 25 := by rw [hw1]; exact Blk.new W _ _
  have HC := hid (new_any S T J _ _ v3 w1 (hb.later hb1) (hj.later hb1) hok)
  have HF := hid (newF_few S T J)
  have q0 := hB1.cell (i := 0) rfl
  have q1 := hB1.cell (i := 1) rfl
  have HW1 := hid hw1
  have HB1 := hid hb1
  have HS := hid hs
  have hge : W.heap.size ≤ w1.heap.size := hb1.size
  clear hb hok hs hw1 hb1 hB1 hj
  go_enter Try.func47, Try.ntmps47
  go_wp2_with (first | (rw [← HW1.out]) | (go_at_call 60; (with_reducible refine HC.out.mono ?_); rintro e w2 ⟨a, va, vs, rfl, hn, hb2⟩; have HN := hid (got_of hn (by rw [HF.out.arcs]; omega)); have HB2 := hid hb2; have HC2 := hid (settle_got HS.out HN.out HF.out.ends hb2.size); clear hn hb2) | (go_at_call 61; (with_reducible refine HC2.out.mono ?_); rintro e w3 ⟨mk, hmk, rfl, hn3, hb3⟩; have HB3 := hid (HB1.out.trans ((HB2.out.trans hb3).mono hge)); have R1 := hid (put_marks_new (t := 85) w3 noM_len hmk rfl); have HB4 : Hid (Below W.heap.size W ((w3.alloc (.cells (bools mk) 85)))) := hid (HB3.out.trans ((below_new w3 _).mono HB3.out.size)); have HN4 : Hid (NetGot W.heap.size ((w3.alloc (.cells (bools mk) 85))) a N') := hid ((hn3.base hge).later (below_new w3 _)); clear hn3 hb3 hmk) | (with_reducible refine stP 85 _ _ rfl rfl (by with_unfolding_all rfl) (by with_unfolding_all rfl) R1.out ?_))
  go_ret2
  exact ⟨a, rfl, HN4.out, HB4.out⟩
set_option maxRecDepth 100000 in
set_option maxHeartbeats 4000000 in
theorem assigned_no (S : List (Int × Int)) (T : List Tk) (J : List Int) (N' : Net) (v1 v2 v3 : Value) (W : World) (hb : BookIn W v1 v2 S T) (hj : SlcIn W v3 J.length (J.map (Value.int .i64))) (hok : TksOk S T) (hs : settleF (newF S T J) = some (N', false)) :
    Calls Try.prog 47 #[.agg #[v1, v2], v3] W (Ret (.tuple #[.pointer none, .int .i64 15]) W) := by
  have hz := (zero_of_info zero_marks).1
  obtain ⟨p2, c2, rfl, hm2⟩ := hb.tickets.shape
  obtain ⟨p1, c1, rfl, hm1⟩ := hb.stock.shape
  obtain ⟨w1, hw1⟩ : ∃ w1, w1 = W.alloc (.cells #[.slice p1 S.length c1, .slice p2 T.length c2] 25) := ⟨_, rfl⟩
  have hb1 : Below W.heap.size W w1 := by rw [hw1]; exact below_new W _
  have hB1 : Blk w1 W.heap.size #[.slice p1 S.length c1, .slice p2 T.length c2] 25 := by rw [hw1]; exact Blk.new W _ _
  have HC := hid (new_any S T J _ _ v3 w1 (hb.later hb1) (hj.later hb1) hok)
  have HF := hid (newF_few S T J)
  have q0 := hB1.cell (i := 0) rfl
  have q1 := hB1.cell (i := 1) rfl
  have HW1 := hid hw1
  have HB1 := hid hb1
  have HS := hid hs
  have hge : W.heap.size ≤ w1.heap.size := hb1.size
  clear hb hok hs hw1 hb1 hB1 hj
  go_enter Try.func47, Try.ntmps47
  go_wp2_with (first | (rw [← HW1.out]) | (go_at_call 60; (with_reducible refine HC.out.mono ?_); rintro e w2 ⟨a, va, vs, rfl, hn, hb2⟩; have HN := hid (got_of hn (by rw [HF.out.arcs]; omega)); have HB2 := hid hb2; have HC2 := hid (settle_got HS.out HN.out HF.out.ends hb2.size); clear hn hb2) | (go_at_call 61; (with_reducible refine HC2.out.mono ?_); rintro e w3 ⟨mk, hmk, rfl, hn3, hb3⟩; have HB3 := hid (HB1.out.trans ((HB2.out.trans hb3).mono hge)); have R1 := hid (put_marks_new (t := 85) w3 noM_len hmk rfl); have HB4 : Hid (Below W.heap.size W ((w3.alloc (.cells (bools mk) 85)))) := hid (HB3.out.trans ((below_new w3 _).mono HB3.out.size)); have HN4 : Hid (NetGot W.heap.size ((w3.alloc (.cells (bools mk) 85))) a N') := hid ((hn3.base hge).later (below_new w3 _)); clear hn3 hb3 hmk) | (with_reducible refine stP 85 _ _ rfl rfl (by with_unfolding_all rfl) (by with_unfolding_all rfl) R1.out ?_))
  go_ret2
  exact ⟨rfl, HB4.out⟩
end Go.Proofs.Ytncnpodanlhdkaa
