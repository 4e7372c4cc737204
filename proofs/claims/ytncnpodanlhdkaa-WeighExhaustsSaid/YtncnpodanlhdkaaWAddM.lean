/-
  A network that grows by an arc: what lies in memory.
-/
import Derived.Test.YtncnpodanlhdkaaWStretch
import Derived.ArgAppend
import Derived.Deep.Onto
namespace Go.Proofs.Ytncnpodanlhdkaa
set_option linter.all false
open Go.RowKit

def bumpE (E : List (List Nat)) (v i : Nat) : List (List Nat) := E.set v (E.getD v [] ++ [i])
def Net.add (N : Net) (s d : Nat) (lo hi : Int) : Net := ⟨N.arcs ++ [⟨lo, hi, s, d, lo⟩], bumpE (bumpE N.ends s N.arcs.length) d N.arcs.length⟩
/-- The blocks that a network lies in. -/
def Owned (a : Nat) (va : Value) (vs : List Value) (k : Nat) : Prop := k = a ∨ va.ownBlock = some k ∨ ∃ (i : Nat) (x : Value), vs[i]? = some x ∧ x.ownBlock = some k
structure Keeps (W W' : World) (O : Nat → Prop) : Prop where
  os : W'.os = W.os
  tape : W'.tape = W.tape
  output : W'.output = W.output
  size : W.heap.size ≤ W'.heap.size
  block : ∀ k, k < W.heap.size → ¬ O k → W'.heap[k]? = W.heap[k]?
structure Added (base : Nat) (W : World) (a : Nat) (va : Value) (vs : List Value) (W' : World) (N' : Net) (va' : Value) (vs' : List Value) : Prop where
  net : NetIn base W' a N' va' vs'
  old : Keeps W W' (Owned a va vs)
  own : ∀ k, Owned a va' vs' k → Owned a va vs k ∨ W.heap.size ≤ k

theorem Added.trans {base : Nat} {A B C : World} {a : Nat} {va va' va'' : Value} {vs vs' vs'' : List Value} {N N' : Net} (h : Added base A a va vs B N va' vs') (k : Added base B a va' vs' C N' va'' vs'') : Added base A a va vs C N' va'' vs'' := by
  refine ⟨k.net, ⟨k.old.os.trans h.old.os, k.old.tape.trans h.old.tape, k.old.output.trans h.old.output, Nat.le_trans h.old.size k.old.size, fun i hi hn => ?_⟩, fun i hi => ?_⟩
  · refine (k.old.block i (Nat.lt_of_lt_of_le hi h.old.size) fun ho => ?_).trans (h.old.block i hi hn)
    rcases h.own i ho with h1 | h1
    · exact hn h1
    · omega
  · rcases k.own i hi with h1 | h1
    · exact h.own i h1
    · exact .inr (Nat.le_trans h.old.size h1)
theorem Added.ahead {base : Nat} {A B C : World} {a : Nat} {va va' : Value} {vs vs' : List Value} {N : Net} (hb : Below A.heap.size A B) (k : Added base B a va vs C N va' vs') : Added base A a va vs C N va' vs' :=
  ⟨k.net, ⟨k.old.os.trans hb.os, k.old.tape.trans hb.tape, k.old.output.trans hb.output, Nat.le_trans hb.size k.old.size, fun i hi hn => (k.old.block i (Nat.lt_of_lt_of_le hi hb.size) hn).trans (hb.block i hi)⟩,
   fun i hi => (k.own i hi).imp id fun h => Nat.le_trans hb.size h⟩

/-- An append to a row of the call's own: whose block it is then. -/
theorem own_app {base : Nat} {W : World} (t ty e : TypeId) (i : TypeInfo) (z : Value) (size bytes : Nat) (hu : Try.prog.underlying t = some (.slice e)) (hi : Try.prog.info? e = some i) (hz : i.zero = some z) (hsize : i.size = size) (hby : i.bytes = bytes) (hzs : z.cells.size = size) (hsz : 0 < size)
    {v : Value} {n : Nat} {xs : List Value} (h : W.ownsRow base e size v n xs) (hb : base ≤ W.heap.size) (ad : Addr) (m c : Nat) (news : List Value) (hl : news.length = m * size) (hnews : ∀ j u, news[j]? = some u → W.cell? (ad.add j) = some u) (h1 : ∀ u ∈ news, u.oneCell' = true) (h63 : n + m ≤ maxLen) (hbytes : (n + m) * bytes ≤ 140737488355328) :
    ∃ v' W', (Builtin.append_ #[t, t] ty #[v, .slice (some ad) m c]).run Try.prog W = .ok v' W' ∧ W'.ownsRow base e size v' (n + m) (xs ++ news) ∧ W.grownBy W' v.ownBlock ∧ (∀ k, v'.ownBlock = some k → v.ownBlock = some k ∨ W.heap.size ≤ k) := by
  have ho := h
  obtain ⟨h3, h4⟩ := h
  rcases h4 with ⟨rfl, rfl⟩ | ⟨g, cap, cur, rfl, h5, h6, h7, h8, h9, h10⟩
  · have hx : xs = [] := List.length_eq_zero_iff.1 (by rw [h3, Nat.zero_mul])
    subst hx
    obtain ⟨v', w', hrun, r1, r2, r3⟩ := run_append_own (P := Try.prog) W W.heap.size t ty e i z size bytes hu hi hz hsize hby hzs hsz (.slice none 0 0) 0 [] (World.ownsRow_nil W _ _ size) ad m c news hl hnews h1 h63 hbytes (Nat.le_refl _)
    exact ⟨v', w', hrun, r1.mono hb, r2, fun k hk => .inr (r1.lt k hk).1⟩
  · by_cases hr : n + m ≤ cap
    · obtain ⟨v', w', hrun, r1, r2, r3⟩ := run_append_own (P := Try.prog) W base t ty e i z size bytes hu hi hz hsize hby hzs hsz _ n xs ho ad m c news hl hnews h1 h63 hbytes hb
      have hcell : ∀ j, j < news.length → (W.cell? ⟨g, 0 + n * i.size + j, none⟩).isSome = true := fun j hj => by
        rw [cell_of_row W g _ cur _ (0, 0) h6, Array.getElem?_eq_getElem ?_]
        · rfl
        · rw [h9, hsize]
          have h11 : (n + m) * size ≤ cap * size := Nat.mul_le_mul_right _ hr
          rw [Nat.add_mul] at h11
          omega
      have hrun2 := run_append_room_cells (P := Try.prog) W t ty e i hu hi g 0 n cap ad m c news (by rw [hsize]; exact hl) hnews h1 hr hcell (fun j _ => ho.frozenAt _)
      rw [hrun] at hrun2
      injection hrun2 with e1 e2
      exact ⟨v', w', hrun, r1, r2, fun k hk => .inl (by rw [e1] at hk; exact hk)⟩
    · obtain ⟨v', w', hrun, r1, r2⟩ := run_append_arg_grows (P := Try.prog) W t ty e i z size bytes hu hi hz hsize hby hzs hsz ⟨g, 0, none⟩ n cap xs h3 (ho.cells rfl) ad m c news hl hnews (by omega) h63 hbytes
      exact ⟨v', w', hrun, r1.mono hb, ⟨r2.os, r2.tape, r2.output, r2.size, fun k hk _ => r2.block k hk (by simp)⟩, fun k hk => .inr (r1.lt k hk).1⟩

theorem own_set {w : World} {base : Nat} {e : TypeId} {size : Nat} {v : Value} {n : Nat} {xs : List Value} {a j : Nat} {u : Value} (h : w.ownsRow base e size v n xs) (hne : ∀ k, v.ownBlock = some k → k ≠ a) : (w.setCell ⟨a, j, none⟩ u).ownsRow base e size v n xs :=
  ownsRow_kept h fun k hk => heap_setCell_other w ⟨a, j, none⟩ k u (hne k hk)

theorem add_arc {base : Nat} {W W1 : World} {a : Nat} {N : Net} {va v' : Value} {vs : List Value} {x : Arc} (h : NetIn base W a N va vs) (he : N.ends.length = 34) (ho : W1.ownsRow base 115 5 v' (N.arcs.length + 1) (N.arcs.flatMap arcC ++ arcC x)) (hg : W.grownBy W1 va.ownBlock) (hv : ∀ k, v'.ownBlock = some k → va.ownBlock = some k ∨ W.heap.size ≤ k) :
    Added base W a va vs (W1.setCell ⟨a, 0, none⟩ v') ⟨N.arcs ++ [x], N.ends⟩ v' vs := by
  have hlow := h.below he
  have hva : ∀ k, v'.ownBlock = some k → k ≠ a := fun k hk e => by
    subst e
    rcases hv k hk with h1 | h1
    · exact h.other h1
    · have := hlow.1; omega
  have hb1 : Blk W1 a (va :: vs).toArray 113 := (hg.block a h.blk.lt (Ne.symm h.other)).trans h.blk
  refine ⟨⟨?_, h.low, h.len, ?_, fun v l hl => ?_, h.apart, fun i y k hy hk => ⟨fun e => ?_, (h.alone i y k hy hk).2⟩, fun e => hva a e rfl⟩, ⟨hg.os, hg.tape, hg.output, by rw [World.size_setCell]; exact hg.size, fun k hk hn => ?_⟩, fun k hk => ?_⟩
  · have := hb1.set 0 v'
    exact this
  · rw [List.length_append, List.flatMap_append, show [x].flatMap arcC = arcC x by simp]
    exact own_set ho hva
  · obtain ⟨y, h1, h2⟩ := h.ends v l hl
    refine ⟨y, h1, own_set (ownsRow_kept h2 fun k hk => hg.block k (World.ownsRow.lt h2 k hk).2 fun e => (h.alone v y k h1 hk).1 e.symm) fun k hk => (h.alone v y k h1 hk).2⟩
  · rcases hv k e with h1 | h1
    · exact (h.alone i y k hy hk).1 h1
    · have := hlow.2.2 i y k hy hk; omega
  · rw [heap_setCell_other W1 ⟨a, 0, none⟩ k v' (fun e => hn (.inl e))]
    exact hg.block k hk fun e => hn (.inr (.inl e.symm))
  · rcases hk with hk | hk | hk
    · exact .inl (.inl hk)
    · exact (hv k hk).imp (fun h => .inr (.inl h)) id
    · exact .inl (.inr (.inr hk))

theorem add_end {base : Nat} {W W1 : World} {a v i : Nat} {N : Net} {va x v' : Value} {vs : List Value} {l : List Nat} (h : NetIn base W a N va vs) (he : N.ends.length = 34) (hl : N.ends[v]? = some l) (hx : vs[v]? = some x) (ho : W1.ownsRow base 3 1 v' (l.length + 1) (natC (l ++ [i]))) (hg : W.grownBy W1 x.ownBlock) (hv : ∀ k, v'.ownBlock = some k → x.ownBlock = some k ∨ W.heap.size ≤ k) :
    Added base W a va vs (W1.setCell ⟨a, 1 + v, none⟩ v') ⟨N.arcs, N.ends.set v (l ++ [i])⟩ va (vs.set v v') := by
  have hlow := h.below he
  have hlv : v < vs.length := (List.getElem?_eq_some_iff.1 hx).1
  have hva : ∀ k, v'.ownBlock = some k → k ≠ a := fun k hk e => by
    subst e
    rcases hv k hk with h1 | h1
    · exact (h.alone v x k hx h1).2 rfl
    · have := hlow.1; omega
  have hne : ∀ k, x.ownBlock = some k → k ≠ a := fun k hk => (h.alone v x k hx hk).2
  have hb1 : Blk W1 a (va :: vs).toArray 113 := (hg.block a h.blk.lt (fun e => hne a e.symm rfl)).trans h.blk
  have hget : ∀ (j : Nat) (y : Value), (vs.set v v')[j]? = some y → (j = v ∧ y = v') ∨ (j ≠ v ∧ vs[j]? = some y) := fun j y hj => by
    by_cases e : j = v
    · subst e
      rw [List.getElem?_set_self hlv] at hj
      exact .inl ⟨rfl, (Option.some.inj hj).symm⟩
    · rw [List.getElem?_set_ne (Ne.symm e)] at hj
      exact .inr ⟨e, hj⟩
  have hnew : ∀ (j : Nat) (y : Value) (k : Nat), j ≠ v → vs[j]? = some y → y.ownBlock = some k → v'.ownBlock ≠ some k := fun j y k hj hy hk e => by
    rcases hv k e with h1 | h1
    · exact hj (h.apart j v y x k hy hx hk h1)
    · have := hlow.2.2 j y k hy hk; omega
  refine ⟨⟨?_, h.low, by rw [List.length_set]; exact h.len, ?_, fun u m hm => ?_, fun j j' y y' k hj hj' hk hk' => ?_, fun j y k hj hk => ?_, h.other⟩, ⟨hg.os, hg.tape, hg.output, by rw [World.size_setCell]; exact hg.size, fun k hk hn => ?_⟩, fun k hk => ?_⟩
  · have := hb1.set (1 + v) v'
    rw [Nat.add_comm 1 v] at this ⊢
    simpa using this
  · exact own_set (ownsRow_kept h.arcs fun k hk => hg.block k (World.ownsRow.lt h.arcs k hk).2 fun e => (h.alone v x k hx e.symm).1 hk) fun k hk e => h.other (by rw [hk, e])
  · by_cases e : u = v
    · subst e
      have hle : u < N.ends.length := (List.getElem?_eq_some_iff.1 hl).1
      rw [List.getElem?_set_self hle] at hm
      cases hm
      refine ⟨v', List.getElem?_set_self hlv, own_set ?_ hva⟩
      rw [List.length_append]
      exact ho
    · rw [List.getElem?_set_ne (Ne.symm e)] at hm
      obtain ⟨y, h1, h2⟩ := h.ends u m hm
      refine ⟨y, by rw [List.getElem?_set_ne (Ne.symm e)]; exact h1, own_set (ownsRow_kept h2 fun k hk => hg.block k (World.ownsRow.lt h2 k hk).2 fun e' => e (h.apart u v y x k h1 hx hk e'.symm)) fun k hk => (h.alone u y k h1 hk).2⟩
  · rcases hget j y hj with ⟨rfl, rfl⟩ | ⟨e1, q1⟩ <;> rcases hget j' y' hj' with ⟨rfl, rfl⟩ | ⟨e2, q2⟩
    · rfl
    · exact absurd hk (hnew j' y' k e2 q2 hk')
    · exact absurd hk' (hnew j y k e1 q1 hk)
    · exact h.apart j j' y y' k q1 q2 hk hk'
  · rcases hget j y hj with ⟨rfl, rfl⟩ | ⟨e1, q1⟩
    · refine ⟨fun e => ?_, hva k hk⟩
      rcases hv k hk with h1 | h1
      · exact (h.alone j x k hx h1).1 e
      · have := hlow.2.1 k e; omega
    · exact h.alone j y k q1 hk
  · rw [heap_setCell_other W1 ⟨a, 1 + v, none⟩ k v' (fun e => hn (.inl e))]
    exact hg.block k hk fun e => hn (.inr (.inr ⟨v, x, hx, e.symm⟩))
  · rcases hk with hk | hk | ⟨j, y, hj, hk⟩
    · exact .inl (.inl hk)
    · exact .inl (.inr (.inl hk))
    · rcases hget j y hj with ⟨rfl, rfl⟩ | ⟨e1, q1⟩
      · exact (hv k hk).imp (fun h => .inr (.inr ⟨j, x, hx, h⟩)) id
      · exact .inl (.inr (.inr ⟨j, y, q1, hk⟩))
end Go.Proofs.Ytncnpodanlhdkaa
