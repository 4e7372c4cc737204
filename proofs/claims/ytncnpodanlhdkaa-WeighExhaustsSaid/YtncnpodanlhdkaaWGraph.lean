/-
  Flows through a network: ways, cuts, and what is left when no way is left.
-/
import Derived.Test.YtncnpodanlhdkaaWFlow
namespace Go.Proofs.Ytncnpodanlhdkaa
set_option linter.all false
open Go.RowKit

theorem evenF_more : ∀ {k : Nat} {N : Net} {l : List Int} {r : Net × List Int × List Bool}, evenF k N l = some r → evenF (k + 1) N l = some r
  | 0, _, _, _, h => by unfold evenF at h; cases h
  | k + 1, N, l, r, h => by
    unfold evenF at h
    conv => lhs; unfold evenF
    by_cases c : (N.okB && l.all small && decide (l.length = 34)) = true
    · rw [if_pos c] at h ⊢
      rcases hw : wayF N (over l) (under l) with _ | ⟨p, mk⟩
      · rw [hw] at h; cases h
      · rw [hw] at h
        cases p with
        | nil => exact h
        | cons x p =>
          dsimp only at h ⊢
          by_cases c2 : ((x :: p).all (stepB N) && decide (p.length ≤ 100)) = true
          · rw [if_pos c2] at h ⊢
            split at h
            · cases h
            · exact evenF_more h
          · rw [if_neg c2] at h; cases h
    · rw [if_neg c] at h; cases h
theorem evenF_le {k m : Nat} {N : Net} {l : List Int} {r : Net × List Int × List Bool} (h : evenF k N l = some r) (hm : k ≤ m) : evenF m N l = some r := by
  induction hm with
  | refl => exact h
  | step _ ih => exact evenF_more ih
/-- However often one tries, evenF answers one thing. -/
theorem evenF_one {k m : Nat} {N : Net} {l : List Int} {r r' : Net × List Int × List Bool} (h : evenF k N l = some r) (h' : evenF m N l = some r') : r = r' := by
  have h1 := evenF_le h (Nat.le_max_left k m)
  have h2 := evenF_le h' (Nat.le_max_right k m)
  rw [h1] at h2
  exact Option.some.inj h2

/-- How long a search can go on. -/
def Bfs.rest (s : Bfs) : Nat := s.queue.length + s.reached.count false
theorem count_hit {l : List Bool} {i : Nat} (h : l[i]? = some false) : (l.set i true).count false + 1 = l.count false := by
  induction l generalizing i with
  | nil => cases h
  | cons b l ih =>
    cases i with
    | zero =>
      have hb : b = false := by simpa using h
      subst hb
      rw [List.set_cons_zero, List.count_cons, List.count_cons]
      simp
    | succ i =>
      rw [List.set_cons_succ, List.count_cons, List.count_cons]
      have := ih (i := i) (by simpa using h)
      omega
theorem getD_false {l : List Bool} {i : Nat} (hi : i < l.length) (h : ¬ l.getD i true = true) : l[i]? = some false := by
  rw [List.getD_eq_getElem?_getD, List.getElem?_eq_getElem hi] at h
  rw [List.getElem?_eq_getElem hi]
  simp at h
  rw [h]
theorem scan_rest {to : List Bool} : ∀ {l : List Step} {s s' : Bfs}, scan to s l = (s', none) → s.reached.length = 34 → (∀ x ∈ l, x.dst < 34) → s'.rest = s.rest ∧ s'.reached.length = 34
  | [], s, s', h, hl, _ => by
    unfold scan at h
    cases h
    exact ⟨rfl, hl⟩
  | x :: l, s, s', h, hl, hx => by
    rw [scan_cons] at h
    have hxd := hx x (List.mem_cons_self ..)
    by_cases c : s.reached.getD x.dst true = true
    · rw [if_pos c] at h
      exact scan_rest h hl fun y hy => hx y (List.mem_cons_of_mem _ hy)
    · rw [if_neg c] at h
      have hf := getD_false (by rw [hl]; exact hxd) c
      by_cases c2 : to.getD x.dst false = true
      · rw [if_pos c2] at h; cases h
      · rw [if_neg c2] at h
        have hl2 : (s.push x).reached.length = 34 := by unfold Bfs.push; rw [List.length_set]; exact hl
        obtain ⟨h1, h2⟩ := scan_rest h hl2 fun y hy => hx y (List.mem_cons_of_mem _ hy)
        refine ⟨?_, h2⟩
        rw [h1]
        have := count_hit hf
        unfold Bfs.rest Bfs.push
        rw [List.length_append, List.length_singleton]
        dsimp only
        omega
theorem bfs_some {N : Net} {to : List Bool} (hN : N.Ok) (hst : ∀ v, ∀ x ∈ N.steps v, x.dst < 34) : ∀ {m : Nat} {s : Bfs}, s.rest < m → s.reached.length = 34 → ∃ R, bfs N to m s = some R
  | 0, _, h, _ => absurd h (Nat.not_lt_zero _)
  | m + 1, s, h, hl => by
    unfold bfs
    rcases hq : s.queue with _ | ⟨v, q⟩
    · exact ⟨_, rfl⟩
    · dsimp only
      rcases hs : scan to ⟨s.reached, s.last, q⟩ (N.steps v) with ⟨s', _ | e⟩
      · dsimp only
        obtain ⟨h1, h2⟩ := scan_rest hs hl (hst v)
        refine bfs_some hN hst ?_ h2
        rw [h1]
        unfold Bfs.rest at h ⊢
        rw [hq] at h
        dsimp only
        rw [List.length_cons] at h
        omega
      · exact ⟨_, rfl⟩

theorem steps_dst {N : Net} (h : N.Ok) (v : Nat) : ∀ x ∈ N.steps v, x.dst < 34 ∧ x.src = v := by
  intro x hx
  by_cases hv : v < 34
  · refine ⟨(steps_ok h hv x hx).2, ?_⟩
    unfold Net.steps at hx
    obtain ⟨hx, _⟩ := List.mem_filter.1 hx
    obtain ⟨i, _, rfl⟩ := List.mem_map.1 hx
    unfold stepOf
    dsimp only
    split <;> rfl
  · unfold Net.steps at hx
    rw [List.getD_eq_getElem?_getD, List.getElem?_eq_none (by rw [h.len]; omega)] at hx
    simp at hx
/-- Each node that is reached, but for the first ones, is reached from one that was reached earlier. -/
structure Rk (frm : List Bool) (s : Bfs) (rank : Nat → Nat) : Prop where
  len : s.reached.length = 34
  last : s.last.length = 34
  low : ∀ v, s.reached[v]? = some true → rank v + s.reached.count false < 35
  src : ∀ v, s.reached[v]? = some true → frm.getD v true = true ∨ (s.reached[(s.last.getD v noStep).src]? = some true ∧ rank (s.last.getD v noStep).src < rank v)
  queue : ∀ v ∈ s.queue, s.reached[v]? = some true
theorem Rk.step {frm : List Bool} {s : Bfs} {rank : Nat → Nat} (h : Rk frm s rank) {x : Step} (hx : x.dst < 34) (hs : s.reached[x.src]? = some true) (hf : s.reached[x.dst]? = some false) (q : List Nat) (hq : ∀ v ∈ q, v = x.dst ∨ s.reached[v]? = some true) :
    Rk frm ⟨s.reached.set x.dst true, s.last.set x.dst x, q⟩ (fun v => if v = x.dst then 35 - s.reached.count false else rank v) := by
  have hc := count_hit hf
  have hsd : x.src ≠ x.dst := fun e => by rw [e] at hs; rw [hs] at hf; cases hf
  have hat : ∀ v, v ≠ x.dst → (s.reached.set x.dst true)[v]? = s.reached[v]? := fun v hv => List.getElem?_set_ne (fun e => hv e.symm)
  have hself : (s.reached.set x.dst true)[x.dst]? = some true := List.getElem?_set_self (by rw [h.len]; exact hx)
  have h34 : s.reached.count false ≤ 34 := by have := List.count_le_length (a := false) (l := s.reached); rw [h.len] at this; exact this
  refine ⟨by rw [List.length_set]; exact h.len, by rw [List.length_set]; exact h.last, fun v hv => ?_, fun v hv => ?_, fun v hv => ?_⟩
  · dsimp only at hv ⊢
    by_cases e : v = x.dst
    · rw [if_pos e]; omega
    · rw [if_neg e]
      rw [hat v e] at hv
      have := h.low v hv
      omega
  · dsimp only at hv ⊢
    by_cases e : v = x.dst
    · subst e
      right
      rw [List.getD_eq_getElem?_getD, List.getElem?_set_self (by rw [h.last]; exact hx), Option.getD_some, if_pos rfl, if_neg hsd]
      rw [hat _ hsd]
      have := h.low _ hs
      exact ⟨hs, by omega⟩
    · rw [hat v e] at hv
      have hl : (s.last.set x.dst x).getD v noStep = s.last.getD v noStep := by rw [List.getD_eq_getElem?_getD, List.getElem?_set_ne (fun e2 => e e2.symm), List.getD_eq_getElem?_getD]
      rw [hl, if_neg e]
      rcases h.src v hv with h1 | ⟨h1, h2⟩
      · exact .inl h1
      · right
        have hne : (s.last.getD v noStep).src ≠ x.dst := fun e2 => by rw [e2] at h1; rw [h1] at hf; cases hf
        rw [hat _ hne, if_neg hne]
        exact ⟨h1, h2⟩
  · dsimp only at hv ⊢
    rcases hq v hv with e | e
    · rw [e]; exact hself
    · by_cases e2 : v = x.dst
      · rw [e2]; exact hself
      · rw [hat v e2]; exact e
theorem scan_rank {frm to : List Bool} {v : Nat} : ∀ {l : List Step} {s s' : Bfs} {e : Option Nat} {rank : Nat → Nat}, scan to s l = (s', e) → Rk frm s rank → s.reached[v]? = some true → (∀ x ∈ l, x.dst < 34 ∧ x.src = v) → ∃ rank', Rk frm s' rank' ∧ ∀ d, e = some d → s'.reached[d]? = some true
  | [], s, s', e, rank, h, hr, _, _ => by
    unfold scan at h
    cases h
    exact ⟨rank, hr, fun d hd => by cases hd⟩
  | x :: l, s, s', e, rank, h, hr, hv, hx => by
    rw [scan_cons] at h
    obtain ⟨hxd, hxs⟩ := hx x (List.mem_cons_self ..)
    by_cases c : s.reached.getD x.dst true = true
    · rw [if_pos c] at h
      exact scan_rank h hr hv fun y hy => hx y (List.mem_cons_of_mem _ hy)
    · rw [if_neg c] at h
      have hf := getD_false (by rw [hr.len]; exact hxd) c
      have hs : s.reached[x.src]? = some true := by rw [hxs]; exact hv
      have hvd : v ≠ x.dst := fun e => by rw [← e, hv] at hf; cases hf
      by_cases c2 : to.getD x.dst false = true
      · rw [if_pos c2] at h
        cases h
        refine ⟨_, hr.step hxd hs hf s.queue fun u hu => .inr (hr.queue u hu), fun d hd => ?_⟩
        cases hd
        exact List.getElem?_set_self (by rw [hr.len]; exact hxd)
      · rw [if_neg c2] at h
        refine scan_rank h (hr.step hxd hs hf (s.queue ++ [x.dst]) fun u hu => ?_) ?_ fun y hy => hx y (List.mem_cons_of_mem _ hy)
        · rcases List.mem_append.1 hu with hu | hu
          · exact .inr (hr.queue u hu)
          · exact .inl (List.mem_singleton.1 hu)
        · show (s.reached.set x.dst true)[v]? = some true
          rw [List.getElem?_set_ne (fun e => hvd e.symm)]
          exact hv
theorem bfs_rank {N : Net} {frm to : List Bool} (hN : N.Ok) : ∀ {m : Nat} {s : Bfs} {R : Bfs × Option Nat} {rank : Nat → Nat}, bfs N to m s = some R → Rk frm s rank → ∃ rank', Rk frm R.1 rank' ∧ ∀ d, R.2 = some d → R.1.reached[d]? = some true
  | 0, _, _, _, h, _ => by unfold bfs at h; cases h
  | m + 1, s, R, rank, h, hr => by
    unfold bfs at h
    rcases hq : s.queue with _ | ⟨v, q⟩
    · rw [hq] at h
      cases h
      exact ⟨rank, hr, fun d hd => by cases hd⟩
    · rw [hq] at h
      dsimp only at h
      have hv : s.reached[v]? = some true := hr.queue v (by rw [hq]; exact List.mem_cons_self ..)
      have hr2 : Rk frm ⟨s.reached, s.last, q⟩ rank := ⟨hr.len, hr.last, hr.low, hr.src, fun u hu => hr.queue u (by rw [hq]; exact List.mem_cons_of_mem _ hu)⟩
      rcases hs : scan to ⟨s.reached, s.last, q⟩ (N.steps v) with ⟨s', _ | e⟩
      · rw [hs] at h
        obtain ⟨rank', h1, _⟩ := scan_rank hs hr2 hv (steps_dst hN v)
        exact bfs_rank hN h h1
      · rw [hs] at h
        cases h
        exact scan_rank hs hr2 hv (steps_dst hN v)
theorem back_some {frm : List Bool} {s : Bfs} {rank : Nat → Nat} (h : Rk frm s rank) : ∀ {m v : Nat}, rank v < m → s.reached[v]? = some true → ∃ l, back frm s.last m v = some l
  | 0, _, hm, _ => absurd hm (Nat.not_lt_zero _)
  | m + 1, v, hm, hv => by
    unfold back
    by_cases c : frm.getD v true = true
    · rw [if_pos c]; exact ⟨_, rfl⟩
    · rw [if_neg c]
      rcases h.src v hv with h1 | ⟨h1, h2⟩
      · exact absurd h1 c
      · obtain ⟨l, hl⟩ := back_some h (m := m) (by omega) h1
        rw [hl]
        exact ⟨_, rfl⟩
/-- On a network that is right, way always answers. -/
theorem wayF_some {N : Net} {frm to : List Bool} (hN : N.Ok) (hf : frm.length = 34) : ∃ r, wayF N frm to = some r := by
  have hm : (marked frm 34).length + frm.count false < 70 := by
    have h1 := marked_len frm 34
    have h2 := List.count_le_length (a := false) (l := frm)
    omega
  have hq : ∀ v ∈ marked frm 34, frm[v]? = some true := fun v hv => by
    unfold marked at hv
    obtain ⟨_, h2⟩ := List.mem_filter.1 hv
    rw [List.getD_eq_getElem?_getD] at h2
    rcases h : frm[v]? with _ | b
    · rw [h] at h2; cases h2
    · rw [h] at h2; rw [show b = true from h2]
  unfold wayF
  have hnoS : noS.length = 34 := rfl
  obtain ⟨R, hR⟩ := bfs_some (to := to) hN (fun v x hx => (steps_dst hN v x hx).1) (m := 70) (s := ⟨frm, noS, marked frm 34⟩) hm hf
  have h34 : frm.count false ≤ 34 := by have := List.count_le_length (a := false) (l := frm); rw [hf] at this; exact this
  have hr : Rk frm ⟨frm, noS, marked frm 34⟩ (fun _ => 0) := ⟨hf, hnoS, fun v hv => by dsimp only; omega, fun v hv => .inl (by rw [List.getD_eq_getElem?_getD]; dsimp only at hv; rw [hv]; rfl), hq⟩
  obtain ⟨rank, h1, h2⟩ := bfs_rank hN hR hr
  rw [hR]
  dsimp only
  obtain ⟨s, e⟩ := R
  cases e with
  | none => exact ⟨_, rfl⟩
  | some d =>
    have hd := h2 d rfl
    have hlow := h1.low d hd
    dsimp only at hd hlow h1
    obtain ⟨l, hl⟩ := back_some h1 (m := 70) (v := d) (by omega) hd
    unfold found
    dsimp only
    rw [hl]
    exact ⟨_, rfl⟩

open Go.RowKit

/-- What a search keeps: the first nodes are reached, and each other one by a step of the network. -/
structure Sk (N : Net) (frm : List Bool) (s : Bfs) : Prop where
  len : s.reached.length = 34
  last : s.last.length = 34
  first : ∀ v : Nat, frm[v]? = some true → s.reached[v]? = some true
  step : ∀ v : Nat, s.reached[v]? = some true → frm[v]? = some true ∨ ((s.last.getD v noStep).dst = v ∧ s.last.getD v noStep ∈ N.steps (s.last.getD v noStep).src)
theorem set_true {l : List Bool} {i v : Nat} (hi : i < l.length) : (l.set i true)[v]? = some true ↔ v = i ∨ l[v]? = some true := by
  by_cases e : v = i
  · subst e; rw [List.getElem?_set_self hi]; simp
  · rw [List.getElem?_set_ne (Ne.symm e)]; simp [e]
theorem Sk.next {N : Net} {frm : List Bool} {s : Bfs} (h : Sk N frm s) {x : Step} (hx : x.dst < 34) (hm : x ∈ N.steps x.src) (hf : s.reached[x.dst]? = some false) (q : List Nat) : Sk N frm ⟨s.reached.set x.dst true, s.last.set x.dst x, q⟩ := by
  refine ⟨by rw [List.length_set]; exact h.len, by rw [List.length_set]; exact h.last, fun v hv => ?_, fun v hv => ?_⟩
  · exact (set_true (by rw [h.len]; exact hx)).2 (.inr (h.first v hv))
  · by_cases e : v = x.dst
    · subst e
      right
      dsimp only
      rw [List.getD_eq_getElem?_getD, List.getElem?_set_self (by rw [h.last]; exact hx), Option.getD_some]
      exact ⟨rfl, hm⟩
    · have hl : (s.last.set x.dst x).getD v noStep = s.last.getD v noStep := by rw [List.getD_eq_getElem?_getD, List.getElem?_set_ne (fun e2 => e e2.symm), List.getD_eq_getElem?_getD]
      dsimp only at hv ⊢
      rw [hl]
      rcases (set_true (by rw [h.len]; exact hx)).1 hv with e2 | e2
      · exact absurd e2 e
      · exact h.step v e2
theorem scan_keep {N : Net} {frm to : List Bool} {v : Nat} : ∀ {l : List Step} {s s' : Bfs} {e : Option Nat}, scan to s l = (s', e) → Sk N frm s → (∀ x ∈ l, x ∈ N.steps v ∧ x.dst < 34 ∧ x.src = v) →
    Sk N frm s' ∧ (∀ u : Nat, s.reached[u]? = some true → s'.reached[u]? = some true) ∧ (∀ u ∈ s.queue, u ∈ s'.queue) ∧
      (e = none → (∀ x ∈ l, s'.reached[x.dst]? = some true) ∧ ∀ u : Nat, s'.reached[u]? = some true → s.reached[u]? = some true ∨ (u ∈ s'.queue ∧ to.getD u false = false)) ∧
      (∀ d, e = some d → to.getD d false = true ∧ s'.reached[d]? = some true ∧ frm[d]? ≠ some true)
  | [], s, s', e, h, hk, _ => by
    unfold scan at h
    cases h
    exact ⟨hk, fun _ hu => hu, fun _ hu => hu, fun _ => ⟨fun x hx => absurd hx List.not_mem_nil, fun u hu => .inl hu⟩, fun d hd => by cases hd⟩
  | x :: l, s, s', e, h, hk, hl => by
    rw [scan_cons] at h
    obtain ⟨hxm, hxd, hxs⟩ := hl x (List.mem_cons_self ..)
    have hl' := fun y hy => hl y (List.mem_cons_of_mem x hy)
    by_cases c : s.reached.getD x.dst true = true
    · rw [if_pos c] at h
      have hr : s.reached[x.dst]? = some true := by
        rw [List.getD_eq_getElem?_getD, List.getElem?_eq_getElem (by rw [hk.len]; exact hxd), Option.getD_some] at c
        rw [List.getElem?_eq_getElem (by rw [hk.len]; exact hxd), c]
      obtain ⟨h1, h2, h3, h4, h5⟩ := scan_keep h hk hl'
      refine ⟨h1, h2, h3, fun he => ⟨fun y hy => ?_, (h4 he).2⟩, h5⟩
      rcases List.mem_cons.1 hy with e2 | e2
      · rw [e2]; exact h2 _ hr
      · exact (h4 he).1 y e2
    · rw [if_neg c] at h
      have hf := getD_false (by rw [hk.len]; exact hxd) c
      have hxN : x ∈ N.steps x.src := by rw [hxs]; exact hxm
      by_cases c2 : to.getD x.dst false = true
      · rw [if_pos c2] at h
        cases h
        refine ⟨hk.next hxd hxN hf s.queue, fun u hu => (set_true (by rw [hk.len]; exact hxd)).2 (.inr hu), fun u hu => hu, fun he => (by cases he), fun d hd => ?_⟩
        cases hd
        refine ⟨c2, (set_true (by rw [hk.len]; exact hxd)).2 (.inl rfl), fun he => ?_⟩
        have := hk.first _ he
        rw [hf] at this
        cases this
      · rw [if_neg c2] at h
        obtain ⟨h1, h2, h3, h4, h5⟩ := scan_keep h (hk.next hxd hxN hf (s.queue ++ [x.dst])) hl'
        have hq : x.dst ∈ s'.queue := h3 _ (List.mem_append_right _ (List.mem_singleton.2 rfl))
        have hm : ∀ u : Nat, s.reached[u]? = some true → s'.reached[u]? = some true := fun u hu => h2 u ((set_true (by rw [hk.len]; exact hxd)).2 (.inr hu))
        refine ⟨h1, hm, fun u hu => h3 u (List.mem_append_left _ hu), fun he => ⟨fun y hy => ?_, fun u hu => ?_⟩, h5⟩
        · rcases List.mem_cons.1 hy with e2 | e2
          · rw [e2]; exact h2 _ ((set_true (by rw [hk.len]; exact hxd)).2 (.inl rfl))
          · exact (h4 he).1 y e2
        · rcases (h4 he).2 u hu with e2 | e2
          · rcases (set_true (by rw [hk.len]; exact hxd)).1 e2 with e3 | e3
            · subst e3
              exact .inr ⟨hq, by simpa using c2⟩
            · exact .inl e3
          · exact .inr e2
theorem bfs_keep {N : Net} {frm to : List Bool} (hN : N.Ok) : ∀ {m : Nat} {s : Bfs} {R : Bfs × Option Nat}, bfs N to m s = some R → Sk N frm s → (∀ u : Nat, s.reached[u]? = some true → u ∈ s.queue ∨ ∀ x ∈ N.steps u, s.reached[x.dst]? = some true) → (∀ u : Nat, s.reached[u]? = some true → frm[u]? = some true ∨ to.getD u false = false) →
    Sk N frm R.1 ∧ (R.2 = none → (∀ u : Nat, R.1.reached[u]? = some true → ∀ x ∈ N.steps u, R.1.reached[x.dst]? = some true) ∧ ∀ u : Nat, R.1.reached[u]? = some true → frm[u]? = some true ∨ to.getD u false = false) ∧
      (∀ d, R.2 = some d → to.getD d false = true ∧ R.1.reached[d]? = some true ∧ frm[d]? ≠ some true)
  | 0, _, _, h, _, _, _ => by unfold bfs at h; cases h
  | m + 1, s, R, h, hk, hc, ht => by
    unfold bfs at h
    rcases hq : s.queue with _ | ⟨v, q⟩
    · rw [hq] at h
      cases h
      refine ⟨hk, fun _ => ⟨fun u hu => ?_, ht⟩, fun d hd => by cases hd⟩
      rcases hc u hu with h1 | h1
      · rw [hq] at h1; exact absurd h1 List.not_mem_nil
      · exact h1
    · rw [hq] at h
      dsimp only at h
      have hk2 : Sk N frm ⟨s.reached, s.last, q⟩ := ⟨hk.len, hk.last, hk.first, hk.step⟩
      have hst : ∀ x ∈ N.steps v, x ∈ N.steps v ∧ x.dst < 34 ∧ x.src = v := fun x hx => ⟨hx, steps_dst hN v x hx⟩
      rcases hs : scan to ⟨s.reached, s.last, q⟩ (N.steps v) with ⟨s', _ | e⟩
      · rw [hs] at h
        dsimp only at h
        obtain ⟨h1, h2, h3, h4, _⟩ := scan_keep hs hk2 hst
        obtain ⟨h4, h5⟩ := h4 rfl
        refine bfs_keep hN h h1 (fun u hu => ?_) fun u hu => ?_
        · rcases h5 u hu with h6 | ⟨h6, _⟩
          · rcases hc u h6 with h7 | h7
            · rw [hq] at h7
              rcases List.mem_cons.1 h7 with h8 | h8
              · right; rw [h8]; exact h4
              · exact .inl (h3 u h8)
            · exact .inr fun x hx => h2 _ (h7 x hx)
          · exact .inl h6
        · rcases h5 u hu with h6 | ⟨_, h6⟩
          · exact ht u h6
          · exact .inr h6
      · rw [hs] at h
        cases h
        obtain ⟨h1, _, _, _, h5⟩ := scan_keep hs hk2 hst
        exact ⟨h1, fun he => (by cases he), h5⟩

/-- Steps one behind another, told from the last one: they end at v, and begin at f. -/
inductive Back (N : Net) (rank : Nat → Nat) (f : Nat) : Nat → List Step → Prop
  | nil : Back N rank f f []
  | cons {x : Step} {l : List Step} (hx : x ∈ N.steps x.src) (hr : rank x.src < rank x.dst) (h : Back N rank f x.src l) : Back N rank f x.dst (x :: l)
theorem back_path {N : Net} {frm : List Bool} {s : Bfs} {rank : Nat → Nat} (hf : frm.length = 34) (hr : Rk frm s rank) (hk : Sk N frm s) : ∀ {m v : Nat} {l : List Step}, back frm s.last m v = some l → s.reached[v]? = some true → l.length < m ∧ ∃ f, frm[f]? = some true ∧ Back N rank f v l
  | 0, _, _, h, _ => by unfold back at h; cases h
  | m + 1, v, l, h, hv => by
    have hv34 : v < 34 := by rw [← hr.len]; exact (List.getElem?_eq_some_iff.1 hv).1
    unfold back at h
    by_cases c : frm.getD v true = true
    · rw [if_pos c] at h
      cases h
      refine ⟨Nat.succ_pos _, v, ?_, .nil⟩
      rw [List.getD_eq_getElem?_getD, List.getElem?_eq_getElem (by rw [hf]; exact hv34), Option.getD_some] at c
      rw [List.getElem?_eq_getElem (by rw [hf]; exact hv34), c]
    · rw [if_neg c] at h
      have hn : frm[v]? ≠ some true := fun e => c (by rw [List.getD_eq_getElem?_getD, e]; rfl)
      rcases hk.step v hv with h1 | ⟨h1, h2⟩
      · exact absurd h1 hn
      rcases hr.src v hv with h3 | ⟨h3, h4⟩
      · exact absurd h3 c
      rcases hb : back frm s.last m (s.last.getD v noStep).src with _ | l'
      · rw [hb] at h; cases h
      · rw [hb] at h
        cases h
        obtain ⟨h5, f, h6, h7⟩ := back_path hf hr hk hb h3
        refine ⟨by rw [List.length_cons]; omega, f, h6, ?_⟩
        have h8 : Back N rank f (s.last.getD v noStep).dst (s.last.getD v noStep :: l') := .cons h2 (by rw [h1]; exact h4) h7
        rw [h1] at h8
        exact h8
/-- What way answers: steps from one of the first nodes to one that is wanted; or nodes with the first ones, without those that are wanted, from which no step leads. -/
theorem wayF_what {N : Net} {frm to : List Bool} (hN : N.Ok) (hf : frm.length = 34) (ht : ∀ v : Nat, frm[v]? = some true → to.getD v false = false) : ∃ p mk, wayF N frm to = some (p, mk) ∧
    ((p = [] ∧ mk.length = 34 ∧ (∀ v : Nat, frm[v]? = some true → mk[v]? = some true) ∧ (∀ v : Nat, mk[v]? = some true → to.getD v false = false) ∧ ∀ v : Nat, mk[v]? = some true → ∀ x ∈ N.steps v, mk[x.dst]? = some true) ∨
      (p ≠ [] ∧ p.length < 70 ∧ ∃ rank f d, frm[f]? = some true ∧ to.getD d false = true ∧ Back N rank f d p.reverse)) := by
  obtain ⟨r, hr⟩ := wayF_some (to := to) hN hf
  obtain ⟨p, mk⟩ := r
  refine ⟨p, mk, hr, ?_⟩
  have hr0 := hr
  unfold wayF at hr
  have hnoS : noS.length = 34 := rfl
  have h34 : frm.count false ≤ 34 := by have := List.count_le_length (a := false) (l := frm); rw [hf] at this; exact this
  have hm : ∀ v : Nat, v ∈ marked frm 34 ↔ frm[v]? = some true := fun v => by
    unfold marked
    rw [List.mem_filter, List.mem_range, List.getD_eq_getElem?_getD]
    constructor
    · rintro ⟨h1, h2⟩
      rw [List.getElem?_eq_getElem (by rw [hf]; exact h1)] at h2 ⊢
      rw [show frm[v] = true from h2]
    · intro h
      exact ⟨by rw [← hf]; exact (List.getElem?_eq_some_iff.1 h).1, by rw [h]; rfl⟩
  have hrk : Rk frm ⟨frm, noS, marked frm 34⟩ (fun _ => 0) := ⟨hf, hnoS, fun v hv => by dsimp only; omega, fun v hv => .inl (by rw [List.getD_eq_getElem?_getD]; dsimp only at hv; rw [hv]; rfl), fun v hv => (hm v).1 hv⟩
  have hsk : Sk N frm ⟨frm, noS, marked frm 34⟩ := ⟨hf, hnoS, fun v hv => hv, fun v hv => .inl hv⟩
  rcases hb : bfs N to 70 ⟨frm, noS, marked frm 34⟩ with _ | R
  · rw [hb] at hr; cases hr
  · rw [hb] at hr
    dsimp only at hr
    obtain ⟨rank, hr1, hr2⟩ := bfs_rank hN hb hrk
    obtain ⟨hk1, hk2, hk3⟩ := bfs_keep hN hb hsk (fun u hu => .inl ((hm u).2 hu)) (fun u hu => .inl hu)
    obtain ⟨s, e⟩ := R
    cases e with
    | none =>
      unfold found at hr
      cases hr
      obtain ⟨h1, h2⟩ := hk2 rfl
      refine .inl ⟨rfl, hk1.len, hk1.first, fun v hv => ?_, h1⟩
      rcases h2 v hv with h3 | h3
      · exact ht v h3
      · exact h3
    | some d =>
      obtain ⟨h1, h2, h3⟩ := hk3 d rfl
      unfold found at hr
      dsimp only at hr
      rcases hbk : back frm s.last 70 d with _ | l
      · rw [hbk] at hr; cases hr
      · rw [hbk] at hr
        cases hr
        obtain ⟨h4, f, h5, h6⟩ := back_path hf hr1 hk1 hbk h2
        refine .inr ⟨fun e => ?_, by rw [List.length_reverse]; exact h4, rank, f, d, h5, h1, by rw [List.reverse_reverse]; exact h6⟩
        have : l = [] := by simpa using e
        subst this
        cases h6
        exact h3 h5

def geo (L : List Arc) : List (Nat × Nat) := L.map fun x => (x.src, x.dst)
def rgs (L : List Arc) : List (Int × Int) := L.map fun x => (x.low, x.high)
def mss (L : List Arc) : List Int := L.map fun x => x.mass
def ind (b : Bool) (m : Int) : Int := if b = true then m else 0
theorem ind_add (b : Bool) (m n : Int) : ind b (m + n) = ind b m + ind b n := by unfold ind; split <;> simp
theorem ind_neg (b : Bool) (m : Int) : ind b (-m) = -ind b m := by unfold ind; split <;> simp
theorem ind_sub (b : Bool) (m n : Int) : ind b (m - n) = ind b m - ind b n := by unfold ind; split <;> simp
/-- What flows into a set of nodes, less what flows out of it. -/
def flow (S : Nat → Bool) : List (Nat × Nat) → List Int → Int
  | e :: G, m :: M => ind (S e.2) m - ind (S e.1) m + flow S G M
  | _, _ => 0
def Fits : List (Int × Int) → List Int → Prop
  | [], [] => True
  | r :: R, m :: M => r.1 ≤ m ∧ m ≤ r.2 ∧ Fits R M
  | _, _ => False
def one (v : Nat) : Nat → Bool := fun u => decide (u = v)
theorem flow_set (S : Nat → Bool) : ∀ (G : List (Nat × Nat)) (M : List Int) (i : Nat) (e : Nat × Nat) (q : Int), G[i]? = some e → i < M.length → flow S G (M.set i q) = flow S G M + (ind (S e.2) (q - M.getD i 0) - ind (S e.1) (q - M.getD i 0))
  | [], _, _, _, _, h, _ => by simp at h
  | _ :: _, [], _, _, _, _, h => absurd h (Nat.not_lt_zero _)
  | g :: G, m :: M, 0, e, q, h, _ => by
    simp at h
    subst h
    rw [List.set_cons_zero]
    unfold flow
    rw [show (m :: M).getD 0 0 = m from rfl, ind_sub, ind_sub]
    omega
  | g :: G, m :: M, i + 1, e, q, h, hi => by
    have h' : G[i]? = some e := by simpa using h
    have ih := flow_set S G M i e q h' (by simpa using hi)
    rw [List.set_cons_succ]
    unfold flow
    rw [show (m :: M).getD (i + 1) 0 = M.getD i 0 from rfl, ih]
    omega
theorem fits_len : ∀ {R : List (Int × Int)} {M : List Int}, Fits R M → M.length = R.length
  | [], [], _ => rfl
  | _ :: _, _ :: _, h => by rw [List.length_cons, List.length_cons, fits_len h.2.2]
  | [], _ :: _, h => h.elim
  | _ :: _, [], h => h.elim
theorem fits_get : ∀ {R : List (Int × Int)} {M : List Int}, Fits R M → ∀ {i : Nat} {r : Int × Int}, R[i]? = some r → r.1 ≤ M.getD i 0 ∧ M.getD i 0 ≤ r.2
  | r :: R, m :: M, h, 0, r', hr => by
    have e : r = r' := by simpa using hr
    subst e
    exact ⟨h.1, h.2.1⟩
  | r :: R, m :: M, h, i + 1, r', hr => fits_get h.2.2 (i := i) (by simpa using hr)
  | [], _, _, _, _, hr => by simp at hr
  | _ :: _, [], h, _, _, _ => h.elim
theorem fits_of : ∀ {R : List (Int × Int)} {M : List Int}, M.length = R.length → (∀ (i : Nat) (r : Int × Int), R[i]? = some r → r.1 ≤ M.getD i 0 ∧ M.getD i 0 ≤ r.2) → Fits R M
  | [], [], _, _ => trivial
  | [], _ :: _, h, _ => by simp at h
  | _ :: _, [], h, _ => by simp at h
  | r :: R, m :: M, h, hg => by
    have h0 := hg 0 r rfl
    exact ⟨h0.1, h0.2, fits_of (by simpa using h) fun i r' hr => hg (i + 1) r' (by simpa using hr)⟩
def sumN : Nat → (Nat → Int) → Int
  | 0, _ => 0
  | n + 1, f => sumN n f + f n
theorem sumN_add (f g : Nat → Int) : ∀ n, sumN n (fun v => f v + g v) = sumN n f + sumN n g
  | 0 => rfl
  | n + 1 => by unfold sumN; rw [sumN_add f g n]; dsimp only; omega
theorem sumN_eq {f g : Nat → Int} : ∀ {n : Nat}, (∀ v, v < n → f v = g v) → sumN n f = sumN n g
  | 0, _ => rfl
  | n + 1, h => by unfold sumN; rw [sumN_eq fun v hv => h v (by omega), h n (by omega)]
theorem sumN_zero {f : Nat → Int} {n : Nat} (h : ∀ v, v < n → f v = 0) : sumN n f = 0 := by
  induction n with
  | zero => rfl
  | succ n ih => unfold sumN; rw [ih fun v hv => h v (by omega), h n (by omega)]; rfl
theorem sumN_one (f : Nat → Int) (d : Nat) : ∀ {n : Nat}, d < n → (∀ v, v < n → v ≠ d → f v = 0) → sumN n f = f d
  | n + 1, hd, h => by
    unfold sumN
    by_cases e : d = n
    · subst e
      rw [sumN_zero fun v hv => h v (by omega) (by omega)]; omega
    · rw [sumN_one f d (show d < n by omega) fun v hv hne => h v (by omega) hne, h n (by omega) (fun e2 => e e2.symm)]; omega
theorem sumN_nonneg {f : Nat → Int} : ∀ {n : Nat}, (∀ v, v < n → 0 ≤ f v) → 0 ≤ sumN n f ∧ (sumN n f = 0 → ∀ v, v < n → f v = 0)
  | 0, _ => ⟨Int.le_refl _, fun _ v hv => absurd hv (Nat.not_lt_zero _)⟩
  | n + 1, h => by
    obtain ⟨h1, h2⟩ := sumN_nonneg (f := f) (n := n) fun v hv => h v (by omega)
    have h3 := h n (by omega)
    unfold sumN
    refine ⟨by omega, fun h0 v hv => ?_⟩
    by_cases e : v = n
    · subst e; omega
    · exact h2 (by omega) v (by omega)
theorem flow_nil (S : Nat → Bool) (G : List (Nat × Nat)) : flow S G [] = 0 := by cases G <;> rfl
theorem flow_sum (S : Nat → Bool) (n : Nat) : ∀ (G : List (Nat × Nat)) (M : List Int), (∀ e ∈ G, e.1 < n ∧ e.2 < n) → sumN n (fun v => ind (S v) (flow (one v) G M)) = flow S G M
  | [], M, _ => sumN_zero fun v _ => by unfold flow ind; split <;> rfl
  | _ :: _, [], _ => sumN_zero fun v _ => by unfold flow ind; split <;> rfl
  | e :: G, m :: M, h => by
    obtain ⟨h1, h2⟩ := h e (List.mem_cons_self ..)
    have ih := flow_sum S n G M fun e he => h e (List.mem_cons_of_mem _ he)
    have hs : ∀ d, d < n → sumN n (fun v => ind (S v) (ind (one v d) m)) = ind (S d) m := fun d hd => by
      rw [sumN_one _ d hd fun v _ hne => ?_]
      · unfold one; rw [decide_eq_true rfl]; rfl
      · unfold one
        rw [decide_eq_false (fun e => hne e.symm)]
        unfold ind
        split <;> rfl
    have e1 : sumN n (fun v => ind (S v) (flow (one v) (e :: G) (m :: M))) = sumN n (fun v => ind (S v) (ind (one v e.2) m) + (ind (S v) (ind (one v e.1) (-m)) + ind (S v) (flow (one v) G M))) := sumN_eq fun v _ => by
      rw [← ind_add, ← ind_add]
      rw [show flow (one v) (e :: G) (m :: M) = ind (one v e.2) m - ind (one v e.1) m + flow (one v) G M from rfl, ind_neg]
      congr 1
      omega
    have hs2 : sumN n (fun v => ind (S v) (ind (one v e.1) (-m))) = - ind (S e.1) m := by
      rw [sumN_one _ e.1 h1 fun v _ hne => ?_]
      · unfold one; rw [decide_eq_true rfl]; exact ind_neg _ _
      · unfold one
        rw [decide_eq_false (fun e => hne e.symm)]
        unfold ind
        split <;> rfl
    rw [e1, sumN_add, sumN_add, hs _ h2, hs2, ih]
    show _ = ind (S e.2) m - ind (S e.1) m + flow S G M
    omega
theorem flow_all : ∀ (G : List (Nat × Nat)) (M : List Int), flow (fun _ => true) G M = 0
  | [], _ => rfl
  | _ :: _, [] => rfl
  | e :: G, m :: M => by unfold flow; rw [flow_all G M]; omega
/-- Across a cut no masses in their ranges bring less than the masses of a network whose arcs are full out of it, and empty into it. -/
theorem flow_cut (S : Nat → Bool) : ∀ (L : List Arc) (M : List Int), Fits (rgs L) M → (∀ x ∈ L, (S x.src = true → S x.dst = false → x.mass = x.high) ∧ (S x.dst = true → S x.src = false → x.mass = x.low)) → flow S (geo L) (mss L) ≤ flow S (geo L) M
  | [], _, _, _ => Int.le_refl _
  | x :: L, [], h, _ => h.elim
  | x :: L, m :: M, h, hc => by
    have ih := flow_cut S L M h.2.2 fun y hy => hc y (List.mem_cons_of_mem _ hy)
    obtain ⟨h1, h2⟩ := hc x (List.mem_cons_self ..)
    have h3 : x.low ≤ m := h.1
    have h4 : m ≤ x.high := h.2.1
    show ind (S x.dst) x.mass - ind (S x.src) x.mass + flow S (geo L) (mss L) ≤ ind (S x.dst) m - ind (S x.src) m + flow S (geo L) M
    cases hs : S x.src <;> cases hd : S x.dst
    · unfold ind; simp; exact ih
    · have := h2 hd hs; unfold ind; simp; omega
    · have := h1 hs hd; unfold ind; simp; omega
    · unfold ind; simp; exact ih

/-- Each arc is listed at its two ends, and each end lists arcs of its own. -/
structure Wired (N : Net) : Prop where
  arc : ∀ (i : Nat) (x : Arc), N.arcs[i]? = some x → x.src ≠ x.dst ∧ i ∈ N.ends.getD x.src [] ∧ i ∈ N.ends.getD x.dst []
  list : ∀ (v i : Nat), i ∈ N.ends.getD v [] → ∃ x, N.arcs[i]? = some x ∧ (x.src = v ∨ x.dst = v)
/-- The same network, with other masses. -/
structure Alike (N N' : Net) : Prop where
  ends : N'.ends = N.ends
  geo : geo N'.arcs = geo N.arcs
  rgs : rgs N'.arcs = rgs N.arcs
theorem Alike.refl (N : Net) : Alike N N := ⟨rfl, rfl, rfl⟩
theorem Alike.trans {A B C : Net} (h : Alike A B) (k : Alike B C) : Alike A C := ⟨k.ends.trans h.ends, k.geo.trans h.geo, k.rgs.trans h.rgs⟩
theorem geo_get {L : List Arc} {i : Nat} {x : Arc} (h : L[i]? = some x) : (geo L)[i]? = some (x.src, x.dst) := by unfold geo; rw [List.getElem?_map, h]; rfl
theorem rgs_get {L : List Arc} {i : Nat} {x : Arc} (h : L[i]? = some x) : (rgs L)[i]? = some (x.low, x.high) := by unfold rgs; rw [List.getElem?_map, h]; rfl
theorem mss_get {L : List Arc} {i : Nat} {x : Arc} (h : L[i]? = some x) : (mss L)[i]? = some x.mass := by unfold mss; rw [List.getElem?_map, h]; rfl
theorem geo_len (L : List Arc) : (geo L).length = L.length := by unfold geo; rw [List.length_map]
theorem rgs_len (L : List Arc) : (rgs L).length = L.length := by unfold rgs; rw [List.length_map]
theorem mss_len (L : List Arc) : (mss L).length = L.length := by unfold mss; rw [List.length_map]
theorem Alike.len {N N' : Net} (h : Alike N N') : N'.arcs.length = N.arcs.length := by rw [← geo_len, h.geo, geo_len]
theorem geo_some {L L' : List Arc} (h : geo L' = geo L) {i : Nat} {x : Arc} (hx : L'[i]? = some x) : ∃ y, L[i]? = some y ∧ y.src = x.src ∧ y.dst = x.dst := by
  have h1 := geo_get hx
  rw [h] at h1
  unfold geo at h1
  rw [List.getElem?_map] at h1
  rcases hy : L[i]? with _ | y
  · rw [hy] at h1; cases h1
  · rw [hy] at h1
    simp at h1
    exact ⟨y, rfl, h1.1, h1.2⟩
theorem rgs_some {L L' : List Arc} (h : rgs L' = rgs L) {i : Nat} {x : Arc} (hx : L'[i]? = some x) : ∃ y, L[i]? = some y ∧ y.low = x.low ∧ y.high = x.high := by
  have h1 := rgs_get hx
  rw [h] at h1
  unfold rgs at h1
  rw [List.getElem?_map] at h1
  rcases hy : L[i]? with _ | y
  · rw [hy] at h1; cases h1
  · rw [hy] at h1
    simp at h1
    exact ⟨y, rfl, h1.1, h1.2⟩
theorem wired_of {N N' : Net} (h : Wired N) (he : N'.ends = N.ends) (hg : geo N'.arcs = geo N.arcs) : Wired N' := by
  refine ⟨fun i x hx => ?_, fun v i hi => ?_⟩
  · obtain ⟨y, h1, h2, h3⟩ := geo_some hg hx
    have := h.arc i y h1
    rw [he, ← h2, ← h3]
    exact this
  · rw [he] at hi
    obtain ⟨x, h1, h2⟩ := h.list v i hi
    obtain ⟨y, h3, h4, h5⟩ := geo_some hg.symm h1
    exact ⟨y, h3, by rw [h4, h5]; exact h2⟩
theorem Wired.alike {N N' : Net} (h : Wired N) (a : Alike N N') : Wired N' := wired_of h a.ends a.geo
theorem Net.Ok.fits {N : Net} (h : N.Ok) : Fits (rgs N.arcs) (mss N.arcs) := by
  refine fits_of (by rw [mss_len, rgs_len]) fun i r hr => ?_
  unfold rgs at hr
  rw [List.getElem?_map] at hr
  rcases hx : N.arcs[i]? with _ | x
  · rw [hx] at hr; cases hr
  · rw [hx] at hr
    cases hr
    rw [List.getD_eq_getElem?_getD, mss_get hx, Option.getD_some]
    have := h.arc i x hx
    exact ⟨this.2.2.1, this.2.2.2.1⟩
theorem Net.Ok.nodes {N : Net} (h : N.Ok) : ∀ e ∈ geo N.arcs, e.1 < 34 ∧ e.2 < 34 := by
  intro e he
  unfold geo at he
  obtain ⟨x, hx, rfl⟩ := List.mem_map.1 he
  obtain ⟨i, hi⟩ := List.mem_iff_getElem?.1 hx
  have := h.arc i x hi
  exact ⟨this.1, this.2.1⟩

/-- A step over an arc of the network, and how much can flow so. -/
def StepOk (N : Net) (x : Step) : Prop := ∃ y, N.arcs[x.arc]? = some y ∧ ((x.sign = 1 ∧ y.src = x.src ∧ y.dst = x.dst ∧ x.room = y.high - y.mass) ∨ (x.sign = -1 ∧ y.dst = x.src ∧ y.src = x.dst ∧ x.room = y.mass - y.low))
theorem steps_step {N : Net} (hw : Wired N) {v : Nat} {x : Step} (hx : x ∈ N.steps v) : StepOk N x ∧ 0 < x.room ∧ x.src = v := by
  unfold Net.steps at hx
  obtain ⟨hx, hr⟩ := List.mem_filter.1 hx
  obtain ⟨i, hi, rfl⟩ := List.mem_map.1 hx
  obtain ⟨y, hy, he⟩ := hw.list v i hi
  have hg : N.arcs.getD i noArc = y := by rw [List.getD_eq_getElem?_getD, hy]; rfl
  unfold roomy at hr
  have hr := of_decide_eq_true hr
  unfold stepOf at hr ⊢
  dsimp only at hr ⊢
  rw [hg] at hr ⊢
  split at hr
  · rename_i c
    rw [if_pos c]
    exact ⟨⟨y, hy, .inr ⟨rfl, c, rfl, rfl⟩⟩, hr, rfl⟩
  · rename_i c
    rw [if_neg c]
    exact ⟨⟨y, hy, .inl ⟨rfl, he.resolve_right c, rfl, rfl⟩⟩, hr, rfl⟩
theorem set_same {α : Type} {l : List α} {i : Nat} {a : α} (h : l[i]? = some a) : l.set i a = l := by
  obtain ⟨h1, h2⟩ := List.getElem?_eq_some_iff.1 h
  rw [← h2]; exact List.set_getElem_self h1
theorem put_alike {N : Net} {i : Nat} {x : Arc} (hx : N.arcs[i]? = some x) (m : Int) : Alike N (N.mass i m) ∧ mss (N.mass i m).arcs = (mss N.arcs).set i m := by
  have hg : N.arcs.getD i noArc = x := by rw [List.getD_eq_getElem?_getD, hx]; rfl
  refine ⟨⟨rfl, ?_, ?_⟩, ?_⟩
  · unfold Net.mass geo
    rw [hg, List.map_set]
    have h := set_same (geo_get hx)
    unfold geo at h
    exact h
  · unfold Net.mass rgs
    rw [hg, List.map_set]
    have h := set_same (rgs_get hx)
    unfold rgs at h
    exact h
  · unfold Net.mass mss
    rw [hg, List.map_set]
theorem moved_ok {N : Net} (h : N.Ok) {i : Nat} {x : Arc} (hx : N.arcs[i]? = some x) {m : Int} (h1 : x.low ≤ m) (h2 : m ≤ x.high) : (N.mass i m).Ok := by
  have hg : N.arcs.getD i noArc = x := by rw [List.getD_eq_getElem?_getD, hx]; rfl
  have hl : (N.mass i m).arcs.length = N.arcs.length := List.length_set
  refine ⟨h.len, by rw [hl]; exact h.few, fun v l hv => by rw [hl]; exact h.less v l hv, fun j y hy => ?_⟩
  unfold Net.mass at hy
  rw [hg] at hy
  dsimp only at hy
  rw [List.getElem?_set] at hy
  split at hy
  · rename_i e
    split at hy
    · cases hy
      have := h.arc i x hx
      exact ⟨this.1, this.2.1, h1, h2, this.2.2.2.2⟩
    · cases hy
  · exact h.arc j y hy
def gains (S : Nat → Bool) (m : Int) : List Step → Int
  | [] => 0
  | x :: p => ind (S x.dst) m - ind (S x.src) m + gains S m p
theorem gains_cons (S : Nat → Bool) (m : Int) (x : Step) (p : List Step) : gains S m (x :: p) = ind (S x.dst) m - ind (S x.src) m + gains S m p := rfl
theorem gains_nil (S : Nat → Bool) (m : Int) : gains S m [] = 0 := rfl
theorem gains_app (S : Nat → Bool) (m : Int) : ∀ (p q : List Step), gains S m (p ++ q) = gains S m p + gains S m q
  | [], q => by rw [List.nil_append, gains_nil]; omega
  | x :: p, q => by rw [List.cons_append, gains_cons, gains_cons, gains_app S m p q]; omega
theorem gains_rev (S : Nat → Bool) (m : Int) : ∀ (p : List Step), gains S m p.reverse = gains S m p
  | [] => rfl
  | x :: p => by rw [List.reverse_cons, gains_app, gains_rev S m p, gains_cons, gains_cons, gains_nil]; omega
theorem push_what {m : Int} : ∀ {p : List Step} {N : Net}, N.Ok → 0 ≤ m → (∀ x ∈ p, StepOk N x ∧ m ≤ x.room) → p.Pairwise (fun x y => x.arc ≠ y.arc) →
    ∃ N', pushF m N p = some N' ∧ N'.Ok ∧ Alike N N' ∧ ∀ S, flow S (geo N'.arcs) (mss N'.arcs) = flow S (geo N.arcs) (mss N.arcs) + gains S m p
  | [], N, hN, _, _, _ => ⟨N, rfl, hN, Alike.refl N, fun S => by rw [gains_nil]; omega⟩
  | x :: p, N, hN, hm, hp, hd => by
    obtain ⟨⟨y, hy, hs⟩, hr⟩ := hp x (List.mem_cons_self ..)
    have hg : N.arcs.getD x.arc noArc = y := by rw [List.getD_eq_getElem?_getD, hy]; rfl
    have ha := hN.arc _ y hy
    have hin : y.low ≤ y.mass + x.sign * m ∧ y.mass + x.sign * m ≤ y.high := by
      rcases hs with ⟨h1, _, _, h4⟩ | ⟨h1, _, _, h4⟩
      · rw [h1]; omega
      · rw [h1]; omega
    have hk : small (y.mass + x.sign * m) = true := small_iff.2 (by omega)
    have hok := moved_ok hN hy hin.1 hin.2
    obtain ⟨hal, hms⟩ := put_alike hy (y.mass + x.sign * m)
    obtain ⟨hd1, hd2⟩ := List.pairwise_cons.1 hd
    obtain ⟨N', h1, h2, h3, h4⟩ := push_what (p := p) hok hm (fun z hz => by
      obtain ⟨⟨u, hu, hu2⟩, hur⟩ := hp z (List.mem_cons_of_mem _ hz)
      refine ⟨⟨u, ?_, hu2⟩, hur⟩
      unfold Net.mass
      dsimp only
      rw [List.getElem?_set_ne (hd1 z hz)]
      exact hu) hd2
    refine ⟨N', ?_, h2, hal.trans h3, fun S => ?_⟩
    · unfold pushF
      dsimp only
      rw [hg, if_pos hk]
      exact h1
    · have hf := flow_set S (geo N.arcs) (mss N.arcs) x.arc (y.src, y.dst) (y.mass + x.sign * m) (geo_get hy) (by rw [mss_len]; exact (List.getElem?_eq_some_iff.1 hy).1)
      have hgm : (mss N.arcs).getD x.arc 0 = y.mass := by rw [List.getD_eq_getElem?_getD, mss_get hy]; rfl
      rw [h4, hal.geo, hms, hf, hgm, gains_cons]
      dsimp only
      rcases hs with ⟨e1, e2, e3, _⟩ | ⟨e1, e2, e3, _⟩
      · rw [e1, e2, e3, show y.mass + 1 * m - y.mass = m by omega]; omega
      · rw [e1, e2, e3, show y.mass + -1 * m - y.mass = -m by omega, ind_neg, ind_neg]; omega

/-- What is known of steps one behind another. -/
theorem back_what {N : Net} {rank : Nat → Nat} {f : Nat} (hw : Wired N) {v : Nat} {l : List Step} (h : Back N rank f v l) : (∀ x ∈ l, (StepOk N x ∧ 0 < x.room ∧ x ∈ N.steps x.src) ∧ rank x.dst ≤ rank v ∧ rank x.src < rank x.dst) ∧ l.Pairwise (fun x y => x.arc ≠ y.arc) ∧ (∀ S m, gains S m l = ind (S v) m - ind (S f) m) := by
  induction h with
  | nil => exact ⟨fun x hx => absurd hx List.not_mem_nil, List.Pairwise.nil, fun S m => by rw [gains_nil]; omega⟩
  | cons hx hr hb ih =>
    rename_i x l
    obtain ⟨h1, h2, h3⟩ := ih
    refine ⟨fun y hy => ?_, List.pairwise_cons.2 ⟨fun y hy e => ?_, h2⟩, fun S m => ?_⟩
    · rcases List.mem_cons.1 hy with e | e
      · subst e
        have := steps_step hw hx
        exact ⟨⟨this.1, this.2.1, hx⟩, Nat.le_refl _, hr⟩
      · obtain ⟨k1, k2, k3⟩ := h1 y e
        exact ⟨k1, by omega, k3⟩
    · obtain ⟨⟨⟨z, hz, hz2⟩, _⟩, k2, k3⟩ := h1 y hy
      obtain ⟨⟨u, hu, hu2⟩, _⟩ := steps_step hw hx
      rw [e, hz] at hu
      cases hu
      rcases hz2 with ⟨_, a1, a2, _⟩ | ⟨_, a1, a2, _⟩ <;> rcases hu2 with ⟨_, b1, b2, _⟩ | ⟨_, b1, b2, _⟩
      · rw [← a2, b2] at k2; omega
      · rw [← a1, ← a2, b1, b2] at k3; omega
      · rw [← a1, ← a2, b1, b2] at k3; omega
      · rw [← a2, b2] at k2; omega
    · rw [gains_cons, h3]
      omega
theorem back_nil {N : Net} {rank : Nat → Nat} {f v : Nat} {l : List Step} (h : Back N rank f v l) (hl : l = []) : v = f := by
  cases h with
  | nil => rfl
  | cons => cases hl
theorem back_ends {N : Net} {rank : Nat → Nat} {f v : Nat} {x : Step} {p : List Step} (hx : p.reverse ≠ [] → True) (h : Back N rank f v (x :: p).reverse) : x.src = f ∧ ((x :: p).getLast (by simp)).dst = v := by
  have key : ∀ {v : Nat} {l : List Step}, Back N rank f v l → ∀ (hl : l ≠ []), (l.getLast hl).src = f ∧ (l.head hl).dst = v := by
    intro v l hb
    induction hb with
    | nil => intro hl; exact absurd rfl hl
    | cons hx hr hb ih =>
      rename_i y l
      intro hl
      refine ⟨?_, rfl⟩
      cases l with
      | nil => exact back_nil hb rfl
      | cons z l => rw [List.getLast_cons (by simp)]; exact (ih (by simp)).1
  have := key h (by simp)
  rw [List.getLast_reverse, List.head_reverse] at this
  exact this

/-- How much is left in all. -/
def mu (l : List Int) : Nat := (l.map Int.natAbs).sum
theorem mu_set : ∀ {l : List Int} {i : Nat} {q : Int}, i < l.length → mu (l.set i q) + (l.getD i 0).natAbs = mu l + q.natAbs
  | [], _, _, h => absurd h (Nat.not_lt_zero _)
  | x :: l, 0, q, _ => by
    rw [List.set_cons_zero]
    unfold mu
    rw [List.map_cons, List.map_cons, List.sum_cons, List.sum_cons, show (x :: l).getD 0 0 = x from rfl]
    omega
  | x :: l, i + 1, q, h => by
    have ih := mu_set (l := l) (i := i) (q := q) (by simpa using h)
    rw [List.set_cons_succ]
    unfold mu at ih ⊢
    rw [List.map_cons, List.map_cons, List.sum_cons, List.sum_cons, show (x :: l).getD (i + 1) 0 = l.getD i 0 from rfl]
    omega
theorem mu_bound : ∀ {l : List Int}, l.all small = true → mu l ≤ l.length * 4503599627370496
  | [], _ => Nat.le_refl _
  | x :: l, h => by
    rw [List.all_cons, Bool.and_eq_true] at h
    have ih := mu_bound h.2
    have := small_iff.1 h.1
    unfold mu at ih ⊢
    rw [List.map_cons, List.sum_cons, List.length_cons]
    omega
theorem getD_set {l : List Int} {i v : Nat} {q : Int} (hi : i < l.length) : (l.set i q).getD v 0 = if v = i then q else l.getD v 0 := by
  rw [List.getD_eq_getElem?_getD]
  by_cases e : v = i
  · subst e; rw [List.getElem?_set_self hi, if_pos rfl]; rfl
  · rw [List.getElem?_set_ne (Ne.symm e), if_neg e, List.getD_eq_getElem?_getD]
theorem all_get {l : List Int} (h : l.all small = true) (v : Nat) : small (l.getD v 0) = true := by
  rw [List.getD_eq_getElem?_getD]
  rcases hv : l[v]? with _ | x
  · rfl
  · exact List.all_eq_true.1 h x (List.mem_of_getElem? hv)
theorem all_of {l : List Int} (h : ∀ v, v < l.length → small (l.getD v 0) = true) : l.all small = true := by
  rw [List.all_eq_true]
  intro x hx
  obtain ⟨v, hv⟩ := List.mem_iff_getElem?.1 hx
  have := h v (List.getElem?_eq_some_iff.1 hv).1
  rw [List.getD_eq_getElem?_getD, hv] at this
  exact this
theorem okB_of {N : Net} (h : N.Ok) : N.okB = true := by
  unfold Net.okB
  simp only [Bool.and_eq_true, decide_eq_true_eq, List.all_eq_true]
  refine ⟨⟨⟨h.len, h.few⟩, fun l hl => ?_⟩, fun x hx => ?_⟩
  · obtain ⟨v, hv⟩ := List.mem_iff_getElem?.1 hl
    exact h.less v l hv
  · obtain ⟨i, hi⟩ := List.mem_iff_getElem?.1 hx
    have := h.arc i x hi
    unfold okArc
    simp only [Bool.and_eq_true, decide_eq_true_eq]
    obtain ⟨a, b, c, d, e, f⟩ := this
    exact ⟨⟨⟨⟨⟨a, b⟩, c⟩, d⟩, e⟩, f⟩
/-- The marked nodes: those with too much, without those with too little, whose arcs are full out of them, and empty into them. -/
structure Cut (N : Net) (l : List Int) (mk : List Bool) : Prop where
  len : mk.length = 34
  over : ∀ v : Nat, 0 < l.getD v 0 → mk.getD v false = true
  under : ∀ v : Nat, l.getD v 0 < 0 → mk.getD v false = false
  arcs : ∀ x ∈ N.arcs, (mk.getD x.src false = true → mk.getD x.dst false = false → x.mass = x.high) ∧ (mk.getD x.dst false = true → mk.getD x.src false = false → x.mass = x.low)
theorem over_get {l : List Int} {v : Nat} : (over l)[v]? = some true ↔ 0 < l.getD v 0 := by
  unfold over
  rw [List.getElem?_map, List.getD_eq_getElem?_getD]
  cases l[v]? <;> simp
theorem under_get {l : List Int} {v : Nat} : (under l).getD v false = true ↔ l.getD v 0 < 0 := by
  unfold under
  rw [List.getD_eq_getElem?_getD, List.getElem?_map, List.getD_eq_getElem?_getD]
  cases l[v]? <;> simp
theorem getD_true {l : List Bool} {v : Nat} : l.getD v false = true ↔ l[v]? = some true := by
  rw [List.getD_eq_getElem?_getD]
  cases l[v]? <;> simp
theorem cut_of {N : Net} {l : List Int} {mk : List Bool} (hN : N.Ok) (hw : Wired N) (h1 : mk.length = 34) (h2 : ∀ v : Nat, (over l)[v]? = some true → mk[v]? = some true) (h3 : ∀ v : Nat, mk[v]? = some true → (under l).getD v false = false) (h4 : ∀ v : Nat, mk[v]? = some true → ∀ x ∈ N.steps v, mk[x.dst]? = some true) : Cut N l mk := by
  refine ⟨h1, fun v hv => getD_true.2 (h2 v (over_get.2 hv)), fun v hv => ?_, fun y hy => ?_⟩
  · rcases h : mk.getD v false with _ | _
    · rfl
    · have := h3 v (getD_true.1 h)
      rw [under_get.2 hv] at this
      cases this
  · obtain ⟨i, hi⟩ := List.mem_iff_getElem?.1 hy
    obtain ⟨w1, w2, w3⟩ := hw.arc i y hi
    have ha := hN.arc i y hi
    have hg : N.arcs.getD i noArc = y := by rw [List.getD_eq_getElem?_getD, hi]; rfl
    constructor
    · intro hs hd
      rcases Int.lt_or_le y.mass y.high with c | c
      · exfalso
        have hx : (⟨i, 1, y.src, y.dst, y.high - y.mass⟩ : Step) ∈ N.steps y.src := by
          unfold Net.steps
          refine List.mem_filter.2 ⟨List.mem_map.2 ⟨i, w2, ?_⟩, ?_⟩
          · unfold stepOf
            dsimp only
            rw [hg, if_neg (fun e => w1 e.symm)]
          · unfold roomy
            exact decide_eq_true (show 0 < y.high - y.mass by omega)
        have := h4 _ (getD_true.1 hs) _ hx
        rw [getD_true.2 this] at hd
        cases hd
      · omega
    · intro hd hs
      rcases Int.lt_or_le y.low y.mass with c | c
      · exfalso
        have hx : (⟨i, -1, y.dst, y.src, y.mass - y.low⟩ : Step) ∈ N.steps y.dst := by
          unfold Net.steps
          refine List.mem_filter.2 ⟨List.mem_map.2 ⟨i, w3, ?_⟩, ?_⟩
          · unfold stepOf
            dsimp only
            rw [hg, if_pos rfl]
          · unfold roomy
            exact decide_eq_true (show 0 < y.mass - y.low by omega)
        have := h4 _ (getD_true.1 hd) _ hx
        rw [getD_true.2 this] at hs
        cases hs
      · omega
theorem least_le : ∀ {p : List Step} {m : Int}, least m p ≤ m ∧ ∀ x ∈ p, least m p ≤ x.room
  | [], m => ⟨Int.le_refl _, fun x hx => absurd hx List.not_mem_nil⟩
  | x :: p, m => by
    have h : least m (x :: p) = least (min m x.room) p := rfl
    obtain ⟨h1, h2⟩ := least_le (p := p) (m := min m x.room)
    rw [h]
    refine ⟨by omega, fun y hy => ?_⟩
    rcases List.mem_cons.1 hy with e | e
    · rw [e]; omega
    · exact h2 y e
theorem least_pos : ∀ {p : List Step} {m : Int}, 0 < m → (∀ x ∈ p, 0 < x.room) → 0 < least m p
  | [], _, h, _ => h
  | x :: p, m, h, hp => by
    have e : least m (x :: p) = least (min m x.room) p := rfl
    rw [e]
    have := hp x (List.mem_cons_self ..)
    exact least_pos (by omega) fun y hy => hp y (List.mem_cons_of_mem _ hy)

/-- What even answers, on a network that is right: always, in at most so many turns as there is too much and too little in all. -/
theorem even_what : ∀ {k : Nat} {N : Net} {l : List Int}, N.Ok → Wired N → l.length = 34 → l.all small = true → mu l < k →
    ∃ N' l' mk, evenF k N l = some (N', l', mk) ∧ N'.Ok ∧ Alike N N' ∧ l'.length = 34 ∧ l'.all small = true ∧ (∀ v : Nat, flow (one v) (geo N.arcs) (mss N'.arcs) = flow (one v) (geo N.arcs) (mss N.arcs) + (l'.getD v 0 - l.getD v 0)) ∧
      (∀ v : Nat, 0 ≤ l.getD v 0 → 0 ≤ l'.getD v 0 ∧ l'.getD v 0 ≤ l.getD v 0) ∧ (∀ v : Nat, l.getD v 0 ≤ 0 → l.getD v 0 ≤ l'.getD v 0 ∧ l'.getD v 0 ≤ 0) ∧ Cut N' l' mk
  | 0, _, _, _, _, _, _, h => absurd h (Nat.not_lt_zero _)
  | k + 1, N, l, hN, hw, hl, hs, hm => by
    have hc : (N.okB && l.all small && decide (l.length = 34)) = true := by rw [okB_of hN, hs, hl]; rfl
    have hov : ∀ v : Nat, (over l)[v]? = some true → (under l).getD v false = false := fun v hv => by
      have h1 := over_get.1 hv
      rcases h : (under l).getD v false with _ | _
      · rfl
      · have := under_get.1 h
        omega
    obtain ⟨p, mk, hway, hcase⟩ := wayF_what (to := under l) hN (over_len hl) hov
    unfold evenF
    rw [if_pos hc, hway]
    rcases hcase with ⟨rfl, h1, h2, h3, h4⟩ | ⟨hne, hlen, rank, f, d, hf, hd, hb⟩
    · exact ⟨N, l, mk, rfl, hN, Alike.refl N, hl, hs, fun v => by omega, fun v hv => ⟨hv, Int.le_refl _⟩, fun v hv => ⟨Int.le_refl _, hv⟩, cut_of hN hw h1 h2 h3 h4⟩
    · cases p with
      | nil => exact absurd rfl hne
      | cons x p =>
        dsimp only
        obtain ⟨hsrc, hdst⟩ := back_ends (fun _ => trivial) hb
        obtain ⟨b1, b2, b3⟩ := back_what hw hb
        have hf0 := over_get.1 hf
        have hd0 := under_get.1 hd
        have hf34 : f < l.length := by
          rcases Nat.lt_or_ge f l.length with h | h
          · exact h
          · rw [List.getD_eq_getElem?_getD, List.getElem?_eq_none h] at hf0; exact absurd hf0 (by decide)
        have hd34 : d < l.length := by
          rcases Nat.lt_or_ge d l.length with h | h
          · exact h
          · rw [List.getD_eq_getElem?_getD, List.getElem?_eq_none h] at hd0; exact absurd hd0 (by decide)
        have hfd : d ≠ f := fun e => by rw [e] at hd0; omega
        have hmem : ∀ y ∈ x :: p, StepOk N y ∧ 0 < y.room ∧ y ∈ N.steps y.src := fun y hy => (b1 y (List.mem_reverse.2 hy)).1
        have hstep : ((x :: p).all (stepB N) && decide (p.length ≤ 100)) = true := by
          rw [Bool.and_eq_true, List.all_eq_true]
          refine ⟨fun y hy => ?_, decide_eq_true ?_⟩
          · obtain ⟨⟨z, hz, hz2⟩, hr, hys⟩ := hmem y hy
            have ha := hN.arc _ z hz
            have hlt := (List.getElem?_eq_some_iff.1 hz).1
            unfold stepB
            simp only [Bool.and_eq_true, Bool.or_eq_true, decide_eq_true_eq, small_iff]
            rcases hz2 with ⟨e1, e2, e3, e4⟩ | ⟨e1, e2, e3, e4⟩
            · exact ⟨⟨⟨⟨hlt, by omega⟩, by omega⟩, .inl e1⟩, by omega⟩
            · exact ⟨⟨⟨⟨hlt, by omega⟩, by omega⟩, .inr e1⟩, by omega⟩
          · rw [List.length_cons] at hlen; omega
        rw [if_pos hstep, hsrc, hdst]
        obtain ⟨m, hmd⟩ : ∃ m, m = least (min (l.getD f 0) (-(l.getD d 0))) (x :: p) := ⟨_, rfl⟩
        have hpos : 0 < m := by rw [hmd]; exact least_pos (by omega) fun y hy => (hmem y hy).2.1
        have hle : m ≤ min (l.getD f 0) (-(l.getD d 0)) ∧ ∀ y ∈ x :: p, m ≤ y.room := by rw [hmd]; exact least_le
        rw [← hmd]
        obtain ⟨N', p1, p2, p3, p4⟩ := push_what (m := m) (p := x :: p) hN (by omega) (fun y hy => ⟨(hmem y hy).1, hle.2 y hy⟩) (by
          have := List.pairwise_reverse.1 b2
          exact this.imp fun h => Ne.symm h)
        rw [p1]
        dsimp only
        obtain ⟨l1, hl1⟩ : ∃ l1, l1 = l.set f (l.getD f 0 - m) := ⟨_, rfl⟩
        obtain ⟨l2, hl2⟩ : ∃ l2, l2 = l1.set d (l1.getD d 0 + m) := ⟨_, rfl⟩
        rw [← hl1, ← hl2]
        have len1 : l1.length = 34 := by rw [hl1, List.length_set]; exact hl
        have len2 : l2.length = 34 := by rw [hl2, List.length_set]; exact len1
        have g1 : ∀ v, l1.getD v 0 = if v = f then l.getD f 0 - m else l.getD v 0 := fun v => by rw [hl1]; exact getD_set hf34
        have hd1 : l1.getD d 0 = l.getD d 0 := by rw [g1, if_neg hfd]
        have g2 : ∀ v, l2.getD v 0 = if v = d then l.getD d 0 + m else if v = f then l.getD f 0 - m else l.getD v 0 := fun v => by
          rw [hl2, getD_set (by rw [len1, ← hl]; exact hd34), hd1]
          split
          · rfl
          · exact g1 v
        have hs2 : l2.all small = true := all_of fun v _ => by
          have h1 := small_iff.1 (all_get hs v)
          have h2 := small_iff.1 (all_get hs f)
          have h3 := small_iff.1 (all_get hs d)
          rw [g2]
          refine small_iff.2 ?_
          split
          · omega
          · split
            · omega
            · exact h1
        have hmu : mu l2 < k := by
          have h1 := mu_set (l := l) (q := l.getD f 0 - m) hf34
          rw [← hl1] at h1
          have h2 := mu_set (l := l1) (i := d) (q := l1.getD d 0 + m) (by rw [len1, ← hl]; exact hd34)
          rw [← hl2, hd1] at h2
          omega
        obtain ⟨N2, l', mk2, r1, r2, r3, r4, r4b, r5, r6, r7, r8⟩ := even_what (k := k) p2 (hw.alike p3) len2 hs2 hmu
        refine ⟨N2, l', mk2, r1, r2, p3.trans r3, r4, r4b, fun v => ?_, fun v hv => ?_, fun v hv => ?_, r8⟩
        · have e1 := r5 v
          have e2 := p4 (one v)
          rw [p3.geo] at e1 e2
          rw [e1, e2, ← gains_rev, b3, g2]
          unfold one ind
          by_cases c1 : v = d
          · subst c1
            rw [if_pos rfl, decide_eq_true rfl, decide_eq_false (fun e => hfd e.symm)]
            simp
            omega
          · rw [if_neg c1, decide_eq_false (fun e => c1 e.symm)]
            by_cases c2 : v = f
            · subst c2
              rw [if_pos rfl, decide_eq_true rfl]
              simp
              omega
            · rw [if_neg c2, decide_eq_false (fun e => c2 e.symm)]
              simp
        · have e1 := g2 v
          by_cases c1 : v = d
          · rw [c1] at hv; omega
          · rw [if_neg c1] at e1
            by_cases c2 : v = f
            · rw [if_pos c2] at e1
              have := r6 v (by omega)
              rw [c2] at this e1 ⊢
              omega
            · rw [if_neg c2] at e1
              have := r6 v (by omega)
              omega
        · have e1 := g2 v
          by_cases c1 : v = d
          · rw [if_pos c1] at e1
            have := r7 v (by omega)
            rw [c1] at this e1 ⊢
            omega
          · rw [if_neg c1] at e1
            by_cases c2 : v = f
            · rw [c2] at hv; omega
            · rw [if_neg c2] at e1
              have := r7 v (by omega)
              omega

/-- Masses in their ranges that flow through each node. -/
structure Circ (N : Net) (M : List Int) : Prop where
  fits : Fits (rgs N.arcs) M
  zero : ∀ v : Nat, v < 34 → flow (one v) (geo N.arcs) M = 0
theorem Circ.set {N : Net} {M : List Int} (h : Circ N M) (hn : ∀ e ∈ geo N.arcs, e.1 < 34 ∧ e.2 < 34) (S : Nat → Bool) : flow S (geo N.arcs) M = 0 := by
  rw [← flow_sum S 34 _ _ hn]
  exact sumN_zero fun v hv => by rw [h.zero v hv]; unfold ind; split <;> rfl
theorem Circ.alike {N N' : Net} {M : List Int} (h : Circ N M) (a : Alike N N') : Circ N' M := ⟨by rw [a.rgs]; exact h.fits, fun v hv => by rw [a.geo]; exact h.zero v hv⟩
theorem Alike.symm {N N' : Net} (a : Alike N N') : Alike N' N := ⟨a.ends.symm, a.geo.symm, a.rgs.symm⟩

/-- Where no more flows into the marked nodes than out of them, nothing is left. -/
theorem cut_zero {N : Net} {l : List Int} {mk : List Bool} (hn : ∀ e ∈ geo N.arcs, e.1 < 34 ∧ e.2 < 34) (hf : ∀ v : Nat, v < 34 → flow (one v) (geo N.arcs) (mss N.arcs) = l.getD v 0) (hc : Cut N l mk) (h1 : flow (fun v => mk.getD v false) (geo N.arcs) (mss N.arcs) ≤ 0) : ∀ v, v < 34 → l.getD v 0 = 0 := by
  have hterm : ∀ v, v < 34 → 0 ≤ ind (mk.getD v false) (flow (one v) (geo N.arcs) (mss N.arcs)) := fun v hv => by
    rw [hf v hv]
    rcases h : mk.getD v false with _ | _
    · unfold ind; simp
    · unfold ind
      rw [if_pos rfl]
      rcases Int.lt_or_le (l.getD v 0) 0 with c | c
      · rw [hc.under v c] at h; cases h
      · exact c
  rw [← flow_sum _ 34 _ _ hn] at h1
  obtain ⟨h2, h3⟩ := sumN_nonneg hterm
  have h4 := h3 (by omega)
  have hle : ∀ v, v < 34 → l.getD v 0 ≤ 0 := fun v hv => by
    rcases Int.lt_or_le 0 (l.getD v 0) with c | c
    · have := h4 v hv
      rw [hf v hv, hc.over v c] at this
      unfold ind at this
      rw [if_pos rfl] at this
      omega
    · exact c
  have h5 : sumN 34 (fun v => ind true (flow (one v) (geo N.arcs) (mss N.arcs))) = 0 := by rw [flow_sum (fun _ => true) 34 _ _ hn]; exact flow_all _ _
  have h6 : sumN 34 (fun v => -(ind true (flow (one v) (geo N.arcs) (mss N.arcs)))) = 0 := by
    have := sumN_add (fun v => ind true (flow (one v) (geo N.arcs) (mss N.arcs))) (fun v => -(ind true (flow (one v) (geo N.arcs) (mss N.arcs)))) 34
    rw [h5] at this
    rw [sumN_zero (f := fun v => ind true (flow (one v) (geo N.arcs) (mss N.arcs)) + -(ind true (flow (one v) (geo N.arcs) (mss N.arcs)))) fun v _ => by omega] at this
    omega
  have h7 := (sumN_nonneg (f := fun v => -(ind true (flow (one v) (geo N.arcs) (mss N.arcs)))) (n := 34) fun v hv => by
    unfold ind
    rw [if_pos rfl, hf v hv]
    have := hle v hv
    omega).2 h6
  intro v hv
  have := h7 v hv
  unfold ind at this
  rw [if_pos rfl, hf v hv] at this
  omega
theorem cut_sum {N : Net} {l : List Int} {mk : List Bool} (hn : ∀ e ∈ geo N.arcs, e.1 < 34 ∧ e.2 < 34) (hf : ∀ v : Nat, v < 34 → flow (one v) (geo N.arcs) (mss N.arcs) = l.getD v 0) (hc : Cut N l mk) {M : List Int} (hM : Circ N M) : ∀ v, v < 34 → l.getD v 0 = 0 := by
  have h1 := flow_cut (fun v => mk.getD v false) N.arcs M hM.fits hc.arcs
  rw [hM.set hn] at h1
  exact cut_zero hn hf hc h1
end Go.Proofs.Ytncnpodanlhdkaa
