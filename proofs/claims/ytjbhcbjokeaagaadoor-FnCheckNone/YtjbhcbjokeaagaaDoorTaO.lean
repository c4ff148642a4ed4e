/-
  A table that owns its things.
-/
import Derived.Test.YtjbhcbjokeaagaaDoorThS
import Derived.Test.YtjbhcbjokeaagaaDoorTab
namespace Go.Proofs.YtjbhcbjokeaagaaDoor
open Go.RowKit
set_option maxRecDepth 100000
set_option linter.unusedVariables false

/-- A thing and its two slices. -/
abbrev Tr := T8 × Sl × Sl
abbrev Tr.cs (t : Tr) : Array Value := t.1.cs t.2.1 t.2.2
def trCells (ts : List Tr) : List Value := ts.flatMap fun t => (Tr.cs t).toList
theorem trCells_len (ts : List Tr) : (trCells ts).length = ts.length * 8 := by
  induction ts with
  | nil => rfl
  | cons t ts ih => simp only [trCells, List.flatMap_cons, List.length_append, List.length_cons] at ih ⊢; rw [ih]; simp; omega
theorem trCells_get : ∀ (ts : List Tr) (i j : Nat) (t : Tr), ts[i]? = some t → j < 8 → (trCells ts)[i * 8 + j]? = (Tr.cs t)[j]?
  | [], i, j, t, h, _ => by simp at h
  | u :: ts, 0, j, t, h, hj => by
    simp at h; subst h
    simp only [trCells, List.flatMap_cons, Nat.zero_mul, Nat.zero_add]
    rw [List.getElem?_append_left (by simp; omega)]
    simp
  | u :: ts, i + 1, j, t, h, hj => by
    have ih := trCells_get ts i j t (by simpa using h) hj
    simp only [trCells, List.flatMap_cons] at ih ⊢
    rw [List.getElem?_append_right (by simp; omega)]
    rw [← ih]
    congr 1
    simp
    omega
theorem trCells_set : ∀ (ts : List Tr) (i j : Nat) (t t' : Tr) (u : Value), ts[i]? = some t → j < 8 → (Tr.cs t).setIfInBounds j u = Tr.cs t' → (trCells ts).set (i * 8 + j) u = trCells (ts.set i t')
  | [], i, j, t, t', u, h, _, _ => by simp at h
  | v :: ts, 0, j, t, t', u, h, hj, he => by
    simp at h; subst h
    have e2 : (Tr.cs v).toList.set j u = (Tr.cs t').toList := by rw [← he]; simp
    simp only [trCells, List.flatMap_cons, List.set_cons_zero, Nat.zero_mul, Nat.zero_add]
    rw [List.set_append_left _ _ (by simp; omega), e2]
  | v :: ts, i + 1, j, t, t', u, h, hj, he => by
    have ih := trCells_set ts i j t t' u (by simpa using h) hj he
    simp only [trCells, List.flatMap_cons, List.set_cons_succ] at ih ⊢
    rw [List.set_append_right _ _ (by simp; omega), ← ih]
    congr 2
    simp
    omega
/-- A table that owns its things. -/
def TaO (n0 : Nat) (W : World) (v : Value) (ts : List Tr) : Prop :=
  W.ownsRow n0 36 8 v ts.length (trCells ts) ∧ ∀ t ∈ ts, ThO n0 W t.1 t.2.1 t.2.2 ∧ t.1.queue.length ≤ 3
theorem TaO.keep {n0 : Nat} {W W' : World} {v : Value} {ts : List Tr} (h : TaO n0 W v ts) (k : ∀ b T cs, n0 ≤ b → Box W b T cs → T = 36 ∨ T = 38 ∨ T = 3 → Box W' b T cs) : TaO n0 W' v ts := by
  refine ⟨⟨h.1.1, ?_⟩, fun t ht => ⟨(h.2 t ht).1.keep (fun b cs hb bx => k b _ cs hb bx (.inr (.inl rfl))) (fun b cs hb bx => k b _ cs hb bx (.inr (.inr rfl))), (h.2 t ht).2⟩⟩
  rcases h.1.2 with h4 | ⟨g, cap, cur, e, hb, hg, rest⟩
  · exact .inl h4
  · exact .inr ⟨g, cap, cur, e, hb, k g _ cur hb hg (.inl rfl), rest⟩
theorem TaO.stay {n0 : Nat} {W W' : World} {v : Value} {ts : List Tr} (h : TaO n0 W v ts) (hb : Below W.heap.size W W') : TaO n0 W' v ts := h.keep fun _ _ _ _ bx _ => bx.stay hb
theorem TaO.grew {n0 r : Nat} {W W' : World} {v : Value} {ts : List Tr} (h : TaO n0 W v ts) (hr : r < n0) (g : Grew r W W') : TaO n0 W' v ts := h.keep fun _ _ _ hb bx _ => bx.grew g (by omega)
/-- A store into a block that came later. -/
theorem TaO.fresh {n0 m : Nat} {W W' : World} {v : Value} {ts : List Tr} (h : TaO n0 W v ts) (hb : Below m W W') (hs : ∀ b T cs, Box W b T cs → T = 36 ∨ T = 38 ∨ T = 3 → n0 ≤ b → Box W' b T cs) : TaO n0 W' v ts := h.keep fun b T cs hn bx hT => hs b T cs bx hT hn
theorem TaO.form {n0 : Nat} {W : World} {v : Value} {ts : List Tr} (h : TaO n0 W v ts) (hn : 0 < ts.length) : ∃ g cap cur, v = .slice (some ⟨g, 0, none⟩) ts.length cap ∧ n0 ≤ g ∧ Box W g 36 cur ∧ ts.length ≤ cap ∧ cur.size = cap * 8 ∧ cur.toList.take (ts.length * 8) = trCells ts := by
  rcases h.1.2 with ⟨-, h0⟩ | ⟨g, cap, cur, e, hb, hg, h1, h2, h3, h4⟩
  · omega
  · exact ⟨g, cap, cur, e, hb, hg, h1, h3, h4⟩
/-- The cells of a thing of the table. -/
theorem TaO.at {n0 : Nat} {W : World} {g c : Nat} {ts : List Tr} {n : Nat} (h : TaO n0 W (.slice (some ⟨g, 0, none⟩) n c) ts) {i : Nat} {t : Tr} (ht : ts[i]? = some t) : At W g (i * 8) (Tr.cs t) := by
  intro j v hv
  have hj : j < 8 := by have := (Array.getElem?_eq_some_iff.1 hv).1; simpa [Tr.cs] using this
  have hi : i < ts.length := (List.getElem?_eq_some_iff.1 ht).1
  obtain ⟨g', cap, cur, e, hb, bx, h1, h3, h4⟩ := h.form (by omega)
  simp only [Value.slice.injEq, Option.some.injEq, Addr.mk.injEq] at e
  obtain ⟨⟨rfl, -, -⟩, -, -⟩ := e
  have h5 := trCells_get ts i j t ht hj
  rw [← h4, List.getElem?_take, hv] at h5
  rw [if_pos (by omega)] at h5
  exact bx.cell _ _ (by simpa using h5)
theorem TaO.thaw {n0 : Nat} {W : World} {g c : Nat} {ts : List Tr} {n : Nat} (h : TaO n0 W (.slice (some ⟨g, 0, none⟩) n c) ts) (hn : 0 < ts.length) (i : Nat) : W.frozen? ⟨g, i, none⟩ = false := by
  obtain ⟨g', cap, cur, e, hb, bx, h1, h3, h4⟩ := h.form hn
  simp only [Value.slice.injEq, Option.some.injEq, Addr.mk.injEq] at e
  obtain ⟨⟨rfl, -, -⟩, -, -⟩ := e
  exact bx.thaw i
theorem TaO.box {n0 : Nat} {W : World} {g c : Nat} {ts : List Tr} {n : Nat} (h : TaO n0 W (.slice (some ⟨g, 0, none⟩) n c) ts) (hn : 0 < ts.length) : n0 ≤ g ∧ ∃ cur, Box W g 36 cur := by
  obtain ⟨g', cap, cur, e, hb, bx, h1, h3, h4⟩ := h.form hn
  simp only [Value.slice.injEq, Option.some.injEq, Addr.mk.injEq] at e
  obtain ⟨⟨rfl, -, -⟩, -, -⟩ := e
  exact ⟨hb, cur, bx⟩
/-- A field of a thing of the table is stored. -/
theorem TaO.put {n0 : Nat} {W : World} {g c : Nat} {ts : List Tr} {n : Nat} (h : TaO n0 W (.slice (some ⟨g, 0, none⟩) n c) ts) {i : Nat} {t t' : Tr} (ht : ts[i]? = some t) (j : Nat) (hj : j < 8) (u : Value) (he : (Tr.cs t).setIfInBounds j u = Tr.cs t')
    (ho : ∀ W', ThO n0 W' t.1 t.2.1 t.2.2 → ThO n0 W' t'.1 t'.2.1 t'.2.2) (hq : t'.1.queue.length ≤ 3) : TaO n0 (W.setCell ⟨g, i * 8 + j, none⟩ u) (.slice (some ⟨g, 0, none⟩) n c) (ts.set i t') := by
  have hi : i < ts.length := (List.getElem?_eq_some_iff.1 ht).1
  obtain ⟨g', cap, cur, e, hb, bx, h1, h3, h4⟩ := h.form (by omega)
  simp only [Value.slice.injEq, Option.some.injEq, Addr.mk.injEq] at e
  obtain ⟨⟨rfl, -, -⟩, rfl, rfl⟩ := e
  have hm : c ≤ maxLen := by
    rcases h.1.2 with ⟨-, h0⟩ | ⟨g2, cap2, cur2, e2, _, _, _, h2, _⟩
    · omega
    · simp only [Value.slice.injEq] at e2; omega
  refine ⟨⟨by rw [trCells_len], .inr ⟨g, c, cur.setIfInBounds (i * 8 + j) u, by simp, hb, bx.put _ _, by simpa using h1, hm, by simpa using h3, ?_⟩⟩, fun x hx => ?_⟩
  · rw [← trCells_set ts i j t t' u ht hj he, ← h4]
    simp only [List.length_set, Array.toList_setIfInBounds]
    rw [List.take_set]
  · have hth : ∀ y ∈ ts, ThO n0 (W.setCell ⟨g, i * 8 + j, none⟩ u) y.1 y.2.1 y.2.2 := fun y hy => (h.2 y hy).1.put bx u
    rcases List.mem_or_eq_of_mem_set hx with hx | rfl
    · exact ⟨hth x hx, (h.2 x hx).2⟩
    · exact ⟨ho _ (hth t (List.mem_of_getElem? ht)), hq⟩
/-- A right is stored among the rights of the things. -/
theorem TaO.set5 {n0 : Nat} {W : World} {v : Value} {ts : List Tr} (h : TaO n0 W v ts) {b : Nat} {a1 a2 a3 a4 : R5} (bx : Box W b 38 (sl20 a1 a2 a3 a4)) (k : Nat) (hk : k < 4) (x : R5) :
    ∃ ts', ts'.length = ts.length ∧ (∀ i : Nat, ts'[i]?.map (fun t => t.2) = ts[i]?.map (fun t => t.2)) ∧ TaO n0 (Go.Proofs.YtjbhcbjokeaagaaDoor.set5 W b (k * 5) x) v ts' := by
  have key : ∀ us : List Tr, (∀ t ∈ us, ThO n0 W t.1 t.2.1 t.2.2 ∧ t.1.queue.length ≤ 3) → ∃ us' : List Tr, us'.length = us.length ∧ trCells us' = trCells us ∧ (∀ i : Nat, us'[i]?.map (fun t => t.2) = us[i]?.map (fun t => t.2)) ∧ ∀ t ∈ us', ThO n0 (Go.Proofs.YtjbhcbjokeaagaaDoor.set5 W b (k * 5) x) t.1 t.2.1 t.2.2 ∧ t.1.queue.length ≤ 3 := by
    intro us
    induction us with
    | nil => exact fun _ => ⟨[], rfl, rfl, fun i => rfl, fun t ht => by cases ht⟩
    | cons u us ih =>
      intro hu
      obtain ⟨us', l1, l2, l4, l3⟩ := ih (fun t ht => hu t (List.mem_cons_of_mem _ ht))
      obtain ⟨sl, -, hsl⟩ := (hu u List.mem_cons_self).1.set5 bx k hk x
      refine ⟨({ u.1 with slots := sl }, u.2) :: us', by simp [l1], ?_, fun i => ?_, fun t ht => ?_⟩
      · simp only [trCells, List.flatMap_cons] at l2 ⊢
        rw [l2]
      · cases i with
        | zero => simp
        | succ i => simpa using l4 i
      · rcases List.mem_cons.1 ht with rfl | ht
        · exact ⟨hsl, (hu u List.mem_cons_self).2⟩
        · exact l3 t ht
  obtain ⟨ts', l1, l2, l4, l3⟩ := key ts h.2
  refine ⟨ts', l1, l4, ⟨⟨by rw [l1, l2]; exact h.1.1, ?_⟩, l3⟩⟩
  rcases h.1.2 with ⟨e, h0⟩ | ⟨g, cap, cur, e, hb, hg, rest⟩
  · exact .inl ⟨e, by omega⟩
  · rw [l1, l2]
    exact .inr ⟨g, cap, cur, e, hb, set5_other (show Box W g 36 cur from hg) (Box.ne (show Box W g 36 cur from hg) bx (by decide)) x, rest⟩
/-- The table as it lies. -/
theorem TaO.hasT {n0 : Nat} {W : World} {s : Sl} {ts : List Tr} (h : TaO n0 W (.slice s.a s.n s.c) ts) : HasT W s (ts.map (·.1)) := by
  rcases h.1.2 with ⟨e, h0⟩ | ⟨g, cap, cur, e, hb, hg, h1, h2, h3, h4⟩
  · have : ts = [] := List.length_eq_zero_iff.1 h0
    subst this
    simp only [Value.slice.injEq] at e
    exact ⟨by simp [e.2.1], by omega, .inl rfl⟩
  · simp only [Value.slice.injEq] at e
    obtain ⟨e1, e2, e3⟩ := e
    refine ⟨by simp [e2], by omega, ?_⟩
    by_cases hn : ts = []
    · subst hn; exact .inl rfl
    · refine .inr ⟨g, 0, e1, fun i hi => ?_⟩
      have hi' : i < ts.length := by simpa using hi
      have ht : ts[i]? = some ts[i] := List.getElem?_eq_getElem hi'
      have hm := h.2 _ (List.getElem_mem hi')
      refine ⟨(ts[i]).2.1, (ts[i]).2.2, ?_, ?_, ?_⟩
      · simpa using hm.1.hasR'
      · simpa using hm.1.hasQ
      · have h' : TaO n0 W (.slice (some ⟨g, 0, none⟩) s.n s.c) ts := by rw [← e1]; exact h
        have := h'.at ht
        simpa using this
end Go.Proofs.YtjbhcbjokeaagaaDoor
