/-
  A table copied as it is: its things in a row of their own, with the rights and numbers of the elder one.
-/
import Derived.Test.YtjbhcbjokeaagaaDoorCpW
namespace Go.Proofs.YtjbhcbjokeaagaaDoor
open Go.RowKit
set_option maxRecDepth 100000
set_option linter.unusedVariables false

/-- Rights and numbers of a thing, wherever they lie. -/
def ThH (W : World) (t : Tr) : Prop := HasR W t.2.1 t.1.slots ∧ HasQ W t.2.2 t.1.queue
theorem ThH.stay {W W' : World} {t : Tr} (h : ThH W t) (hb : Below W.heap.size W W') : ThH W' t := ⟨h.1.stay hb, h.2.stay hb⟩
theorem ThW.thH {n0 : Nat} {W : World} {t : Tr} (h : ThW n0 W t) : ThH W t := ⟨OwnR.has h.1, OwnQ.has h.2⟩
/-- The things of a table, with their slices. -/
theorem HasT.rows {w : World} {s : Sl} {l : List T8} (h : HasT w s l) : ∃ ts : List Tr, ts.map (·.1) = l ∧ Els w s 8 (ts.map Tr.cs) ∧ ∀ t ∈ ts, ThH w t := by
  obtain ⟨h1, h2, h3⟩ := h
  rcases h3 with rfl | ⟨b, o, e, hT⟩
  · exact ⟨[], rfl, ⟨h1, h2, .inl rfl⟩, fun t ht => by (cases ht)⟩
  · have hp : ∀ i : Fin l.length, ∃ p : Sl × Sl, HasR w p.1 l[i].slots ∧ HasQ w p.2 l[i].queue ∧ At w b (o + i * 8) (l[i].cs p.1 p.2) := fun i => by
      obtain ⟨ss, qs, a1, a2, a3⟩ := hT i i.2
      exact ⟨(ss, qs), a1, a2, a3⟩
    refine ⟨List.ofFn fun i : Fin l.length => (l[i], Classical.choose (hp i)), ?_, ⟨by simpa using h1, h2, .inr ⟨b, o, e, fun i x hx => ?_⟩⟩, fun t ht => ?_⟩
    · apply List.ext_getElem
      · simp
      · intro i h1 h2; simp
    · simp only [List.getElem?_map, Option.map_eq_some_iff] at hx
      obtain ⟨y, hy, rfl⟩ := hx
      rw [List.getElem?_ofFn] at hy
      split at hy
      · rename_i hi
        cases hy
        exact (Classical.choose_spec (hp ⟨i, hi⟩)).2.2
      · cases hy
    · obtain ⟨i, hi⟩ := List.getElem?_of_mem ht
      rw [List.getElem?_ofFn] at hi
      split at hi
      · rename_i hi'
        cases hi
        exact ⟨(Classical.choose_spec (hp ⟨i, hi'⟩)).1, (Classical.choose_spec (hp ⟨i, hi'⟩)).2.1⟩
      · cases hi
theorem hasT_of {n0 : Nat} {W : World} {s : Sl} {ts : List Tr} (h : OwnF Tr.cs 8 36 n0 W s ts) (hr : ∀ t ∈ ts, ThH W t) : HasT W s (ts.map (·.1)) := by
  obtain ⟨e1, e2, e3⟩ := h.els szT
  refine ⟨by rw [e1]; simp, e2, ?_⟩
  by_cases hl : ts = []
  · subst hl; exact .inl rfl
  · obtain ⟨g, cur, e, -⟩ := h.form (List.length_pos_iff.2 hl)
    refine .inr ⟨g, 0, e, fun i hi => ?_⟩
    have hi' : i < ts.length := by simpa using hi
    have ht : ts[i]? = some ts[i] := List.getElem?_eq_getElem hi'
    have hm := hr _ (List.getElem_mem hi')
    refine ⟨(ts[i]).2.1, (ts[i]).2.2, ?_, ?_, ?_⟩
    · simpa using hm.1
    · simpa using hm.2
    · have := h.at szT e ht
      simpa using this
/-- append([]Thing{}, t...). -/
theorem copyT (W : World) (s : Sl) (l : List T8) (h : HasT W s l) (hz : l.length ≤ 1048576) (ty : TypeId) :
    ∃ (ts : List Tr) (s' : Sl) (W' : World), ts.map (·.1) = l ∧ (∀ t ∈ ts, ThH W t) ∧ Els W s 8 (ts.map Tr.cs) ∧
      (Builtin.append_ #[23, 23] ty #[.slice (some ⟨W.heap.size, 0, none⟩) 0 0, .slice s.a s.n s.c]).run Tryd.prog (W.alloc (.cells #[] 36)) = .ok (.slice s'.a s'.n s'.c) W' ∧
      OwnF Tr.cs 8 36 W.heap.size W' s' ts ∧ Below W.heap.size W W' := by
  obtain ⟨ts, h1, h2, h3⟩ := h.rows
  have hb0 : Below W.heap.size W (W.alloc (.cells #[] 36)) := (Below.refl _ _).alloc (Nat.le_refl _) _
  have hl : ts.length ≤ 1048576 := by have := congrArg List.length h1; simp at this; omega
  obtain ⟨s', W', hr, ho, hb, -, -⟩ := copy_row Tr.cs _ _ 8 96 _ infoTh Tryd.underlying23 rfl (by decide) (by decide) szT oneT W.heap.size (W.alloc (.cells #[] 36)) ⟨some ⟨W.heap.size, 0, none⟩, 0, 0⟩ [] (OwnF.made _ _ _ W) (by simp) (by simp) s ts (h2.stay hb0) hl ty
  exact ⟨ts, s', W', h1, h3, h2, hr, by simpa using ho, hb0.trans hb⟩
theorem els_at {w : World} {g n c : Nat} {ts : List Tr} (h : Els w ⟨some ⟨g, 0, none⟩, n, c⟩ 8 (ts.map Tr.cs)) {i : Nat} {t : Tr} (ht : ts[i]? = some t) : At w g (i * 8) (Tr.cs t) := by
  rcases h.2.2 with h0 | ⟨b, o, e, hat⟩
  · simp at h0; subst h0; simp at ht
  · simp only [Option.some.injEq, Addr.mk.injEq] at e
    obtain ⟨rfl, rfl, -⟩ := e
    have := hat i (Tr.cs t) (by simp [ht])
    simpa using this
theorem row_get {ts : List Tr} {l : List T8} (h : ts.map (·.1) = l) {j : Nat} (hj : j < l.length) : ∃ t, ts[j]? = some t ∧ t.1 = l[j] := by
  have hl : ts.length = l.length := by rw [← h]; simp
  refine ⟨ts[j]'(by omega), List.getElem?_eq_getElem (by omega), ?_⟩
  subst h
  simp
theorem map_set1 {ts : List Tr} {l : List T8} (h : ts.map (·.1) = l) (j : Nat) (t : Tr) : (ts.set j t).map (·.1) = l.set j t.1 := by rw [List.map_set, h]
theorem flat_map {α : Type} (f : α → Array Value) (l : List α) : flat f l = (l.map f).flatMap Array.toList := by simp [flat, List.flatMap_map]
theorem OwnF.like {α : Type} {f : α → Array Value} {n : Nat} {T : TypeId} {n0 : Nat} {W : World} {s : Sl} {l l' : List α} (h : OwnF f n T n0 W s l) (e : l'.map f = l.map f) : OwnF f n T n0 W s l' := by
  have hl : l'.length = l.length := by have := congrArg List.length e; simpa using this
  have hf : flat f l' = flat f l := by rw [flat_map, flat_map, e]
  unfold OwnF at h ⊢
  rw [hl, hf]
  exact h
/-- A right is stored in slots of one's own, in a table copied as it is. -/
theorem slot_stored {y V : World} {n0 : Nat} {ts : List Tr} {l : List T8} {sx s2 : Sl} {jr b2 ja : Nat} {t : Tr} (hts : ts.map (·.1) = l) (hth : ∀ t ∈ ts, ThH y t) (htj : ts[jr]? = some t) (hjr : jr < l.length)
    (ow : OwnF Tr.cs 8 36 n0 V sx (ts.set jr (t.1, s2, t.2.2))) (row : OwnR n0 V s2 t.1.slots) (hb2 : s2.a = some ⟨b2, 0, none⟩) (hja : ja < t.1.slots.length) (hn0 : y.heap.size ≤ n0) (bV : Below y.heap.size y V) (v : R5) :
    HasT (set5 V b2 (ja * 5) v) sx (l.set jr { l[jr] with slots := (l[jr]).slots.set ja v }) ∧ Below y.heap.size y (set5 V b2 (ja * 5) v) := by
  have hne : t.1.slots ≠ [] := fun e => by rw [e] at hja; simp at hja
  obtain ⟨b', TB, cur, hTB, e', hb', bx, -⟩ := row.form hne
  rw [hb2] at e'
  cases e'
  have bF : Below y.heap.size y (set5 V b2 (ja * 5) v) := bV.trans ((set5_below hb' v).mono hn0)
  refine ⟨?_, bF⟩
  have het : t.1 = l[jr] := by
    obtain ⟨t', h1, h2⟩ := row_get hts hjr
    rw [htj] at h1; cases h1; exact h2
  have e1 : (ts.set jr ({ t.1 with slots := t.1.slots.set ja v }, s2, t.2.2)).map (·.1) = l.set jr { l[jr] with slots := (l[jr]).slots.set ja v } := by
    rw [map_set1 hts]; dsimp only; rw [het]
  rw [← e1]
  refine hasT_of (n0 := n0) (OwnF.like (l := ts.set jr (t.1, s2, t.2.2)) (ow.keep fun b cs _ _ kx => set5_other kx (Box.ne kx bx hTB.neT.symm) v) (by rw [List.map_set, List.map_set])) fun x hx => ?_
  rcases List.mem_or_eq_of_mem_set hx with hx | rfl
  · exact (hth x hx).stay bF
  · refine ⟨?_, ((hth t (List.mem_of_getElem? htj)).stay bF).2⟩
    have := row.lay szR hb2 (List.getElem?_eq_getElem hja) v
    rw [← set5_lay] at this
    exact OwnR.has this
end Go.Proofs.YtjbhcbjokeaagaaDoor
