/-
  A table copied, thing by thing, each with rights and numbers of its own.
-/
import Derived.Test.YtjbhcbjokeaagaaDoorTaW
import Derived.Deep.Upon
namespace Go.Proofs.YtjbhcbjokeaagaaDoor
open Go.RowKit
set_option maxRecDepth 100000
set_option linter.unusedVariables false

theorem addr_add (b o j : Nat) : (⟨b, o, none⟩ : Addr).add j = ⟨b, o + j, none⟩ := by unfold Addr.add; split <;> simp_all
theorem ownsRow_sl {W : World} {n0 : Nat} {T : TypeId} {size : Nat} {v : Value} {n : Nat} {xs : List Value} (h : W.ownsRow n0 T size v n xs) : ∃ s : Sl, v = .slice s.a s.n s.c ∧ s.n = n := by
  rcases h.2 with ⟨e, h0⟩ | ⟨g, cap, cur, e, -⟩
  · exact ⟨⟨none, 0, 0⟩, e, h0.symm⟩
  · exact ⟨⟨some ⟨g, 0, none⟩, n, cap⟩, e, rfl⟩
/-- An empty row of one's own: no row at all, or one that was just made. -/
theorem OwnF.nil {α : Type} (f : α → Array Value) (n : Nat) (T : TypeId) (B : Nat) (W : World) : OwnF f n T B W ⟨none, 0, 0⟩ [] := ⟨rfl, by simp [flat], .inl ⟨rfl, rfl⟩⟩
theorem OwnF.made {α : Type} (f : α → Array Value) (n : Nat) (T : TypeId) (W : World) : OwnF f n T W.heap.size (W.alloc (.cells #[] T)) ⟨some ⟨W.heap.size, 0, none⟩, 0, 0⟩ [] :=
  ⟨rfl, by simp [flat], .inr ⟨W.heap.size, 0, #[], rfl, Nat.le_refl _, Box.fresh W T #[], Nat.le_refl _, Nat.zero_le _, by simp, by simp [flat]⟩⟩
theorem copy_row {α : Type} (f : α → Array Value) (T TS : TypeId) (size bytes : Nat) (z : Value) (hinfo : (Tryd.prog.info? T).map (fun i => (i.zero, i.size, i.bytes)) = some (some z, size, bytes)) (hu : Tryd.prog.underlying TS = some (.slice T)) (hzs : z.cells.size = size) (hsz : 0 < size) (hby : bytes ≤ 1000)
    (hf : ∀ x, (f x).size = size) (h1 : ∀ x, ∀ u ∈ (f x).toList, u.oneCell' = true) (B : Nat) (W : World) (v : Sl) (olds : List α) (hv : OwnF f size T B W v olds) (hB : B ≤ W.heap.size) (ho : olds.length ≤ 1048576) (s : Sl) (l : List α) (h : Els W s size (l.map f)) (hl : l.length ≤ 1048576) (ty : TypeId) :
    ∃ (s' : Sl) (W' : World), (Builtin.append_ #[TS, TS] ty #[.slice v.a v.n v.c, .slice s.a s.n s.c]).run Tryd.prog W = .ok (.slice s'.a s'.n s'.c) W' ∧ OwnF f size T B W' s' (olds ++ l) ∧ Below B W W' ∧ W.heap.size ≤ W'.heap.size ∧ ∀ b T' cs, T' ≠ T → Box W b T' cs → Box W' b T' cs := by
  obtain ⟨i0, hi, hz0, hz1, hz2⟩ : ∃ i, Tryd.prog.info? T = some i ∧ i.zero = some z ∧ i.size = size ∧ i.bytes = bytes := by
    cases hq : Tryd.prog.info? T with
    | none => simp [hq] at hinfo
    | some i => simp [hq] at hinfo; exact ⟨i, rfl, hinfo⟩
  have hsn : s.n = l.length := by rw [h.1]; simp
  have hlen : (flat f l).length = s.n * size := by rw [flat_len hf, hsn]
  have hvn : v.n ≤ v.c := by
    rcases hv.2.2 with ⟨e, h0⟩ | ⟨g, cap, cur, e, hb, hg, h1, h2, h3, h4⟩
    · have := hv.1; omega
    · simp only [Value.slice.injEq] at e; have := hv.1; omega
  cases hsa : s.a with
  | none =>
    have hl0 : l = [] := by
      rcases h.2.2 with h0 | ⟨b, o, e, -⟩
      · simpa using h0
      · rw [hsa] at e; cases e
    subst hl0
    have hn0 : s.n = 0 := by simpa using hsn
    rw [hn0, List.append_nil]
    exact ⟨v, W, run_append_nothing (P := Tryd.prog) W TS TS ty T i0 hu hi v.a v.n v.c hvn _ (Src.ofNil W hu s.c), hv, Below.refl _ _, Nat.le_refl _, fun b T' cs _ bx => bx⟩
  | some a =>
    have hnews : ∀ j u, (flat f l)[j]? = some u → W.cell? (a.add j) = some u := by
      intro j u hj
      have hj' : j < l.length * size := by have := (List.getElem?_eq_some_iff.1 hj).1; rwa [flat_len hf] at this
      have hne : l ≠ [] := fun e => by subst e; simp at hj'
      rcases h.2.2 with h0 | ⟨b, o, e, hat⟩
      · exact absurd (by simpa using h0) hne
      rw [hsa] at e
      cases e
      have hi' : j / size < l.length := Nat.div_lt_of_lt_mul (by rw [Nat.mul_comm]; exact hj')
      have hm := Nat.mod_lt j hsz
      have hd : j / size * size + j % size = j := by rw [Nat.mul_comm]; exact Nat.div_add_mod j size
      have hg := flat_get hf l (j / size) (j % size) _ (List.getElem?_eq_getElem hi') hm
      rw [hd, hj] at hg
      have := hat (j / size) (f l[j / size]) (by simp [List.getElem?_eq_getElem hi']) (j % size) u hg.symm
      rw [addr_add, ← hd, ← Nat.add_assoc]
      exact this
    obtain ⟨v', w', hr, h2, h3, -⟩ := run_append_own (P := Tryd.prog) W B TS ty T i0 z size bytes hu hi hz0 hz1 hz2 hzs hsz
      (.slice v.a v.n v.c) olds.length (flat f olds) hv.2 a s.n s.c (flat f l) hlen hnews
      (fun u hu => by
        simp only [flat, List.mem_flatMap] at hu
        obtain ⟨x, -, hx⟩ := hu
        exact h1 x u hx) (by simp only [maxLen]; omega) (by
          have : (olds.length + s.n) * bytes ≤ 2097152 * 1000 := Nat.mul_le_mul (by omega) hby
          omega) hB
    obtain ⟨s', rfl, hs'⟩ := ownsRow_sl h2
    have hob : ∀ b, b < B → some b ≠ (Value.slice v.a v.n v.c).ownBlock := by
      intro b hb e
      rcases hv.2.2 with ⟨e1, -⟩ | ⟨g1, c1, cur, e1, hb1, -⟩
      · rw [e1] at e; cases e
      · rw [e1] at e; simp [Value.ownBlock] at e; omega
    have hty : ∀ b T' cs, T' ≠ T → Box W b T' cs → some b ≠ (Value.slice v.a v.n v.c).ownBlock := by
      intro b T' cs hT hb e
      rcases hv.2.2 with ⟨e1, -⟩ | ⟨g1, c1, cur, e1, hb1, hg1, -⟩
      · rw [e1] at e; cases e
      · rw [e1] at e
        simp [Value.ownBlock] at e
        subst e
        unfold Box at hb
        rw [hg1] at hb
        cases hb
        exact hT rfl
    refine ⟨s', w', by rw [← hsa] at hr; simpa [hsa] using hr, ⟨by rw [hs', List.length_append, hsn], ?_⟩, ?_, h3.size, fun b T' cs hT hb => (h3.block b hb.lt (hty b T' cs hT hb)).trans hb⟩
    · rw [List.length_append, flat_app, ← hsn]
      exact h2
    · exact ⟨h3.os, h3.tape, h3.output, h3.size, fun k hk => h3.block k (by omega) (hob k hk)⟩
theorem infoR3 : (Tryd.prog.info? 38).map (fun i => (i.zero, i.size, i.bytes)) = some (some (rgt 0 0 false false false), 5, 24) := by kernel_rfl
theorem oneR (x : R5) : ∀ u ∈ (R5.cs x).toList, u.oneCell' = true := by intro u hu; simp at hu; rcases hu with rfl | rfl | rfl | rfl | rfl <;> rfl
theorem oneQ (x : Int) : ∀ u ∈ (qC x).toList, u.oneCell' = true := by intro u hu; simp at hu; subst hu; rfl
theorem oneT (x : Tr) : ∀ u ∈ (Tr.cs x).toList, u.oneCell' = true := by intro u hu; simp at hu; rcases hu with rfl | rfl | rfl | rfl | rfl | rfl | rfl | rfl <;> rfl
/-- Rights, numbers copied behind an own row. -/
theorem copyR (B : Nat) (W : World) (v : Sl) (olds : List R5) (hv : OwnF R5.cs 5 38 B W v olds) (hB : B ≤ W.heap.size) (ho : olds.length ≤ 1048576) (s : Sl) (l : List R5) (h : HasR W s l) (hl : l.length ≤ 1048576) (ty : TypeId) :
    ∃ (s' : Sl) (W' : World), (Builtin.append_ #[33, 33] ty #[.slice v.a v.n v.c, .slice s.a s.n s.c]).run Tryd.prog W = .ok (.slice s'.a s'.n s'.c) W' ∧ OwnF R5.cs 5 38 B W' s' (olds ++ l) ∧ Below B W W' ∧ W.heap.size ≤ W'.heap.size ∧ ∀ b T' cs, T' ≠ 38 → Box W b T' cs → Box W' b T' cs :=
  copy_row R5.cs _ _ 5 24 _ infoR3 Tryd.underlying33 rfl (by decide) (by decide) szR oneR B W v olds hv hB ho s l h hl ty
theorem copyQ (B : Nat) (W : World) (v : Sl) (olds : List Int) (hv : OwnF qC 1 3 B W v olds) (hB : B ≤ W.heap.size) (ho : olds.length ≤ 1048576) (s : Sl) (l : List Int) (h : HasQ W s l) (hl : l.length ≤ 1048576) (ty : TypeId) :
    ∃ (s' : Sl) (W' : World), (Builtin.append_ #[34, 34] ty #[.slice v.a v.n v.c, .slice s.a s.n s.c]).run Tryd.prog W = .ok (.slice s'.a s'.n s'.c) W' ∧ OwnF qC 1 3 B W' s' (olds ++ l) ∧ Below B W W' ∧ W.heap.size ≤ W'.heap.size ∧ ∀ b T' cs, T' ≠ 3 → Box W b T' cs → Box W' b T' cs :=
  copy_row qC _ _ 1 8 _ infoI Tryd.underlying34 rfl (by decide) (by decide) szQ oneQ B W v olds hv hB ho s l h hl ty
/-- A thing more behind an own table: the literal of one. -/
theorem moreT (n0 : Nat) (W : World) (v : Sl) (ts : List Tr) (h : TaW n0 W v ts) (hn : n0 ≤ W.heap.size) (hl : ts.length ≤ 1000) (t : Tr) (ht : ThW n0 W t) (ha : ∀ (j : Nat) b, ts[j]? = some b → ApartT t b) (ty : TypeId) :
    ∃ (s' : Sl) (W' : World), (Builtin.append_ #[23, 23] ty #[.slice v.a v.n v.c, .slice (some ⟨W.heap.size, 0, none⟩) 1 1]).run Tryd.prog (W.alloc (.cells (Tr.cs t) 36)) = .ok (.slice s'.a s'.n s'.c) W' ∧ TaW n0 W' s' (ts ++ [t]) ∧ Below n0 W W' ∧ W.heap.size ≤ W'.heap.size ∧ ∀ b T' cs, T' ≠ 36 → Box W b T' cs → Box W' b T' cs := by
  have h1 : Els (W.alloc (.cells (Tr.cs t) 36)) ⟨some ⟨W.heap.size, 0, none⟩, 1, 1⟩ 8 ([t].map Tr.cs) := by
    refine ⟨rfl, Nat.le_refl _, .inr ⟨W.heap.size, 0, rfl, fun i x hx j u hj => ?_⟩⟩
    have hi : i = 0 := by have := (List.getElem?_eq_some_iff.1 hx).1; simp at this; omega
    subst hi
    simp at hx
    subst hx
    have := (Box.fresh W 36 (Tr.cs t)).cell j u hj
    simpa using this
  have hb0 : Below W.heap.size W (W.alloc (.cells (Tr.cs t) 36)) := (Below.refl _ _).alloc (Nat.le_refl _) _
  obtain ⟨s', W', hr, ho, hb, hs, hk⟩ := copy_row Tr.cs _ _ 8 96 _ infoTh Tryd.underlying23 rfl (by decide) (by decide) szT oneT n0 (W.alloc (.cells (Tr.cs t) 36)) v ts (h.1.stay hb0) (by simp; omega) (by omega) ⟨some ⟨W.heap.size, 0, none⟩, 1, 1⟩ [t] h1 (by simp) ty
  have kp : ∀ y : Tr, ThW n0 W y → ThW n0 W' y := fun y hy => hy.keep (fun b T cs hT _ bx => hk b T cs hT.neT (bx.past _)) (fun b T cs hT _ bx => hk b T cs hT.neT (bx.past _))
  refine ⟨s', W', hr, ⟨ho, fun y hy => ?_, fun i j a b hi hj hn => ?_⟩, ⟨hb.os, hb.tape, hb.output, by have := hb.size; simp at this; omega, fun k hk' => (hb.block k hk').trans (Below.heap_alloc W _ k (by omega))⟩, by simp at hs; omega, fun b T' cs hT bx => hk b T' cs hT (bx.past _)⟩
  · rcases List.mem_append.1 hy with hy | hy
    · exact kp y (h.2.1 y hy)
    · simp at hy; subst hy; exact kp _ ht
  · rw [List.getElem?_append] at hi hj
    split at hi
    · split at hj
      · exact h.2.2 i j a b hi hj hn
      · rename_i h2 h3
        have e : j - ts.length = 0 := by have := (List.getElem?_eq_some_iff.1 hj).1; simp at this; omega
        rw [e] at hj; simp at hj; subst hj
        exact (ha i a hi).symm
    · split at hj
      · rename_i h2 h3
        have e : i - ts.length = 0 := by have := (List.getElem?_eq_some_iff.1 hi).1; simp at this; omega
        rw [e] at hi; simp at hi; subst hi
        exact ha j b hj
      · have e1 : i - ts.length = 0 := by have := (List.getElem?_eq_some_iff.1 hi).1; simp at this; omega
        have e2 : j - ts.length = 0 := by have := (List.getElem?_eq_some_iff.1 hj).1; simp at this; omega
        omega
end Go.Proofs.YtjbhcbjokeaagaaDoor
