/-
  append(append([]Thing{}, t...), n), whichever way its parts come up.
-/
import Derived.Test.YtpahahonopiblaaDoorTaM
namespace Go.Proofs.YtpahahonopiblaaDoor
open Go.RowKit
set_option linter.unusedVariables false

theorem copy_rowB {α : Type} (f : α → Array Value) (T TS : TypeId) (size bytes : Nat) (z : Value) (hinfo : (Tryd.prog.info? T).map (fun i => (i.zero, i.size, i.bytes)) = some (some z, size, bytes)) (hu : Tryd.prog.underlying TS = some (.slice T)) (hzs : z.cells.size = size) (hsz : 0 < size) (hby : bytes ≤ 1000)
    (hf : ∀ x, (f x).size = size) (h1 : ∀ x, ∀ u ∈ (f x).toList, u.oneCell' = true) (B : Nat) (W : World) (v : Sl) (olds : List α) (hv : OwnF f size T B W v olds) (hB : B ≤ W.heap.size) (ho : olds.length ≤ 1048576) (s : Sl) (l : List α) (h : Els W s size (l.map f)) (hl : l.length ≤ 1048576) (ty : TypeId) :
    ∃ (s' : Sl) (W' : World), (Builtin.append_ #[TS, TS] ty #[.slice v.a v.n v.c, .slice s.a s.n s.c]).run Tryd.prog W = .ok (.slice s'.a s'.n s'.c) W' ∧ OwnF f size T B W' s' (olds ++ l) ∧ Below B W W' ∧ W.heap.size ≤ W'.heap.size ∧ ∀ b T' cs, (∀ g o, v.a = some ⟨g, o, none⟩ → g ≠ b) → Box W b T' cs → Box W' b T' cs := by
  obtain ⟨i0, hi, hz0, hz1, hz2⟩ : ∃ i, Tryd.prog.info? T = some i ∧ i.zero = some z ∧ i.size = size ∧ i.bytes = bytes := by
    cases hq : Tryd.prog.info? T with
    | none => simp [hq] at hinfo
    | some i => simp [hq] at hinfo; exact ⟨i, rfl, hinfo⟩
  have hsn : s.n = l.length := by rw [h.1]; simp
  have hlen : (flat f l).length = s.n * size := by rw [flat_len hf, hsn]
  have hvn : v.n ≤ v.c := by
    rcases hv.2.2 with ⟨e, h0⟩ | ⟨g, cap, cur, e, hb, hg, h1, h2, h3, h4⟩
    · have := hv.1; omega
    · simp only [Value.slice.injEq] at e; have := hv.1; omega
  cases hsa : s.a with
  | none =>
    have hl0 : l = [] := by
      rcases h.2.2 with h0 | ⟨b, o, e, -⟩
      · simpa using h0
      · rw [hsa] at e; cases e
    subst hl0
    have hn0 : s.n = 0 := by simpa using hsn
    rw [hn0, List.append_nil]
    exact ⟨v, W, run_append_nothing (P := Tryd.prog) W TS TS ty T i0 hu hi v.a v.n v.c hvn _ (Src.ofNil W hu s.c), hv, Below.refl _ _, Nat.le_refl _, fun b T' cs _ bx => bx⟩
  | some a =>
    have hnews : ∀ j u, (flat f l)[j]? = some u → W.cell? (a.add j) = some u := by
      intro j u hj
      have hj' : j < l.length * size := by have := (List.getElem?_eq_some_iff.1 hj).1; rwa [flat_len hf] at this
      have hne : l ≠ [] := fun e => by subst e; simp at hj'
      rcases h.2.2 with h0 | ⟨b, o, e, hat⟩
      · exact absurd (by simpa using h0) hne
      rw [hsa] at e
      cases e
      have hi' : j / size < l.length := Nat.div_lt_of_lt_mul (by rw [Nat.mul_comm]; exact hj')
      have hm := Nat.mod_lt j hsz
      have hd : j / size * size + j % size = j := by rw [Nat.mul_comm]; exact Nat.div_add_mod j size
      have hg := flat_get hf l (j / size) (j % size) _ (List.getElem?_eq_getElem hi') hm
      rw [hd, hj] at hg
      have := hat (j / size) (f l[j / size]) (by simp [List.getElem?_eq_getElem hi']) (j % size) u hg.symm
      rw [addr_add, ← hd, ← Nat.add_assoc]
      exact this
    obtain ⟨v', w', hr, h2, h3, -⟩ := run_append_own (P := Tryd.prog) W B TS ty T i0 z size bytes hu hi hz0 hz1 hz2 hzs hsz
      (.slice v.a v.n v.c) olds.length (flat f olds) hv.2 a s.n s.c (flat f l) hlen hnews
      (fun u hu => by
        simp only [flat, List.mem_flatMap] at hu
        obtain ⟨x, -, hx⟩ := hu
        exact h1 x u hx) (by simp only [maxLen]; omega) (by
          have : (olds.length + s.n) * bytes ≤ 2097152 * 1000 := Nat.mul_le_mul (by omega) hby
          omega) hB
    obtain ⟨s', rfl, hs'⟩ := ownsRow_sl h2
    have hob : ∀ b, b < B → some b ≠ (Value.slice v.a v.n v.c).ownBlock := by
      intro b hb e
      rcases hv.2.2 with ⟨e1, -⟩ | ⟨g1, c1, cur, e1, hb1, -⟩
      · rw [e1] at e; cases e
      · rw [e1] at e; simp [Value.ownBlock] at e; omega
    have hty : ∀ b T' cs, (∀ g o, v.a = some ⟨g, o, none⟩ → g ≠ b) → Box W b T' cs → some b ≠ (Value.slice v.a v.n v.c).ownBlock := by
      intro b T' cs hT hb e
      rcases hv.2.2 with ⟨e1, -⟩ | ⟨g1, c1, cur, e1, hb1, hg1, -⟩
      · rw [e1] at e; cases e
      · rw [e1] at e
        simp [Value.ownBlock] at e
        simp only [Value.slice.injEq] at e1
        exact hT g1 0 e1.1 e.symm
    refine ⟨s', w', by rw [← hsa] at hr; simpa [hsa] using hr, ⟨by rw [hs', List.length_append, hsn], ?_⟩, ?_, h3.size, fun b T' cs hT hb => (h3.block b hb.lt (hty b T' cs hT hb)).trans hb⟩
    · rw [List.length_append, flat_app, ← hsn]
      exact h2
    · exact ⟨h3.os, h3.tape, h3.output, h3.size, fun k hk => h3.block k (by omega) (hob k hk)⟩
theorem one_els {W : World} {b : Nat} {t : Tr} (hb : Box W b 37 (Tr.cs t)) : Els W ⟨some ⟨b, 0, none⟩, 1, 1⟩ 8 ([t].map Tr.cs) := by
  refine ⟨rfl, Nat.le_refl _, .inr ⟨b, 0, rfl, fun i x hx j u hj => ?_⟩⟩
  have hi : i = 0 := by have := (List.getElem?_eq_some_iff.1 hx).1; simp at this; omega
  subst hi
  simp at hx
  subst hx
  have := hb.cell j u hj
  simpa using this
theorem app_one (n0 : Nat) (W : World) (v : Sl) (ts : List Tr) (hv : OwnF Tr.cs 8 37 n0 W v ts) (hn : n0 ≤ W.heap.size) (hl : ts.length ≤ 1048576) (b : Nat) (t : Tr) (hb : Box W b 37 (Tr.cs t)) (ty : TypeId) :
    ∃ (s' : Sl) (W' : World), (Builtin.append_ #[25, 25] ty #[.slice v.a v.n v.c, .slice (some ⟨b, 0, none⟩) 1 1]).run Tryd.prog W = .ok (.slice s'.a s'.n s'.c) W' ∧ OwnF Tr.cs 8 37 n0 W' s' (ts ++ [t]) ∧ Below n0 W W' := by
  obtain ⟨s', W', hr, ho, hw, -, -⟩ := copy_row Tr.cs _ _ 8 96 _ infoTh Tryd.underlying25 rfl (by decide) (by decide) szT oneT n0 W v ts hv hn hl ⟨some ⟨b, 0, none⟩, 1, 1⟩ [t] (one_els hb) (by simp) ty
  exact ⟨s', W', hr, ho, hw⟩
/-- What the whole leaves. -/
def AppP (V : World) (l : List T8) (t : Tr) (s2 : Sl) (W2 : World) : Prop := HasT W2 s2 (l ++ [t.1]) ∧ Below V.heap.size V W2
theorem appP_of {V W2 : World} {l : List T8} {t : Tr} {s2 : Sl} {ts : List Tr} (h1 : ts.map (·.1) = l) (h2 : ∀ t ∈ ts, ThH V t) (ht : ThH V t) (ho : OwnF Tr.cs 8 37 V.heap.size W2 s2 (ts ++ [t])) (hb : Below V.heap.size V W2) : AppP V l t s2 W2 := by
  refine ⟨?_, hb⟩
  have := hasT_of ho (fun u hu => by
    rcases List.mem_append.1 hu with hu | hu
    · exact (h2 u hu).stay hb
    · simp at hu; subst hu; exact ht.stay hb)
  rw [List.map_append, h1] at this
  exact this
section
variable (V : World) (s : Sl) (l : List T8) (hT : HasT V s l) (hz : l.length ≤ 1000) (t : Tr) (ht : ThH V t) (ty ty2 : TypeId)
include hT hz ht
theorem ord1 : ∃ (s1 : Sl) (W1 : World) (s2 : Sl) (W2 : World), (Builtin.append_ #[25, 25] ty #[.slice (some ⟨V.heap.size, 0, none⟩) 0 0, .slice s.a s.n s.c]).run Tryd.prog (V.alloc (.cells #[] 37)) = .ok (.slice s1.a s1.n s1.c) W1 ∧
    (Builtin.append_ #[25, 25] ty2 #[.slice s1.a s1.n s1.c, .slice (some ⟨W1.heap.size, 0, none⟩) 1 1]).run Tryd.prog (W1.alloc (.cells (Tr.cs t) 37)) = .ok (.slice s2.a s2.n s2.c) W2 ∧ Below V.heap.size V W1 ∧ AppP V l t s2 W2 := by
  obtain ⟨ts, s1, W1, h1, h2, -, hr1, ho1, hb1⟩ := copyT V s l hT (by omega) ty
  have hb1' : Below V.heap.size W1 (W1.alloc (.cells (Tr.cs t) 37)) := ((Below.refl _ _).alloc (Nat.le_refl _) _).mono hb1.size
  obtain ⟨s2, W2, hr2, ho2, hb2⟩ := app_one V.heap.size (W1.alloc (.cells (Tr.cs t) 37)) s1 ts (ho1.stay ((Below.refl _ _).alloc (Nat.le_refl _) _)) (by have := hb1.size; simp; omega) (by have := congrArg List.length h1; simp at this; omega) W1.heap.size t (Box.fresh _ _ _) ty2
  exact ⟨s1, W1, s2, W2, hr1, hr2, hb1, appP_of h1 h2 ht ho2 ((hb1.trans hb1').trans hb2)⟩
theorem ord2 : ∃ (s1 : Sl) (W1 : World) (s2 : Sl) (W2 : World), (Builtin.append_ #[25, 25] ty #[.slice (some ⟨V.heap.size, 0, none⟩) 0 0, .slice s.a s.n s.c]).run Tryd.prog ((V.alloc (.cells #[] 37)).alloc (.cells (Tr.cs t) 37)) = .ok (.slice s1.a s1.n s1.c) W1 ∧
    (Builtin.append_ #[25, 25] ty2 #[.slice s1.a s1.n s1.c, .slice (some ⟨V.heap.size + 1, 0, none⟩) 1 1]).run Tryd.prog W1 = .ok (.slice s2.a s2.n s2.c) W2 ∧ Below V.heap.size V W1 ∧ AppP V l t s2 W2 := by
  obtain ⟨ts, h1, h3, h2⟩ := hT.rows
  have hbA : Below V.heap.size V ((V.alloc (.cells #[] 37)).alloc (.cells (Tr.cs t) 37)) := ((Below.refl _ _).alloc (Nat.le_refl _) _).alloc (by simp) _
  have hl : ts.length ≤ 1000 := by have := congrArg List.length h1; simp at this; omega
  obtain ⟨s1, W1, hr1, ho1, hb1, hs1, hk1⟩ := copy_rowB Tr.cs _ _ 8 96 _ infoTh Tryd.underlying25 rfl (by decide) (by decide) szT oneT V.heap.size ((V.alloc (.cells #[] 37)).alloc (.cells (Tr.cs t) 37)) ⟨some ⟨V.heap.size, 0, none⟩, 0, 0⟩ [] ((OwnF.made Tr.cs 8 37 V).stay ((Below.refl _ _).alloc (Nat.le_refl _) _)) (by simp; omega) (by simp) s ts (h3.stay hbA) (by omega) ty
  rw [List.nil_append] at ho1
  have bt : Box ((V.alloc (.cells #[] 37)).alloc (.cells (Tr.cs t) 37)) (V.heap.size + 1) 37 (Tr.cs t) := by
    have := Box.fresh (V.alloc (.cells #[] 37)) 37 (Tr.cs t)
    simpa using this
  have bt1 := hk1 (V.heap.size + 1) _ _ (fun g o e => by cases e; omega) bt
  obtain ⟨s2, W2, hr2, ho2, hb2⟩ := app_one V.heap.size W1 s1 ts ho1 (by simp at hs1; omega) (by omega) (V.heap.size + 1) t bt1 ty2
  exact ⟨s1, W1, s2, W2, hr1, hr2, hbA.trans hb1, appP_of h1 h2 ht ho2 ((hbA.trans hb1).trans hb2)⟩
theorem ord3 : ∃ (s1 : Sl) (W1 : World) (s2 : Sl) (W2 : World), (Builtin.append_ #[25, 25] ty #[.slice (some ⟨V.heap.size + 1, 0, none⟩) 0 0, .slice s.a s.n s.c]).run Tryd.prog ((V.alloc (.cells (Tr.cs t) 37)).alloc (.cells #[] 37)) = .ok (.slice s1.a s1.n s1.c) W1 ∧
    (Builtin.append_ #[25, 25] ty2 #[.slice s1.a s1.n s1.c, .slice (some ⟨V.heap.size, 0, none⟩) 1 1]).run Tryd.prog W1 = .ok (.slice s2.a s2.n s2.c) W2 ∧ Below V.heap.size V W1 ∧ AppP V l t s2 W2 := by
  obtain ⟨ts, h1, h3, h2⟩ := hT.rows
  have hbA : Below V.heap.size V ((V.alloc (.cells (Tr.cs t) 37)).alloc (.cells #[] 37)) := ((Below.refl _ _).alloc (Nat.le_refl _) _).alloc (by simp) _
  have hl : ts.length ≤ 1000 := by have := congrArg List.length h1; simp at this; omega
  have om : OwnF Tr.cs 8 37 V.heap.size ((V.alloc (.cells (Tr.cs t) 37)).alloc (.cells #[] 37)) ⟨some ⟨V.heap.size + 1, 0, none⟩, 0, 0⟩ [] := by
    have := (OwnF.made Tr.cs 8 37 (V.alloc (.cells (Tr.cs t) 37))).less (n0 := V.heap.size) (by simp)
    simpa using this
  obtain ⟨s1, W1, hr1, ho1, hb1, hs1, hk1⟩ := copy_rowB Tr.cs _ _ 8 96 _ infoTh Tryd.underlying25 rfl (by decide) (by decide) szT oneT V.heap.size ((V.alloc (.cells (Tr.cs t) 37)).alloc (.cells #[] 37)) ⟨some ⟨V.heap.size + 1, 0, none⟩, 0, 0⟩ [] om (by simp; omega) (by simp) s ts (h3.stay hbA) (by omega) ty
  rw [List.nil_append] at ho1
  have bt1 := hk1 V.heap.size _ _ (fun g o e => by cases e; omega) ((Box.fresh V 37 (Tr.cs t)).past (.cells #[] 37))
  obtain ⟨s2, W2, hr2, ho2, hb2⟩ := app_one V.heap.size W1 s1 ts ho1 (by simp at hs1; omega) (by omega) V.heap.size t bt1 ty2
  exact ⟨s1, W1, s2, W2, hr1, hr2, hbA.trans hb1, appP_of h1 h2 ht ho2 ((hbA.trans hb1).trans hb2)⟩
end
end Go.Proofs.YtpahahonopiblaaDoor
