/-
  Texts of ours as one: TaW, CpW, TaS.
-/
import Derived.Test.YtpahahonopiblaaDoorThM
import Derived.Test.YtpahahonopiblaaDoorCpD
import Derived.Deep.Upon
namespace Go.Proofs.YtpahahonopiblaaDoor
open Go.RowKit
set_option maxRecDepth 100000
set_option linter.unusedVariables false

/-! Elements in a row, as one list of cells. -/
def flat {α : Type} (f : α → Array Value) (l : List α) : List Value := l.flatMap fun x => (f x).toList
section
variable {α : Type} {f : α → Array Value} {n : Nat}
theorem flat_app (a b : List α) : flat f (a ++ b) = flat f a ++ flat f b := by simp [flat, List.flatMap_append]
theorem flat_one (x : α) : flat f [x] = (f x).toList := by simp [flat]
theorem flat_len (hf : ∀ x, (f x).size = n) (l : List α) : (flat f l).length = l.length * n := by
  induction l with
  | nil => simp [flat]
  | cons x l ih => simp only [flat, List.flatMap_cons, List.length_append, List.length_cons] at ih ⊢; rw [ih, Array.length_toList, hf, Nat.succ_mul]; omega
theorem flat_get (hf : ∀ x, (f x).size = n) : ∀ (l : List α) (i j : Nat) (x : α), l[i]? = some x → j < n → (flat f l)[i * n + j]? = (f x)[j]?
  | [], i, j, t, h, _ => by simp at h
  | u :: l, 0, j, t, h, hj => by
    simp at h; subst h
    simp only [flat, List.flatMap_cons, Nat.zero_mul, Nat.zero_add]
    rw [List.getElem?_append_left (by rw [Array.length_toList, hf]; exact hj)]
    simp
  | u :: l, i + 1, j, t, h, hj => by
    have ih := flat_get hf l i j t (by simpa using h) hj
    simp only [flat, List.flatMap_cons] at ih ⊢
    rw [List.getElem?_append_right (by rw [Array.length_toList, hf, Nat.succ_mul]; omega)]
    rw [← ih]
    congr 1
    rw [Array.length_toList, hf, Nat.succ_mul]
    omega
def setL : List Value → Nat → List Value → List Value
  | l, _, [] => l
  | l, o, v :: vs => setL (l.set o v) (o + 1) vs
theorem setL_mid : ∀ (b p a r : List Value), a.length = b.length → setL (p ++ (a ++ r)) p.length b = p ++ (b ++ r)
  | [], p, a, r, h => by
    have : a = [] := List.length_eq_zero_iff.1 (by simpa using h)
    subst this; simp [setL]
  | v :: b, p, a, r, h => by
    cases a with
    | nil => simp at h
    | cons x a =>
      have ih := setL_mid b (p ++ [v]) a r (by simpa using h)
      show setL ((p ++ (x :: a ++ r)).set p.length v) (p.length + 1) b = _
      have e : (p ++ (x :: a ++ r)).set p.length v = (p ++ [v]) ++ (a ++ r) := by
        rw [List.set_append_right _ _ (Nat.le_refl _)]
        simp
      rw [e, show p.length + 1 = (p ++ [v]).length by simp, ih]
      simp
theorem flat_set (hf : ∀ x, (f x).size = n) {l : List α} {i : Nat} {x : α} (h : l[i]? = some x) (y : α) : setL (flat f l) (i * n) (f y).toList = flat f (l.set i y) := by
  have hi : i < l.length := (List.getElem?_eq_some_iff.1 h).1
  have hx : l[i] = x := by rw [List.getElem?_eq_getElem hi] at h; exact Option.some.inj h
  have e1 : l = l.take i ++ (x :: l.drop (i + 1)) := by rw [← hx, List.getElem_cons_drop, List.take_append_drop]
  have e2 : l.set i y = l.take i ++ (y :: l.drop (i + 1)) := List.set_eq_take_append_cons_drop.trans (by simp [hi])
  have e3 : i * n = (flat f (l.take i)).length := by rw [flat_len hf, List.length_take, Nat.min_eq_left (Nat.le_of_lt hi)]
  have c : ∀ z, flat f (l.take i ++ (z :: l.drop (i + 1))) = flat f (l.take i) ++ ((f z).toList ++ flat f (l.drop (i + 1))) := fun z => by
    rw [flat_app]; simp [flat]
  rw [e2, c, e3]
  conv => lhs; arg 1; rw [e1, c]
  exact setL_mid _ _ _ _ (by simp [hf])
theorem flat_cell (hf : ∀ x, (f x).size = n) : ∀ (l : List α) (i j : Nat) (x y : α) (u : Value), l[i]? = some x → j < n → (f x).setIfInBounds j u = f y → (flat f l).set (i * n + j) u = flat f (l.set i y)
  | [], i, j, x, y, u, h, _, _ => by simp at h
  | v :: l, 0, j, x, y, u, h, hj, he => by
    simp at h; subst h
    have e2 : (f v).toList.set j u = (f y).toList := by rw [← he]; simp
    simp only [flat, List.flatMap_cons, List.set_cons_zero, Nat.zero_mul, Nat.zero_add]
    rw [List.set_append_left _ _ (by rw [Array.length_toList, hf]; exact hj), e2]
  | v :: l, i + 1, j, x, y, u, h, hj, he => by
    have ih := flat_cell hf l i j x y u (by simpa using h) hj he
    simp only [flat, List.flatMap_cons, List.set_cons_succ] at ih ⊢
    rw [List.set_append_right _ _ (by rw [Array.length_toList, hf, Nat.succ_mul]; omega), ← ih]
    congr 2
    rw [Array.length_toList, hf, Nat.succ_mul]
    omega
theorem layC_list (vs : List Value) : ∀ (cs : Array Value) (o : Nat), (layC cs o vs).toList = setL cs.toList o vs := by
  induction vs with
  | nil => intro cs o; rfl
  | cons v vs ih => intro cs o; show (layC _ _ vs).toList = setL _ _ vs; rw [ih]; simp
theorem setL_take (vs : List Value) : ∀ (l : List Value) (o m : Nat), (setL l o vs).take m = setL (l.take m) o vs := by
  induction vs with
  | nil => intro l o m; rfl
  | cons v vs ih => intro l o m; show (setL _ _ vs).take m = setL _ _ vs; rw [ih, List.take_set]
end

/-- A row that is one's own: above n0, from its block's start on. -/
def OwnF {α : Type} (f : α → Array Value) (n : Nat) (T : TypeId) (n0 : Nat) (W : World) (s : Sl) (l : List α) : Prop :=
  s.n = l.length ∧ W.ownsRow n0 T n (.slice s.a s.n s.c) l.length (flat f l)
section
variable {α : Type} {f : α → Array Value} {n : Nat} {T : TypeId} {n0 : Nat} {W W' : World} {s : Sl} {l : List α}
theorem OwnF.keep (h : OwnF f n T n0 W s l) (k : ∀ b cs, n0 ≤ b → s.a = some ⟨b, 0, none⟩ → Box W b T cs → Box W' b T cs) : OwnF f n T n0 W' s l := by
  refine ⟨h.1, h.2.1, ?_⟩
  rcases h.2.2 with h2 | ⟨g, cap, cur, e, hb, hg, rest⟩
  · exact .inl h2
  · exact .inr ⟨g, cap, cur, e, hb, k g cur hb (by simp only [Value.slice.injEq] at e; exact e.1) hg, rest⟩
theorem OwnF.stay (h : OwnF f n T n0 W s l) (hb : Below W.heap.size W W') : OwnF f n T n0 W' s l := h.keep fun _ _ _ _ bx => bx.stay hb
theorem OwnF.less {n1 : Nat} (h : OwnF f n T n1 W s l) (hn : n0 ≤ n1) : OwnF f n T n0 W s l := by
  refine ⟨h.1, h.2.1, ?_⟩
  rcases h.2.2 with h2 | ⟨g, cap, cur, e, hb, hg, rest⟩
  · exact .inl h2
  · exact .inr ⟨g, cap, cur, e, by omega, hg, rest⟩
theorem OwnF.form (h : OwnF f n T n0 W s l) (hl : 0 < l.length) : ∃ g cur, s.a = some ⟨g, 0, none⟩ ∧ n0 ≤ g ∧ Box W g T cur ∧ l.length ≤ s.c ∧ s.c ≤ maxLen ∧ cur.size = s.c * n ∧ cur.toList.take (l.length * n) = flat f l := by
  rcases h.2.2 with ⟨-, h0⟩ | ⟨g, cap, cur, e, hb, hg, h1, h2, h3, h4⟩
  · omega
  · simp only [Value.slice.injEq] at e
    obtain ⟨e1, -, e3⟩ := e
    exact ⟨g, cur, e1, hb, hg, by omega, by omega, by rw [e3]; exact h3, h4⟩
/-- Where it lies, if anywhere. -/
theorem OwnF.blk (h : OwnF f n T n0 W s l) {b o : Nat} (hb : s.a = some ⟨b, o, none⟩) : o = 0 ∧ n0 ≤ b ∧ b < W.heap.size ∧ ∃ cur, Box W b T cur := by
  rcases h.2.2 with ⟨e, -⟩ | ⟨g, cap, cur, e, hg, bx, -⟩
  · simp only [Value.slice.injEq] at e; rw [hb] at e; exact absurd e.1 (by simp)
  · simp only [Value.slice.injEq] at e
    rw [hb] at e
    simp only [Option.some.injEq, Addr.mk.injEq] at e
    obtain ⟨⟨rfl, rfl, -⟩, -⟩ := e
    exact ⟨rfl, hg, Box.lt (show Box W b T cur from bx), cur, bx⟩
theorem OwnF.addr (h : OwnF f n T n0 W s l) {a : Addr} (ha : s.a = some a) : a = ⟨a.block, 0, none⟩ := by
  rcases h.2.2 with ⟨e, -⟩ | ⟨g, cap, cur, e, hg, bx, -⟩
  · simp only [Value.slice.injEq] at e; rw [ha] at e; exact absurd e.1 (by simp)
  · simp only [Value.slice.injEq] at e
    rw [ha] at e
    have := Option.some.inj e.1
    subst this; rfl
theorem OwnF.at (hf : ∀ x, (f x).size = n) (h : OwnF f n T n0 W s l) {g : Nat} (hs : s.a = some ⟨g, 0, none⟩) {i : Nat} {x : α} (hx : l[i]? = some x) : At W g (i * n) (f x) := by
  intro j v hv
  have hj : j < n := by have := (Array.getElem?_eq_some_iff.1 hv).1; rw [hf] at this; exact this
  have hi : i < l.length := (List.getElem?_eq_some_iff.1 hx).1
  obtain ⟨g', cur, e, hb, bx, h1, h2, h3, h4⟩ := h.form (by omega)
  rw [hs] at e
  simp only [Option.some.injEq, Addr.mk.injEq] at e
  obtain ⟨rfl, -, -⟩ := e
  have h5 := flat_get hf l i j x hx hj
  have hlt : i * n + j < l.length * n := by
    have : (i + 1) * n ≤ l.length * n := Nat.mul_le_mul_right n hi
    rw [Nat.succ_mul] at this
    omega
  rw [← h4, List.getElem?_take, hv, if_pos hlt] at h5
  exact bx.cell _ _ (by simpa using h5)
theorem OwnF.els (hf : ∀ x, (f x).size = n) (h : OwnF f n T n0 W s l) : Els W s n (l.map f) := by
  refine ⟨by rw [h.1]; simp, ?_, ?_⟩
  · rcases h.2.2 with ⟨e, h0⟩ | ⟨g, cap, cur, e, hb, hg, h1, h2, h3, h4⟩
    · rw [h.1, h0]; omega
    · simp only [Value.slice.injEq] at e; have := h.1; omega
  · by_cases hl : l = []
    · subst hl; exact .inl rfl
    · obtain ⟨g, cur, e, -⟩ := h.form (List.length_pos_iff.2 hl)
      refine .inr ⟨g, 0, e, fun i x hx => ?_⟩
      simp only [List.getElem?_map, Option.map_eq_some_iff] at hx
      obtain ⟨y, hy, rfl⟩ := hx
      rw [Nat.zero_add]
      exact h.at hf e hy
theorem OwnF.thaw (h : OwnF f n T n0 W s l) {g : Nat} (hs : s.a = some ⟨g, 0, none⟩) (i : Nat) : W.frozen? ⟨g, i, none⟩ = false := by
  obtain ⟨-, -, -, cur, bx⟩ := h.blk hs
  exact bx.thaw i
/-- An element is laid anew. -/
theorem OwnF.lay (hf : ∀ x, (f x).size = n) (h : OwnF f n T n0 W s l) {g : Nat} (hs : s.a = some ⟨g, 0, none⟩) {i : Nat} {x : α} (hx : l[i]? = some x) (y : α) : OwnF f n T n0 (Go.Proofs.YtpahahonopiblaaDoor.lay W g (i * n) (f y).toList) s (l.set i y) := by
  have hi : i < l.length := (List.getElem?_eq_some_iff.1 hx).1
  obtain ⟨g', cur, e, hb, bx, h1, h2, h3, h4⟩ := h.form (by omega)
  rw [hs] at e
  simp only [Option.some.injEq, Addr.mk.injEq] at e
  obtain ⟨rfl, -, -⟩ := e
  have hn := h.1
  refine ⟨by simpa using hn, by rw [flat_len hf], .inr ⟨g, s.c, layC cur (i * n) (f y).toList, by rw [hs, hn]; simp, hb, lay_box _ _ bx, by simpa using h1, h2, by rw [layC_size, h3], ?_⟩⟩
  rw [layC_list, setL_take, List.length_set, h4, flat_set hf hx]
/-- A cell of an element is stored. -/
theorem OwnF.cell (hf : ∀ x, (f x).size = n) (h : OwnF f n T n0 W s l) {g : Nat} (hs : s.a = some ⟨g, 0, none⟩) {i : Nat} {x : α} (hx : l[i]? = some x) (y : α) (j : Nat) (hj : j < n) (u : Value) (he : (f x).setIfInBounds j u = f y) : OwnF f n T n0 (W.setCell ⟨g, i * n + j, none⟩ u) s (l.set i y) := by
  have hi : i < l.length := (List.getElem?_eq_some_iff.1 hx).1
  obtain ⟨g', cur, e, hb, bx, h1, h2, h3, h4⟩ := h.form (by omega)
  rw [hs] at e
  simp only [Option.some.injEq, Addr.mk.injEq] at e
  obtain ⟨rfl, -, -⟩ := e
  have hn := h.1
  refine ⟨by simpa using hn, by rw [flat_len hf], .inr ⟨g, s.c, cur.setIfInBounds (i * n + j) u, by rw [hs, hn]; simp, hb, bx.put _ _, by simpa using h1, h2, by simpa using h3, ?_⟩⟩
  rw [Array.toList_setIfInBounds, List.take_set, List.length_set, h4, flat_cell hf l i j x y u hx hj he]
end
theorem lay_other {B b : Nat} {T : TypeId} {cs : Array Value} (hn : b ≠ B) (vs : List Value) : ∀ {w : World} (o : Nat), Box w b T cs → Box (lay w B o vs) b T cs := by
  induction vs with
  | nil => intro w o h; exact h
  | cons v vs ih => intro w o h; exact ih (o + 1) (h.other (by exact hn) v)
theorem lay_size {B : Nat} (vs : List Value) : ∀ (w : World) (o : Nat), (lay w B o vs).heap.size = w.heap.size := by
  induction vs with
  | nil => intro w o; rfl
  | cons v vs ih => intro w o; show (lay _ B _ vs).heap.size = _; rw [ih]; simp [World.setCell]

/-- A row that is one's own, as far as its elements go. -/
def RowF {α : Type} (f : α → Array Value) (n : Nat) (Tp : TypeId → Prop) (n0 : Nat) (W : World) (s : Sl) (l : List α) : Prop :=
  s.n = l.length ∧ s.n ≤ s.c ∧ (l = [] ∨ ∃ g T cur, Tp T ∧ s.a = some ⟨g, 0, none⟩ ∧ n0 ≤ g ∧ Box W g T cur ∧ cur.toList.take (l.length * n) = flat f l)
section
variable {α : Type} {f : α → Array Value} {n : Nat} {Tp : TypeId → Prop} {n0 : Nat} {W W' : World} {s : Sl} {l : List α}
theorem OwnF.row {T : TypeId} (hT : Tp T) (h : OwnF f n T n0 W s l) : RowF f n Tp n0 W s l := by
  refine ⟨h.1, ?_, ?_⟩
  · rcases h.2.2 with ⟨e, h0⟩ | ⟨g, cap, cur, e, hb, hg, h1, h2, h3, h4⟩
    · rw [h.1, h0]; omega
    · simp only [Value.slice.injEq] at e; have := h.1; omega
  · by_cases hl : l = []
    · exact .inl hl
    · obtain ⟨g, cur, e, hb, bx, h1, h2, h3, h4⟩ := h.form (List.length_pos_iff.2 hl)
      exact .inr ⟨g, T, cur, hT, e, hb, bx, h4⟩
theorem RowF.empty (hs : s.n = 0) (hc : s.n ≤ s.c) : RowF f n Tp n0 W s [] := ⟨hs, hc, .inl rfl⟩
theorem RowF.keep (h : RowF f n Tp n0 W s l) (k : ∀ b T cs, l ≠ [] → Tp T → n0 ≤ b → s.a = some ⟨b, 0, none⟩ → Box W b T cs → Box W' b T cs) : RowF f n Tp n0 W' s l := by
  refine ⟨h.1, h.2.1, ?_⟩
  by_cases hl : l = []
  · exact .inl hl
  · rcases h.2.2 with h2 | ⟨g, T, cur, hT, e, hb, hg, rest⟩
    · exact .inl h2
    · exact .inr ⟨g, T, cur, hT, e, hb, k g T cur hl hT hb e hg, rest⟩
theorem RowF.stay (h : RowF f n Tp n0 W s l) (hb : Below W.heap.size W W') : RowF f n Tp n0 W' s l := h.keep fun _ _ _ _ _ _ _ bx => bx.stay hb
theorem RowF.less {n1 : Nat} (h : RowF f n Tp n1 W s l) (hn : n0 ≤ n1) : RowF f n Tp n0 W s l := by
  refine ⟨h.1, h.2.1, ?_⟩
  rcases h.2.2 with h2 | ⟨g, T, cur, hT, e, hb, hg, rest⟩
  · exact .inl h2
  · exact .inr ⟨g, T, cur, hT, e, by omega, hg, rest⟩
theorem RowF.form (h : RowF f n Tp n0 W s l) (hl : l ≠ []) : ∃ g T cur, Tp T ∧ s.a = some ⟨g, 0, none⟩ ∧ n0 ≤ g ∧ Box W g T cur ∧ cur.toList.take (l.length * n) = flat f l := by
  rcases h.2.2 with h2 | h2
  · exact absurd h2 hl
  · exact h2
theorem RowF.at (hf : ∀ x, (f x).size = n) (h : RowF f n Tp n0 W s l) {g : Nat} (hs : s.a = some ⟨g, 0, none⟩) {i : Nat} {x : α} (hx : l[i]? = some x) : At W g (i * n) (f x) := by
  intro j v hv
  have hj : j < n := by have := (Array.getElem?_eq_some_iff.1 hv).1; rw [hf] at this; exact this
  have hi : i < l.length := (List.getElem?_eq_some_iff.1 hx).1
  obtain ⟨g', T, cur, hT, e, hb, bx, h4⟩ := h.form (fun e => by subst e; simp at hi)
  rw [hs] at e
  simp only [Option.some.injEq, Addr.mk.injEq] at e
  obtain ⟨rfl, -, -⟩ := e
  have h5 := flat_get hf l i j x hx hj
  have hlt : i * n + j < l.length * n := by
    have : (i + 1) * n ≤ l.length * n := Nat.mul_le_mul_right n hi
    rw [Nat.succ_mul] at this
    omega
  rw [← h4, List.getElem?_take, hv, if_pos hlt] at h5
  exact bx.cell _ _ (by simpa using h5)
theorem RowF.els (hf : ∀ x, (f x).size = n) (h : RowF f n Tp n0 W s l) : Els W s n (l.map f) := by
  refine ⟨by rw [h.1]; simp, h.2.1, ?_⟩
  by_cases hl : l = []
  · subst hl; exact .inl rfl
  · obtain ⟨g, T, cur, -, e, -⟩ := h.form hl
    refine .inr ⟨g, 0, e, fun i x hx => ?_⟩
    simp only [List.getElem?_map, Option.map_eq_some_iff] at hx
    obtain ⟨y, hy, rfl⟩ := hx
    rw [Nat.zero_add]
    exact h.at hf e hy
theorem RowF.lay (hf : ∀ x, (f x).size = n) (h : RowF f n Tp n0 W s l) {g : Nat} (hs : s.a = some ⟨g, 0, none⟩) {i : Nat} {x : α} (hx : l[i]? = some x) (y : α) : RowF f n Tp n0 (Go.Proofs.YtpahahonopiblaaDoor.lay W g (i * n) (f y).toList) s (l.set i y) := by
  have hi : i < l.length := (List.getElem?_eq_some_iff.1 hx).1
  obtain ⟨g', T, cur, hT, e, hb, bx, h4⟩ := h.form (fun e => by subst e; simp at hi)
  rw [hs] at e
  simp only [Option.some.injEq, Addr.mk.injEq] at e
  obtain ⟨rfl, -, -⟩ := e
  refine ⟨by simpa using h.1, h.2.1, .inr ⟨g, T, layC cur (i * n) (f y).toList, hT, hs, hb, lay_box _ _ bx, ?_⟩⟩
  rw [layC_list, setL_take, List.length_set, h4, flat_set hf hx]
end

abbrev qC (n : Int) : Array Value := #[.int .i64 n]
theorem szR (x : R5) : (R5.cs x).size = 5 := rfl
theorem szQ (x : Int) : (qC x).size = 1 := rfl
theorem szT (x : Tr) : (Tr.cs x).size = 8 := rfl
def TyR (T : TypeId) : Prop := T = 44 ∨ T = 89
def TyQ (T : TypeId) : Prop := T = 3
theorem TyR.neT {T : TypeId} (h : TyR T) : T ≠ 37 := by rcases h with rfl | rfl <;> decide
theorem TyQ.neT {T : TypeId} (h : TyQ T) : T ≠ 37 := by cases h; decide
theorem TyR.neQ {T T' : TypeId} (h : TyR T) (h' : TyQ T') : T ≠ T' := by cases h'; rcases h with rfl | rfl <;> decide
/-- Rights, numbers of one's own. -/
abbrev OwnR (n0 : Nat) (W : World) (s : Sl) (l : List R5) : Prop := RowF R5.cs 5 TyR n0 W s l
abbrev OwnQ (n0 : Nat) (W : World) (s : Sl) (l : List Int) : Prop := RowF qC 1 TyQ n0 W s l
theorem OwnR.has {n0 : Nat} {W : World} {s : Sl} {l : List R5} (h : OwnR n0 W s l) : HasR W s l := RowF.els szR h
theorem OwnQ.has {n0 : Nat} {W : World} {s : Sl} {l : List Int} (h : OwnQ n0 W s l) : HasQ W s l := RowF.els szQ h
/-- A thing with rights and numbers of its own. -/
def ThW (n0 : Nat) (W : World) (t : Tr) : Prop := OwnR n0 W t.2.1 t.1.slots ∧ OwnQ n0 W t.2.2 t.1.queue
theorem ThW.keep {n0 : Nat} {W W' : World} {t : Tr} (h : ThW n0 W t) (k1 : ∀ b T cs, TyR T → n0 ≤ b → Box W b T cs → Box W' b T cs) (k2 : ∀ b T cs, TyQ T → n0 ≤ b → Box W b T cs → Box W' b T cs) : ThW n0 W' t := ⟨h.1.keep fun b T cs _ hT hb _ => k1 b T cs hT hb, h.2.keep fun b T cs _ hT hb _ => k2 b T cs hT hb⟩
theorem ThW.stay {n0 : Nat} {W W' : World} {t : Tr} (h : ThW n0 W t) (hb : Below W.heap.size W W') : ThW n0 W' t := ⟨h.1.stay hb, h.2.stay hb⟩
theorem ThW.less {n0 n1 : Nat} {W : World} {t : Tr} (h : ThW n1 W t) (hn : n0 ≤ n1) : ThW n0 W t := ⟨h.1.less hn, h.2.less hn⟩
/-- Two rows in blocks apart. -/
def ApartS {α : Type} (s s' : Sl) (l l' : List α) : Prop := l ≠ [] → l' ≠ [] → ∀ a a' : Addr, s.a = some a → s'.a = some a' → a.block ≠ a'.block
theorem ApartS.symm {α : Type} {s s' : Sl} {l l' : List α} (h : ApartS s s' l l') : ApartS s' s l' l := fun h1 h2 a a' e e' => (h h2 h1 a' a e' e).symm
def ApartT (t t' : Tr) : Prop := ApartS t.2.1 t'.2.1 t.1.slots t'.1.slots ∧ ApartS t.2.2 t'.2.2 t.1.queue t'.1.queue
theorem ApartT.symm {t t' : Tr} (h : ApartT t t') : ApartT t' t := ⟨h.1.symm, h.2.symm⟩
/-- What came later is apart from what was there. -/
theorem RowF.apart {α : Type} {f : α → Array Value} {n n0 m : Nat} {Tp : TypeId → Prop} {W W' : World} {s s' : Sl} {l l' : List α} (h : RowF f n Tp n0 W s l) (h' : RowF f n Tp m W' s' l') (hm : W.heap.size ≤ m) : ApartS s s' l l' := by
  intro n1 n2 a a' e e'
  obtain ⟨g, T, cur, -, e1, -, bx, -⟩ := h.form n1
  obtain ⟨g', T', cur', -, e2, hb', -, -⟩ := h'.form n2
  have := bx.lt
  rw [e] at e1
  rw [e'] at e2
  cases e1; cases e2
  dsimp only
  omega
theorem ThW.apart {n0 m : Nat} {W W' : World} {t t' : Tr} (h : ThW n0 W t) (h' : ThW m W' t') (hm : W.heap.size ≤ m) : ApartT t t' := ⟨h.1.apart h'.1 hm, h.2.apart h'.2 hm⟩
/-- A table of one's own, all of it. -/
def TaW (n0 : Nat) (W : World) (s : Sl) (ts : List Tr) : Prop :=
  OwnF Tr.cs 8 37 n0 W s ts ∧ (∀ t ∈ ts, ThW n0 W t) ∧ ∀ (i j : Nat) a b, ts[i]? = some a → ts[j]? = some b → i ≠ j → ApartT a b
/-- A kind of block that a table is of. -/
def TyA (T : TypeId) : Prop := T = 37 ∨ TyR T ∨ TyQ T
section
variable {n0 : Nat} {W W' : World} {s : Sl} {ts : List Tr}
theorem TaW.keep (h : TaW n0 W s ts) (k : ∀ b T cs, n0 ≤ b → Box W b T cs → TyA T → Box W' b T cs) : TaW n0 W' s ts :=
  ⟨h.1.keep fun b cs hb _ bx => k b _ cs hb bx (.inl rfl), fun t ht => (h.2.1 t ht).keep (fun b T cs hT hb bx => k b T cs hb bx (.inr (.inl hT))) (fun b T cs hT hb bx => k b T cs hb bx (.inr (.inr hT))), h.2.2⟩
theorem TaW.stay (h : TaW n0 W s ts) (hb : Below W.heap.size W W') : TaW n0 W' s ts := h.keep fun _ _ _ _ bx _ => bx.stay hb
theorem TaW.drew (h : TaW n0 W s ts) : TaW n0 W.drew s ts := h
theorem TaW.less {n1 : Nat} (h : TaW n1 W s ts) (hn : n0 ≤ n1) : TaW n0 W s ts := ⟨h.1.less hn, fun t ht => (h.2.1 t ht).less hn, h.2.2⟩
theorem TaW.get (h : TaW n0 W s ts) {i : Nat} {t : Tr} (ht : ts[i]? = some t) : ThW n0 W t := h.2.1 t (List.mem_of_getElem? ht)
theorem TaW.at (h : TaW n0 W s ts) {g : Nat} (hs : s.a = some ⟨g, 0, none⟩) {i : Nat} {t : Tr} (ht : ts[i]? = some t) : At W g (i * 8) (Tr.cs t) := h.1.at szT hs ht
/-- The table as it lies. -/
theorem TaW.hasT (h : TaW n0 W s ts) : HasT W s (ts.map (·.1)) := by
  obtain ⟨e1, e2, e3⟩ := h.1.els szT
  refine ⟨by rw [e1]; simp, e2, ?_⟩
  by_cases hl : ts = []
  · subst hl; exact .inl rfl
  · obtain ⟨g, cur, e, -⟩ := h.1.form (List.length_pos_iff.2 hl)
    refine .inr ⟨g, 0, e, fun i hi => ?_⟩
    have hi' : i < ts.length := by simpa using hi
    have ht : ts[i]? = some ts[i] := List.getElem?_eq_getElem hi'
    have hm := h.2.1 _ (List.getElem_mem hi')
    refine ⟨(ts[i]).2.1, (ts[i]).2.2, ?_, ?_, ?_⟩
    · simpa using OwnR.has hm.1
    · simpa using OwnQ.has hm.2
    · have := h.at e ht
      simpa using this
theorem apart_set {i : Nat} {t' : Tr} (h : ∀ (i j : Nat) a b, ts[i]? = some a → ts[j]? = some b → i ≠ j → ApartT a b) (ha : ∀ (j : Nat) b, ts[j]? = some b → j ≠ i → ApartT t' b) : ∀ (k j : Nat) a b, (ts.set i t')[k]? = some a → (ts.set i t')[j]? = some b → k ≠ j → ApartT a b := by
  intro k j a b hk hj hn
  rw [List.getElem?_set] at hk hj
  by_cases e1 : i = k
  · by_cases e2 : i = j
    · omega
    · rw [if_pos e1] at hk
      rw [if_neg e2] at hj
      split at hk
      · cases hk; exact ha j b hj (fun e => e2 e.symm)
      · cases hk
  · rw [if_neg e1] at hk
    by_cases e2 : i = j
    · rw [if_pos e2] at hj
      split at hj
      · cases hj; exact (ha k a hk (fun e => e1 e.symm)).symm
      · cases hj
    · rw [if_neg e2] at hj
      exact h k j a b hk hj hn
/-- A thing is laid anew. -/
theorem TaW.lay (h : TaW n0 W s ts) {g : Nat} (hs : s.a = some ⟨g, 0, none⟩) {i : Nat} {t : Tr} (ht : ts[i]? = some t) (t' : Tr) (h' : ThW n0 W t') (ha : ∀ (j : Nat) b, ts[j]? = some b → j ≠ i → ApartT t' b) : TaW n0 (Go.Proofs.YtpahahonopiblaaDoor.lay W g (i * 8) (Tr.cs t').toList) s (ts.set i t') := by
  obtain ⟨-, -, -, cur, bx⟩ := h.1.blk hs
  refine ⟨h.1.lay szT hs ht t', fun x hx => ?_, apart_set h.2.2 ha⟩
  have kp : ∀ y : Tr, ThW n0 W y → ThW n0 (Go.Proofs.YtpahahonopiblaaDoor.lay W g (i * 8) (Tr.cs t').toList) y := fun y hy => hy.keep (fun b T cs hT _ k => lay_other (Box.ne k bx hT.neT) _ _ k) (fun b T cs hT _ k => lay_other (Box.ne k bx hT.neT) _ _ k)
  rcases List.mem_or_eq_of_mem_set hx with hx | rfl
  · exact kp x (h.2.1 x hx)
  · exact kp _ h'
/-- A field is stored. -/
theorem TaW.put (h : TaW n0 W s ts) {g : Nat} (hs : s.a = some ⟨g, 0, none⟩) {i : Nat} {t : Tr} (ht : ts[i]? = some t) (t' : Tr) (j : Nat) (hj : j < 8) (u : Value) (he : (Tr.cs t).setIfInBounds j u = Tr.cs t') (h' : ThW n0 W t') (ha : ∀ (j : Nat) b, ts[j]? = some b → j ≠ i → ApartT t' b) : TaW n0 (W.setCell ⟨g, i * 8 + j, none⟩ u) s (ts.set i t') := by
  obtain ⟨-, -, -, cur, bx⟩ := h.1.blk hs
  refine ⟨h.1.cell szT hs ht t' j hj u he, fun x hx => ?_, apart_set h.2.2 ha⟩
  have kp : ∀ y : Tr, ThW n0 W y → ThW n0 (W.setCell ⟨g, i * 8 + j, none⟩ u) y := fun y hy => hy.keep (fun b T cs hT _ k => k.other (Box.ne k bx hT.neT) u) (fun b T cs hT _ k => k.other (Box.ne k bx hT.neT) u)
  rcases List.mem_or_eq_of_mem_set hx with hx | rfl
  · exact kp x (h.2.1 x hx)
  · exact kp _ h'
/-- Its number is stored. -/
theorem TaW.num (h : TaW n0 W s ts) {g : Nat} (hs : s.a = some ⟨g, 0, none⟩) {i : Nat} {t : Tr} (ht : ts[i]? = some t) (z : Int) : TaW n0 (W.setCell ⟨g, i * 8 + 4, none⟩ (.int .i64 z)) s (ts.set i ({ t.1 with num := z }, t.2)) :=
  h.put hs ht _ 4 (by decide) _ (by rfl) (show ThW n0 W (_, _) from ⟨(h.get ht).1, (h.get ht).2⟩) (fun j b hj hn => h.2.2 i j t b ht hj (fun e => hn e.symm))
/-- Its numbers are others. -/
theorem TaW.queue (h : TaW n0 W s ts) {g : Nat} (hs : s.a = some ⟨g, 0, none⟩) {i : Nat} {t : Tr} (ht : ts[i]? = some t) (q : List Int) (qs : Sl) (hq : OwnQ n0 W qs q) (ha : ∀ (j : Nat) b, ts[j]? = some b → j ≠ i → ApartS qs b.2.2 q b.1.queue) : TaW n0 (W.setCell ⟨g, i * 8 + 6, none⟩ (.slice qs.a qs.n qs.c)) s (ts.set i ({ t.1 with queue := q }, t.2.1, qs)) :=
  h.put hs ht _ 6 (by decide) _ (by rfl) ⟨(h.get ht).1, hq⟩ (fun j b hj hn => ⟨(h.2.2 i j t b ht hj (fun e => hn e.symm)).1, ha j b hj hn⟩)
theorem set5_lay (W : World) (b o : Nat) (v : R5) : Go.Proofs.YtpahahonopiblaaDoor.set5 W b o v = Go.Proofs.YtpahahonopiblaaDoor.lay W b o (R5.cs v).toList := by
  simp only [Go.Proofs.YtpahahonopiblaaDoor.set5, Go.Proofs.YtpahahonopiblaaDoor.lay, Nat.add_assoc, Nat.reduceAdd]
/-- A right of it is stored. -/
theorem TaW.slot (h : TaW n0 W s ts) {i : Nat} {t : Tr} (ht : ts[i]? = some t) {b : Nat} (hb : t.2.1.a = some ⟨b, 0, none⟩) {k : Nat} (hk : k < t.1.slots.length) (v : R5) : TaW n0 (Go.Proofs.YtpahahonopiblaaDoor.set5 W b (k * 5) v) s (ts.set i ({ t.1 with slots := t.1.slots.set k v }, t.2)) := by
  have hi : i < ts.length := (List.getElem?_eq_some_iff.1 ht).1
  have hne : t.1.slots ≠ [] := fun e => by rw [e] at hk; simp at hk
  obtain ⟨b', TB, cur, hTB, e', -, bx, -⟩ := (h.get ht).1.form hne
  rw [hb] at e'
  cases e'
  have hcs : flat Tr.cs (ts.set i ({ t.1 with slots := t.1.slots.set k v }, t.2)) = flat Tr.cs ts := by
    have e1 := flat_set szT ht ({ t.1 with slots := t.1.slots.set k v }, t.2)
    have e2 := flat_set szT ht t
    have e3 : ts.set i t = ts := by
      rw [List.getElem?_eq_getElem hi] at ht
      cases ht
      exact List.set_getElem_self hi
    rw [e3] at e2
    exact e1.symm.trans e2
  refine ⟨?_, fun x hx => ?_, apart_set h.2.2 (fun j y hj hn => ?_)⟩
  · have h1 : OwnF Tr.cs 8 37 n0 (Go.Proofs.YtpahahonopiblaaDoor.set5 W b (k * 5) v) s ts := h.1.keep fun b' cs _ _ kx => set5_other kx (Box.ne kx bx hTB.neT.symm) v
    refine ⟨by simpa using h1.1, ?_⟩
    rw [List.length_set, hcs]
    exact h1.2
  · have kq : ∀ y : Tr, ThW n0 W y → OwnQ n0 (Go.Proofs.YtpahahonopiblaaDoor.set5 W b (k * 5) v) y.2.2 y.1.queue := fun y hy => hy.2.keep fun b' T cs _ hT _ _ kx => set5_other kx (Box.ne kx bx (hTB.neQ hT).symm) v
    obtain ⟨j, hj⟩ := List.getElem?_of_mem hx
    rw [List.getElem?_set] at hj
    by_cases e : i = j
    · rw [if_pos e, if_pos (by omega)] at hj
      cases hj
      refine ⟨?_, (kq t (h.get ht) : _)⟩
      rw [set5_lay]
      exact (h.get ht).1.lay szR hb (List.getElem?_eq_getElem hk) v
    · rw [if_neg e] at hj
      refine ⟨(h.get hj).1.keep fun b' T cs hl hT _ hb' kx => set5_other kx ?_ v, kq _ (h.get hj)⟩
      exact ((h.2.2 i j t x ht hj e).1 hne hl _ _ hb hb').symm
  · have := h.2.2 i j t y ht hj (fun e => hn e.symm)
    exact ⟨fun n1 n2 => this.1 hne n2, this.2⟩
end
end Go.Proofs.YtpahahonopiblaaDoor

namespace Go.Proofs.YtpahahonopiblaaDoor
open Go.RowKit
set_option maxRecDepth 100000
set_option linter.unusedVariables false

theorem addr_add (b o j : Nat) : (⟨b, o, none⟩ : Addr).add j = ⟨b, o + j, none⟩ := by unfold Addr.add; split <;> simp_all
theorem ownsRow_sl {W : World} {n0 : Nat} {T : TypeId} {size : Nat} {v : Value} {n : Nat} {xs : List Value} (h : W.ownsRow n0 T size v n xs) : ∃ s : Sl, v = .slice s.a s.n s.c ∧ s.n = n := by
  rcases h.2 with ⟨e, h0⟩ | ⟨g, cap, cur, e, -⟩
  · exact ⟨⟨none, 0, 0⟩, e, h0.symm⟩
  · exact ⟨⟨some ⟨g, 0, none⟩, n, cap⟩, e, rfl⟩
/-- An empty row of one's own: no row at all, or one that was just made. -/
theorem OwnF.nil {α : Type} (f : α → Array Value) (n : Nat) (T : TypeId) (B : Nat) (W : World) : OwnF f n T B W ⟨none, 0, 0⟩ [] := ⟨rfl, by simp [flat], .inl ⟨rfl, rfl⟩⟩
theorem OwnF.made {α : Type} (f : α → Array Value) (n : Nat) (T : TypeId) (W : World) : OwnF f n T W.heap.size (W.alloc (.cells #[] T)) ⟨some ⟨W.heap.size, 0, none⟩, 0, 0⟩ [] :=
  ⟨rfl, by simp [flat], .inr ⟨W.heap.size, 0, #[], rfl, Nat.le_refl _, Box.fresh W T #[], Nat.le_refl _, Nat.zero_le _, by simp, by simp [flat]⟩⟩
theorem copy_row {α : Type} (f : α → Array Value) (T TS : TypeId) (size bytes : Nat) (z : Value) (hinfo : (Tryd.prog.info? T).map (fun i => (i.zero, i.size, i.bytes)) = some (some z, size, bytes)) (hu : Tryd.prog.underlying TS = some (.slice T)) (hzs : z.cells.size = size) (hsz : 0 < size) (hby : bytes ≤ 1000)
    (hf : ∀ x, (f x).size = size) (h1 : ∀ x, ∀ u ∈ (f x).toList, u.oneCell' = true) (B : Nat) (W : World) (v : Sl) (olds : List α) (hv : OwnF f size T B W v olds) (hB : B ≤ W.heap.size) (ho : olds.length ≤ 1048576) (s : Sl) (l : List α) (h : Els W s size (l.map f)) (hl : l.length ≤ 1048576) (ty : TypeId) :
    ∃ (s' : Sl) (W' : World), (Builtin.append_ #[TS, TS] ty #[.slice v.a v.n v.c, .slice s.a s.n s.c]).run Tryd.prog W = .ok (.slice s'.a s'.n s'.c) W' ∧ OwnF f size T B W' s' (olds ++ l) ∧ Below B W W' ∧ W.heap.size ≤ W'.heap.size ∧ ∀ b T' cs, T' ≠ T → Box W b T' cs → Box W' b T' cs := by
  obtain ⟨i0, hi, hz0, hz1, hz2⟩ : ∃ i, Tryd.prog.info? T = some i ∧ i.zero = some z ∧ i.size = size ∧ i.bytes = bytes := by
    cases hq : Tryd.prog.info? T with
    | none => simp [hq] at hinfo
    | some i => simp [hq] at hinfo; exact ⟨i, rfl, hinfo⟩
  have hsn : s.n = l.length := by rw [h.1]; simp
  have hlen : (flat f l).length = s.n * size := by rw [flat_len hf, hsn]
  have hvn : v.n ≤ v.c := by
    rcases hv.2.2 with ⟨e, h0⟩ | ⟨g, cap, cur, e, hb, hg, h1, h2, h3, h4⟩
    · have := hv.1; omega
    · simp only [Value.slice.injEq] at e; have := hv.1; omega
  cases hsa : s.a with
  | none =>
    have hl0 : l = [] := by
      rcases h.2.2 with h0 | ⟨b, o, e, -⟩
      · simpa using h0
      · rw [hsa] at e; cases e
    subst hl0
    have hn0 : s.n = 0 := by simpa using hsn
    rw [hn0, List.append_nil]
    exact ⟨v, W, run_append_nothing (P := Tryd.prog) W TS TS ty T i0 hu hi v.a v.n v.c hvn _ (Src.ofNil W hu s.c), hv, Below.refl _ _, Nat.le_refl _, fun b T' cs _ bx => bx⟩
  | some a =>
    have hnews : ∀ j u, (flat f l)[j]? = some u → W.cell? (a.add j) = some u := by
      intro j u hj
      have hj' : j < l.length * size := by have := (List.getElem?_eq_some_iff.1 hj).1; rwa [flat_len hf] at this
      have hne : l ≠ [] := fun e => by subst e; simp at hj'
      rcases h.2.2 with h0 | ⟨b, o, e, hat⟩
      · exact absurd (by simpa using h0) hne
      rw [hsa] at e
      cases e
      have hi' : j / size < l.length := Nat.div_lt_of_lt_mul (by rw [Nat.mul_comm]; exact hj')
      have hm := Nat.mod_lt j hsz
      have hd : j / size * size + j % size = j := by rw [Nat.mul_comm]; exact Nat.div_add_mod j size
      have hg := flat_get hf l (j / size) (j % size) _ (List.getElem?_eq_getElem hi') hm
      rw [hd, hj] at hg
      have := hat (j / size) (f l[j / size]) (by simp [List.getElem?_eq_getElem hi']) (j % size) u hg.symm
      rw [addr_add, ← hd, ← Nat.add_assoc]
      exact this
    obtain ⟨v', w', hr, h2, h3, -⟩ := run_append_own (P := Tryd.prog) W B TS ty T i0 z size bytes hu hi hz0 hz1 hz2 hzs hsz
      (.slice v.a v.n v.c) olds.length (flat f olds) hv.2 a s.n s.c (flat f l) hlen hnews
      (fun u hu => by
        simp only [flat, List.mem_flatMap] at hu
        obtain ⟨x, -, hx⟩ := hu
        exact h1 x u hx) (by simp only [maxLen]; omega) (by
          have : (olds.length + s.n) * bytes ≤ 2097152 * 1000 := Nat.mul_le_mul (by omega) hby
          omega) hB
    obtain ⟨s', rfl, hs'⟩ := ownsRow_sl h2
    have hob : ∀ b, b < B → some b ≠ (Value.slice v.a v.n v.c).ownBlock := by
      intro b hb e
      rcases hv.2.2 with ⟨e1, -⟩ | ⟨g1, c1, cur, e1, hb1, -⟩
      · rw [e1] at e; cases e
      · rw [e1] at e; simp [Value.ownBlock] at e; omega
    have hty : ∀ b T' cs, T' ≠ T → Box W b T' cs → some b ≠ (Value.slice v.a v.n v.c).ownBlock := by
      intro b T' cs hT hb e
      rcases hv.2.2 with ⟨e1, -⟩ | ⟨g1, c1, cur, e1, hb1, hg1, -⟩
      · rw [e1] at e; cases e
      · rw [e1] at e
        simp [Value.ownBlock] at e
        subst e
        unfold Box at hb
        rw [hg1] at hb
        cases hb
        exact hT rfl
    refine ⟨s', w', by rw [← hsa] at hr; simpa [hsa] using hr, ⟨by rw [hs', List.length_append, hsn], ?_⟩, ?_, h3.size, fun b T' cs hT hb => (h3.block b hb.lt (hty b T' cs hT hb)).trans hb⟩
    · rw [List.length_append, flat_app, ← hsn]
      exact h2
    · exact ⟨h3.os, h3.tape, h3.output, h3.size, fun k hk => h3.block k (by omega) (hob k hk)⟩
theorem infoR3 : (Tryd.prog.info? 44).map (fun i => (i.zero, i.size, i.bytes)) = some (some (rgt 0 0 false false false), 5, 24) := by kernel_rfl
theorem oneR (x : R5) : ∀ u ∈ (R5.cs x).toList, u.oneCell' = true := by intro u hu; simp at hu; rcases hu with rfl | rfl | rfl | rfl | rfl <;> rfl
theorem oneQ (x : Int) : ∀ u ∈ (qC x).toList, u.oneCell' = true := by intro u hu; simp at hu; subst hu; rfl
theorem oneT (x : Tr) : ∀ u ∈ (Tr.cs x).toList, u.oneCell' = true := by intro u hu; simp at hu; rcases hu with rfl | rfl | rfl | rfl | rfl | rfl | rfl | rfl <;> rfl
/-- Rights, numbers copied behind an own row. -/
theorem copyR (B : Nat) (W : World) (v : Sl) (olds : List R5) (hv : OwnF R5.cs 5 44 B W v olds) (hB : B ≤ W.heap.size) (ho : olds.length ≤ 1048576) (s : Sl) (l : List R5) (h : HasR W s l) (hl : l.length ≤ 1048576) (ty : TypeId) :
    ∃ (s' : Sl) (W' : World), (Builtin.append_ #[34, 34] ty #[.slice v.a v.n v.c, .slice s.a s.n s.c]).run Tryd.prog W = .ok (.slice s'.a s'.n s'.c) W' ∧ OwnF R5.cs 5 44 B W' s' (olds ++ l) ∧ Below B W W' ∧ W.heap.size ≤ W'.heap.size ∧ ∀ b T' cs, T' ≠ 44 → Box W b T' cs → Box W' b T' cs :=
  copy_row R5.cs _ _ 5 24 _ infoR3 Tryd.underlying34 rfl (by decide) (by decide) szR oneR B W v olds hv hB ho s l h hl ty
theorem copyQ (B : Nat) (W : World) (v : Sl) (olds : List Int) (hv : OwnF qC 1 3 B W v olds) (hB : B ≤ W.heap.size) (ho : olds.length ≤ 1048576) (s : Sl) (l : List Int) (h : HasQ W s l) (hl : l.length ≤ 1048576) (ty : TypeId) :
    ∃ (s' : Sl) (W' : World), (Builtin.append_ #[35, 35] ty #[.slice v.a v.n v.c, .slice s.a s.n s.c]).run Tryd.prog W = .ok (.slice s'.a s'.n s'.c) W' ∧ OwnF qC 1 3 B W' s' (olds ++ l) ∧ Below B W W' ∧ W.heap.size ≤ W'.heap.size ∧ ∀ b T' cs, T' ≠ 3 → Box W b T' cs → Box W' b T' cs :=
  copy_row qC _ _ 1 8 _ infoI Tryd.underlying35 rfl (by decide) (by decide) szQ oneQ B W v olds hv hB ho s l h hl ty
/-- A thing more behind an own table: the literal of one. -/
theorem moreT (n0 : Nat) (W : World) (v : Sl) (ts : List Tr) (h : TaW n0 W v ts) (hn : n0 ≤ W.heap.size) (hl : ts.length ≤ 1000) (t : Tr) (ht : ThW n0 W t) (ha : ∀ (j : Nat) b, ts[j]? = some b → ApartT t b) (ty : TypeId) :
    ∃ (s' : Sl) (W' : World), (Builtin.append_ #[25, 25] ty #[.slice v.a v.n v.c, .slice (some ⟨W.heap.size, 0, none⟩) 1 1]).run Tryd.prog (W.alloc (.cells (Tr.cs t) 37)) = .ok (.slice s'.a s'.n s'.c) W' ∧ TaW n0 W' s' (ts ++ [t]) ∧ Below n0 W W' ∧ W.heap.size ≤ W'.heap.size ∧ ∀ b T' cs, T' ≠ 37 → Box W b T' cs → Box W' b T' cs := by
  have h1 : Els (W.alloc (.cells (Tr.cs t) 37)) ⟨some ⟨W.heap.size, 0, none⟩, 1, 1⟩ 8 ([t].map Tr.cs) := by
    refine ⟨rfl, Nat.le_refl _, .inr ⟨W.heap.size, 0, rfl, fun i x hx j u hj => ?_⟩⟩
    have hi : i = 0 := by have := (List.getElem?_eq_some_iff.1 hx).1; simp at this; omega
    subst hi
    simp at hx
    subst hx
    have := (Box.fresh W 37 (Tr.cs t)).cell j u hj
    simpa using this
  have hb0 : Below W.heap.size W (W.alloc (.cells (Tr.cs t) 37)) := (Below.refl _ _).alloc (Nat.le_refl _) _
  obtain ⟨s', W', hr, ho, hb, hs, hk⟩ := copy_row Tr.cs _ _ 8 96 _ infoTh Tryd.underlying25 rfl (by decide) (by decide) szT oneT n0 (W.alloc (.cells (Tr.cs t) 37)) v ts (h.1.stay hb0) (by simp; omega) (by omega) ⟨some ⟨W.heap.size, 0, none⟩, 1, 1⟩ [t] h1 (by simp) ty
  have kp : ∀ y : Tr, ThW n0 W y → ThW n0 W' y := fun y hy => hy.keep (fun b T cs hT _ bx => hk b T cs hT.neT (bx.past _)) (fun b T cs hT _ bx => hk b T cs hT.neT (bx.past _))
  refine ⟨s', W', hr, ⟨ho, fun y hy => ?_, fun i j a b hi hj hn => ?_⟩, ⟨hb.os, hb.tape, hb.output, by have := hb.size; simp at this; omega, fun k hk' => (hb.block k hk').trans (Below.heap_alloc W _ k (by omega))⟩, by simp at hs; omega, fun b T' cs hT bx => hk b T' cs hT (bx.past _)⟩
  · rcases List.mem_append.1 hy with hy | hy
    · exact kp y (h.2.1 y hy)
    · simp at hy; subst hy; exact kp _ ht
  · rw [List.getElem?_append] at hi hj
    split at hi
    · split at hj
      · exact h.2.2 i j a b hi hj hn
      · rename_i h2 h3
        have e : j - ts.length = 0 := by have := (List.getElem?_eq_some_iff.1 hj).1; simp at this; omega
        rw [e] at hj; simp at hj; subst hj
        exact (ha i a hi).symm
    · split at hj
      · rename_i h2 h3
        have e : i - ts.length = 0 := by have := (List.getElem?_eq_some_iff.1 hi).1; simp at this; omega
        rw [e] at hi; simp at hi; subst hi
        exact ha j b hj
      · have e1 : i - ts.length = 0 := by have := (List.getElem?_eq_some_iff.1 hi).1; simp at this; omega
        have e2 : j - ts.length = 0 := by have := (List.getElem?_eq_some_iff.1 hj).1; simp at this; omega
        omega
end Go.Proofs.YtpahahonopiblaaDoor

namespace Go.Proofs.YtpahahonopiblaaDoor
open Go.RowKit
set_option maxRecDepth 100000
set_option linter.unusedVariables false

/-- Rights and numbers of a thing, wherever they lie. -/
def ThH (W : World) (t : Tr) : Prop := HasR W t.2.1 t.1.slots ∧ HasQ W t.2.2 t.1.queue
theorem ThH.stay {W W' : World} {t : Tr} (h : ThH W t) (hb : Below W.heap.size W W') : ThH W' t := ⟨h.1.stay hb, h.2.stay hb⟩
theorem ThW.thH {n0 : Nat} {W : World} {t : Tr} (h : ThW n0 W t) : ThH W t := ⟨OwnR.has h.1, OwnQ.has h.2⟩
/-- The things of a table, with their slices. -/
theorem HasT.rows {w : World} {s : Sl} {l : List T8} (h : HasT w s l) : ∃ ts : List Tr, ts.map (·.1) = l ∧ Els w s 8 (ts.map Tr.cs) ∧ ∀ t ∈ ts, ThH w t := by
  obtain ⟨h1, h2, h3⟩ := h
  rcases h3 with rfl | ⟨b, o, e, hT⟩
  · exact ⟨[], rfl, ⟨h1, h2, .inl rfl⟩, fun t ht => by (cases ht)⟩
  · have hp : ∀ i : Fin l.length, ∃ p : Sl × Sl, HasR w p.1 l[i].slots ∧ HasQ w p.2 l[i].queue ∧ At w b (o + i * 8) (l[i].cs p.1 p.2) := fun i => by
      obtain ⟨ss, qs, a1, a2, a3⟩ := hT i i.2
      exact ⟨(ss, qs), a1, a2, a3⟩
    refine ⟨List.ofFn fun i : Fin l.length => (l[i], Classical.choose (hp i)), ?_, ⟨by simpa using h1, h2, .inr ⟨b, o, e, fun i x hx => ?_⟩⟩, fun t ht => ?_⟩
    · apply List.ext_getElem
      · simp
      · intro i h1 h2; simp
    · simp only [List.getElem?_map, Option.map_eq_some_iff] at hx
      obtain ⟨y, hy, rfl⟩ := hx
      rw [List.getElem?_ofFn] at hy
      split at hy
      · rename_i hi
        cases hy
        exact (Classical.choose_spec (hp ⟨i, hi⟩)).2.2
      · cases hy
    · obtain ⟨i, hi⟩ := List.getElem?_of_mem ht
      rw [List.getElem?_ofFn] at hi
      split at hi
      · rename_i hi'
        cases hi
        exact ⟨(Classical.choose_spec (hp ⟨i, hi'⟩)).1, (Classical.choose_spec (hp ⟨i, hi'⟩)).2.1⟩
      · cases hi
theorem hasT_of {n0 : Nat} {W : World} {s : Sl} {ts : List Tr} (h : OwnF Tr.cs 8 37 n0 W s ts) (hr : ∀ t ∈ ts, ThH W t) : HasT W s (ts.map (·.1)) := by
  obtain ⟨e1, e2, e3⟩ := h.els szT
  refine ⟨by rw [e1]; simp, e2, ?_⟩
  by_cases hl : ts = []
  · subst hl; exact .inl rfl
  · obtain ⟨g, cur, e, -⟩ := h.form (List.length_pos_iff.2 hl)
    refine .inr ⟨g, 0, e, fun i hi => ?_⟩
    have hi' : i < ts.length := by simpa using hi
    have ht : ts[i]? = some ts[i] := List.getElem?_eq_getElem hi'
    have hm := hr _ (List.getElem_mem hi')
    refine ⟨(ts[i]).2.1, (ts[i]).2.2, ?_, ?_, ?_⟩
    · simpa using hm.1
    · simpa using hm.2
    · have := h.at szT e ht
      simpa using this
/-- append([]Thing{}, t...). -/
theorem copyT (W : World) (s : Sl) (l : List T8) (h : HasT W s l) (hz : l.length ≤ 1048576) (ty : TypeId) :
    ∃ (ts : List Tr) (s' : Sl) (W' : World), ts.map (·.1) = l ∧ (∀ t ∈ ts, ThH W t) ∧ Els W s 8 (ts.map Tr.cs) ∧
      (Builtin.append_ #[25, 25] ty #[.slice (some ⟨W.heap.size, 0, none⟩) 0 0, .slice s.a s.n s.c]).run Tryd.prog (W.alloc (.cells #[] 37)) = .ok (.slice s'.a s'.n s'.c) W' ∧
      OwnF Tr.cs 8 37 W.heap.size W' s' ts ∧ Below W.heap.size W W' := by
  obtain ⟨ts, h1, h2, h3⟩ := h.rows
  have hb0 : Below W.heap.size W (W.alloc (.cells #[] 37)) := (Below.refl _ _).alloc (Nat.le_refl _) _
  have hl : ts.length ≤ 1048576 := by have := congrArg List.length h1; simp at this; omega
  obtain ⟨s', W', hr, ho, hb, -, -⟩ := copy_row Tr.cs _ _ 8 96 _ infoTh Tryd.underlying25 rfl (by decide) (by decide) szT oneT W.heap.size (W.alloc (.cells #[] 37)) ⟨some ⟨W.heap.size, 0, none⟩, 0, 0⟩ [] (OwnF.made _ _ _ W) (by simp) (by simp) s ts (h2.stay hb0) hl ty
  exact ⟨ts, s', W', h1, h3, h2, hr, by simpa using ho, hb0.trans hb⟩
theorem els_at {w : World} {g n c : Nat} {ts : List Tr} (h : Els w ⟨some ⟨g, 0, none⟩, n, c⟩ 8 (ts.map Tr.cs)) {i : Nat} {t : Tr} (ht : ts[i]? = some t) : At w g (i * 8) (Tr.cs t) := by
  rcases h.2.2 with h0 | ⟨b, o, e, hat⟩
  · simp at h0; subst h0; simp at ht
  · simp only [Option.some.injEq, Addr.mk.injEq] at e
    obtain ⟨rfl, rfl, -⟩ := e
    have := hat i (Tr.cs t) (by simp [ht])
    simpa using this
theorem row_get {ts : List Tr} {l : List T8} (h : ts.map (·.1) = l) {j : Nat} (hj : j < l.length) : ∃ t, ts[j]? = some t ∧ t.1 = l[j] := by
  have hl : ts.length = l.length := by rw [← h]; simp
  refine ⟨ts[j]'(by omega), List.getElem?_eq_getElem (by omega), ?_⟩
  subst h
  simp
theorem map_set1 {ts : List Tr} {l : List T8} (h : ts.map (·.1) = l) (j : Nat) (t : Tr) : (ts.set j t).map (·.1) = l.set j t.1 := by rw [List.map_set, h]
theorem flat_map {α : Type} (f : α → Array Value) (l : List α) : flat f l = (l.map f).flatMap Array.toList := by simp [flat, List.flatMap_map]
theorem OwnF.like {α : Type} {f : α → Array Value} {n : Nat} {T : TypeId} {n0 : Nat} {W : World} {s : Sl} {l l' : List α} (h : OwnF f n T n0 W s l) (e : l'.map f = l.map f) : OwnF f n T n0 W s l' := by
  have hl : l'.length = l.length := by have := congrArg List.length e; simpa using this
  have hf : flat f l' = flat f l := by rw [flat_map, flat_map, e]
  unfold OwnF at h ⊢
  rw [hl, hf]
  exact h
/-- A right is stored in slots of one's own, in a table copied as it is. -/
theorem slot_stored {y V : World} {n0 : Nat} {ts : List Tr} {l : List T8} {sx s2 : Sl} {jr b2 ja : Nat} {t : Tr} (hts : ts.map (·.1) = l) (hth : ∀ t ∈ ts, ThH y t) (htj : ts[jr]? = some t) (hjr : jr < l.length)
    (ow : OwnF Tr.cs 8 37 n0 V sx (ts.set jr (t.1, s2, t.2.2))) (row : OwnR n0 V s2 t.1.slots) (hb2 : s2.a = some ⟨b2, 0, none⟩) (hja : ja < t.1.slots.length) (hn0 : y.heap.size ≤ n0) (bV : Below y.heap.size y V) (v : R5) :
    HasT (set5 V b2 (ja * 5) v) sx (l.set jr { l[jr] with slots := (l[jr]).slots.set ja v }) ∧ Below y.heap.size y (set5 V b2 (ja * 5) v) := by
  have hne : t.1.slots ≠ [] := fun e => by rw [e] at hja; simp at hja
  obtain ⟨b', TB, cur, hTB, e', hb', bx, -⟩ := row.form hne
  rw [hb2] at e'
  cases e'
  have bF : Below y.heap.size y (set5 V b2 (ja * 5) v) := bV.trans ((set5_below hb' v).mono hn0)
  refine ⟨?_, bF⟩
  have het : t.1 = l[jr] := by
    obtain ⟨t', h1, h2⟩ := row_get hts hjr
    rw [htj] at h1; cases h1; exact h2
  have e1 : (ts.set jr ({ t.1 with slots := t.1.slots.set ja v }, s2, t.2.2)).map (·.1) = l.set jr { l[jr] with slots := (l[jr]).slots.set ja v } := by
    rw [map_set1 hts]; dsimp only; rw [het]
  rw [← e1]
  refine hasT_of (n0 := n0) (OwnF.like (l := ts.set jr (t.1, s2, t.2.2)) (ow.keep fun b cs _ _ kx => set5_other kx (Box.ne kx bx hTB.neT.symm) v) (by rw [List.map_set, List.map_set])) fun x hx => ?_
  rcases List.mem_or_eq_of_mem_set hx with hx | rfl
  · exact (hth x hx).stay bF
  · refine ⟨?_, ((hth t (List.mem_of_getElem? htj)).stay bF).2⟩
    have := row.lay szR hb2 (List.getElem?_eq_getElem hja) v
    rw [← set5_lay] at this
    exact OwnR.has this
end Go.Proofs.YtpahahonopiblaaDoor
