/-
  Rows that are being filled, element by element.
-/
import Derived.Test.YtpahahonopiblaaDoorTab
import Derived.Laws.MakeOwn
namespace Go.Proofs.YtpahahonopiblaaDoor
open Go.RowKit
set_option linter.unusedVariables false

theorem make_row {P : Program} (t e : TypeId) (z : Value) (size bytes : Nat) (ht : P.underlying t = some (.slice e)) (hinfo : (P.info? e).map (fun i => (i.zero, i.size, i.bytes)) = some (some z, size, bytes))
    (n : Nat) (hb : bytes * n ≤ 281474976710656) (hn : n ≤ 9223372036854775807) (w : World) :
    (Instr.makeSlice t (.int .i64 (n : Int)) (.int .i64 (n : Int))).run P w = .ok (.slice (some ⟨w.heap.size, 0, none⟩) n n) (w.alloc (.cells (madeCells z.cells (n * size)) e)) := by
  obtain ⟨i, hi, hzz⟩ := Option.map_eq_some_iff.1 hinfo
  simp only [Prod.mk.injEq] at hzz
  obtain ⟨hz, hs, hbb⟩ := hzz
  have hb' : (i.bytes : Int) * (n : Int) ≤ 281474976710656 := by
    have h : ((i.bytes * n : Nat) : Int) ≤ 281474976710656 := by rw [hbb]; omega
    rwa [Int.natCast_mul] at h
  have hr := run_make (P := P) w t e i z ht hi hz .i64 .i64 n n (by omega) (Int.le_refl _) hb' (by omega)
  simp only [Int.toNat_natCast, hs] at hr
  exact hr
/-- Block B is a row for m elements of n cells each; the first k of them are those of l. -/
def Part (w : World) (B : Nat) (T : TypeId) (n m : Nat) (l : List (Array Value)) (k : Nat) : Prop :=
  ∃ cs, Box w B T cs ∧ cs.size = m * n ∧ ∀ i x, i < k → l[i]? = some x → ∀ j v, j < n → x[j]? = some v → cs[i * n + j]? = some v
theorem Part.fresh (w : World) (T : TypeId) (n m : Nat) (l : List (Array Value)) (z : Array Value) : Part (w.alloc (.cells (madeCells z (m * n)) T)) w.heap.size T n m l 0 :=
  ⟨_, Box.fresh _ _ _, size_madeCells _ _, fun i x hi => absurd hi (by omega)⟩
theorem Part.stay {w w' : World} {B : Nat} {T : TypeId} {n m : Nat} {l : List (Array Value)} {k : Nat} (h : Part w B T n m l k) (hb : Below w.heap.size w w') : Part w' B T n m l k := by
  obtain ⟨cs, h1, h2, h3⟩ := h
  exact ⟨cs, h1.stay hb, h2, h3⟩
theorem Part.drew {w : World} {B : Nat} {T : TypeId} {n m : Nat} {l : List (Array Value)} {k : Nat} (h : Part w B T n m l k) : Part w.drew B T n m l k := h
/-- The cells of the element that is next. -/
theorem Part.next {w : World} {B : Nat} {T : TypeId} {n m : Nat} {l : List (Array Value)} {k : Nat} (h : Part w B T n m l k) (hk : k < m) {j : Nat} (hj : j < n) : (∃ u, w.cell? ⟨B, k * n + j, none⟩ = some u) ∧ w.frozen? ⟨B, k * n + j, none⟩ = false := by
  obtain ⟨cs, h1, h2, h3⟩ := h
  have hl : k * n + j < cs.size := by
    rw [h2]
    have : (k + 1) * n ≤ m * n := Nat.mul_le_mul_right n hk
    rw [Nat.succ_mul] at this
    omega
  exact ⟨⟨cs[k * n + j], h1.cell _ _ (Array.getElem?_eq_getElem hl)⟩, h1.thaw _⟩
/-- Laying a list of cells from o on. -/
def lay (w : World) (B o : Nat) : List Value → World
  | [] => w
  | v :: vs => lay (w.setCell ⟨B, o, none⟩ v) B (o + 1) vs
def layC (cs : Array Value) (o : Nat) : List Value → Array Value
  | [] => cs
  | v :: vs => layC (cs.setIfInBounds o v) (o + 1) vs
theorem layC_size (vs : List Value) : ∀ (cs : Array Value) (o : Nat), (layC cs o vs).size = cs.size := by
  induction vs with
  | nil => intro cs o; rfl
  | cons v vs ih => intro cs o; show (layC _ _ vs).size = _; rw [ih]; simp
theorem layC_out (vs : List Value) : ∀ (cs : Array Value) (o i : Nat), (i < o ∨ o + vs.length ≤ i) → (layC cs o vs)[i]? = cs[i]? := by
  induction vs with
  | nil => intro cs o i h; rfl
  | cons v vs ih =>
    intro cs o i h
    show (layC _ _ vs)[i]? = _
    rw [ih _ _ _ (by simp at h; omega)]
    rw [Array.getElem?_setIfInBounds_ne (by simp at h; omega)]
theorem layC_in (vs : List Value) : ∀ (cs : Array Value) (o j : Nat) (v : Value), o + vs.length ≤ cs.size → vs[j]? = some v → (layC cs o vs)[o + j]? = some v := by
  induction vs with
  | nil => intro cs o j v h hv; simp at hv
  | cons x vs ih =>
    intro cs o j v h hv
    show (layC _ _ vs)[o + j]? = _
    simp at h
    cases j with
    | zero =>
      simp at hv
      subst hv
      rw [layC_out vs _ _ _ (by omega)]
      have ho : o < cs.size := by omega
      show (cs.setIfInBounds o x)[o]? = some x
      rw [Array.getElem?_setIfInBounds]
      simp [ho]
    | succ j =>
      simp at hv
      have := ih (cs.setIfInBounds o x) (o + 1) j v (by simp; omega) hv
      rw [show o + (j + 1) = o + 1 + j by omega]
      exact this
theorem lay_box {B : Nat} {T : TypeId} (vs : List Value) : ∀ {w : World} {cs : Array Value} (o : Nat), Box w B T cs → Box (lay w B o vs) B T (layC cs o vs) := by
  induction vs with
  | nil => intro w cs o h; exact h
  | cons v vs ih => intro w cs o h; exact ih (o + 1) (h.put o v)
theorem lay_below {B N : Nat} {w0 : World} (vs : List Value) : ∀ {w : World} (o : Nat), Below N w0 w → N ≤ B → Below N w0 (lay w B o vs) := by
  induction vs with
  | nil => intro w o h hB; exact h
  | cons v vs ih => intro w o h hB; exact ih (o + 1) (h.setCell hB v) hB
/-- The next element, laid. -/
theorem Part.put {w : World} {B : Nat} {T : TypeId} {n m : Nat} {l : List (Array Value)} {k : Nat} (h : Part w B T n m l k) (hk : k < m) (x : Array Value) (hx : l[k]? = some x) (hn : x.size = n) : Part (lay w B (k * n) x.toList) B T n m l (k + 1) := by
  obtain ⟨cs, h1, h2, h3⟩ := h
  have hb : k * n + n ≤ m * n := by
    have : (k + 1) * n ≤ m * n := Nat.mul_le_mul_right n hk
    rw [Nat.succ_mul] at this
    exact this
  refine ⟨_, lay_box x.toList (k * n) h1, by rw [layC_size, h2], fun i y hi hy j v hj hv => ?_⟩
  by_cases hik : i = k
  · subst hik
    rw [hx] at hy
    cases hy
    exact layC_in x.toList cs (i * n) j v (by rw [h2]; simpa [hn] using hb) (by simpa using hv)
  · have hlt : i < k := by omega
    rw [layC_out]
    · exact h3 i y hlt hy j v hj hv
    · left
      have : (i + 1) * n ≤ k * n := Nat.mul_le_mul_right n hlt
      rw [Nat.succ_mul] at this
      omega
theorem Part.put5 {w : World} {B : Nat} {T : TypeId} {m : Nat} {l : List (Array Value)} {k : Nat} (h : Part w B T 5 m l k) (hk : k < m) {v0 v1 v2 v3 v4 : Value} (hx : l[k]? = some #[v0, v1, v2, v3, v4]) :
    Part (((((w.setCell ⟨B, k * 5, none⟩ v0).setCell ⟨B, k * 5 + 1, none⟩ v1).setCell ⟨B, k * 5 + 2, none⟩ v2).setCell ⟨B, k * 5 + 3, none⟩ v3).setCell ⟨B, k * 5 + 4, none⟩ v4) B T 5 m l (k + 1) := by
  have h1 : Part (lay w B (k * 5) [v0, v1, v2, v3, v4]) B T 5 m l (k + 1) := h.put hk _ hx rfl
  simp only [lay, Nat.add_assoc, Nat.reduceAdd] at h1
  exact h1
theorem Part.put1 {w : World} {B : Nat} {T : TypeId} {m : Nat} {l : List (Array Value)} {k : Nat} (h : Part w B T 1 m l k) (hk : k < m) {v0 : Value} (hx : l[k]? = some #[v0]) :
    Part (w.setCell ⟨B, k, none⟩ v0) B T 1 m l (k + 1) := by
  have := h.put hk _ hx rfl
  rw [Nat.mul_one] at this
  exact this
theorem Part.put8 {w : World} {B : Nat} {T : TypeId} {m : Nat} {l : List (Array Value)} {k : Nat} (h : Part w B T 8 m l k) (hk : k < m) {v0 v1 v2 v3 v4 v5 v6 v7 : Value} (hx : l[k]? = some #[v0, v1, v2, v3, v4, v5, v6, v7]) :
    Part ((((((((w.setCell ⟨B, k * 8, none⟩ v0).setCell ⟨B, k * 8 + 1, none⟩ v1).setCell ⟨B, k * 8 + 2, none⟩ v2).setCell ⟨B, k * 8 + 3, none⟩ v3).setCell ⟨B, k * 8 + 4, none⟩ v4).setCell ⟨B, k * 8 + 5, none⟩ v5).setCell ⟨B, k * 8 + 6, none⟩ v6).setCell ⟨B, k * 8 + 7, none⟩ v7) B T 8 m l (k + 1) := by
  have h1 : Part (lay w B (k * 8) [v0, v1, v2, v3, v4, v5, v6, v7]) B T 8 m l (k + 1) := h.put hk _ hx rfl
  simp only [lay, Nat.add_assoc, Nat.reduceAdd] at h1
  exact h1
theorem Part.lt {w : World} {B : Nat} {T : TypeId} {n m : Nat} {l : List (Array Value)} {k : Nat} (h : Part w B T n m l k) : B < w.heap.size := by
  obtain ⟨cs, h1, _⟩ := h
  exact h1.lt
/-- Filled: the slice. -/
theorem Part.els {w : World} {B : Nat} {T : TypeId} {n : Nat} {l : List (Array Value)} (h : Part w B T n l.length l l.length) (hn : ∀ x ∈ l, x.size = n) : Els w ⟨some ⟨B, 0, none⟩, l.length, l.length⟩ n l := by
  obtain ⟨cs, h1, h2, h3⟩ := h
  refine ⟨rfl, Nat.le_refl _, .inr ⟨B, 0, rfl, fun i x hx j v hv => ?_⟩⟩
  have hi : i < l.length := (List.getElem?_eq_some_iff.1 hx).1
  have hj : j < n := by
    rw [← hn x (List.mem_of_getElem? hx)]
    exact (Array.getElem?_eq_some_iff.1 hv).1
  have := h1.cell _ _ (h3 i x hi hx j v hj hv)
  rw [show 0 + i * n + j = i * n + j by omega]
  exact this
end Go.Proofs.YtpahahonopiblaaDoor
