/-
  Rights and things as plain data, and how they lie in memory.
-/
import Derived.Test.YtpahahonopiblaaDoorRigS
import Derived.Test.YtpahahonopiblaaDoorLabS
namespace Go.Proofs.YtpahahonopiblaaDoor
open Go.RowKit
set_option linter.unusedVariables false

/-- A right. -/
structure R5 where
  t : Int
  v : Int
  r : Bool
  w : Bool
  k : Bool
abbrev R5.val (x : R5) : Value := rgt x.t x.v x.r x.w x.k
abbrev R5.cs (x : R5) : Array Value := rgtC x.t x.v x.r x.w x.k
def R5.ok (x : R5) : Bool := okR x.t x.v x.r x.w x.k
/-- A thing. -/
structure T8 where
  kind : Int
  sec : Int
  vou : Int
  vers : Int
  num : Int
  slots : List R5
  queue : List Int
  to : Int
/-- A slice: where it begins, its length, its capacity. -/
structure Sl where
  a : Option Addr
  n : Nat
  c : Nat
abbrev Sl.val (s : Sl) : Value := .slice s.a s.n s.c
abbrev T8.cs (x : T8) (s q : Sl) : Array Value := #[.int .i64 x.kind, .int .i64 x.sec, .int .i64 x.vou, .int .i64 x.vers, .int .i64 x.num, .slice s.a s.n s.c, .slice q.a q.n q.c, .int .i64 x.to]
abbrev T8.val (x : T8) (s q : Sl) : Value := .agg (x.cs s q)

theorem drewNB {B : Nat} {w x : World} (h : Below B w x) (n : Nat) : Below B w (x.drewN n) := ⟨h.os, h.tape, h.output, h.size, h.block⟩
theorem cell_lt {w : World} {b o : Nat} {v : Value} (h : w.cell? ⟨b, o, none⟩ = some v) : b < w.heap.size := by
  by_cases hb : b < w.heap.size
  · exact hb
  · simp [World.cell?, Array.getElem?_eq_none (Nat.le_of_not_lt hb)] at h
theorem stayCell {w w' : World} {b o : Nat} {v : Value} (h : w.cell? ⟨b, o, none⟩ = some v) (hb : Below w.heap.size w w') : w'.cell? ⟨b, o, none⟩ = some v := (hb.cell (p := ⟨b, o, none⟩) (cell_lt h)).trans h
/-- The cells vs lie in block b from o on. -/
def At (w : World) (b o : Nat) (vs : Array Value) : Prop := ∀ j v, vs[j]? = some v → w.cell? ⟨b, o + j, none⟩ = some v
theorem At.stay {w w' : World} {b o : Nat} {vs : Array Value} (h : At w b o vs) (hb : Below w.heap.size w w') : At w' b o vs := fun j v hv => (hb.cell (p := ⟨b, o + j, none⟩) (cell_lt (h j v hv))).trans (h j v hv)
theorem At.drew {w : World} {b o : Nat} {vs : Array Value} (h : At w b o vs) : At w.drew b o vs := h

theorem At.other {w : World} {b o : Nat} {vs : Array Value} (h : At w b o vs) {p : Addr} (hp : b ≠ p.block) (u : Value) : At (w.setCell p u) b o vs := fun j v hv => by
  have h1 := h j v hv
  have h2 := Below.heap_setCell w p u b hp
  unfold World.cell? at h1 ⊢
  dsimp only at h1 ⊢
  rw [h2]
  exact h1

/-- A slice of elements, each of n cells. -/
def Els (w : World) (s : Sl) (n : Nat) (l : List (Array Value)) : Prop := s.n = l.length ∧ s.n ≤ s.c ∧ (l = [] ∨ ∃ b o, s.a = some ⟨b, o, none⟩ ∧ ∀ i x, l[i]? = some x → At w b (o + i * n) x)
theorem Els.stay {w w' : World} {s : Sl} {n : Nat} {l : List (Array Value)} (h : Els w s n l) (hb : Below w.heap.size w w') : Els w' s n l := by
  obtain ⟨h1, h2, h3⟩ := h
  refine ⟨h1, h2, ?_⟩
  rcases h3 with h3 | ⟨b, o, e, h3⟩
  · exact .inl h3
  · exact .inr ⟨b, o, e, fun i x hx => (h3 i x hx).stay hb⟩
theorem Els.other {w : World} {s : Sl} {n : Nat} {l : List (Array Value)} (h : Els w s n l) {p : Addr} (hp : ∀ b o, s.a = some ⟨b, o, none⟩ → b ≠ p.block) (u : Value) : Els (w.setCell p u) s n l := by
  obtain ⟨h1, h2, h3⟩ := h
  refine ⟨h1, h2, ?_⟩
  rcases h3 with h3 | ⟨b, o, e, h3⟩
  · exact .inl h3
  · exact .inr ⟨b, o, e, fun i x hx => (h3 i x hx).other (hp b o e) u⟩
/-- Rights, numbers in a row. -/
def HasR (w : World) (s : Sl) (l : List R5) : Prop := Els w s 5 (l.map R5.cs)
def HasQ (w : World) (s : Sl) (l : List Int) : Prop := Els w s 1 (l.map fun n => #[.int .i64 n])
theorem HasR.stay {w w' : World} {s : Sl} {l : List R5} (h : HasR w s l) (hb : Below w.heap.size w w') : HasR w' s l := Els.stay h hb
theorem HasQ.stay {w w' : World} {s : Sl} {l : List Int} (h : HasQ w s l) (hb : Below w.heap.size w w') : HasQ w' s l := Els.stay h hb
theorem HasR.other {w : World} {s : Sl} {l : List R5} (h : HasR w s l) {p : Addr} (hp : ∀ b o, s.a = some ⟨b, o, none⟩ → b ≠ p.block) (u : Value) : HasR (w.setCell p u) s l := Els.other h hp u
theorem HasQ.other {w : World} {s : Sl} {l : List Int} (h : HasQ w s l) {p : Addr} (hp : ∀ b o, s.a = some ⟨b, o, none⟩ → b ≠ p.block) (u : Value) : HasQ (w.setCell p u) s l := Els.other h hp u
theorem HasR.len {w : World} {s : Sl} {l : List R5} (h : HasR w s l) : s.n = l.length := h.1.trans (by simp)
theorem HasQ.len {w : World} {s : Sl} {l : List Int} (h : HasQ w s l) : s.n = l.length := h.1.trans (by simp)
theorem HasR.at {w : World} {s : Sl} {l : List R5} (h : HasR w s l) {i : Nat} (hi : i < l.length) : ∃ b o, s.a = some ⟨b, o, none⟩ ∧ At w b (o + i * 5) (l[i]).cs := by
  rcases h.2.2 with h0 | ⟨b, o, e, h3⟩
  · simp at h0; subst h0; simp at hi
  · exact ⟨b, o, e, h3 i _ (by simp [List.getElem?_eq_getElem hi])⟩
theorem HasQ.at {w : World} {s : Sl} {l : List Int} (h : HasQ w s l) {i : Nat} (hi : i < l.length) : ∃ b o, s.a = some ⟨b, o, none⟩ ∧ w.cell? ⟨b, o + i, none⟩ = some (.int .i64 l[i]) := by
  rcases h.2.2 with h0 | ⟨b, o, e, h3⟩
  · simp at h0; subst h0; simp at hi
  · have := h3 i #[.int .i64 l[i]] (by simp [List.getElem?_eq_getElem hi]) 0 _ rfl
    exact ⟨b, o, e, by simpa using this⟩
/-- Things in a row, from o on in block b. -/
def Tb (w : World) (b o : Nat) (l : List T8) : Prop := ∀ i (h : i < l.length), ∃ ss qs, HasR w ss l[i].slots ∧ HasQ w qs l[i].queue ∧ At w b (o + i * 8) (l[i].cs ss qs)
theorem Tb.stay {w w' : World} {b o : Nat} {l : List T8} (h : Tb w b o l) (hb : Below w.heap.size w w') : Tb w' b o l := fun i hi => by
  obtain ⟨ss, qs, a1, a2, a3⟩ := h i hi
  exact ⟨ss, qs, a1.stay hb, a2.stay hb, a3.stay hb⟩
/-- A table. -/
def HasT (w : World) (s : Sl) (l : List T8) : Prop := s.n = l.length ∧ s.n ≤ s.c ∧ (l = [] ∨ ∃ b o, s.a = some ⟨b, o, none⟩ ∧ Tb w b o l)
theorem HasT.stay {w w' : World} {s : Sl} {l : List T8} (h : HasT w s l) (hb : Below w.heap.size w w') : HasT w' s l := by
  obtain ⟨h1, h2, h3⟩ := h
  refine ⟨h1, h2, ?_⟩
  rcases h3 with h3 | ⟨b, o, e, h3⟩
  · exact .inl h3
  · exact .inr ⟨b, o, e, h3.stay hb⟩
end Go.Proofs.YtpahahonopiblaaDoor
