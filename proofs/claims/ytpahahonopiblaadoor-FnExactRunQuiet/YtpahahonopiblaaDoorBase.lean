/-
  Words of our own for memory: a block that is known whole, and how it fares while the world goes on.
-/
import Derived.Test.YtpahahonopiblaaDoorRows
import Derived.WalkKit
import Derived.WalkSpells
import Derived.WalkLawsBesides
import Derived.Deep.RegionHeld3
import Derived.Lib.Hide
namespace Go.Proofs.YtpahahonopiblaaDoor
open Go.RowKit

/-- Block b is the cells vs of element type T, whole, and none of them is frozen. -/
def Box (w : World) (b : Nat) (T : TypeId) (vs : Array Value) : Prop := w.heap[b]? = some (Obj.cells vs T)

section
variable {w w' : World} {b B : Nat} {T : TypeId} {vs : Array Value}
theorem Box.lt (h : Box w b T vs) : b < w.heap.size := by
  unfold Box at h
  exact (Array.getElem?_eq_some_iff.1 h).1
theorem Box.at (h : Box w b T vs) (i : Nat) : w.cell? ⟨b, i, none⟩ = vs[i]? := by
  unfold Box at h
  simp [World.cell?, h]
theorem Box.cell (h : Box w b T vs) (i : Nat) (v : Value) (hv : vs[i]? = some v) : w.cell? ⟨b, i, none⟩ = some v := (h.at i).trans hv
theorem Box.thaw (h : Box w b T vs) (i : Nat) : w.frozen? ⟨b, i, none⟩ = false := by
  unfold Box at h
  simp [World.frozen?, h]
theorem Box.fresh (w : World) (T : TypeId) (vs : Array Value) : Box (w.alloc (.cells vs T)) w.heap.size T vs := by
  show (w.heap.push _)[w.heap.size]? = _
  simp
theorem Box.past (h : Box w b T vs) (o : Obj) : Box (w.alloc o) b T vs := (Below.heap_alloc w o b h.lt).trans h
theorem Box.drew (h : Box w b T vs) : Box w.drew b T vs := h
theorem Box.keep (h : Box w b T vs) (hb : Below B w w') (hB : b < B) : Box w' b T vs := (hb.block b hB).trans h
theorem Box.stay (h : Box w b T vs) (hb : Below w.heap.size w w') : Box w' b T vs := h.keep hb h.lt
theorem Box.put (h : Box w b T vs) (i : Nat) (u : Value) : Box (w.setCell ⟨b, i, none⟩ u) b T (vs.setIfInBounds i u) := by
  unfold Box at h ⊢
  simp [World.setCell, Array.getElem?_modify, h]
theorem Box.other (h : Box w b T vs) {p : Addr} (hp : b ≠ p.block) (u : Value) : Box (w.setCell p u) b T vs := (Below.heap_setCell w p u b hp).trans h
end

/-- All that stood is as it was, but for block r; new blocks may have come. -/
structure Grew (r : Nat) (w w' : World) : Prop where
  os : w'.os = w.os
  tape : w'.tape = w.tape
  output : w'.output = w.output
  size : w.heap.size ≤ w'.heap.size
  block : ∀ k, k < w.heap.size → k ≠ r → w'.heap[k]? = w.heap[k]?

theorem Grew.refl (r : Nat) (w : World) : Grew r w w := ⟨rfl, rfl, rfl, Nat.le_refl _, fun _ _ _ => rfl⟩
theorem Grew.trans {r : Nat} {a b c : World} (h : Grew r a b) (k : Grew r b c) : Grew r a c :=
  ⟨k.os.trans h.os, k.tape.trans h.tape, k.output.trans h.output, Nat.le_trans h.size k.size, fun i hi hr => (k.block i (Nat.lt_of_lt_of_le hi h.size) hr).trans (h.block i hi hr)⟩
theorem Grew.drew {r : Nat} {a b : World} (h : Grew r a b) : Grew r a b.drew := ⟨h.os, h.tape, h.output, h.size, h.block⟩
theorem Grew.drewN {r : Nat} {a b : World} (h : Grew r a b) (n : Nat) : Grew r a (b.drewN n) := ⟨h.os, h.tape, h.output, h.size, h.block⟩
theorem Grew.of {r : Nat} {a b : World} (h : Below a.heap.size a b) : Grew r a b := ⟨h.os, h.tape, h.output, h.size, fun k hk _ => h.block k hk⟩
theorem Grew.on {r : Nat} {a b c : World} (h : Grew r a b) (k : Below b.heap.size b c) : Grew r a c := h.trans (Grew.of k)
theorem Grew.alloc {r : Nat} {a b : World} (h : Grew r a b) (o : Obj) : Grew r a (b.alloc o) := h.on ((Below.refl _ _).alloc (Nat.le_refl _) o)
/-- A store into block r, or into one that is new. -/
theorem Grew.put {r : Nat} {a b : World} (h : Grew r a b) {p : Addr} (hp : p.block = r ∨ a.heap.size ≤ p.block) (u : Value) : Grew r a (b.setCell p u) :=
  ⟨h.os, h.tape, h.output, by simpa [World.setCell] using h.size, fun k hk hr => (Below.heap_setCell b p u k (by rcases hp with hp | hp <;> omega)).trans (h.block k hk hr)⟩
theorem Grew.below {r B : Nat} {a b : World} (h : Grew r a b) (hB : B ≤ r) (hz : B ≤ a.heap.size) : Below B a b :=
  ⟨h.os, h.tape, h.output, h.size, fun k hk => h.block k (by omega) (by omega)⟩
theorem Box.grew {w w' : World} {b r : Nat} {T : TypeId} {vs : Array Value} (h : Box w b T vs) (hg : Grew r w w') (hb : b ≠ r) : Box w' b T vs := (hg.block b h.lt hb).trans h
theorem Box.drewN {w : World} {b : Nat} {T : TypeId} {vs : Array Value} (h : Box w b T vs) (n : Nat) : Box (w.drewN n) b T vs := h

/-- Old cells and old marks, behind a call that only made memory. -/
theorem bcell {W w1 : World} (hb : Below W.heap.size W w1) : (∀ b o, b < W.heap.size → w1.cell? ⟨b, o, none⟩ = W.cell? ⟨b, o, none⟩) ∧ (∀ b o, b < W.heap.size → w1.frozen? ⟨b, o, none⟩ = W.frozen? ⟨b, o, none⟩) :=
  ⟨fun b o h => hb.cell (p := ⟨b, o, none⟩) h, fun b o h => hb.frozen (p := ⟨b, o, none⟩) h⟩

theorem stepB {B : Nat} {W0 wc w' : World} {R : Prop} (h : Below B W0 wc ∧ R) (hB : B ≤ W0.heap.size) (hb : Below wc.heap.size wc w') : Below B W0 w' :=
  h.1.trans (hb.mono (Nat.le_trans hB h.1.size))
/-- One call more, above a mark. -/
theorem onB {B : Nat} {W0 wc w' : World} (h : Below B W0 wc) (hB : B ≤ W0.heap.size) (hb : Below wc.heap.size wc w') : Below B W0 w' :=
  h.trans (hb.mono (Nat.le_trans hB h.size))

/-- Two boxes made, two calls, and something above the boxes. -/
theorem endB {w w1 w2 w3 : World} {o1 o2 : Obj} (h1 : Below ((w.alloc o1).alloc o2).heap.size ((w.alloc o1).alloc o2) w1) (h2 : Below w1.heap.size w1 w2) (h3 : Below (w.heap.size + 2) w2 w3) : Below w.heap.size w w3 := by
  have a0 : Below w.heap.size w ((w.alloc o1).alloc o2) := ((Below.refl _ _).alloc (Nat.le_refl _) _).alloc (by simp) _
  have z1 := h1.size
  simp at z1
  exact ((a0.trans (h1.mono (by simp; omega))).trans (h2.mono (by omega))).trans (h3.mono (by omega))
end Go.Proofs.YtpahahonopiblaaDoor
