/-
  Worlds in which some blocks of the call's own are known whole and nothing that was there has turned.
-/
import Derived.Test.YtpahahonopiblaaDoorInv
import Derived.Deep.QuietTactic
import Derived.BigQuiet
namespace Go.Proofs.YtpahahonopiblaaDoor
open Go.RowKit
set_option linter.unusedVariables false

/-- A block, its element type, its cells. -/
abbrev Blk3 := Nat × TypeId × Array Value
/-- Nothing that was there in w has turned, and these blocks are known. -/
def Kn (w : World) (L : List Blk3) (x : World) : Prop := Below w.heap.size w x ∧ ∀ t ∈ L, Box x t.1 t.2.1 t.2.2
section
variable {w x y : World} {L : List Blk3}
theorem Kn.start (h : Below w.heap.size w x) : Kn w [] x := ⟨h, fun _ h => by cases h⟩
theorem Kn.refl : Kn w [] w := Kn.start (Below.refl _ _)
theorem Kn.stay (h : Kn w L x) (hb : Below x.heap.size x y) : Kn w L y := ⟨h.1.trans (hb.mono h.1.size), fun t ht => (h.2 t ht).stay hb⟩
theorem Kn.drew (h : Kn w L x) : Kn w L x.drew := ⟨h.1.drew, fun t ht => (h.2 t ht).drew⟩
theorem Kn.drewN (h : Kn w L x) (n : Nat) : Kn w L (x.drewN n) := ⟨⟨h.1.os, h.1.tape, h.1.output, h.1.size, h.1.block⟩, fun t ht => (h.2 t ht).drewN n⟩
theorem Kn.past (h : Kn w L x) (o : Obj) : Kn w L (x.alloc o) := ⟨h.1.alloc h.1.size o, fun t ht => (h.2 t ht).past o⟩
theorem Kn.new (h : Kn w L x) (T : TypeId) (vs : Array Value) : Kn w ((x.heap.size, T, vs) :: L) (x.alloc (.cells vs T)) :=
  ⟨h.1.alloc h.1.size _, fun t ht => by
    rcases List.mem_cons.1 ht with rfl | ht
    · exact Box.fresh _ _ _
    · exact (h.2 t ht).past _⟩
theorem Kn.less {L' : List Blk3} (h : Kn w L x) (hs : ∀ t ∈ L', t ∈ L) : Kn w L' x := ⟨h.1, fun t ht => h.2 t (hs t ht)⟩
theorem Kn.box (h : Kn w L x) {b : Nat} {T : TypeId} {vs : Array Value} (hm : (b, T, vs) ∈ L) : Box x b T vs := h.2 _ hm
theorem Kn.c (h : Kn w L x) {b : Nat} {T : TypeId} {vs : Array Value} (hm : (b, T, vs) ∈ L) (i : Nat) (v : Value) (hv : vs[i]? = some v) : x.cell? ⟨b, i, none⟩ = some v := (h.2 _ hm).cell i v hv
theorem Kn.f (h : Kn w L x) {b : Nat} {T : TypeId} {vs : Array Value} (hm : (b, T, vs) ∈ L) (i : Nat) : x.frozen? ⟨b, i, none⟩ = false := (h.2 _ hm).thaw i
/-- A store into a block of the call's own that is not one of these. -/
theorem Kn.put (h : Kn w L x) {p : Addr} (hp : w.heap.size ≤ p.block) (hn : ∀ t ∈ L, t.1 ≠ p.block) (u : Value) : Kn w L (x.setCell p u) :=
  ⟨h.1.setCell hp u, fun t ht => (h.2 t ht).other (hn t ht) u⟩
end

/-- A world of a class. -/
structure Wd (D : World → Prop) where
  w : World
  ok : D w
/-- A callee that only makes memory, in a class of worlds that such callees keep. -/
theorem inCls {P : Program} {f : FuncId} {args : Array Value} {D : World → Prop} (hst : ∀ {x y : World}, D x → Below x.heap.size x y → D y) {t : Wd D} {v : Value}
    (h : Calls P f args t.w fun e y => e = .returned v ∧ Below t.w.heap.size t.w y) : Calls P f args t.w fun e y => e = .returned v ∧ ∃ m : Wd D, y = m.w :=
  h.mono fun _ y ⟨he, hb⟩ => ⟨he, ⟨y, hst t.ok hb⟩, rfl⟩
/-- A callee that leaves the world alone. -/
theorem inClsSame {P : Program} {f : FuncId} {args : Array Value} {D : World → Prop} {t : Wd D} {v : Value}
    (h : Calls P f args t.w fun e y => e = .returned v ∧ t.w = y) : Calls P f args t.w fun e y => e = .returned v ∧ ∃ m : Wd D, y = m.w :=
  h.mono fun _ y ⟨he, hb⟩ => ⟨he, t, hb.symm⟩
end Go.Proofs.YtpahahonopiblaaDoor
