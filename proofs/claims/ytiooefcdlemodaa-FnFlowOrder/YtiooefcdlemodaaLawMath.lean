/-
  Labels in plain numbers: the order, the join and the meet.
-/
import Derived.Test.YtiooefcdlemodaaLabE
import Derived.Deep.QuietTactic
import Derived.BigQuiet
namespace Go.Proofs.Ytiooefcdlemodaa
open Go.RowKit

/-- Two labels, in two blocks one behind the other. -/
def Two (y : World) (N : Nat) (s v s2 v2 : Int) : Prop :=
  Box y N 24 #[.int .i64 s, .int .i64 v] ∧ Box y (N + 1) 24 #[.int .i64 s2, .int .i64 v2]
theorem two_new (x : World) (s v s2 v2 : Int) : Two ((x.alloc (.cells #[.int .i64 s, .int .i64 v] 24)).alloc (.cells #[.int .i64 s2, .int .i64 v2] 24)) x.heap.size s v s2 v2 := by
  have e1 : (x.alloc (.cells #[.int .i64 s, .int .i64 v] 24)).heap.size = x.heap.size + 1 := by simp
  have b2 := Box.fresh (x.alloc (.cells #[.int .i64 s, .int .i64 v] 24)) 24 #[.int .i64 s2, .int .i64 v2]
  rw [e1] at b2
  exact ⟨(Box.fresh x _ _).past _, b2⟩
theorem Two.stay {y y' : World} {N : Nat} {s v s2 v2 : Int} (h : Two y N s v s2 v2) (hb : Below y.heap.size y y') : Two y' N s v s2 v2 := ⟨h.1.stay hb, h.2.stay hb⟩
theorem Two.past {y : World} {N : Nat} {s v s2 v2 : Int} (h : Two y N s v s2 v2) (o : Obj) : Two (y.alloc o) N s v s2 v2 := ⟨h.1.past o, h.2.past o⟩
theorem Two.drew {y : World} {N : Nat} {s v s2 v2 : Int} (h : Two y N s v s2 v2) : Two y.drew N s v s2 v2 := h
theorem Two.cells {y : World} {N : Nat} {s v s2 v2 : Int} (h : Two y N s v s2 v2) :
    y.cell? ⟨N, 0, none⟩ = some (.int .i64 s) ∧ y.cell? ⟨N, 1, none⟩ = some (.int .i64 v) ∧ y.cell? ⟨N + 1, 0, none⟩ = some (.int .i64 s2) ∧ y.cell? ⟨N + 1, 1, none⟩ = some (.int .i64 v2) :=
  ⟨h.1.cell 0 _ rfl, h.1.cell 1 _ rfl, h.2.cell 0 _ rfl, h.2.cell 1 _ rfl⟩
/-- Two blocks laid above all that was. -/
theorem laid2 {w x : World} (h : Below w.heap.size w x) (o1 o2 : Obj) : Below w.heap.size w ((x.alloc o1).alloc o2) :=
  (h.alloc h.size o1).alloc (by have := h.size; simp; omega) o2
theorem laid1 {w x : World} (h : Below w.heap.size w x) (o1 : Obj) : Below w.heap.size w (x.alloc o1) := h.alloc h.size o1
theorem going {w x y : World} (h : Below w.heap.size w x) (hb : Below x.heap.size x y) : Below w.heap.size w y := h.trans (hb.mono h.size)

/-- The worlds of a law that has two labels. -/
def Cls2 (w : World) (N : Nat) (s v s2 v2 : Int) (x : World) : Prop := Below w.heap.size w x ∧ Two x N s v s2 v2
theorem Cls2.stay {w : World} {N : Nat} {s v s2 v2 : Int} {x y : World} (h : Cls2 w N s v s2 v2 x) (hb : Below x.heap.size x y) : Cls2 w N s v s2 v2 y := ⟨going h.1 hb, h.2.stay hb⟩

/-- A world of a class. -/
structure Wd (D : World → Prop) where
  w : World
  ok : D w
/-- A callee that only makes memory, in a class of worlds that such callees keep. -/
theorem inCls {P : Program} {f : FuncId} {args : Array Value} {D : World → Prop} (hst : ∀ {x y : World}, D x → Below x.heap.size x y → D y) {t : Wd D} {v : Value}
    (h : Calls P f args t.w fun e y => e = .returned v ∧ Below t.w.heap.size t.w y) : Calls P f args t.w fun e y => e = .returned v ∧ ∃ m : Wd D, y = m.w :=
  h.mono fun _ y ⟨he, hb⟩ => ⟨he, ⟨y, hst t.ok hb⟩, rfl⟩
theorem Cls2.cells {w : World} {N : Nat} {s v s2 v2 : Int} (t : Wd (Cls2 w N s v s2 v2)) :
    t.w.cell? ⟨N, 0, none⟩ = some (.int .i64 s) ∧ t.w.cell? ⟨N, 1, none⟩ = some (.int .i64 v) ∧ t.w.cell? ⟨N + 1, 0, none⟩ = some (.int .i64 s2) ∧ t.w.cell? ⟨N + 1, 1, none⟩ = some (.int .i64 v2) := t.ok.2.cells

theorem implFlow_val {s v s2 v2 : Int} {b : Bool} (h : flow s v s2 v2 = b) (w : World) : Calls Try.prog 13 #[lab s v, lab s2 v2] w fun e w' => e = .returned (.bool b) ∧ Below w.heap.size w w' := by
  subst h; exact implFlow_any s v s2 v2 w
theorem specFlow_val {s v s2 v2 : Int} {b : Bool} (h : flow s v s2 v2 = b) (w : World) : Calls Try.prog 14 #[lab s v, lab s2 v2] w fun e w' => e = .returned (.bool b) ∧ Below w.heap.size w w' := by
  subst h; exact specFlow_any s v s2 v2 w
theorem specOk_val {s v : Int} {b : Bool} (h : okL s v = b) (w : World) : Calls Try.prog 15 #[lab s v] w fun e w' => e = .returned (.bool b) ∧ Below w.heap.size w w' := by
  subst h; exact specOk_any s v w

theorem okL_split {s v : Int} (h : okL s v = true) : (0 ≤ s ∧ s ≤ 3) ∧ 0 ≤ v ∧ v ≤ 3 := by
  simp [okL, okN] at h; exact h
theorem flow_eq {s v s2 v2 : Int} (h1 : okL s v = true) (h2 : okL s2 v2 = true) : flow s v s2 v2 = (sub2 s s2 && sub2 v2 v) := by simp [flow, h1, h2]
theorem flow_refl {s v : Int} (h : okL s v = true) : flow s v s v = true := by
  rw [flow_eq h h]; simp [sub2]
theorem flow_trans {s v s2 v2 s3 v3 : Int} (h1 : okL s v = true) (h2 : okL s2 v2 = true) (h3 : okL s3 v3 = true) (h : flow s v s2 v2 = true) (k : flow s2 v2 s3 v3 = true) : flow s v s3 v3 = true := by
  rw [flow_eq h1 h2] at h; rw [flow_eq h2 h3] at k; rw [flow_eq h1 h3]
  simp [sub2] at h k ⊢; omega
theorem flow_anti {s v s2 v2 : Int} (h1 : okL s v = true) (h2 : okL s2 v2 = true) : (flow s v s2 v2 && flow s2 v2 s v) = (s == s2 && v == v2) := by
  rw [flow_eq h1 h2, flow_eq h2 h1]
  rw [Bool.eq_iff_iff]; simp [sub2]; omega
end Go.Proofs.Ytiooefcdlemodaa
