/-
  Marks of a thing.
-/
import Derived.Test.YtnfalnmidddkjaaDoorMk
namespace Go.Proofs.YtnfalnmidddkjaaDoor
open Go.RowKit
set_option linter.unusedVariables false

set_option maxHeartbeats 1000000 in
theorem markRightS_nil (a : Option Addr) (c : Nat) (k : Int) (w : World) :
    Calls Tryd.prog 76 #[.slice a 0 c, .int .i64 k] w fun e w' => e = .returned (.int .i64 k) ∧ w' = w := by
  go_enter Tryd.func76, Tryd.ntmps76
  go_wp2
  go_loop [1, 5] (fun u i => u = .int .i64 k ∧ i = .int .i64 0) (fun _ _ => 0)
  case atStart => exact ⟨rfl, rfl⟩
  case round =>
    obtain ⟨rfl, rfl⟩ := hrel
    go_wp2
    go_ret
    exact ⟨rfl, rfl⟩

set_option maxHeartbeats 1000000 in
theorem markIntS_nil (a : Option Addr) (c : Nat) (k : Int) (w : World) :
    Calls Tryd.prog 77 #[.slice a 0 c, .int .i64 k] w fun e w' => e = .returned (.int .i64 k) ∧ w' = w := by
  go_enter Tryd.func77, Tryd.ntmps77
  go_wp2
  go_loop [1, 5] (fun u i => u = .int .i64 k ∧ i = .int .i64 0) (fun _ _ => 0)
  case atStart => exact ⟨rfl, rfl⟩
  case round =>
    obtain ⟨rfl, rfl⟩ := hrel
    go_wp2
    go_ret
    exact ⟨rfl, rfl⟩

set_option maxHeartbeats 1000000 in
theorem heldRightS_nil (a : Option Addr) (c : Nat) (k : Int) (w : World) :
    Calls Tryd.prog 78 #[.slice a 0 c, .int .i64 k] w fun e w' => e = .returned (.int .i64 k) ∧ w' = w := by
  go_enter Tryd.func78, Tryd.ntmps78
  go_wp2
  go_loop [1, 5] (fun u i => u = .int .i64 k ∧ i = .int .i64 0) (fun _ _ => 0)
  case atStart => exact ⟨rfl, rfl⟩
  case round =>
    obtain ⟨rfl, rfl⟩ := hrel
    go_wp2
    go_ret
    exact ⟨rfl, rfl⟩

set_option maxHeartbeats 1000000 in
theorem heldIntS_nil (a : Option Addr) (c : Nat) (k : Int) (w : World) :
    Calls Tryd.prog 79 #[.slice a 0 c, .int .i64 k] w fun e w' => e = .returned (.int .i64 k) ∧ w' = w := by
  go_enter Tryd.func79, Tryd.ntmps79
  go_wp2
  go_loop [1, 5] (fun u i => u = .int .i64 k ∧ i = .int .i64 0) (fun _ _ => 0)
  case atStart => exact ⟨rfl, rfl⟩
  case round =>
    obtain ⟨rfl, rfl⟩ := hrel
    go_wp2
    go_ret
    exact ⟨rfl, rfl⟩

set_option maxRecDepth 100000 in
set_option maxHeartbeats 2000000 in
theorem markThing_none (x : T8) (sa qa : Option Addr) (sc qc : Nat) (k : Int) (w : World) (h0 : 0 ≤ k) (h1 : k ≤ 1099511627776) :
    Calls Tryd.prog 38 #[x.val ⟨sa, 0, sc⟩ ⟨qa, 0, qc⟩, .int .i64 k] w fun e w' => e = .returned (.int .i64 k) ∧ Below w.heap.size w w' := by
  have bx : Box (w.alloc (.cells (x.cs ⟨sa, 0, sc⟩ ⟨qa, 0, qc⟩) 30)) w.heap.size 30 (x.cs ⟨sa, 0, sc⟩ ⟨qa, 0, qc⟩) := Box.fresh _ _ _
  have HN := Lib.hid (Lib.hid (show ¬ k < 0 by omega))
  go_enter Tryd.func38, Tryd.ntmps38
  have c0 := bx.cell 0 _ rfl
  have c1 := bx.cell 1 _ rfl
  have c2 := bx.cell 2 _ rfl
  have c3 := bx.cell 3 _ rfl
  have c4 := bx.cell 4 _ rfl
  have c5 := bx.cell 5 _ rfl
  have c6 := bx.cell 6 _ rfl
  have c7 := bx.cell 7 _ rfl
  go_wp2_with fail
  refine (markRightS_nil _ _ _ _).mono ?_
  rintro e y ⟨rfl, rfl⟩
  go_wp2_with fail
  refine (markIntS_nil _ _ _ _).mono ?_
  rintro e y ⟨rfl, rfl⟩
  go_wp2
  go_ret
  exact ⟨rfl, (Below.refl _ _).alloc (Nat.le_refl _) _⟩

set_option maxRecDepth 100000 in
set_option maxHeartbeats 2000000 in
theorem heldThing_none (x : T8) (sa qa : Option Addr) (sc qc : Nat) (k : Int) (w : World) (h0 : 0 ≤ k) (h1 : k ≤ 1099511627776) :
    Calls Tryd.prog 39 #[x.val ⟨sa, 0, sc⟩ ⟨qa, 0, qc⟩, .int .i64 k] w fun e w' => e = .returned (.int .i64 k) ∧ Below w.heap.size w w' := by
  have bx : Box (w.alloc (.cells (x.cs ⟨sa, 0, sc⟩ ⟨qa, 0, qc⟩) 30)) w.heap.size 30 (x.cs ⟨sa, 0, sc⟩ ⟨qa, 0, qc⟩) := Box.fresh _ _ _
  have HN := Lib.hid (Lib.hid (show ¬ k < 0 by omega))
  go_enter Tryd.func39, Tryd.ntmps39
  have c0 := bx.cell 0 _ rfl
  have c1 := bx.cell 1 _ rfl
  have c2 := bx.cell 2 _ rfl
  have c3 := bx.cell 3 _ rfl
  have c4 := bx.cell 4 _ rfl
  have c5 := bx.cell 5 _ rfl
  have c6 := bx.cell 6 _ rfl
  have c7 := bx.cell 7 _ rfl
  go_wp2_with fail
  refine (heldRightS_nil _ _ _ _).mono ?_
  rintro e y ⟨rfl, rfl⟩
  go_wp2_with fail
  refine (heldIntS_nil _ _ _ _).mono ?_
  rintro e y ⟨rfl, rfl⟩
  go_wp2
  go_ret
  exact ⟨rfl, (Below.refl _ _).alloc (Nat.le_refl _) _⟩

set_option maxRecDepth 100000 in
set_option maxHeartbeats 2000000 in
theorem markThing_four {TY : TypeId} (x : T8) (B : Nat) (qa : Option Addr) (qc : Nat) (k : Int) (base : Nat) (w : World) (hB : base ≤ B) (hP : Part w B TY 5 4 ((mks k 4).map R5.cs) 0) (h0 : 0 ≤ k) (h1 : k ≤ 1099511627776) :
    Calls Tryd.prog 38 #[x.val ⟨some ⟨B, 0, none⟩, 4, 4⟩ ⟨qa, 0, qc⟩, .int .i64 k] w fun e w' => e = .returned (.int .i64 (k + 5 * (4 : Nat))) ∧ Part w' B TY 5 4 ((mks k 4).map R5.cs) 4 ∧ Below base w w' ∧ ∀ b T vs, b ≠ B → Box w b T vs → Box w' b T vs := by
  have bx : Box (w.alloc (.cells (x.cs ⟨some ⟨B, 0, none⟩, 4, 4⟩ ⟨qa, 0, qc⟩) 30)) w.heap.size 30 (x.cs ⟨some ⟨B, 0, none⟩, 4, 4⟩ ⟨qa, 0, qc⟩) := Box.fresh _ _ _
  have hlt := hP.lt
  have ba : Below w.heap.size w (w.alloc (.cells (x.cs ⟨some ⟨B, 0, none⟩, 4, 4⟩ ⟨qa, 0, qc⟩) 30)) := (Below.refl _ _).alloc (Nat.le_refl _) _
  have HC := Lib.hid (markRightS_own B 4 4 k base (w.alloc (.cells (x.cs ⟨some ⟨B, 0, none⟩, 4, 4⟩ ⟨qa, 0, qc⟩) 30)) hB (hP.stay ba) (by decide) h0 h1)
  have HL := Lib.hid hlt
  have HA := Lib.hid ba
  have HX := Lib.hid bx
  clear hlt ba hP
  go_enter Tryd.func38, Tryd.ntmps38
  have c0 := bx.cell 0 _ rfl
  have c1 := bx.cell 1 _ rfl
  have c2 := bx.cell 2 _ rfl
  have c3 := bx.cell 3 _ rfl
  have c4 := bx.cell 4 _ rfl
  have c5 := bx.cell 5 _ rfl
  have c6 := bx.cell 6 _ rfl
  have c7 := bx.cell 7 _ rfl
  clear bx
  go_wp2_with fail
  refine HC.out.mono ?_
  rintro e y ⟨rfl, hp, hb, ho⟩
  have bx2 := ho _ _ _ (by have := HL.out; omega) HX.out
  have HP2 := Lib.hid hp
  have HB2 := Lib.hid hb
  have HO2 := Lib.hid ho
  clear hp hb ho HC c0 c1 c2 c3 c4 c5 c6 c7
  have c0 := bx2.cell 0 _ rfl
  have c1 := bx2.cell 1 _ rfl
  have c2 := bx2.cell 2 _ rfl
  have c3 := bx2.cell 3 _ rfl
  have c4 := bx2.cell 4 _ rfl
  have c5 := bx2.cell 5 _ rfl
  have c6 := bx2.cell 6 _ rfl
  have c7 := bx2.cell 7 _ rfl
  clear bx2
  go_wp2_with fail
  refine (markIntS_nil _ _ _ _).mono ?_
  rintro e y ⟨rfl, rfl⟩
  go_wp2
  go_ret
  exact ⟨rfl, HP2.out, (HA.out.mono (by have := HL.out; omega)).trans HB2.out, fun b T vs hn hx => HO2.out b T vs hn (hx.stay HA.out)⟩

set_option maxRecDepth 100000 in
set_option maxHeartbeats 2000000 in
theorem heldThing_four {TY : TypeId} (x : T8) (B : Nat) (qa : Option Addr) (qc : Nat) (k : Int) (w : World) (hP : Part w B TY 5 4 ((mks k 4).map R5.cs) 4) (h0 : 0 ≤ k) (h1 : k ≤ 1099511627776) :
    Calls Tryd.prog 39 #[x.val ⟨some ⟨B, 0, none⟩, 4, 4⟩ ⟨qa, 0, qc⟩, .int .i64 k] w fun e w' => e = .returned (.int .i64 (k + 5 * (4 : Nat))) ∧ Below w.heap.size w w' := by
  have bx : Box (w.alloc (.cells (x.cs ⟨some ⟨B, 0, none⟩, 4, 4⟩ ⟨qa, 0, qc⟩) 30)) w.heap.size 30 (x.cs ⟨some ⟨B, 0, none⟩, 4, 4⟩ ⟨qa, 0, qc⟩) := Box.fresh _ _ _
  have hlt := hP.lt
  have ba : Below w.heap.size w (w.alloc (.cells (x.cs ⟨some ⟨B, 0, none⟩, 4, 4⟩ ⟨qa, 0, qc⟩) 30)) := (Below.refl _ _).alloc (Nat.le_refl _) _
  have HC := Lib.hid (heldRightS_ne 4 B 0 4 k (w.alloc (.cells (x.cs ⟨some ⟨B, 0, none⟩, 4, 4⟩ ⟨qa, 0, qc⟩) 30)) (fun i hi => by
    have h := (Part.els (l := (mks k 4).map R5.cs) (by simpa [mks_length] using hP.stay ba) (by intro x hx; simp at hx; obtain ⟨y, _, rfl⟩ := hx; rfl)).2.2
    rcases h with h | ⟨b, o, e, h⟩
    · simp [mks] at h
    · simp only [Option.some.injEq, Addr.mk.injEq] at e
      obtain ⟨rfl, rfl, -⟩ := e
      exact h i _ (mks_get _ _ _ hi)) (by decide) h0 h1)
  have HL := Lib.hid hlt
  have HA := Lib.hid ba
  have HX := Lib.hid bx
  clear hlt ba hP
  go_enter Tryd.func39, Tryd.ntmps39
  have c0 := bx.cell 0 _ rfl
  have c1 := bx.cell 1 _ rfl
  have c2 := bx.cell 2 _ rfl
  have c3 := bx.cell 3 _ rfl
  have c4 := bx.cell 4 _ rfl
  have c5 := bx.cell 5 _ rfl
  have c6 := bx.cell 6 _ rfl
  have c7 := bx.cell 7 _ rfl
  clear bx
  go_wp2_with fail
  refine HC.out.mono ?_
  rintro e y ⟨rfl, rfl⟩
  go_wp2_with fail
  refine (heldIntS_nil _ _ _ _).mono ?_
  rintro e y ⟨rfl, rfl⟩
  go_wp2
  go_ret
  exact ⟨rfl, HA.out⟩
end Go.Proofs.YtnfalnmidddkjaaDoor
