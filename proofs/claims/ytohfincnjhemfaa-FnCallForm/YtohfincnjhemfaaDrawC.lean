/-
  A drawn call: whatever the code, a call comes, and nothing that was there has turned.
-/
import Derived.Test.YtohfincnjhemfaaCalA
import Derived.Test.YtohfincnjhemfaaDraw
namespace Go.Proofs.Ytohfincnjhemfaa
open Go.RowKit
set_option maxRecDepth 100000
set_option linter.unusedVariables false

set_option maxHeartbeats 2000000 in
theorem drawCallOk_any (a : Option Addr) (len cap : Nat) (zs : List Int) (w : World) (h : IsRow .u8 w a len cap zs) :
    Calls Try.prog 5 #[.slice a len cap] w fun e w' => ∃ c : C5, e = .returned c.val ∧ Below w.heap.size w w' := by
  have H := Lib.hid (h.below ((Below.refl _ _).alloc (Nat.le_refl _) (.cells #[.int .i64 0, .int .i64 0, .int .i64 0, .int .i64 0, .int .i64 0] 24)))
  clear h
  go_enter Try.func5, Try.ntmps5
  go_wp2_with fail
  refine (l6Open_any a len cap zs _ H.out).mono ?_
  rintro e w1 ⟨rfl, rfl⟩
  have hR0 := rd_open H.out
  rw [show (w.alloc (.cells #[.int .i64 0, .int .i64 0, .int .i64 0, .int .i64 0, .int .i64 0] 24)).heap.size = w.heap.size + 1 by simp] at hR0
  have R0 := Lib.hid hR0
  have G0 := Lib.hid (Grew.refl (w.heap.size + 1) ((w.alloc (.cells #[.int .i64 0, .int .i64 0, .int .i64 0, .int .i64 0, .int .i64 0] 24)).alloc (.cells #[.slice a (min len 2000) cap, .int .i64 0] 40)))
  clear hR0
  go_wp2_with fail
  refine (pick_any _ a _ cap zs _ 11 _ R0.out (by omega) (by omega) (by omega)).mono ?_
  rintro e x1 ⟨n1, -, -, rfl, r1, g1, -⟩
  have R1 := Lib.hid r1
  have G1 := Lib.hid (G0.out.trans g1)
  clear r1 g1 R0 G0
  go_wp2_with fail
  refine (pick_any _ a _ cap zs _ 10 _ R1.out (by omega) (by omega) (by omega)).mono ?_
  rintro e x2 ⟨n2, -, -, rfl, r2, g2, -⟩
  have R2 := Lib.hid r2
  have G2 := Lib.hid (G1.out.trans g2)
  clear r2 g2 R1 G1
  go_wp2_with fail
  refine (pick_any _ a _ cap zs _ 5 _ R2.out (by omega) (by omega) (by omega)).mono ?_
  rintro e x3 ⟨n3, -, -, rfl, r3, g3, -⟩
  have R3 := Lib.hid r3
  have G3 := Lib.hid (G2.out.trans g3)
  clear r3 g3 R2 G2
  go_wp2_with fail
  refine (pick_any _ a _ cap zs _ 5 _ R3.out (by omega) (by omega) (by omega)).mono ?_
  rintro e x4 ⟨n4, -, -, rfl, r4, g4, -⟩
  have R4 := Lib.hid r4
  have G4 := Lib.hid (G3.out.trans g4)
  clear r4 g4 R3 G3
  go_wp2_with fail
  refine (pick_any _ a _ cap zs _ 40 _ R4.out (by omega) (by omega) (by omega)).mono ?_
  rintro e x5 ⟨n5, -, -, rfl, r5, g5, -⟩
  have R5 := Lib.hid r5
  have G5 := Lib.hid (G4.out.trans g5)
  clear r5 g5 R4 G4
  go_wp2_with fail
  refine (pick_any _ a _ cap zs _ 4 _ (R5.out.past _) (by omega) (by omega) (by omega)).mono ?_
  rintro e y ⟨m, m0, m1, rfl, r6, g6, -⟩
  have BY := (Box.fresh x5 3 #[.int .i64 n5, .int .i64 99, .int .i64 100, .int .i64 (-1)]).grew g6 (by have := R5.out.lt; omega)
  obtain ⟨u, hcu⟩ : ∃ u : Int, y.cell? ⟨x5.heap.size, m.toNat, none⟩ = some (.int .i64 u) := by
    rcases (by omega : m = 0 ∨ m = 1 ∨ m = 2 ∨ m = 3) with rfl | rfl | rfl | rfl
    · exact ⟨_, BY.cell _ _ rfl⟩
    · exact ⟨_, BY.cell _ _ rfl⟩
    · exact ⟨_, BY.cell _ _ rfl⟩
    · exact ⟨_, BY.cell _ _ rfl⟩
  obtain ⟨k1, hw2, hz2⟩ := res1 ((G5.out.alloc _).trans g6)
  have HB := Lib.hid hw2
  obtain ⟨q, rfl⟩ := Int.eq_ofNat_of_zero_le m0
  simp only [Int.toNat_natCast] at hcu
  have m4 : (q : Int) < 4 := by omega
  clear r6 g6 BY R5 G5 hw2
  have c0 := k1.cell 0 _ rfl
  have f0 := k1.thaw 0
  have c1 := k1.cell 1 _ rfl
  have f1 := k1.thaw 1
  have c2 := k1.cell 2 _ rfl
  have f2 := k1.thaw 2
  have c3 := k1.cell 3 _ rfl
  have f3 := k1.thaw 3
  have c4 := k1.cell 4 _ rfl
  have f4 := k1.thaw 4
  clear k1
  go_wp2_with fail
  refine bodyPost_ret (v := C5.val ⟨n1, n2, n3, n4, u⟩) (by simp [results, Try.results5, go_sem, *]) rfl ⟨⟨n1, n2, n3, n4, u⟩, rfl, ?_⟩
  exact (Below.setCell (Below.setCell (Below.setCell (Below.setCell (Below.setCell HB.out (p := ⟨w.heap.size, 0, none⟩) (Nat.le_refl _) _) (p := ⟨w.heap.size, 1, none⟩) (Nat.le_refl _) _) (p := ⟨w.heap.size, 2, none⟩) (Nat.le_refl _) _) (p := ⟨w.heap.size, 3, none⟩) (Nat.le_refl _) _) (p := ⟨w.heap.size, 4, none⟩) (Nat.le_refl _) _)
end Go.Proofs.Ytohfincnjhemfaa
