/-
  Drawn rights: whatever the code, rights come, and nothing that was there has turned.
-/
import Derived.Test.YthbeiigiffnhjaaDrawR
namespace Go.Proofs.Ythbeiigiffnhjaa
open Go.RowKit
set_option linter.unusedVariables false

/-- What a drawn right leaves. -/
def OneRPost (w : World) (e : Ending) (w' : World) : Prop := ∃ (t v : Int) (r wr k : Bool), -1 ≤ t ∧ t ≤ 9 ∧ -1 ≤ v ∧ v ≤ 6 ∧ e = .returned (rgt t v r wr k) ∧ Below w.heap.size w w'

set_option maxHeartbeats 1000000 in
theorem drawRText_any (a : Option Addr) (len cap : Nat) (zs : List Int) (w : World) (h : IsRow .u8 w a len cap zs) :
    Calls Try.prog 23 #[.slice a len cap] w (OneRPost w) := by
  have H := Lib.hid (h.below ((Below.refl _ _).alloc (Nat.le_refl _) (.cells #[.int .i64 0, .int .i64 0, .bool false, .bool false, .bool false] 24)))
  clear h
  go_enter Try.func23, Try.ntmps23
  go_wp2_with fail
  refine (l6Open_any a len cap zs _ H.out).mono ?_
  rintro e w1 ⟨rfl, rfl⟩
  have hR0 := rd_open H.out
  rw [show (w.alloc (.cells #[.int .i64 0, .int .i64 0, .bool false, .bool false, .bool false] 24)).heap.size = w.heap.size + 1 by simp] at hR0
  have R0 := Lib.hid hR0
  clear hR0
  go_wp2_with fail
  refine (l71Right_any _ a _ cap zs 0 _ R0.out (by omega)).mono ?_
  rintro e w2 ⟨t, v, rd, wr, k, t0, t1, v0, v1, rfl, p1, hp1, r1, gr1⟩
  obtain ⟨k1, hw2, hz2⟩ := res1 gr1
  have c0 := k1.cell 0 _ rfl
  have cf0 := k1.thaw 0
  have c1 := k1.cell 1 _ rfl
  have cf1 := k1.thaw 1
  have c2 := k1.cell 2 _ rfl
  have cf2 := k1.thaw 2
  have c3 := k1.cell 3 _ rfl
  have cf3 := k1.thaw 3
  have c4 := k1.cell 4 _ rfl
  have cf4 := k1.thaw 4
  clear k1 gr1 r1 R0
  go_wp2_with fail
  refine bodyPost_ret (v := rgt t v rd wr k) (by simp [results, Try.results23, go_sem, *]) rfl ⟨t, v, rd, wr, k, t0, t1, v0, v1, rfl, ?_⟩
  exact (Below.setCell (Below.setCell (Below.setCell (Below.setCell (Below.setCell hw2 (p := ⟨w.heap.size, 0, none⟩) (Nat.le_refl _) _) (p := ⟨w.heap.size, 1, none⟩) (Nat.le_refl _) _) (p := ⟨w.heap.size, 2, none⟩) (Nat.le_refl _) _) (p := ⟨w.heap.size, 3, none⟩) (Nat.le_refl _) _) (p := ⟨w.heap.size, 4, none⟩) (Nat.le_refl _) _)

set_option maxHeartbeats 1000000 in
theorem drawROk_any (a : Option Addr) (len cap : Nat) (zs : List Int) (w : World) (h : IsRow .u8 w a len cap zs) :
    Calls Try.prog 14 #[.slice a len cap] w (OneRPost w) := by
  have H := Lib.hid (h.below ((Below.refl _ _).alloc (Nat.le_refl _) (.cells #[.int .i64 0, .int .i64 0, .bool false, .bool false, .bool false] 24)))
  clear h
  go_enter Try.func14, Try.ntmps14
  go_wp2_with fail
  refine (l6Open_any a len cap zs _ H.out).mono ?_
  rintro e w1 ⟨rfl, rfl⟩
  have hR0 := rd_open H.out
  rw [show (w.alloc (.cells #[.int .i64 0, .int .i64 0, .bool false, .bool false, .bool false] 24)).heap.size = w.heap.size + 1 by simp] at hR0
  have R0 := Lib.hid hR0
  clear hR0
  go_wp2_with fail
  refine (l71Right_any _ a _ cap zs 0 _ R0.out (by omega)).mono ?_
  rintro e w2 ⟨t, v, rd, wr, k, t0, t1, v0, v1, rfl, p1, hp1, r1, gr1⟩
  have R1 := Lib.hid (r1.past (.cells #[.int .i64 t, .int .i64 v, .bool rd, .bool wr, .bool k] 24))
  have hr2 := r1.lt
  clear r1 R0
  go_wp2_with fail
  refine (pick_any _ a _ cap zs _ 4 _ R1.out (by omega) (by omega) (by omega)).mono ?_
  rintro e w3 ⟨z, z0, z1, rfl, r3, g3, s3⟩
  obtain ⟨k1, hw3, hz3⟩ := res1 ((gr1.alloc (.cells #[.int .i64 t, .int .i64 v, .bool rd, .bool wr, .bool k] 24)).trans g3)
  have kx := (Box.fresh w2 24 #[.int .i64 t, .int .i64 v, .bool rd, .bool wr, .bool k]).grew g3 (by omega)
  have hne : w2.heap.size ≠ w.heap.size := by omega
  have hne2 : w.heap.size ≠ w2.heap.size := by omega
  have hle : w.heap.size ≤ w2.heap.size := by omega
  have c0 := k1.cell 0 _ rfl
  have cf0 := k1.thaw 0
  have c1 := k1.cell 1 _ rfl
  have cf1 := k1.thaw 1
  have c2 := k1.cell 2 _ rfl
  have cf2 := k1.thaw 2
  have c3 := k1.cell 3 _ rfl
  have cf3 := k1.thaw 3
  have c4 := k1.cell 4 _ rfl
  have cf4 := k1.thaw 4
  have d0 := kx.cell 0 _ rfl
  have df0 := kx.thaw 0
  have d1 := kx.cell 1 _ rfl
  have df1 := kx.thaw 1
  have d2 := kx.cell 2 _ rfl
  have df2 := kx.thaw 2
  have d3 := kx.cell 3 _ rfl
  have df3 := kx.thaw 3
  have d4 := kx.cell 4 _ rfl
  have df4 := kx.thaw 4
  clear k1 kx gr1 g3 r3 R1 s3
  by_cases hz : z = 0
  · subst hz
    go_wp2_with fail
    refine bodyPost_ret (v := rgt t v rd wr (!k)) (by simp [results, Try.results14, go_sem, *]) rfl ⟨t, v, rd, wr, !k, t0, t1, v0, v1, rfl, ?_⟩
    exact (Below.setCell (Below.setCell (Below.setCell (Below.setCell (Below.setCell (Below.setCell hw3 (p := ⟨w2.heap.size, 4, none⟩) hle _) (p := ⟨w.heap.size, 0, none⟩) (Nat.le_refl _) _) (p := ⟨w.heap.size, 1, none⟩) (Nat.le_refl _) _) (p := ⟨w.heap.size, 2, none⟩) (Nat.le_refl _) _) (p := ⟨w.heap.size, 3, none⟩) (Nat.le_refl _) _) (p := ⟨w.heap.size, 4, none⟩) (Nat.le_refl _) _)
  · have hzb : (z == 0) = false := by simpa using hz
    go_wp2_with fail
    refine bodyPost_ret (v := rgt t v rd wr k) (by simp [results, Try.results14, go_sem, *]) rfl ⟨t, v, rd, wr, k, t0, t1, v0, v1, rfl, ?_⟩
    exact (Below.setCell (Below.setCell (Below.setCell (Below.setCell (Below.setCell hw3 (p := ⟨w.heap.size, 0, none⟩) (Nat.le_refl _) _) (p := ⟨w.heap.size, 1, none⟩) (Nat.le_refl _) _) (p := ⟨w.heap.size, 2, none⟩) (Nat.le_refl _) _) (p := ⟨w.heap.size, 3, none⟩) (Nat.le_refl _) _) (p := ⟨w.heap.size, 4, none⟩) (Nat.le_refl _) _)

/-- What a drawn right, and what is kept of it, leave. -/
def LessRPost (w : World) (e : Ending) (w' : World) : Prop := ∃ (t v : Int) (r wr k b1 b2 b3 : Bool), -1 ≤ t ∧ t ≤ 9 ∧ -1 ≤ v ∧ v ≤ 6 ∧ e = .returned (.tuple #[rgt t v r wr k, .bool b1, .bool b2, .bool b3]) ∧ Below w.heap.size w w'

set_option maxHeartbeats 1000000 in
theorem drawRLess_any (a : Option Addr) (len cap : Nat) (zs : List Int) (w : World) (h : IsRow .u8 w a len cap zs) :
    Calls Try.prog 21 #[.slice a len cap] w (LessRPost w) := by
  have H := Lib.hid (h.below ((Below.refl _ _).alloc (Nat.le_refl _) (.cells #[.int .i64 0, .int .i64 0, .bool false, .bool false, .bool false] 24)))
  clear h
  go_enter Try.func21, Try.ntmps21
  go_wp2_with fail
  refine (l6Open_any a len cap zs _ H.out).mono ?_
  rintro e w1 ⟨rfl, rfl⟩
  have hR0 := rd_open H.out
  rw [show (w.alloc (.cells #[.int .i64 0, .int .i64 0, .bool false, .bool false, .bool false] 24)).heap.size = w.heap.size + 1 by simp] at hR0
  have R0 := Lib.hid hR0
  clear hR0
  go_wp2_with fail
  refine (l71Right_any _ a _ cap zs 0 _ R0.out (by omega)).mono ?_
  rintro e w2 ⟨t, v, rd, wr, k, t0, t1, v0, v1, rfl, p1, hp1, r1, gr1⟩
  have R1 := Lib.hid r1
  clear r1 R0
  go_wp2_with fail
  refine (pick_any _ a _ cap zs _ 2 _ R1.out (by omega) (by omega) (by omega)).mono ?_
  rintro e w3 ⟨y1, y10, y11, rfl, r3, g3, s3⟩
  have R3 := Lib.hid r3
  clear r3 R1 s3
  go_wp2_with fail
  refine (pick_any _ a _ cap zs _ 2 _ R3.out (by omega) (by omega) (by omega)).mono ?_
  rintro e w4 ⟨y2, y20, y21, rfl, r4, g4, s4⟩
  have R4 := Lib.hid r4
  clear r4 R3 s4
  go_wp2_with fail
  refine (pick_any _ a _ cap zs _ 3 _ R4.out (by omega) (by omega) (by omega)).mono ?_
  rintro e w5 ⟨y3, y30, y31, rfl, r5, g5, s5⟩
  obtain ⟨k1, hw5, hz5⟩ := res1 (((gr1.trans g3).trans g4).trans g5)
  have c0 := k1.cell 0 _ rfl
  have cf0 := k1.thaw 0
  have c1 := k1.cell 1 _ rfl
  have cf1 := k1.thaw 1
  have c2 := k1.cell 2 _ rfl
  have cf2 := k1.thaw 2
  have c3 := k1.cell 3 _ rfl
  have cf3 := k1.thaw 3
  have c4 := k1.cell 4 _ rfl
  have cf4 := k1.thaw 4
  clear k1 gr1 g3 g4 g5 r5 s5 R4
  go_wp2_with fail
  refine bodyPost_ret (v := .tuple #[rgt t v rd wr k, .bool (y1 == 0), .bool (y2 == 0), .bool (decide (0 < y3))]) (by simp [results, Try.results21, go_sem, *]) rfl ⟨t, v, rd, wr, k, _, _, _, t0, t1, v0, v1, rfl, ?_⟩
  exact (Below.setCell (Below.setCell (Below.setCell (Below.setCell (Below.setCell hw5 (p := ⟨w.heap.size, 0, none⟩) (Nat.le_refl _) _) (p := ⟨w.heap.size, 1, none⟩) (Nat.le_refl _) _) (p := ⟨w.heap.size, 2, none⟩) (Nat.le_refl _) _) (p := ⟨w.heap.size, 3, none⟩) (Nat.le_refl _) _) (p := ⟨w.heap.size, 4, none⟩) (Nat.le_refl _) _)
end Go.Proofs.Ythbeiigiffnhjaa
