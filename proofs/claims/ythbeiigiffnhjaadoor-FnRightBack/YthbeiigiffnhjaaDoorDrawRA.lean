/-
  Drawn rights: whatever the code, rights come, and nothing that was there has turned.
-/
import Derived.Test.YthbeiigiffnhjaaDoorDrawR
namespace Go.Proofs.YthbeiigiffnhjaaDoor
open Go.RowKit
set_option linter.unusedVariables false

/-- What a drawn right leaves. -/
def OneRPost (w : World) (e : Ending) (w' : World) : Prop := ∃ (t v : Int) (r wr k : Bool), -1 ≤ t ∧ t ≤ 9 ∧ -1 ≤ v ∧ v ≤ 6 ∧ e = .returned (rgt t v r wr k) ∧ Below w.heap.size w w'

set_option maxHeartbeats 1000000 in
theorem drawRText_any (a : Option Addr) (len cap : Nat) (zs : List Int) (w : World) (h : IsRow .u8 w a len cap zs) :
    Calls Tryd.prog 6 #[.slice a len cap] w (OneRPost w) := by
  have H := Lib.hid (h.below ((Below.refl _ _).alloc (Nat.le_refl _) (.cells #[.int .i64 0, .int .i64 0, .bool false, .bool false, .bool false] 24)))
  clear h
  go_enter Tryd.func6, Tryd.ntmps6
  go_wp2_with fail
  refine (l6Open_any a len cap zs _ H.out).mono ?_
  rintro e w1 ⟨rfl, rfl⟩
  have hR0 := rd_open H.out
  rw [show (w.alloc (.cells #[.int .i64 0, .int .i64 0, .bool false, .bool false, .bool false] 24)).heap.size = w.heap.size + 1 by simp] at hR0
  have R0 := Lib.hid hR0
  clear hR0
  go_wp2_with fail
  refine (l71Right_any _ a _ cap zs 0 _ R0.out (by omega)).mono ?_
  rintro e w2 ⟨t, v, rd, wr, k, t0, t1, v0, v1, rfl, p1, hp1, r1, gr1⟩
  obtain ⟨k1, hw2, hz2⟩ := res1 gr1
  have c0 := k1.cell 0 _ rfl
  have cf0 := k1.thaw 0
  have c1 := k1.cell 1 _ rfl
  have cf1 := k1.thaw 1
  have c2 := k1.cell 2 _ rfl
  have cf2 := k1.thaw 2
  have c3 := k1.cell 3 _ rfl
  have cf3 := k1.thaw 3
  have c4 := k1.cell 4 _ rfl
  have cf4 := k1.thaw 4
  clear k1 gr1 r1 R0
  go_wp2_with fail
  refine bodyPost_ret (v := rgt t v rd wr k) (by simp [results, Tryd.results6, go_sem, *]) rfl ⟨t, v, rd, wr, k, t0, t1, v0, v1, rfl, ?_⟩
  exact (Below.setCell (Below.setCell (Below.setCell (Below.setCell (Below.setCell hw2 (p := ⟨w.heap.size, 0, none⟩) (Nat.le_refl _) _) (p := ⟨w.heap.size, 1, none⟩) (Nat.le_refl _) _) (p := ⟨w.heap.size, 2, none⟩) (Nat.le_refl _) _) (p := ⟨w.heap.size, 3, none⟩) (Nat.le_refl _) _) (p := ⟨w.heap.size, 4, none⟩) (Nat.le_refl _) _)
end Go.Proofs.YthbeiigiffnhjaaDoor
