/-
  Drawn labels, one at a time.
-/
import Derived.Test.YtiooefcdlemodaaDoorDrawL
namespace Go.Proofs.YtiooefcdlemodaaDoor
open Go.RowKit

/-- The result's cell, and what was there, when the reader has been made and has gone on. -/
theorem res1 {w w3 : World} {T T' : TypeId} {x1 x3 : Array Value} (g : Grew (w.heap.size + 1) ((w.alloc (.cells x1 T)).alloc (.cells x3 T')) w3) :
    Box w3 w.heap.size T x1 ∧ Below w.heap.size w w3 ∧ w.heap.size + 1 < w3.heap.size := by
  have b1 := Box.fresh w T x1
  have z := g.size
  simp at z
  have a0 : Below w.heap.size w ((w.alloc (.cells x1 T)).alloc (.cells x3 T')) := ((Below.refl _ _).alloc (Nat.le_refl _) _).alloc (by simp) _
  exact ⟨(b1.past _).grew g (by omega), a0.trans (g.below (by omega) (by simp; omega)), by omega⟩

/-- What a drawn label leaves. -/
def OnePost (w : World) (e : Ending) (w' : World) : Prop := ∃ s v : Int, e = .returned (lab s v) ∧ Below w.heap.size w w'

set_option maxHeartbeats 1000000 in
theorem drawText_any (a : Option Addr) (len cap : Nat) (zs : List Int) (w : World) (h : IsRow .u8 w a len cap zs) :
    Calls Tryd.prog 6 #[.slice a len cap] w (OnePost w) := by
  have H := Lib.hid (h.below ((Below.refl _ _).alloc (Nat.le_refl _) (.cells #[.int .i64 0, .int .i64 0] 24)))
  clear h
  go_enter Tryd.func6, Tryd.ntmps6
  go_wp2_with fail
  refine (l6Open_any a len cap zs _ H.out).mono ?_
  rintro e w1 ⟨rfl, rfl⟩
  have hR0 := rd_open H.out
  rw [show (w.alloc (.cells #[.int .i64 0, .int .i64 0] 24)).heap.size = w.heap.size + 1 by simp] at hR0
  have R0 := Lib.hid hR0
  clear hR0
  go_wp2_with fail
  refine (l71Label_any _ a _ cap zs 0 _ R0.out (by omega)).mono ?_
  rintro e w2 ⟨s, v, s0, s1, v0, rfl, p1, hp1, r1, gr1⟩
  obtain ⟨k1, hw2, hz2⟩ := res1 gr1
  have c0 := k1.cell 0 _ rfl
  have c1 := k1.cell 1 _ rfl
  have t0 := k1.thaw 0
  have t1 := k1.thaw 1
  clear k1 gr1 r1 R0
  go_wp2_with fail
  refine bodyPost_ret (v := lab s v) (by simp [results, Tryd.results6, go_sem, *]) rfl ⟨s, v, rfl, ?_⟩
  exact (hw2.setCell (Nat.le_refl _) _).setCell (Nat.le_refl _) _

set_option maxHeartbeats 1000000 in
theorem drawOk_any (a : Option Addr) (len cap : Nat) (zs : List Int) (w : World) (h : IsRow .u8 w a len cap zs) :
    Calls Tryd.prog 13 #[.slice a len cap] w (OnePost w) := by
  have H := Lib.hid (h.below ((Below.refl _ _).alloc (Nat.le_refl _) (.cells #[.int .i64 0, .int .i64 0] 24)))
  clear h
  go_enter Tryd.func13, Tryd.ntmps13
  go_wp2_with fail
  refine (l6Open_any a len cap zs _ H.out).mono ?_
  rintro e w1 ⟨rfl, rfl⟩
  have hR0 := rd_open H.out
  rw [show (w.alloc (.cells #[.int .i64 0, .int .i64 0] 24)).heap.size = w.heap.size + 1 by simp] at hR0
  have R0 := Lib.hid hR0
  clear hR0
  go_wp2_with fail
  refine (pick_any _ a _ cap zs 0 6 _ R0.out (by omega) (by omega) (by omega)).mono ?_
  rintro e w2 ⟨x, x0, x1, rfl, r1, g1, z1⟩
  have R1 := Lib.hid r1
  clear r1 z1
  go_wp2_with fail
  refine (pick_any _ a _ cap zs _ 6 _ R1.out (by omega) (by omega) (by omega)).mono ?_
  rintro e w3 ⟨y, y0, y1, rfl, r2, g2, z2⟩
  obtain ⟨k1, hw3, hz3⟩ := res1 (g1.trans g2)
  have c0 := k1.cell 0 _ rfl
  have c1 := k1.cell 1 _ rfl
  have t0 := k1.thaw 0
  have t1 := k1.thaw 1
  clear k1 g1 g2 r2 R0 R1 z2
  go_wp2_with fail
  refine bodyPost_ret (v := lab (x - 1) (y - 1)) (by simp [results, Tryd.results13, go_sem, *]) rfl ⟨_, _, rfl, ?_⟩
  exact (hw3.setCell (Nat.le_refl _) _).setCell (Nat.le_refl _) _
end Go.Proofs.YtiooefcdlemodaaDoor
