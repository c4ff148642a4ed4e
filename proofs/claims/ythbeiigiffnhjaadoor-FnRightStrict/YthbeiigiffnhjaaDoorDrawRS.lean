/-
  Drawn texts of rights: whatever the code, a text comes, and nothing that was there has turned.
-/
import Derived.Test.YthbeiigiffnhjaaDoorDrawR
import Derived.Test.YthbeiigiffnhjaaDoorDrawW
import Derived.Test.YthbeiigiffnhjaaDoorRigU
namespace Go.Proofs.YthbeiigiffnhjaaDoor
open Go.RowKit
set_option linter.unusedVariables false

theorem txtR_size (t v : Int) (r wr k : Bool) : (txtR t v r wr k).size ≤ 6 := by
  unfold txtR
  split
  · split
    · exact (by decide : 1 ≤ 6)
    · exact Nat.le_refl 6
  · exact Nat.zero_le 6

set_option maxHeartbeats 1000000 in
theorem drawRRead_any (a : Option Addr) (len cap : Nat) (zs : List Int) (w : World) (h : IsRow .u8 w a len cap zs) :
    Calls Tryd.prog 11 #[.slice a len cap] w (TextPost w) := by
  have H := Lib.hid h
  clear h
  go_enter Tryd.func11, Tryd.ntmps11
  go_wp2_with fail
  refine (l6Open_any a len cap zs _ H.out).mono ?_
  rintro e w1 ⟨rfl, rfl⟩
  have R0 := Lib.hid (rd_open H.out)
  go_wp2_with fail
  refine (l71Right_any _ a _ cap zs 0 _ R0.out (by omega)).mono ?_
  rintro e w2 ⟨tt, v, rd, wr, k, t0, t1, v0, v1, rfl, p1, hp1, r1, gr1⟩
  have R1 := Lib.hid r1
  clear r1
  go_wp2_with fail
  refine (specRText_any _ _ _ _ _ _).mono ?_
  rintro e w3 ⟨rfl, hb3⟩
  have hz := txtR_size tt v rd wr k
  generalize txtR tt v rd wr k = t at *
  have R2 := Lib.hid (show Rd w3 w.heap.size a (min len 2000) cap zs p1 from ⟨R1.out.1.stay hb3, R1.out.2.1.grew (Grew.of hb3) R1.out.2.2, R1.out.2.2⟩)
  have g3 := gr1.on hb3
  clear R1 hb3 gr1 R0
  go_wp2_with fail
  refine (pick_any _ a _ cap zs p1 _ _ R2.out (by omega) (by omega) (by omega)).mono ?_
  rintro e w4 ⟨x, x0, x1, rfl, r4, g4, y4⟩
  have R4 := Lib.hid r4
  have G4 := g3.trans g4
  clear r4 g3 g4 y4 R2
  obtain ⟨n, rfl⟩ := Int.eq_ofNat_of_zero_le x0
  have hn : n ≤ t.size := by omega
  clear x0 x1
  go_wp2_with fail
  refine (pick_any _ a _ cap zs _ 6 _ R4.out (by omega) (by omega) (by omega)).mono ?_
  rintro e w5 ⟨y, y0, y1, rfl, r5, g5, y5⟩
  have R5 := Lib.hid r5
  have G5 := G4.trans g5
  have z5 := G5.size
  simp at z5
  have B5 : Below w.heap.size w w5 := ((Below.refl w.heap.size w).alloc (Nat.le_refl _) _).trans (G5.below (Nat.le_refl _) (by simp))
  clear r5 G4 g5 y5 R4
  rcases (by omega : y = 0 ∨ y = 1 ∨ 1 < y) with rfl | rfl | hy
  · clear y0 y1
    go_wp2
    go_ret
    exact ⟨t.extract 0 n, by rw [ByteArray.size_extract]; omega, rfl, B5⟩
  · clear y0 y1
    go_wp2_with fail
    go_region_with (first | (go_at_call 23; refine (of4_any _ _ a _ cap zs _ _ (R5.out.past _).drew (by omega) _ _ _ _ (Box.fresh _ _ _).drew (by omega) (by decide) (by decide) (by decide) (by decide)).mono ?_; rintro e w6 ⟨u, hu, rfl, r6, g6⟩))
    all_goals
      go_wp2
      go_ret
      refine ⟨_, ?_, rfl, B5.trans (((Below.refl w5.heap.size w5).alloc (Nat.le_refl _) _ |>.drew |>.mono (by omega)).trans (g6.below (Nat.le_refl _) (by simp; omega)))⟩
      simp [ByteArray.size_append, ByteArray.size_extract]
      omega
  · have b0 : (y == 0) = false := by simp; omega
    have b1 : (y == 1) = false := by simp; omega
    go_wp2
    go_ret
    exact ⟨t, by omega, rfl, B5⟩
end Go.Proofs.YthbeiigiffnhjaaDoor
