/-
  Drawn texts: whatever the code, a text comes, and nothing that was there has turned.
-/
import Derived.Test.YtiooefcdlemodaaDoorDrawT
import Derived.Test.YtiooefcdlemodaaDoorLabU
namespace Go.Proofs.YtiooefcdlemodaaDoor
open Go.RowKit
set_option linter.unusedVariables false

/-- What a drawn word leaves. -/
def WordPost (r : Nat) (a : Option Addr) (len cap : Nat) (zs : List Int) (p : Nat) (w : World) (e : Ending) (w' : World) : Prop :=
  ∃ t : ByteArray, t.size ≤ 1000 ∧ e = .returned (.string t) ∧ Rd w' r a len cap zs (p + 1) ∧ Grew r w w'

set_option maxHeartbeats 1000000 in
/-- One of four words. -/
theorem of4_any (r b : Nat) (a : Option Addr) (len cap : Nat) (zs : List Int) (p : Nat) (w : World) (h : Rd w r a len cap zs p) (hp : p ≤ 900000) (u0 u1 u2 u3 : ByteArray) (hb : Box w b 9 #[.string u0, .string u1, .string u2, .string u3]) (hbr : b ≠ r)
    (z0 : u0.size ≤ 1000) (z1 : u1.size ≤ 1000) (z2 : u2.size ≤ 1000) (z3 : u3.size ≤ 1000) :
    Calls Tryd.prog 21 #[.pointer (some ⟨r, 0, none⟩), .slice (some ⟨b, 0, none⟩) 4 4] w (WordPost r a len cap zs p w) := by
  have H := Lib.hid h
  have HB := Lib.hid hb
  clear h hb
  go_enter Tryd.func21, Tryd.ntmps21
  go_wp2_with fail
  refine (pick_any _ a _ cap zs p 4 _ H.out (by omega) (by omega) (by omega)).mono ?_
  rintro e w1 ⟨x, x0, x1, rfl, r1, g1, y1⟩
  have hB1 := HB.out.grew g1 hbr
  clear y1 H HB
  obtain ⟨t, ht, hc⟩ : ∃ t : ByteArray, t.size ≤ 1000 ∧ w1.cell? ⟨b, x.toNat, none⟩ = some (.string t) := by
    rcases (by omega : x = 0 ∨ x = 1 ∨ x = 2 ∨ x = 3) with rfl | rfl | rfl | rfl
    · exact ⟨u0, z0, hB1.cell _ _ rfl⟩
    · exact ⟨u1, z1, hB1.cell _ _ rfl⟩
    · exact ⟨u2, z2, hB1.cell _ _ rfl⟩
    · exact ⟨u3, z3, hB1.cell _ _ rfl⟩
  have R1 := Lib.hid r1
  clear hB1 r1
  go_wp2
  go_ret
  exact ⟨t, ht, rfl, R1.out, g1⟩

/-- What a drawn text leaves. -/
def TextPost (w : World) (e : Ending) (w' : World) : Prop := ∃ t : ByteArray, t.size ≤ 2000 ∧ e = .returned (.string t) ∧ Below w.heap.size w w'

theorem txt_size (s v : Int) : (txt s v).size ≤ 3 := by
  unfold txt
  split
  · exact Nat.le_refl 3
  · exact Nat.zero_le 3

set_option maxHeartbeats 1000000 in
theorem drawRead_any (a : Option Addr) (len cap : Nat) (zs : List Int) (w : World) (h : IsRow .u8 w a len cap zs) :
    Calls Tryd.prog 11 #[.slice a len cap] w (TextPost w) := by
  have H := Lib.hid h
  clear h
  go_enter Tryd.func11, Tryd.ntmps11
  go_wp2_with fail
  refine (l6Open_any a len cap zs _ H.out).mono ?_
  rintro e w1 ⟨rfl, rfl⟩
  have R0 := Lib.hid (rd_open H.out)
  go_wp2_with fail
  refine (l71Label_any _ a _ cap zs 0 _ R0.out (by omega)).mono ?_
  rintro e w2 ⟨s, v, s0, s1, v0, rfl, p1, hp1, r1, gr1⟩
  have R1 := Lib.hid r1
  clear r1
  go_wp2_with fail
  refine (specText_any _ _ _).mono ?_
  rintro e w3 ⟨rfl, hb3⟩
  have hz := txt_size s v
  generalize txt s v = t at *
  have R2 := Lib.hid (show Rd w3 w.heap.size a (min len 2000) cap zs p1 from ⟨R1.out.1.stay hb3, R1.out.2.1.grew (Grew.of hb3) R1.out.2.2, R1.out.2.2⟩)
  have g3 := gr1.on hb3
  clear R1 hb3 gr1 R0
  go_wp2_with fail
  refine (pick_any _ a _ cap zs p1 _ _ R2.out (by omega) (by omega) (by omega)).mono ?_
  rintro e w4 ⟨x, x0, x1, rfl, r4, g4, y4⟩
  have R4 := Lib.hid r4
  have G4 := g3.trans g4
  clear r4 g3 g4 y4 R2
  obtain ⟨n, rfl⟩ := Int.eq_ofNat_of_zero_le x0
  have hn : n ≤ t.size := by omega
  clear x0 x1
  go_wp2_with fail
  refine (pick_any _ a _ cap zs _ 6 _ R4.out (by omega) (by omega) (by omega)).mono ?_
  rintro e w5 ⟨y, y0, y1, rfl, r5, g5, y5⟩
  have R5 := Lib.hid r5
  have G5 := G4.trans g5
  have z5 := G5.size
  simp at z5
  have B5 : Below w.heap.size w w5 := ((Below.refl w.heap.size w).alloc (Nat.le_refl _) _).trans (G5.below (Nat.le_refl _) (by simp))
  clear r5 G4 g5 y5 R4
  rcases (by omega : y = 0 ∨ y = 1 ∨ y = 2 ∨ 2 < y) with rfl | rfl | rfl | hy
  · clear y0 y1
    go_wp2
    go_ret
    exact ⟨t.extract 0 n, by rw [ByteArray.size_extract]; omega, rfl, B5⟩
  · clear y0 y1
    go_wp2_with fail
    go_region_with (first | (go_at_call 21; refine (of4_any _ _ a _ cap zs _ _ (R5.out.past _).drew (by omega) _ _ _ _ (Box.fresh _ _ _).drew (by omega) (by decide) (by decide) (by decide) (by decide)).mono ?_; rintro e w6 ⟨u, hu, rfl, r6, g6⟩))
    all_goals
      go_wp2
      go_ret
      refine ⟨_, ?_, rfl, B5.trans (((Below.refl w5.heap.size w5).alloc (Nat.le_refl _) _ |>.drew |>.mono (by omega)).trans (g6.below (Nat.le_refl _) (by simp; omega)))⟩
      simp [ByteArray.size_append, ByteArray.size_extract]
      omega
  · clear y0 y1
    go_wp2_with fail
    refine (of4_any _ _ a _ cap zs _ _ (R5.out.past _) (by omega) _ _ _ _ (Box.fresh _ _ _) (by omega) (by decide) (by decide) (by decide) (by decide)).mono ?_
    rintro e w6 ⟨u, hu, rfl, r6, g6⟩
    go_wp2
    go_ret
    exact ⟨u, by omega, rfl, B5.trans (((Below.refl w5.heap.size w5).alloc (Nat.le_refl _) _ |>.mono (by omega)).trans (g6.below (Nat.le_refl _) (by simp; omega)))⟩
  · have b0 : (y == 0) = false := by simp; omega
    have b1 : (y == 1) = false := by simp; omega
    have b2 : (y == 2) = false := by simp; omega
    go_wp2
    go_ret
    exact ⟨t, by omega, rfl, B5⟩
end Go.Proofs.YtiooefcdlemodaaDoor
