/-
  Drawn words.
-/
import Derived.Test.YthbeiigiffnhjaaDoorDraw
namespace Go.Proofs.YthbeiigiffnhjaaDoor
open Go.RowKit
set_option linter.unusedVariables false

/-- What a drawn word leaves. -/
def WordPost (r : Nat) (a : Option Addr) (len cap : Nat) (zs : List Int) (p : Nat) (w : World) (e : Ending) (w' : World) : Prop :=
  ∃ t : ByteArray, t.size ≤ 1000 ∧ e = .returned (.string t) ∧ Rd w' r a len cap zs (p + 1) ∧ Grew r w w'

set_option maxHeartbeats 1000000 in
/-- One of four words. -/
theorem of4_any (r b : Nat) (a : Option Addr) (len cap : Nat) (zs : List Int) (p : Nat) (w : World) (h : Rd w r a len cap zs p) (hp : p ≤ 900000) (u0 u1 u2 u3 : ByteArray) (hb : Box w b 9 #[.string u0, .string u1, .string u2, .string u3]) (hbr : b ≠ r)
    (z0 : u0.size ≤ 1000) (z1 : u1.size ≤ 1000) (z2 : u2.size ≤ 1000) (z3 : u3.size ≤ 1000) :
    Calls Tryd.prog 23 #[.pointer (some ⟨r, 0, none⟩), .slice (some ⟨b, 0, none⟩) 4 4] w (WordPost r a len cap zs p w) := by
  have H := Lib.hid h
  have HB := Lib.hid hb
  clear h hb
  go_enter Tryd.func23, Tryd.ntmps23
  go_wp2_with fail
  refine (pick_any _ a _ cap zs p 4 _ H.out (by omega) (by omega) (by omega)).mono ?_
  rintro e w1 ⟨x, x0, x1, rfl, r1, g1, y1⟩
  have hB1 := HB.out.grew g1 hbr
  clear y1 H HB
  obtain ⟨t, ht, hc⟩ : ∃ t : ByteArray, t.size ≤ 1000 ∧ w1.cell? ⟨b, x.toNat, none⟩ = some (.string t) := by
    rcases (by omega : x = 0 ∨ x = 1 ∨ x = 2 ∨ x = 3) with rfl | rfl | rfl | rfl
    · exact ⟨u0, z0, hB1.cell _ _ rfl⟩
    · exact ⟨u1, z1, hB1.cell _ _ rfl⟩
    · exact ⟨u2, z2, hB1.cell _ _ rfl⟩
    · exact ⟨u3, z3, hB1.cell _ _ rfl⟩
  have R1 := Lib.hid r1
  clear hB1 r1
  go_wp2
  go_ret
  exact ⟨t, ht, rfl, R1.out, g1⟩

/-- What a drawn text leaves. -/
def TextPost (w : World) (e : Ending) (w' : World) : Prop := ∃ t : ByteArray, t.size ≤ 2000 ∧ e = .returned (.string t) ∧ Below w.heap.size w w'
end Go.Proofs.YthbeiigiffnhjaaDoor
