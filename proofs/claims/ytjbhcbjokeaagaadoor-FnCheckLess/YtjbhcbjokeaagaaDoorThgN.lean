/-
  The program's ThingNew.
-/
import Derived.Test.YtjbhcbjokeaagaaDoorThgI
import Derived.Test.YtjbhcbjokeaagaaDoorTNew
namespace Go.Proofs.YtjbhcbjokeaagaaDoor
open Go.RowKit
set_option linter.unusedVariables false

theorem infoT : (Tryd.prog.info? 36).map (·.size) = some 8 := by kernel_rfl
theorem one8 (x : T8) (s q : Sl) : (x.cs s q).all (·.oneCell') = true := by simp [Value.oneCell']
theorem slots_has {k : Int} (h : inR k 1 5 = true) : inR 4 (rowOf k).s0 (rowOf k).s1 = hasS k := by
  have hk : k = 1 ∨ k = 2 ∨ k = 3 ∨ k = 4 ∨ k = 5 := by simp [inR] at h; omega
  rcases hk with rfl | rfl | rfl | rfl | rfl <;> decide
theorem zero_four {w : World} {b : Nat} {T : TypeId} (bx : Box w b T zr20) : HasR w ⟨some ⟨b, 0, none⟩, 4, 4⟩ [⟨0, 0, false, false, false⟩, ⟨0, 0, false, false, false⟩, ⟨0, 0, false, false, false⟩, ⟨0, 0, false, false, false⟩] := by
  refine ⟨rfl, Nat.le_refl _, .inr ⟨_, _, rfl, fun i x hx j v hv => ?_⟩⟩
  match i, hx with
  | 0, hx => simp at hx; subst hx; match j, hv with
    | 0, hv => exact bx.cell _ _ hv
    | 1, hv => exact bx.cell _ _ hv
    | 2, hv => exact bx.cell _ _ hv
    | 3, hv => exact bx.cell _ _ hv
    | 4, hv => exact bx.cell _ _ hv
    | j + 5, hv => simp at hv
  | 1, hx => simp at hx; subst hx; match j, hv with
    | 0, hv => exact bx.cell _ _ hv
    | 1, hv => exact bx.cell _ _ hv
    | 2, hv => exact bx.cell _ _ hv
    | 3, hv => exact bx.cell _ _ hv
    | 4, hv => exact bx.cell _ _ hv
    | j + 5, hv => simp at hv
  | 2, hx => simp at hx; subst hx; match j, hv with
    | 0, hv => exact bx.cell _ _ hv
    | 1, hv => exact bx.cell _ _ hv
    | 2, hv => exact bx.cell _ _ hv
    | 3, hv => exact bx.cell _ _ hv
    | 4, hv => exact bx.cell _ _ hv
    | j + 5, hv => simp at hv
  | 3, hx => simp at hx; subst hx; match j, hv with
    | 0, hv => exact bx.cell _ _ hv
    | 1, hv => exact bx.cell _ _ hv
    | 2, hv => exact bx.cell _ _ hv
    | 3, hv => exact bx.cell _ _ hv
    | 4, hv => exact bx.cell _ _ hv
    | j + 5, hv => simp at hv
  | i + 4, hx => simp at hx
end Go.Proofs.YtjbhcbjokeaagaaDoor
