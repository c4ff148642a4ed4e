/-
  strconv.Itoa at the numbers of a table, below nought too.
-/
import Derived.Test.YtpahahonopiblaaDoorTxtS
import Derived.Test.YtpahahonopiblaaDoorShf
import Derived.Lib.AppendIntMem
namespace Go.Proofs.YtpahahonopiblaaDoor
open Go.RowKit
set_option linter.unusedVariables false
set_option maxRecDepth 100000

/-- The library's table of powers, as its own text lays it. -/
def TP (w : World) : Prop := Lib.TabIs Tryd.prog w "internal/strconv.uint64pow10" .u64 Lib.pow10Tab
theorem TP.stay {w w' : World} (h : TP w) (hb : Below w.heap.size w w') : TP w' := Lib.tabBelow_of_tabIs h w' hb
theorem TP.drew {w : World} (h : TP w) : TP w.drew := h.stay (Below.refl _ _).drew
theorem itoa_neg {n : Int} (h : -9 ≤ n ∧ n < 0) : (⟨(Lib.itoa n).toArray⟩ : ByteArray) = B (decL n) := by
  rcases (by omega : n = -9 ∨ n = -8 ∨ n = -7 ∨ n = -6 ∨ n = -5 ∨ n = -4 ∨ n = -3 ∨ n = -2 ∨ n = -1) with rfl | rfl | rfl | rfl | rfl | rfl | rfl | rfl | rfl <;> decide +kernel
theorem itoa_all (n : Int) (w : World) (ht : TP w) (h : -9 ≤ n ∧ n ≤ 99) :
    Calls Tryd.prog 48 #[.int .i64 n] w fun e w' => e = .returned (.string (B (decL n))) ∧ Below w.heap.size w w' := by
  by_cases h0 : n < 0
  · refine (Tryd.strconv_Itoa n (by omega) (by omega) w ht).mono ?_
    rintro e w' ⟨rfl, k, os, rfl⟩
    exact ⟨by rw [itoa_neg ⟨h.1, h0⟩], Lib.below_grow _ _ (Nat.le_refl _) _ _⟩
  · by_cases h9 : n ≤ 9
    · refine (itoa_any n w (by omega) h9).mono ?_
      rintro e w' ⟨rfl, rfl⟩
      exact ⟨by rw [← decT_B, decT_one (by omega) h9], Below.refl _ _⟩
    · refine (itoa_two n w (by omega) (by omega)).mono ?_
      rintro e w' ⟨rfl, rfl⟩
      exact ⟨by rw [decT_B], Below.refl _ _⟩
theorem itoa_val {n : Int} {s : ByteArray} (hs : B (decL n) = s) (w : World) (ht : TP w) (h : -9 ≤ n ∧ n ≤ 99) :
    Calls Tryd.prog 48 #[.int .i64 n] w fun e w' => e = .returned (.string s) ∧ Below w.heap.size w w' := by
  subst hs; exact itoa_all n w ht h
end Go.Proofs.YtpahahonopiblaaDoor
