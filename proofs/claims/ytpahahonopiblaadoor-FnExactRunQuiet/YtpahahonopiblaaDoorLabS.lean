/-
  The model's smallest label functions.
-/
import Derived.Test.YtpahahonopiblaaDoorLabA
import Derived.Test.YtpahahonopiblaaDoorKit
namespace Go.Proofs.YtpahahonopiblaaDoor
open Go.RowKit

theorem okL1 {s v : Int} (h : okL s v = true) : okN s = true := by simp [okL] at h; exact h.1
theorem okL2 {s v : Int} (h : okL s v = true) : okN v = true := by simp [okL] at h; exact h.2

theorem l6In_okN (n : Int) (w : World) :
    Calls Tryd.prog 68 #[.int .i64 n, .int .i64 0, .int .i64 3] w fun e w' => e = .returned (.bool (okN n)) ∧ w = w' := l6In_any n 0 3 w

set_option maxHeartbeats 400000 in
theorem specOk_any (s v : Int) (w : World) :
    Calls Tryd.prog 29 #[lab s v] w fun e w' => e = .returned (.bool (okL s v)) ∧ Below w.heap.size w w' := by
  cases h1 : okN s
  · have hk : okL s v = false := by simp [okL, h1]
    rw [hk]
    have H1 := Lib.hid h1
    clear hk h1
    go_enter Tryd.func29, Tryd.ntmps29
    go_wp2_with fail
    refine (l6In_okN _ _).mono ?_
    rintro e w' ⟨rfl, rfl⟩
    rw [H1.out]
    go_wp2
    go_ret
    exact ⟨rfl, (Below.refl _ _).alloc (Nat.le_refl _) _⟩
  · have hk : okL s v = okN v := by simp [okL, h1]
    rw [hk]
    have H1 := Lib.hid h1
    clear hk h1
    go_enter Tryd.func29, Tryd.ntmps29
    go_wp2_with fail
    refine (l6In_okN _ _).mono ?_
    rintro e w' ⟨rfl, rfl⟩
    rw [H1.out]
    go_wp2_with fail
    refine (l6In_okN _ _).mono ?_
    rintro e w' ⟨rfl, rfl⟩
    go_wp2
    go_ret
    exact ⟨rfl, (Below.refl _ _).alloc (Nat.le_refl _) _⟩

end Go.Proofs.YtpahahonopiblaaDoor
