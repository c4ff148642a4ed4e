/-
  The model's smallest label functions.
-/
import Derived.Test.YtiooefcdlemodaaDoorLabA
namespace Go.Proofs.YtiooefcdlemodaaDoor
open Go.RowKit

theorem okL1 {s v : Int} (h : okL s v = true) : okN s = true := by simp [okL] at h; exact h.1
theorem okL2 {s v : Int} (h : okL s v = true) : okN v = true := by simp [okL] at h; exact h.2

set_option maxHeartbeats 400000 in
theorem l6In_any (n lo hi : Int) (w : World) :
    Calls Tryd.prog 22 #[.int .i64 n, .int .i64 lo, .int .i64 hi] w fun e w' => e = .returned (.bool (decide (lo ≤ n ∧ n ≤ hi))) ∧ w = w' := by
  by_cases h1 : lo ≤ n
  · by_cases h2 : n ≤ hi
    · rw [decide_eq_true (And.intro h1 h2)]
      go_enter Tryd.func22, Tryd.ntmps22
      go_wp2
      go_ret
      exact ⟨rfl, rfl⟩
    · rw [decide_eq_false (fun h => h2 h.2)]
      go_enter Tryd.func22, Tryd.ntmps22
      go_wp2
      go_ret
      exact ⟨rfl, rfl⟩
  · rw [decide_eq_false (fun h => h1 h.1)]
    go_enter Tryd.func22, Tryd.ntmps22
    go_wp2
    go_ret
    exact ⟨rfl, rfl⟩

theorem l6In_okN (n : Int) (w : World) :
    Calls Tryd.prog 22 #[.int .i64 n, .int .i64 0, .int .i64 3] w fun e w' => e = .returned (.bool (okN n)) ∧ w = w' := l6In_any n 0 3 w

set_option maxHeartbeats 400000 in
theorem specOk_any (s v : Int) (w : World) :
    Calls Tryd.prog 14 #[lab s v] w fun e w' => e = .returned (.bool (okL s v)) ∧ Below w.heap.size w w' := by
  cases h1 : okN s
  · have hk : okL s v = false := by simp [okL, h1]
    rw [hk]
    have H1 := Lib.hid h1
    clear hk h1
    go_enter Tryd.func14, Tryd.ntmps14
    go_wp2_with fail
    refine (l6In_okN _ _).mono ?_
    rintro e w' ⟨rfl, rfl⟩
    rw [H1.out]
    go_wp2
    go_ret
    exact ⟨rfl, (Below.refl _ _).alloc (Nat.le_refl _) _⟩
  · have hk : okL s v = okN v := by simp [okL, h1]
    rw [hk]
    have H1 := Lib.hid h1
    clear hk h1
    go_enter Tryd.func14, Tryd.ntmps14
    go_wp2_with fail
    refine (l6In_okN _ _).mono ?_
    rintro e w' ⟨rfl, rfl⟩
    rw [H1.out]
    go_wp2_with fail
    refine (l6In_okN _ _).mono ?_
    rintro e w' ⟨rfl, rfl⟩
    go_wp2
    go_ret
    exact ⟨rfl, (Below.refl _ _).alloc (Nat.le_refl _) _⟩

end Go.Proofs.YtiooefcdlemodaaDoor
