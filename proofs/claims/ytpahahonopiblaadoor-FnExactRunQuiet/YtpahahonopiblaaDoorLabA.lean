/-
  The small functions of labels: what each call returns, in plain numbers.
-/
import Derived.Test.YtpahahonopiblaaDoorBase
namespace Go.Proofs.YtpahahonopiblaaDoor
open Go.RowKit

/-- A number that is a set of two marks. -/
def okN (n : Int) : Bool := decide (0 ≤ n ∧ n ≤ 3)
theorem okN_bd {n : Int} (h : okN n = true) : 0 ≤ n ∧ n ≤ 3 := by simpa [okN] using h
def okL (s v : Int) : Bool := okN s && okN v
/-- A label as a value. -/
abbrev lab (s v : Int) : Value := .agg #[.int .i64 s, .int .i64 v]

set_option maxHeartbeats 400000 in
theorem sumOk_any (n : Int) (w : World) :
    Calls Tryd.prog 103 #[.int .i64 n] w fun e w' => e = .returned (.bool (okN n)) ∧ w = w' := by
  by_cases h1 : 0 ≤ n
  · by_cases h2 : n ≤ 3
    · have hk : okN n = true := by simp [okN]; omega
      rw [hk]
      clear hk
      go_enter Tryd.func103, Tryd.ntmps103
      go_wp2
      go_ret
      exact ⟨rfl, rfl⟩
    · have hk : okN n = false := by simp [okN]; omega
      rw [hk]
      clear hk
      go_enter Tryd.func103, Tryd.ntmps103
      go_wp2
      go_ret
      exact ⟨rfl, rfl⟩
  · have hk : okN n = false := by simp [okN]; omega
    rw [hk]
    clear hk
    go_enter Tryd.func103, Tryd.ntmps103
    go_wp2
    go_ret
    exact ⟨rfl, rfl⟩

set_option maxHeartbeats 400000 in
theorem implOk_any (s v : Int) (w : World) :
    Calls Tryd.prog 66 #[lab s v] w fun e w' => e = .returned (.bool (okL s v)) ∧ Below w.heap.size w w' := by
  cases h1 : okN s
  · have hk : okL s v = false := by simp [okL, h1]
    rw [hk]
    have H1 : Hid (okN s = false) := h1
    clear hk h1
    go_enter Tryd.func66, Tryd.ntmps66
    go_wp2_with fail
    refine (sumOk_any _ _).mono ?_
    rintro e w' ⟨rfl, rfl⟩
    rw [H1.out]
    go_wp2
    go_ret
    exact ⟨rfl, (Below.refl _ _).alloc (Nat.le_refl _) _⟩
  · have hk : okL s v = okN v := by simp [okL, h1]
    rw [hk]
    have H1 : Hid (okN s = true) := h1
    clear hk h1
    go_enter Tryd.func66, Tryd.ntmps66
    go_wp2_with fail
    refine (sumOk_any _ _).mono ?_
    rintro e w' ⟨rfl, rfl⟩
    rw [H1.out]
    go_wp2_with fail
    refine (sumOk_any _ _).mono ?_
    rintro e w' ⟨rfl, rfl⟩
    go_wp2
    go_ret
    exact ⟨rfl, (Below.refl _ _).alloc (Nat.le_refl _) _⟩

/-- Marks that are all among others. -/
def sub2 (a b : Int) : Bool := decide (a % 2 ≤ b % 2 ∧ a / 2 ≤ b / 2)
/-- Marks of both; marks that both have. -/
def or2 (a b : Int) : Int := max (a % 2) (b % 2) + 2 * max (a / 2) (b / 2)
def and2 (a b : Int) : Int := min (a % 2) (b % 2) + 2 * min (a / 2) (b / 2)

theorem four (a : Int) (h : okN a = true) : a = 0 ∨ a = 1 ∨ a = 2 ∨ a = 3 := by
  simp [okN] at h; omega

set_option maxHeartbeats 400000 in
theorem secrets_any (s v : Int) (w : World) (h : okN s = true) :
    Calls Tryd.prog 71 #[lab s v] w fun e w' => e = .returned (.int .u64 s) ∧ Below w.heap.size w w' := by
  rcases four s h with rfl | rfl | rfl | rfl
  all_goals
    clear h
    go_enter Tryd.func71, Tryd.ntmps71
    go_wp2
    go_ret
    exact ⟨rfl, (Below.refl _ _).alloc (Nat.le_refl _) _⟩

set_option maxHeartbeats 400000 in
theorem vouchers_any (s v : Int) (w : World) (h : okN v = true) :
    Calls Tryd.prog 73 #[lab s v] w fun e w' => e = .returned (.int .u64 v) ∧ Below w.heap.size w w' := by
  rcases four v h with rfl | rfl | rfl | rfl
  all_goals
    clear h
    go_enter Tryd.func73, Tryd.ntmps73
    go_wp2
    go_ret
    exact ⟨rfl, (Below.refl _ _).alloc (Nat.le_refl _) _⟩

set_option maxHeartbeats 1000000 in
theorem within_any (a b : Int) (w : World) (ha : okN a = true) (hb : okN b = true) :
    Calls Tryd.prog 72 #[.int .u64 a, .int .u64 b] w fun e w' => e = .returned (.bool (sub2 a b)) ∧ w = w' := by
  rcases four a ha with rfl | rfl | rfl | rfl <;> rcases four b hb with rfl | rfl | rfl | rfl
  all_goals
    clear ha hb
    go_enter Tryd.func72, Tryd.ntmps72
    go_wp2
    go_ret
    exact ⟨rfl, rfl⟩
end Go.Proofs.YtpahahonopiblaaDoor
