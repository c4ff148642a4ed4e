/-
  The model's label functions: what each returns, in plain numbers.
-/
import Derived.Test.YtiooefcdlemodabLabB
namespace Go.Proofs.Ytiooefcdlemodab
open Go.RowKit

set_option maxHeartbeats 400000 in
theorem l6In_any (n lo hi : Int) (w : World) :
    Calls Try.prog 23 #[.int .i64 n, .int .i64 lo, .int .i64 hi] w fun e w' => e = .returned (.bool (decide (lo ≤ n ∧ n ≤ hi))) ∧ w = w' := by
  by_cases h1 : lo ≤ n
  · by_cases h2 : n ≤ hi
    · rw [decide_eq_true (And.intro h1 h2)]
      go_enter Try.func23, Try.ntmps23
      go_wp2
      go_ret
      exact ⟨rfl, rfl⟩
    · rw [decide_eq_false (fun h => h2 h.2)]
      go_enter Try.func23, Try.ntmps23
      go_wp2
      go_ret
      exact ⟨rfl, rfl⟩
  · rw [decide_eq_false (fun h => h1 h.1)]
    go_enter Try.func23, Try.ntmps23
    go_wp2
    go_ret
    exact ⟨rfl, rfl⟩

theorem l6In_okN (n : Int) (w : World) :
    Calls Try.prog 23 #[.int .i64 n, .int .i64 0, .int .i64 3] w fun e w' => e = .returned (.bool (okN n)) ∧ w = w' := l6In_any n 0 3 w

set_option maxHeartbeats 400000 in
theorem specOk_any (s v : Int) (w : World) :
    Calls Try.prog 14 #[lab s v] w fun e w' => e = .returned (.bool (okL s v)) ∧ Below w.heap.size w w' := by
  cases h1 : okN s
  · have hk : okL s v = false := by simp [okL, h1]
    rw [hk]
    have H1 := Lib.hid h1
    clear hk h1
    go_enter Try.func14, Try.ntmps14
    go_wp2_with fail
    refine (l6In_okN _ _).mono ?_
    rintro e w' ⟨rfl, rfl⟩
    rw [H1.out]
    go_wp2
    go_ret
    exact ⟨rfl, (Below.refl _ _).alloc (Nat.le_refl _) _⟩
  · have hk : okL s v = okN v := by simp [okL, h1]
    rw [hk]
    have H1 := Lib.hid h1
    clear hk h1
    go_enter Try.func14, Try.ntmps14
    go_wp2_with fail
    refine (l6In_okN _ _).mono ?_
    rintro e w' ⟨rfl, rfl⟩
    rw [H1.out]
    go_wp2_with fail
    refine (l6In_okN _ _).mono ?_
    rintro e w' ⟨rfl, rfl⟩
    go_wp2
    go_ret
    exact ⟨rfl, (Below.refl _ _).alloc (Nat.le_refl _) _⟩

set_option maxHeartbeats 1000000 in
theorem l1In_any (a b : Int) (w : World) (ha : okN a = true) (hb : okN b = true) :
    Calls Try.prog 24 #[.int .i64 a, .int .i64 b] w fun e w' => e = .returned (.bool (sub2 a b)) ∧ w = w' := by
  rcases four a ha with rfl | rfl | rfl | rfl <;> rcases four b hb with rfl | rfl | rfl | rfl
  all_goals
    clear ha hb
    go_enter Try.func24, Try.ntmps24
    go_wp2
    go_ret
    exact ⟨rfl, rfl⟩

set_option maxHeartbeats 1000000 in
theorem l1Flow_any (s v s2 v2 : Int) (w : World) (h1 : okL s v = true) (h2 : okL s2 v2 = true) :
    Calls Try.prog 15 #[lab s v, lab s2 v2] w fun e w' => e = .returned (.bool (sub2 s s2 && sub2 v2 v)) ∧ Below w.heap.size w w' := by
  have H1 := Lib.hid h1
  have H2 := Lib.hid h2
  cases h3 : sub2 s s2
  · have H3 := Lib.hid h3
    clear h1 h2 h3
    rw [Bool.false_and]
    go_enter Try.func15, Try.ntmps15
    go_wp2_with fail
    refine (l1In_any _ _ _ (okL1 H1.out) (okL1 H2.out)).mono ?_
    rintro e w' ⟨rfl, rfl⟩
    rw [H3.out]
    go_wp2_with fail
    go_ret
    exact ⟨rfl, ((Below.refl _ _).alloc (Nat.le_refl _) _).alloc (by simp) _⟩
  · have H3 := Lib.hid h3
    clear h1 h2 h3
    rw [Bool.true_and]
    go_enter Try.func15, Try.ntmps15
    go_wp2_with fail
    refine (l1In_any _ _ _ (okL1 H1.out) (okL1 H2.out)).mono ?_
    rintro e w' ⟨rfl, rfl⟩
    rw [H3.out]
    go_wp2_with fail
    refine (l1In_any _ _ _ (okL2 H2.out) (okL2 H1.out)).mono ?_
    rintro e w' ⟨rfl, rfl⟩
    go_wp2_with fail
    go_ret
    exact ⟨rfl, ((Below.refl _ _).alloc (Nat.le_refl _) _).alloc (by simp) _⟩

set_option maxHeartbeats 1000000 in
theorem specFlow_any (s v s2 v2 : Int) (w : World) :
    Calls Try.prog 6 #[lab s v, lab s2 v2] w fun e w' => e = .returned (.bool (flow s v s2 v2)) ∧ Below w.heap.size w w' := by
  cases h1 : okL s v
  · have hk : flow s v s2 v2 = false := by simp [flow, h1]
    rw [hk]
    have H1 := Lib.hid h1
    clear h1 hk
    go_enter Try.func6, Try.ntmps6
    go_wp2_with fail
    refine (specOk_any _ _ _).mono ?_
    rintro e w1 ⟨rfl, hb1⟩
    rw [H1.out]
    go_wp2_with fail
    go_ret
    exact ⟨rfl, endB hb1 (Below.refl _ _) (Below.refl _ _)⟩
  cases h2 : okL s2 v2
  · have hk : flow s v s2 v2 = false := by simp [flow, h2]
    rw [hk]
    have H1 := Lib.hid h1
    have H2 := Lib.hid h2
    clear h1 h2 hk
    go_enter Try.func6, Try.ntmps6
    go_wp2_with fail
    refine (specOk_any _ _ _).mono ?_
    rintro e w1 ⟨rfl, hb1⟩
    rw [H1.out]
    obtain ⟨hc1, hf1⟩ := bcell hb1
    go_wp2_with fail
    refine (specOk_any _ _ _).mono ?_
    rintro e w2 ⟨rfl, hb2⟩
    rw [H2.out]
    go_wp2_with fail
    go_ret
    exact ⟨rfl, endB hb1 hb2 (Below.refl _ _)⟩
  · have hk : flow s v s2 v2 = (sub2 s s2 && sub2 v2 v) := by simp [flow, h1, h2]
    rw [hk]
    have H1 := Lib.hid h1
    have H2 := Lib.hid h2
    clear h1 h2 hk
    go_enter Try.func6, Try.ntmps6
    go_wp2_with fail
    refine (specOk_any _ _ _).mono ?_
    rintro e w1 ⟨rfl, hb1⟩
    rw [H1.out]
    obtain ⟨hc1, hf1⟩ := bcell hb1
    have hz1 : w.heap.size + 1 < w1.heap.size := by have := hb1.size; simp at this; omega
    have hz0 : w.heap.size < w1.heap.size := by omega
    go_wp2_with fail
    refine (specOk_any _ _ _).mono ?_
    rintro e w2 ⟨rfl, hb2⟩
    rw [H2.out]
    obtain ⟨hc2, hf2⟩ := bcell hb2
    go_wp2_with fail
    refine (l1Flow_any _ _ _ _ _ H1.out H2.out).mono ?_
    rintro e w3 ⟨rfl, hb3⟩
    go_wp2_with fail
    go_ret
    exact ⟨rfl, endB hb1 hb2 (hb3.mono (by have := hb2.size; omega))⟩
end Go.Proofs.Ytiooefcdlemodab
