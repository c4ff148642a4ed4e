/-
  The model's label functions: what each returns, in plain numbers.
-/
import Derived.Test.YtpahahonopiblaaDoorLabB
namespace Go.Proofs.YtpahahonopiblaaDoor
open Go.RowKit

set_option maxHeartbeats 1000000 in
theorem l1In_any (a b : Int) (w : World) (ha : okN a = true) (hb : okN b = true) :
    Calls Tryd.prog 104 #[.int .i64 a, .int .i64 b] w fun e w' => e = .returned (.bool (sub2 a b)) ∧ w = w' := by
  rcases four a ha with rfl | rfl | rfl | rfl <;> rcases four b hb with rfl | rfl | rfl | rfl
  all_goals
    clear ha hb
    go_enter Tryd.func104, Tryd.ntmps104
    go_wp2
    go_ret
    exact ⟨rfl, rfl⟩

set_option maxHeartbeats 1000000 in
theorem l1Flow_any (s v s2 v2 : Int) (w : World) (h1 : okL s v = true) (h2 : okL s2 v2 = true) :
    Calls Tryd.prog 69 #[lab s v, lab s2 v2] w fun e w' => e = .returned (.bool (sub2 s s2 && sub2 v2 v)) ∧ Below w.heap.size w w' := by
  have H1 := Lib.hid h1
  have H2 := Lib.hid h2
  cases h3 : sub2 s s2
  · have H3 := Lib.hid h3
    clear h1 h2 h3
    rw [Bool.false_and]
    go_enter Tryd.func69, Tryd.ntmps69
    go_wp2_with fail
    refine (l1In_any _ _ _ (okL1 H1.out) (okL1 H2.out)).mono ?_
    rintro e w' ⟨rfl, rfl⟩
    rw [H3.out]
    go_wp2_with fail
    go_ret
    exact ⟨rfl, ((Below.refl _ _).alloc (Nat.le_refl _) _).alloc (by simp) _⟩
  · have H3 := Lib.hid h3
    clear h1 h2 h3
    rw [Bool.true_and]
    go_enter Tryd.func69, Tryd.ntmps69
    go_wp2_with fail
    refine (l1In_any _ _ _ (okL1 H1.out) (okL1 H2.out)).mono ?_
    rintro e w' ⟨rfl, rfl⟩
    rw [H3.out]
    go_wp2_with fail
    refine (l1In_any _ _ _ (okL2 H2.out) (okL2 H1.out)).mono ?_
    rintro e w' ⟨rfl, rfl⟩
    go_wp2_with fail
    go_ret
    exact ⟨rfl, ((Below.refl _ _).alloc (Nat.le_refl _) _).alloc (by simp) _⟩

end Go.Proofs.YtpahahonopiblaaDoor
