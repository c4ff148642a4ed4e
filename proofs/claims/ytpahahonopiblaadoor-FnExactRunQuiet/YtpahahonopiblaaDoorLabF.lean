/-
  The program's LabelFlow, in plain numbers.
-/
import Derived.Test.YtpahahonopiblaaDoorLabC
namespace Go.Proofs.YtpahahonopiblaaDoor
open Go.RowKit

set_option maxHeartbeats 1000000 in
theorem implFlow_any (s v s2 v2 : Int) (w : World) :
    Calls Tryd.prog 30 #[lab s v, lab s2 v2] w fun e w' => e = .returned (.bool (flow s v s2 v2)) ∧ Below w.heap.size w w' := by
  cases h1 : okL s v
  · have hk : flow s v s2 v2 = false := by simp [flow, h1]
    rw [hk]
    have H1 := Lib.hid h1
    clear h1 hk
    go_enter Tryd.func30, Tryd.ntmps30
    go_wp2_with fail
    refine (implOk_any _ _ _).mono ?_
    rintro e w1 ⟨rfl, hb1⟩
    rw [H1.out]
    go_wp2_with fail
    go_ret
    exact ⟨rfl, endB hb1 (Below.refl _ _) (Below.refl _ _)⟩
  cases h2 : okL s2 v2
  · have hk : flow s v s2 v2 = false := by simp [flow, h2]
    rw [hk]
    have H1 := Lib.hid h1
    have H2 := Lib.hid h2
    clear h1 h2 hk
    go_enter Tryd.func30, Tryd.ntmps30
    go_wp2_with fail
    refine (implOk_any _ _ _).mono ?_
    rintro e w1 ⟨rfl, hb1⟩
    rw [H1.out]
    obtain ⟨hc1, hf1⟩ := bcell hb1
    go_wp2_with fail
    refine (implOk_any _ _ _).mono ?_
    rintro e w2 ⟨rfl, hb2⟩
    rw [H2.out]
    go_wp2_with fail
    go_ret
    exact ⟨rfl, endB hb1 hb2 (Below.refl _ _)⟩
  cases h3 : sub2 s s2
  · have hk : flow s v s2 v2 = false := by simp [flow, h3]
    rw [hk]
    exact implFlow_no s v s2 v2 w h1 h2 h3
  · have hk : flow s v s2 v2 = sub2 v2 v := by simp [flow, h1, h2, h3]
    rw [hk]
    exact implFlow_yes s v s2 v2 w h1 h2 h3

end Go.Proofs.YtpahahonopiblaaDoor
