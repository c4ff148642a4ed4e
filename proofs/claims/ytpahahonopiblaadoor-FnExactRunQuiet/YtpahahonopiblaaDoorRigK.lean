/-
  The program's RightOk.
-/
import Derived.Test.YtpahahonopiblaaDoorRigJ
namespace Go.Proofs.YtpahahonopiblaaDoor
open Go.RowKit
set_option linter.unusedVariables false

theorem mOkN (w : World) : (method 287 147 (.agg #[]) "loop.example/drawbar/impl.ok").run Tryd.prog w = .ok (157, .agg #[]) w := by kernel_rfl
theorem mOkG (t v : Int) (r wr k : Bool) (w : World) : (method 287 148 (rgt t v r wr k) "loop.example/drawbar/impl.ok").run Tryd.prog w = .ok (160, rgt t v r wr k) w := by kernel_rfl

set_option maxHeartbeats 1000000 in
theorem implROk_null (w : World) :
    Calls Tryd.prog 63 #[rgt 0 0 false false false] w fun e w' => e = .returned (.bool true) ∧ Below w.heap.size w w' := by
  have K0 := (Kn.refl (w := w)).new 44 (rgtC 0 0 false false false)
  have hm := mOkN
  go_enter Tryd.func63, Tryd.ntmps63
  go_wp2_with fail
  refine (capOf_null _).mono ?_
  rintro e x1 ⟨rfl, hb1⟩
  have K1 := K0.stay hb1
  clear K0 hb1
  go_wp2_with fail
  refine (nothingOk_any _).mono ?_
  rintro e x2 ⟨rfl, hb2⟩
  have K2 := K1.stay hb2
  clear K1 hb2
  go_wp2
  go_ret
  exact ⟨rfl, K2.1⟩

set_option maxHeartbeats 1000000 in
theorem implROk_some (t v : Int) (r wr k : Bool) (h : nullR t v r wr k = false) (w : World) :
    Calls Tryd.prog 63 #[rgt t v r wr k] w fun e w' => e = .returned (.bool (okG t v wr k)) ∧ Below w.heap.size w w' := by
  have K0 := (Kn.refl (w := w)).new 44 (rgtC t v r wr k)
  have H := Lib.hid h
  clear h
  have hm := mOkG t v r wr k
  go_enter Tryd.func63, Tryd.ntmps63
  go_wp2_with fail
  refine (capOf_some t v r wr k H.out _).mono ?_
  rintro e x1 ⟨rfl, hb1⟩
  have K1 := K0.stay hb1
  clear K0 hb1
  go_wp2_with fail
  refine (grantOk_any t v r wr k _).mono ?_
  rintro e x2 ⟨rfl, hb2⟩
  have K2 := K1.stay hb2
  clear K1 hb2
  go_wp2
  go_ret
  exact ⟨rfl, K2.1⟩

theorem implROk_any (t v : Int) (r wr k : Bool) (w : World) :
    Calls Tryd.prog 63 #[rgt t v r wr k] w fun e w' => e = .returned (.bool (okR t v r wr k)) ∧ Below w.heap.size w w' := by
  cases h : nullR t v r wr k
  · rw [okR_nonull h]; exact implROk_some t v r wr k h w
  · rw [okR_isnull h]
    obtain ⟨rfl, rfl, rfl, rfl, rfl⟩ := nullR_zero h
    exact implROk_null w

theorem implROk_val {t v : Int} {r wr k b : Bool} (h : okR t v r wr k = b) (w : World) :
    Calls Tryd.prog 63 #[rgt t v r wr k] w fun e w' => e = .returned (.bool b) ∧ Below w.heap.size w w' := by
  subst h; exact implROk_any t v r wr k w
end Go.Proofs.YtpahahonopiblaaDoor
