/-
  The walk of laws.FnLabelForm.
-/
import Derived.Test.YtiooefcdlemodaaDoorDrawT
import Derived.Test.YtiooefcdlemodaaDoorLabU
namespace Go.Proofs.YtiooefcdlemodaaDoor
open Go.RowKit
set_option linter.unusedVariables false

set_option maxHeartbeats 1000000 in
theorem walk_FnLabelForm (a0 : Option Addr) (len0 cap0 : Nat) (z0 : List Int) (w : World) (w0 : IsRow .u8 w a0 len0 cap0 z0) :
    Calls Tryd.prog 5 #[.slice a0 len0 cap0] w fun e w' => e = .returned (.bool true) ∧ Below w.heap.size w w' := by
  by_cases g0 : (1048576 : Int) < (len0 : Int)
  · go_enter Tryd.func5, Tryd.ntmps5
    go_wp2
    go_ret
    exact ⟨rfl, Below.refl _ _⟩
  have W0 := Lib.hid w0
  clear w0
  go_enter Tryd.func5, Tryd.ntmps5
  go_wp2_with fail
  refine (drawOk_any a0 len0 cap0 z0 _ W0.out).mono ?_
  rintro e x ⟨s, v, rfl, hx⟩
  clear W0
  have K0 := (Kn.start hx).new 24 #[.int .i64 s, .int .i64 v]
  clear hx
  go_wp2_with fail
  refine (implOk_any _ _ _).mono ?_
  rintro e x1 ⟨rfl, hb1⟩
  have K1 := K0.stay hb1
  clear hb1 K0
  have q0 := K1.c (b := x.heap.size) (T := 24) (vs := #[.int .i64 s, .int .i64 v]) (by simp) 0 _ rfl
  have q1 := K1.c (b := x.heap.size) (T := 24) (vs := #[.int .i64 s, .int .i64 v]) (by simp) 1 _ rfl
  have hcase : (okL s v = true ∧ 0 ≤ s ∧ s ≤ 3 ∧ 0 ≤ v ∧ v ≤ 3) ∨ (okL s v = false ∧ s < 0) ∨ (okL s v = false ∧ 0 ≤ s ∧ 3 < s) ∨ (okL s v = false ∧ 0 ≤ s ∧ s ≤ 3 ∧ v < 0) ∨ (okL s v = false ∧ 0 ≤ s ∧ s ≤ 3 ∧ 0 ≤ v ∧ 3 < v) := by
    cases h : okL s v <;> simp [okL, okN] at h <;> simp <;> omega
  rcases hcase with hcase | hcase | hcase | hcase | hcase
  · obtain ⟨hk, i1, i2, i3, i4⟩ := hcase
    have HK := Lib.hid hk
    have hne : (txt s v).toList.isEmpty = false := by rw [txt_ok hk, Lib.toList_data]; rfl
    clear hk
    rw [HK.out]
    go_wp2_with fail
    refine (specOk_any _ _ _).mono ?_
    rintro e x2 ⟨rfl, hb2⟩
    rw [HK.out]
    have K2 := K1.stay hb2
    clear hb2 K1 q0 q1
    have q0 := K2.c (b := x.heap.size) (T := 24) (vs := #[.int .i64 s, .int .i64 v]) (by simp) 0 _ rfl
    have q1 := K2.c (b := x.heap.size) (T := 24) (vs := #[.int .i64 s, .int .i64 v]) (by simp) 1 _ rfl
    go_wp2_with fail
    refine (implText_any _ _ _).mono ?_
    rintro e x3 ⟨rfl, hb3⟩
    generalize txt s v = t at *
    have K3 := K2.stay hb3
    clear hb3 K2 q0 q1
    go_wp2
    go_ret
    exact ⟨rfl, K3.1⟩
  · obtain ⟨hk, i1⟩ := hcase
    have HK := Lib.hid hk
    have HT := Lib.hid (txt_bad hk)
    clear hk
    rw [HK.out]
    go_wp2_with fail
    refine (specOk_any _ _ _).mono ?_
    rintro e x2 ⟨rfl, hb2⟩
    rw [HK.out]
    have K2 := K1.stay hb2
    clear hb2 K1 q0 q1
    have q0 := K2.c (b := x.heap.size) (T := 24) (vs := #[.int .i64 s, .int .i64 v]) (by simp) 0 _ rfl
    have q1 := K2.c (b := x.heap.size) (T := 24) (vs := #[.int .i64 s, .int .i64 v]) (by simp) 1 _ rfl
    go_wp2_with fail
    refine (implText_any _ _ _).mono ?_
    rintro e x3 ⟨rfl, hb3⟩
    rw [HT.out]
    have K3 := K2.stay hb3
    clear hb3 K2 q0 q1
    go_wp2
    go_ret
    exact ⟨rfl, K3.1⟩
  · obtain ⟨hk, i1, i2⟩ := hcase
    have HK := Lib.hid hk
    have HT := Lib.hid (txt_bad hk)
    clear hk
    rw [HK.out]
    go_wp2_with fail
    refine (specOk_any _ _ _).mono ?_
    rintro e x2 ⟨rfl, hb2⟩
    rw [HK.out]
    have K2 := K1.stay hb2
    clear hb2 K1 q0 q1
    have q0 := K2.c (b := x.heap.size) (T := 24) (vs := #[.int .i64 s, .int .i64 v]) (by simp) 0 _ rfl
    have q1 := K2.c (b := x.heap.size) (T := 24) (vs := #[.int .i64 s, .int .i64 v]) (by simp) 1 _ rfl
    go_wp2_with fail
    refine (implText_any _ _ _).mono ?_
    rintro e x3 ⟨rfl, hb3⟩
    rw [HT.out]
    have K3 := K2.stay hb3
    clear hb3 K2 q0 q1
    go_wp2
    go_ret
    exact ⟨rfl, K3.1⟩
  · obtain ⟨hk, i1, i2, i3⟩ := hcase
    have HK := Lib.hid hk
    have HT := Lib.hid (txt_bad hk)
    clear hk
    rw [HK.out]
    go_wp2_with fail
    refine (specOk_any _ _ _).mono ?_
    rintro e x2 ⟨rfl, hb2⟩
    rw [HK.out]
    have K2 := K1.stay hb2
    clear hb2 K1 q0 q1
    have q0 := K2.c (b := x.heap.size) (T := 24) (vs := #[.int .i64 s, .int .i64 v]) (by simp) 0 _ rfl
    have q1 := K2.c (b := x.heap.size) (T := 24) (vs := #[.int .i64 s, .int .i64 v]) (by simp) 1 _ rfl
    go_wp2_with fail
    refine (implText_any _ _ _).mono ?_
    rintro e x3 ⟨rfl, hb3⟩
    rw [HT.out]
    have K3 := K2.stay hb3
    clear hb3 K2 q0 q1
    go_wp2
    go_ret
    exact ⟨rfl, K3.1⟩
  · obtain ⟨hk, i1, i2, i3, i4⟩ := hcase
    have HK := Lib.hid hk
    have b1 : decide (v ≤ 3) = false := by simp; omega
    have HT := Lib.hid (txt_bad hk)
    clear hk
    rw [HK.out]
    go_wp2_with fail
    refine (specOk_any _ _ _).mono ?_
    rintro e x2 ⟨rfl, hb2⟩
    rw [HK.out]
    have K2 := K1.stay hb2
    clear hb2 K1 q0 q1
    have q0 := K2.c (b := x.heap.size) (T := 24) (vs := #[.int .i64 s, .int .i64 v]) (by simp) 0 _ rfl
    have q1 := K2.c (b := x.heap.size) (T := 24) (vs := #[.int .i64 s, .int .i64 v]) (by simp) 1 _ rfl
    go_wp2_with fail
    refine (implText_any _ _ _).mono ?_
    rintro e x3 ⟨rfl, hb3⟩
    rw [HT.out]
    have K3 := K2.stay hb3
    clear hb3 K2 q0 q1
    go_wp2
    go_ret
    exact ⟨rfl, K3.1⟩
end Go.Proofs.YtiooefcdlemodaaDoor
