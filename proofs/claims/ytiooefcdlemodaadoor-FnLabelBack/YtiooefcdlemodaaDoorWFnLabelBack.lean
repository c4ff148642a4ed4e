/-
  The walk of laws.FnLabelBack.
-/
import Derived.Test.YtiooefcdlemodaaDoorDrawT
import Derived.Test.YtiooefcdlemodaaDoorLabU
namespace Go.Proofs.YtiooefcdlemodaaDoor
open Go.RowKit
set_option linter.unusedVariables false

set_option maxHeartbeats 1000000 in
theorem walk_FnLabelBack (a0 : Option Addr) (len0 cap0 : Nat) (z0 : List Int) (w : World) (w0 : IsRow .u8 w a0 len0 cap0 z0) :
    Calls Tryd.prog 3 #[.slice a0 len0 cap0] w fun e w' => e = .returned (.bool true) ∧ Below w.heap.size w w' := by
  by_cases g0 : (1048576 : Int) < (len0 : Int)
  · go_enter Tryd.func3, Tryd.ntmps3
    go_wp2
    go_ret
    exact ⟨rfl, Below.refl _ _⟩
  have W0 := Lib.hid w0
  clear w0
  go_enter Tryd.func3, Tryd.ntmps3
  go_wp2_with fail
  refine (drawText_any a0 len0 cap0 z0 _ W0.out).mono ?_
  rintro e x ⟨s, v, rfl, hx⟩
  clear W0
  have K0 := (Kn.start hx).new 24 #[.int .i64 s, .int .i64 v]
  clear hx
  go_wp2_with fail
  refine (implText_any _ _ _).mono ?_
  rintro e x1 ⟨rfl, hb1⟩
  have K1 := K0.stay hb1
  clear hb1 K0
  have q0 := K1.c (b := x.heap.size) (T := 24) (vs := #[.int .i64 s, .int .i64 v]) (by simp) 0 _ rfl
  have q1 := K1.c (b := x.heap.size) (T := 24) (vs := #[.int .i64 s, .int .i64 v]) (by simp) 1 _ rfl
  go_wp2_with fail
  refine (specText_any _ _ _).mono ?_
  rintro e x2 ⟨rfl, hb2⟩
  have K2 := K1.stay hb2
  clear hb2 K1 q0 q1
  have q0 := K2.c (b := x.heap.size) (T := 24) (vs := #[.int .i64 s, .int .i64 v]) (by simp) 0 _ rfl
  have q1 := K2.c (b := x.heap.size) (T := 24) (vs := #[.int .i64 s, .int .i64 v]) (by simp) 1 _ rfl
  cases hk : okL s v
  · have HB := Lib.hid (txt_bad hk)
    rw [HB.out]
    clear hk
    go_wp2_with fail
    refine (specText_any _ _ _).mono ?_
    rintro e x3 ⟨rfl, hb3⟩
    rw [HB.out]
    have K3 := K2.stay hb3
    go_wp2
    go_ret
    exact ⟨rfl, K3.1⟩
  · obtain ⟨k, j, hk1, hj1, rfl, rfl⟩ := okL_nat hk
    have HR := Lib.hid (read_yes hk1 hj1)
    have HK := Lib.hid hk
    have hne : (txt k j).toList.isEmpty = false := by rw [txt_nat hk1 hj1, Lib.toList_data]; rfl
    have hz : (txt k j).size = 3 := by rw [txt_nat hk1 hj1]; rfl
    clear hk
    generalize txt k j = t at *
    go_wp2_with fail
    refine (HR.out.1 _).mono ?_
    rintro e x3 ⟨rfl, hb3⟩
    have K3 := (K2.stay hb3).new 24 #[.int .i64 k, .int .i64 j]
    clear q0 q1 hb3 K2
    have q0 := K3.c (b := x.heap.size) (T := 24) (vs := #[.int .i64 k, .int .i64 j]) (by simp) 0 _ rfl
    have q1 := K3.c (b := x.heap.size) (T := 24) (vs := #[.int .i64 k, .int .i64 j]) (by simp) 1 _ rfl
    go_wp2_with fail
    refine (implOk_any _ _ _).mono ?_
    rintro e x4 ⟨rfl, hb4⟩
    rw [HK.out]
    have K4 := K3.stay hb4
    clear hb4 K3 q0 q1
    go_wp2
    go_ret
    exact ⟨rfl, K4.1⟩
end Go.Proofs.YtiooefcdlemodaaDoor
