/-
  The walk of laws.FnLabelStrict.
-/
import Derived.Test.YtiooefcdlemodaaDoorDrawS
namespace Go.Proofs.YtiooefcdlemodaaDoor
open Go.RowKit
set_option linter.unusedVariables false

set_option maxHeartbeats 1000000 in
theorem walk_FnLabelStrict (a0 : Option Addr) (len0 cap0 : Nat) (z0 : List Int) (w : World) (w0 : IsRow .u8 w a0 len0 cap0 z0) :
    Calls Tryd.prog 4 #[.slice a0 len0 cap0] w fun e w' => e = .returned (.bool true) ∧ Below w.heap.size w w' := by
  by_cases g0 : (1048576 : Int) < (len0 : Int)
  · go_enter Tryd.func4, Tryd.ntmps4
    go_wp2
    go_ret
    exact ⟨rfl, Below.refl _ _⟩
  have W0 := Lib.hid w0
  clear w0
  go_enter Tryd.func4, Tryd.ntmps4
  go_wp2_with fail
  refine (drawRead_any a0 len0 cap0 z0 _ W0.out).mono ?_
  rintro e x ⟨t, ht, rfl, hx⟩
  clear W0
  obtain ⟨s, v, b, hR, hT⟩ := read_any t
  have HR := Lib.hid hR
  have HT := Lib.hid hT
  have K0 := Kn.start hx
  clear hR hT hx
  go_wp2_with fail
  refine (HR.out.2 _).mono ?_
  rintro e x1 ⟨rfl, hb1⟩
  have K1 := (K0.stay hb1).new 24 #[.int .i64 s, .int .i64 v]
  clear hb1 K0
  go_wp2_with fail
  refine (HR.out.1 _).mono ?_
  rintro e x2 ⟨rfl, hb2⟩
  have K2 := (K1.stay hb2).new 24 #[.int .i64 s, .int .i64 v]
  clear hb2 K1
  have q0 := K2.c (b := x1.heap.size) (T := 24) (vs := #[.int .i64 s, .int .i64 v]) (by simp) 0 _ rfl
  have q1 := K2.c (b := x1.heap.size) (T := 24) (vs := #[.int .i64 s, .int .i64 v]) (by simp) 1 _ rfl
  have q2 := K2.c (b := x2.heap.size) (T := 24) (vs := #[.int .i64 s, .int .i64 v]) (by simp) 0 _ rfl
  have q3 := K2.c (b := x2.heap.size) (T := 24) (vs := #[.int .i64 s, .int .i64 v]) (by simp) 1 _ rfl
  cases b
  · go_wp2
    go_ret
    exact ⟨rfl, K2.1⟩
  · obtain ⟨h1, h2⟩ := HT.out rfl
    have H1 := Lib.hid h1
    have H2 := Lib.hid h2
    clear h1 h2 HT
    go_wp2_with fail
    refine (implOk_any _ _ _).mono ?_
    rintro e x3 ⟨rfl, hb3⟩
    rw [H1.out]
    have K3 := K2.stay hb3
    clear hb3 K2 q0 q1 q2 q3
    have q2 := K3.c (b := x2.heap.size) (T := 24) (vs := #[.int .i64 s, .int .i64 v]) (by simp) 0 _ rfl
    have q3 := K3.c (b := x2.heap.size) (T := 24) (vs := #[.int .i64 s, .int .i64 v]) (by simp) 1 _ rfl
    go_wp2_with fail
    refine (implText_any _ _ _).mono ?_
    rintro e x4 ⟨rfl, hb4⟩
    rw [H2.out]
    have K4 := K3.stay hb4
    clear hb4 K3 q2 q3
    go_wp2
    go_ret
    exact ⟨rfl, K4.1⟩
end Go.Proofs.YtiooefcdlemodaaDoor
