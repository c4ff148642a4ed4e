/-
  The walk of laws.FnCallForm.
-/
import Derived.Test.YtohfincnjhemfaaDrawC
namespace Go.Proofs.Ytohfincnjhemfaa
open Go.RowKit
set_option linter.unusedVariables false

set_option maxRecDepth 100000 in
set_option maxHeartbeats 2000000 in
theorem walk_FnCallForm (a0 : Option Addr) (len0 cap0 : Nat) (z0 : List Int) (w : World) (w0 : IsRow .u8 w a0 len0 cap0 z0) :
    Calls Try.prog 3 #[.slice a0 len0 cap0] w fun e w' => e = .returned (.bool true) ∧ Below w.heap.size w w' := by
  by_cases g0 : (1048576 : Int) < (len0 : Int)
  · go_enter Try.func3, Try.ntmps3
    go_wp2
    go_ret
    exact ⟨rfl, Below.refl _ _⟩
  have W0 := Lib.hid w0
  clear w0
  go_enter Try.func3, Try.ntmps3
  go_wp2_with fail
  refine (drawCallOk_any a0 len0 cap0 z0 _ W0.out).mono ?_
  rintro e x ⟨c, rfl, hx⟩
  have K0 := Lib.hid ((Kn.start hx).new 24 c.cs)
  clear W0 hx
  obtain ⟨b, hb⟩ : ∃ b, c.ok = b := ⟨_, rfl⟩
  have HB := Lib.hid hb
  clear hb
  go_wp2_with fail
  refine (implCallOk_val HB.out _).mono ?_
  rintro e x1 ⟨rfl, hb1⟩
  have K1 := Lib.hid (K0.out.stay hb1)
  clear hb1 K0
  have q0 := K1.out.c (b := x.heap.size) (T := 24) (vs := c.cs) (by simp) 0 _ rfl
  have q1 := K1.out.c (b := x.heap.size) (T := 24) (vs := c.cs) (by simp) 1 _ rfl
  have q2 := K1.out.c (b := x.heap.size) (T := 24) (vs := c.cs) (by simp) 2 _ rfl
  have q3 := K1.out.c (b := x.heap.size) (T := 24) (vs := c.cs) (by simp) 3 _ rfl
  have q4 := K1.out.c (b := x.heap.size) (T := 24) (vs := c.cs) (by simp) 4 _ rfl
  go_wp2_with fail
  refine (specCallOk_val HB.out _).mono ?_
  rintro e x2 ⟨rfl, hb2⟩
  have K2 := Lib.hid (K1.out.stay hb2)
  clear hb2 K1 q0 q1 q2 q3 q4
  have q0 := K2.out.c (b := x.heap.size) (T := 24) (vs := c.cs) (by simp) 0 _ rfl
  have q1 := K2.out.c (b := x.heap.size) (T := 24) (vs := c.cs) (by simp) 1 _ rfl
  have q2 := K2.out.c (b := x.heap.size) (T := 24) (vs := c.cs) (by simp) 2 _ rfl
  have q3 := K2.out.c (b := x.heap.size) (T := 24) (vs := c.cs) (by simp) 3 _ rfl
  have q4 := K2.out.c (b := x.heap.size) (T := 24) (vs := c.cs) (by simp) 4 _ rfl
  cases b
  · go_wp2_with fail
    refine (specCallOk_val HB.out _).mono ?_
    rintro e x3 ⟨rfl, hb3⟩
    have K3 := Lib.hid (K2.out.stay hb3)
    clear hb3 K2 q0 q1 q2 q3 q4
    go_wp2
    go_ret
    exact ⟨rfl, K3.out.1⟩
  have hxl := (K2.out.box (b := x.heap.size) (T := 24) (vs := c.cs) (by simp)).lt
  have hx1 : x.heap.size < x2.heap.size + 1 := by omega
  have hx2 : x.heap.size < x2.heap.size + 1 + 1 := by omega
  have hx3 : x.heap.size < x2.heap.size + 1 + 1 + 1 := by omega
  have K3 := Lib.hid ((((K2.out.new 24 (C5.cs ⟨10, c.r, c.a, c.b, c.n⟩)).new 24 (C5.cs ⟨c.k, c.r, c.a, 4, c.n⟩)).new 24 (C5.cs ⟨c.k, c.r, c.a, c.b, -1⟩)).new 24 (C5.cs ⟨c.k, 0, c.a, c.b, c.n⟩))
  rw [show (x2.alloc (.cells (C5.cs ⟨10, c.r, c.a, c.b, c.n⟩) 24)).heap.size = x2.heap.size + 1 by simp, show ((x2.alloc (.cells (C5.cs ⟨10, c.r, c.a, c.b, c.n⟩) 24)).alloc (.cells (C5.cs ⟨c.k, c.r, c.a, 4, c.n⟩) 24)).heap.size = x2.heap.size + 1 + 1 by simp, show (((x2.alloc (.cells (C5.cs ⟨10, c.r, c.a, c.b, c.n⟩) 24)).alloc (.cells (C5.cs ⟨c.k, c.r, c.a, 4, c.n⟩) 24)).alloc (.cells (C5.cs ⟨c.k, c.r, c.a, c.b, -1⟩) 24)).heap.size = x2.heap.size + 1 + 1 + 1 by simp] at K3
  have HA := Lib.hid (show C5.ok ⟨10, c.r, c.a, c.b, c.n⟩ = false by simp [C5.ok, inR])
  have HB := Lib.hid (show C5.ok ⟨c.k, c.r, c.a, 4, c.n⟩ = false by simp [C5.ok, inR])
  have HC := Lib.hid (show C5.ok ⟨c.k, c.r, c.a, c.b, -1⟩ = false by simp [C5.ok, inR])
  have HD := Lib.hid (show C5.ok ⟨c.k, 0, c.a, c.b, c.n⟩ = false by simp [C5.ok, inR])
  go_wp2_with fail
  refine (implCallOk_val HA.out _).mono ?_
  rintro e z0 ⟨rfl, hb⟩
  have K4 := Lib.hid (K3.out.stay hb)
  clear hb K3
  have b0 := K4.out.c (b := x2.heap.size + 1) (T := 24) (vs := C5.cs ⟨c.k, c.r, c.a, 4, c.n⟩) (by simp) 0 _ rfl
  have b1 := K4.out.c (b := x2.heap.size + 1) (T := 24) (vs := C5.cs ⟨c.k, c.r, c.a, 4, c.n⟩) (by simp) 1 _ rfl
  have b2 := K4.out.c (b := x2.heap.size + 1) (T := 24) (vs := C5.cs ⟨c.k, c.r, c.a, 4, c.n⟩) (by simp) 2 _ rfl
  have b3 := K4.out.c (b := x2.heap.size + 1) (T := 24) (vs := C5.cs ⟨c.k, c.r, c.a, 4, c.n⟩) (by simp) 3 _ rfl
  have b4 := K4.out.c (b := x2.heap.size + 1) (T := 24) (vs := C5.cs ⟨c.k, c.r, c.a, 4, c.n⟩) (by simp) 4 _ rfl
  have c0 := K4.out.c (b := x2.heap.size + 1 + 1) (T := 24) (vs := C5.cs ⟨c.k, c.r, c.a, c.b, -1⟩) (by simp) 0 _ rfl
  have c1 := K4.out.c (b := x2.heap.size + 1 + 1) (T := 24) (vs := C5.cs ⟨c.k, c.r, c.a, c.b, -1⟩) (by simp) 1 _ rfl
  have c2 := K4.out.c (b := x2.heap.size + 1 + 1) (T := 24) (vs := C5.cs ⟨c.k, c.r, c.a, c.b, -1⟩) (by simp) 2 _ rfl
  have c3 := K4.out.c (b := x2.heap.size + 1 + 1) (T := 24) (vs := C5.cs ⟨c.k, c.r, c.a, c.b, -1⟩) (by simp) 3 _ rfl
  have c4 := K4.out.c (b := x2.heap.size + 1 + 1) (T := 24) (vs := C5.cs ⟨c.k, c.r, c.a, c.b, -1⟩) (by simp) 4 _ rfl
  have d0 := K4.out.c (b := x2.heap.size + 1 + 1 + 1) (T := 24) (vs := C5.cs ⟨c.k, 0, c.a, c.b, c.n⟩) (by simp) 0 _ rfl
  have d1 := K4.out.c (b := x2.heap.size + 1 + 1 + 1) (T := 24) (vs := C5.cs ⟨c.k, 0, c.a, c.b, c.n⟩) (by simp) 1 _ rfl
  have d2 := K4.out.c (b := x2.heap.size + 1 + 1 + 1) (T := 24) (vs := C5.cs ⟨c.k, 0, c.a, c.b, c.n⟩) (by simp) 2 _ rfl
  have d3 := K4.out.c (b := x2.heap.size + 1 + 1 + 1) (T := 24) (vs := C5.cs ⟨c.k, 0, c.a, c.b, c.n⟩) (by simp) 3 _ rfl
  have d4 := K4.out.c (b := x2.heap.size + 1 + 1 + 1) (T := 24) (vs := C5.cs ⟨c.k, 0, c.a, c.b, c.n⟩) (by simp) 4 _ rfl
  go_wp2_with fail
  refine (implCallOk_val HB.out _).mono ?_
  rintro e z1 ⟨rfl, hb⟩
  have K5 := Lib.hid (K4.out.stay hb)
  clear hb K4
  clear b0 b1 b2 b3 b4 c0 c1 c2 c3 c4 d0 d1 d2 d3 d4
  have c0 := K5.out.c (b := x2.heap.size + 1 + 1) (T := 24) (vs := C5.cs ⟨c.k, c.r, c.a, c.b, -1⟩) (by simp) 0 _ rfl
  have c1 := K5.out.c (b := x2.heap.size + 1 + 1) (T := 24) (vs := C5.cs ⟨c.k, c.r, c.a, c.b, -1⟩) (by simp) 1 _ rfl
  have c2 := K5.out.c (b := x2.heap.size + 1 + 1) (T := 24) (vs := C5.cs ⟨c.k, c.r, c.a, c.b, -1⟩) (by simp) 2 _ rfl
  have c3 := K5.out.c (b := x2.heap.size + 1 + 1) (T := 24) (vs := C5.cs ⟨c.k, c.r, c.a, c.b, -1⟩) (by simp) 3 _ rfl
  have c4 := K5.out.c (b := x2.heap.size + 1 + 1) (T := 24) (vs := C5.cs ⟨c.k, c.r, c.a, c.b, -1⟩) (by simp) 4 _ rfl
  have d0 := K5.out.c (b := x2.heap.size + 1 + 1 + 1) (T := 24) (vs := C5.cs ⟨c.k, 0, c.a, c.b, c.n⟩) (by simp) 0 _ rfl
  have d1 := K5.out.c (b := x2.heap.size + 1 + 1 + 1) (T := 24) (vs := C5.cs ⟨c.k, 0, c.a, c.b, c.n⟩) (by simp) 1 _ rfl
  have d2 := K5.out.c (b := x2.heap.size + 1 + 1 + 1) (T := 24) (vs := C5.cs ⟨c.k, 0, c.a, c.b, c.n⟩) (by simp) 2 _ rfl
  have d3 := K5.out.c (b := x2.heap.size + 1 + 1 + 1) (T := 24) (vs := C5.cs ⟨c.k, 0, c.a, c.b, c.n⟩) (by simp) 3 _ rfl
  have d4 := K5.out.c (b := x2.heap.size + 1 + 1 + 1) (T := 24) (vs := C5.cs ⟨c.k, 0, c.a, c.b, c.n⟩) (by simp) 4 _ rfl
  go_wp2_with fail
  refine (implCallOk_val HC.out _).mono ?_
  rintro e z2 ⟨rfl, hb⟩
  have K6 := Lib.hid (K5.out.stay hb)
  clear hb K5
  clear c0 c1 c2 c3 c4 d0 d1 d2 d3 d4
  have d0 := K6.out.c (b := x2.heap.size + 1 + 1 + 1) (T := 24) (vs := C5.cs ⟨c.k, 0, c.a, c.b, c.n⟩) (by simp) 0 _ rfl
  have d1 := K6.out.c (b := x2.heap.size + 1 + 1 + 1) (T := 24) (vs := C5.cs ⟨c.k, 0, c.a, c.b, c.n⟩) (by simp) 1 _ rfl
  have d2 := K6.out.c (b := x2.heap.size + 1 + 1 + 1) (T := 24) (vs := C5.cs ⟨c.k, 0, c.a, c.b, c.n⟩) (by simp) 2 _ rfl
  have d3 := K6.out.c (b := x2.heap.size + 1 + 1 + 1) (T := 24) (vs := C5.cs ⟨c.k, 0, c.a, c.b, c.n⟩) (by simp) 3 _ rfl
  have d4 := K6.out.c (b := x2.heap.size + 1 + 1 + 1) (T := 24) (vs := C5.cs ⟨c.k, 0, c.a, c.b, c.n⟩) (by simp) 4 _ rfl
  go_wp2_with fail
  refine (implCallOk_val HD.out _).mono ?_
  rintro e z3 ⟨rfl, hb⟩
  have K7 := Lib.hid (K6.out.stay hb)
  clear hb K6
  clear d0 d1 d2 d3 d4
  go_wp2
  go_ret
  exact ⟨rfl, K7.out.1⟩
end Go.Proofs.Ytohfincnjhemfaa
