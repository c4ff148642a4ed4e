/-
  The walk of laws.FnRightBack.
-/
import Derived.Test.YthbeiigiffnhjaaDoorDrawRA
import Derived.Test.YthbeiigiffnhjaaDoorRigI
namespace Go.Proofs.YthbeiigiffnhjaaDoor
open Go.RowKit
set_option linter.unusedVariables false


theorem txtR_size {t v : Int} {r wr k : Bool} (h : okR t v r wr k = true) : (txtR t v r wr k).size ≤ 1048576 := by
  by_cases ht : t = 0
  · subst ht; rw [txtR_null h]; show 1 ≤ _; decide
  · rw [txtR_some h ht]; show 6 ≤ _; decide

set_option maxRecDepth 100000 in
set_option maxHeartbeats 2000000 in
theorem walk_FnRightBack (a0 : Option Addr) (len0 cap0 : Nat) (z0 : List Int) (w : World) (a : Addr) (es er : Value) (hv : Vs a es er w) (w0 : IsRow .u8 w a0 len0 cap0 z0) :
    Calls Tryd.prog 3 #[.slice a0 len0 cap0] w fun e w' => e = .returned (.bool true) ∧ Below w.heap.size w w' := by
  by_cases g0 : (1048576 : Int) < (len0 : Int)
  · go_enter Tryd.func3, Tryd.ntmps3
    go_wp2
    go_ret
    exact ⟨rfl, Below.refl _ _⟩
  have W0 := Lib.hid w0
  have HV := Lib.hid hv
  clear w0 hv
  go_enter Tryd.func3, Tryd.ntmps3
  go_wp2_with fail
  refine (drawRText_any a0 len0 cap0 z0 _ W0.out).mono ?_
  rintro e x ⟨t, v, r, wr, k, t0, t1, v0, v1, rfl, hx⟩
  clear W0 t0 t1 v0 v1
  have D0 := (Kn.start hx).new 24 (rgtC t v r wr k)
  clear hx
  go_wp2_with fail
  refine (implRText_any _ _ _ _ _ _).mono ?_
  rintro e y1 ⟨rfl, hb1⟩
  have D1 := D0.stay hb1
  clear hb1 D0
  have q0 := D1.c (b := x.heap.size) (T := 24) (vs := rgtC t v r wr k) (by simp) 0 _ rfl
  have q1 := D1.c (b := x.heap.size) (T := 24) (vs := rgtC t v r wr k) (by simp) 1 _ rfl
  have q2 := D1.c (b := x.heap.size) (T := 24) (vs := rgtC t v r wr k) (by simp) 2 _ rfl
  have q3 := D1.c (b := x.heap.size) (T := 24) (vs := rgtC t v r wr k) (by simp) 3 _ rfl
  have q4 := D1.c (b := x.heap.size) (T := 24) (vs := rgtC t v r wr k) (by simp) 4 _ rfl
  go_wp2_with fail
  refine (specRText_any _ _ _ _ _ _).mono ?_
  rintro e y2 ⟨rfl, hb2⟩
  have D2 := D1.stay hb2
  clear q0 q1 q2 q3 q4
  clear hb2 D1
  have q0 := D2.c (b := x.heap.size) (T := 24) (vs := rgtC t v r wr k) (by simp) 0 _ rfl
  have q1 := D2.c (b := x.heap.size) (T := 24) (vs := rgtC t v r wr k) (by simp) 1 _ rfl
  have q2 := D2.c (b := x.heap.size) (T := 24) (vs := rgtC t v r wr k) (by simp) 2 _ rfl
  have q3 := D2.c (b := x.heap.size) (T := 24) (vs := rgtC t v r wr k) (by simp) 3 _ rfl
  have q4 := D2.c (b := x.heap.size) (T := 24) (vs := rgtC t v r wr k) (by simp) 4 _ rfl
  cases hk : okR t v r wr k
  · have HB := Lib.hid (txtR_bad hk)
    rw [HB.out]
    clear hk
    go_wp2_with fail
    refine (specRText_any _ _ _ _ _ _).mono ?_
    rintro e y3 ⟨rfl, hb3⟩
    rw [HB.out]
    have D3 := D2.stay hb3
    clear q0 q1 q2 q3 q4
    clear hb3 D2
    go_wp2
    go_ret
    exact ⟨rfl, D3.1⟩
  · have HR := Lib.hid (RR.text hk)
    have HK := Lib.hid hk
    have hne := txtR_ne hk
    have HZ := Lib.hid (txtR_size hk)
    clear hk
    generalize txtR t v r wr k = s at *
    go_wp2_with fail
    refine (implRRead_of HR.out HZ.out _ (HV.out.on D2.1)).mono ?_
    rintro e y3 ⟨rfl, hb3⟩
    have D3 := D2.stay hb3
    clear q0 q1 q2 q3 q4
    clear hb3 D2
    have D4 := D3.new 24 (rgtC t v r wr k)
    clear D3
    have q0 := D4.c (b := y3.heap.size) (T := 24) (vs := rgtC t v r wr k) (by simp) 0 _ rfl
    have q1 := D4.c (b := y3.heap.size) (T := 24) (vs := rgtC t v r wr k) (by simp) 1 _ rfl
    have q2 := D4.c (b := y3.heap.size) (T := 24) (vs := rgtC t v r wr k) (by simp) 2 _ rfl
    have q3 := D4.c (b := y3.heap.size) (T := 24) (vs := rgtC t v r wr k) (by simp) 3 _ rfl
    have q4 := D4.c (b := y3.heap.size) (T := 24) (vs := rgtC t v r wr k) (by simp) 4 _ rfl
    have q5 := D4.c (b := x.heap.size) (T := 24) (vs := rgtC t v r wr k) (by simp) 0 _ rfl
    have q6 := D4.c (b := x.heap.size) (T := 24) (vs := rgtC t v r wr k) (by simp) 1 _ rfl
    have q7 := D4.c (b := x.heap.size) (T := 24) (vs := rgtC t v r wr k) (by simp) 2 _ rfl
    have q8 := D4.c (b := x.heap.size) (T := 24) (vs := rgtC t v r wr k) (by simp) 3 _ rfl
    have q9 := D4.c (b := x.heap.size) (T := 24) (vs := rgtC t v r wr k) (by simp) 4 _ rfl
    go_wp2_with fail
    refine (implROk_val HK.out _).mono ?_
    rintro e y5 ⟨rfl, hb5⟩
    have D5 := D4.stay hb5
    clear q0 q1 q2 q3 q4 q5 q6 q7 q8 q9
    clear hb5 D4
    have q0 := D5.c (b := y3.heap.size) (T := 24) (vs := rgtC t v r wr k) (by simp) 0 _ rfl
    have q1 := D5.c (b := y3.heap.size) (T := 24) (vs := rgtC t v r wr k) (by simp) 1 _ rfl
    have q2 := D5.c (b := y3.heap.size) (T := 24) (vs := rgtC t v r wr k) (by simp) 2 _ rfl
    have q3 := D5.c (b := y3.heap.size) (T := 24) (vs := rgtC t v r wr k) (by simp) 3 _ rfl
    have q4 := D5.c (b := y3.heap.size) (T := 24) (vs := rgtC t v r wr k) (by simp) 4 _ rfl
    have q5 := D5.c (b := x.heap.size) (T := 24) (vs := rgtC t v r wr k) (by simp) 0 _ rfl
    have q6 := D5.c (b := x.heap.size) (T := 24) (vs := rgtC t v r wr k) (by simp) 1 _ rfl
    have q7 := D5.c (b := x.heap.size) (T := 24) (vs := rgtC t v r wr k) (by simp) 2 _ rfl
    have q8 := D5.c (b := x.heap.size) (T := 24) (vs := rgtC t v r wr k) (by simp) 3 _ rfl
    have q9 := D5.c (b := x.heap.size) (T := 24) (vs := rgtC t v r wr k) (by simp) 4 _ rfl
    go_wp2
    go_ret
    exact ⟨rfl, D5.1⟩
end Go.Proofs.YthbeiigiffnhjaaDoor
