/-
  The walk of laws.FnExactRightRead.
-/
import Derived.Test.YthbeiigiffnhjaaDoorToRgt
import Derived.Test.YthbeiigiffnhjaaDoorRigI
namespace Go.Proofs.YthbeiigiffnhjaaDoor
open Go.RowKit
set_option linter.unusedVariables false

set_option maxRecDepth 100000 in
set_option maxHeartbeats 2000000 in
theorem walk_FnExactRightRead (s : ByteArray) (w : World) (a : Addr) (es er : Value) (hv : Vs a es er w) (hs : s.size ≤ maxLen) :
    Calls Tryd.prog 5 #[.string s] w fun e w' => e = .returned (.bool true) ∧ Below w.heap.size w w' := by
  by_cases g0 : (1048576 : Int) < (s.size : Int)
  · clear hv hs
    go_enter Tryd.func5, Tryd.ntmps5
    go_wp2
    go_ret
    exact ⟨rfl, Below.refl _ _⟩
  have D0 := Kn.refl (w := w)
  obtain ⟨t, v, r, wr, k, b, hr⟩ := RR.total s
  have HR := Lib.hid hr
  have HZ := Lib.hid (show s.size ≤ 1048576 by omega)
  have HV := Lib.hid hv
  clear hr hv
  go_enter Tryd.func5, Tryd.ntmps5
  go_wp2_with fail
  refine (specRRead_of HR.out _).mono ?_
  rintro e y1 ⟨rfl, hb1⟩
  have D1 := D0.stay hb1
  clear hb1 D0
  have D2 := D1.new 24 (rgtC t v r wr k)
  clear D1
  have q0 := D2.c (b := y1.heap.size) (T := 24) (vs := rgtC t v r wr k) (by simp) 0 _ rfl
  have q1 := D2.c (b := y1.heap.size) (T := 24) (vs := rgtC t v r wr k) (by simp) 1 _ rfl
  have q2 := D2.c (b := y1.heap.size) (T := 24) (vs := rgtC t v r wr k) (by simp) 2 _ rfl
  have q3 := D2.c (b := y1.heap.size) (T := 24) (vs := rgtC t v r wr k) (by simp) 3 _ rfl
  have q4 := D2.c (b := y1.heap.size) (T := 24) (vs := rgtC t v r wr k) (by simp) 4 _ rfl
  go_wp2_with fail
  refine (implRRead_of HR.out HZ.out _ (HV.out.on D2.1)).mono ?_
  rintro e y3 ⟨rfl, hb3⟩
  have D3 := D2.stay hb3
  clear q0 q1 q2 q3 q4
  clear hb3 D2
  have D4 := D3.new 24 (rgtC t v r wr k)
  clear D3
  have q0 := D4.c (b := y3.heap.size) (T := 24) (vs := rgtC t v r wr k) (by simp) 0 _ rfl
  have q1 := D4.c (b := y3.heap.size) (T := 24) (vs := rgtC t v r wr k) (by simp) 1 _ rfl
  have q2 := D4.c (b := y3.heap.size) (T := 24) (vs := rgtC t v r wr k) (by simp) 2 _ rfl
  have q3 := D4.c (b := y3.heap.size) (T := 24) (vs := rgtC t v r wr k) (by simp) 3 _ rfl
  have q4 := D4.c (b := y3.heap.size) (T := 24) (vs := rgtC t v r wr k) (by simp) 4 _ rfl
  have q5 := D4.c (b := y1.heap.size) (T := 24) (vs := rgtC t v r wr k) (by simp) 0 _ rfl
  have q6 := D4.c (b := y1.heap.size) (T := 24) (vs := rgtC t v r wr k) (by simp) 1 _ rfl
  have q7 := D4.c (b := y1.heap.size) (T := 24) (vs := rgtC t v r wr k) (by simp) 2 _ rfl
  have q8 := D4.c (b := y1.heap.size) (T := 24) (vs := rgtC t v r wr k) (by simp) 3 _ rfl
  have q9 := D4.c (b := y1.heap.size) (T := 24) (vs := rgtC t v r wr k) (by simp) 4 _ rfl
  go_wp2_with fail
  refine (eqRight_same _ _ _ _ _ _).mono ?_
  rintro e y5 ⟨rfl, hb5⟩
  have D5 := D4.stay hb5
  clear q0 q1 q2 q3 q4 q5 q6 q7 q8 q9
  clear hb5 D4
  cases b
  all_goals
    go_wp2
    go_ret
    exact ⟨rfl, D5.1⟩
end Go.Proofs.YthbeiigiffnhjaaDoor
