/-
  The walk of laws.FnRightStrict.
-/
import Derived.Test.YthbeiigiffnhjaaDoorDrawRS
import Derived.Test.YthbeiigiffnhjaaDoorRigI
namespace Go.Proofs.YthbeiigiffnhjaaDoor
open Go.RowKit
set_option linter.unusedVariables false

set_option maxRecDepth 100000 in
set_option maxHeartbeats 2000000 in
theorem walk_FnRightStrict (a0 : Option Addr) (len0 cap0 : Nat) (z0 : List Int) (w : World) (a : Addr) (es er : Value) (hv : Vs a es er w) (w0 : IsRow .u8 w a0 len0 cap0 z0) :
    Calls Tryd.prog 4 #[.slice a0 len0 cap0] w fun e w' => e = .returned (.bool true) ∧ Below w.heap.size w w' := by
  by_cases g0 : (1048576 : Int) < (len0 : Int)
  · go_enter Tryd.func4, Tryd.ntmps4
    go_wp2
    go_ret
    exact ⟨rfl, Below.refl _ _⟩
  have W0 := Lib.hid w0
  have HV := Lib.hid hv
  clear w0 hv
  go_enter Tryd.func4, Tryd.ntmps4
  go_wp2_with fail
  refine (drawRRead_any a0 len0 cap0 z0 _ W0.out).mono ?_
  rintro e x ⟨s, hs, rfl, hx⟩
  clear W0
  have D0 := Kn.start hx
  have HZ := Lib.hid (show s.size ≤ 1048576 by omega)
  clear hx hs
  obtain ⟨t, v, r, wr, k, b, hr⟩ := RR.total s
  have HR := Lib.hid hr
  go_wp2_with fail
  refine (specRRead_of HR.out _).mono ?_
  rintro e y1 ⟨rfl, hb1⟩
  have D1 := D0.stay hb1
  clear hb1 D0
  have D2 := D1.new 24 (rgtC t v r wr k)
  clear D1
  have q0 := D2.c (b := y1.heap.size) (T := 24) (vs := rgtC t v r wr k) (by simp) 0 _ rfl
  have q1 := D2.c (b := y1.heap.size) (T := 24) (vs := rgtC t v r wr k) (by simp) 1 _ rfl
  have q2 := D2.c (b := y1.heap.size) (T := 24) (vs := rgtC t v r wr k) (by simp) 2 _ rfl
  have q3 := D2.c (b := y1.heap.size) (T := 24) (vs := rgtC t v r wr k) (by simp) 3 _ rfl
  have q4 := D2.c (b := y1.heap.size) (T := 24) (vs := rgtC t v r wr k) (by simp) 4 _ rfl
  go_wp2_with fail
  refine (implRRead_of HR.out HZ.out _ (HV.out.on D2.1)).mono ?_
  rintro e y3 ⟨rfl, hb3⟩
  have D3 := D2.stay hb3
  clear q0 q1 q2 q3 q4
  clear hb3 D2
  have D4 := D3.new 24 (rgtC t v r wr k)
  clear D3
  have q0 := D4.c (b := y3.heap.size) (T := 24) (vs := rgtC t v r wr k) (by simp) 0 _ rfl
  have q1 := D4.c (b := y3.heap.size) (T := 24) (vs := rgtC t v r wr k) (by simp) 1 _ rfl
  have q2 := D4.c (b := y3.heap.size) (T := 24) (vs := rgtC t v r wr k) (by simp) 2 _ rfl
  have q3 := D4.c (b := y3.heap.size) (T := 24) (vs := rgtC t v r wr k) (by simp) 3 _ rfl
  have q4 := D4.c (b := y3.heap.size) (T := 24) (vs := rgtC t v r wr k) (by simp) 4 _ rfl
  have q5 := D4.c (b := y1.heap.size) (T := 24) (vs := rgtC t v r wr k) (by simp) 0 _ rfl
  have q6 := D4.c (b := y1.heap.size) (T := 24) (vs := rgtC t v r wr k) (by simp) 1 _ rfl
  have q7 := D4.c (b := y1.heap.size) (T := 24) (vs := rgtC t v r wr k) (by simp) 2 _ rfl
  have q8 := D4.c (b := y1.heap.size) (T := 24) (vs := rgtC t v r wr k) (by simp) 3 _ rfl
  have q9 := D4.c (b := y1.heap.size) (T := 24) (vs := rgtC t v r wr k) (by simp) 4 _ rfl
  rcases hr with ⟨rfl, ho, hs2⟩ | ⟨rfl, hz, hn⟩
  · have HO := Lib.hid ho
    have HS := Lib.hid hs2
    clear ho hs2
    go_wp2_with fail
    refine (implROk_val HO.out _).mono ?_
    rintro e y5 ⟨rfl, hb5⟩
    have D5 := D4.stay hb5
    clear q0 q1 q2 q3 q4 q5 q6 q7 q8 q9
    clear hb5 D4
    have q0 := D5.c (b := y3.heap.size) (T := 24) (vs := rgtC t v r wr k) (by simp) 0 _ rfl
    have q1 := D5.c (b := y3.heap.size) (T := 24) (vs := rgtC t v r wr k) (by simp) 1 _ rfl
    have q2 := D5.c (b := y3.heap.size) (T := 24) (vs := rgtC t v r wr k) (by simp) 2 _ rfl
    have q3 := D5.c (b := y3.heap.size) (T := 24) (vs := rgtC t v r wr k) (by simp) 3 _ rfl
    have q4 := D5.c (b := y3.heap.size) (T := 24) (vs := rgtC t v r wr k) (by simp) 4 _ rfl
    have q5 := D5.c (b := y1.heap.size) (T := 24) (vs := rgtC t v r wr k) (by simp) 0 _ rfl
    have q6 := D5.c (b := y1.heap.size) (T := 24) (vs := rgtC t v r wr k) (by simp) 1 _ rfl
    have q7 := D5.c (b := y1.heap.size) (T := 24) (vs := rgtC t v r wr k) (by simp) 2 _ rfl
    have q8 := D5.c (b := y1.heap.size) (T := 24) (vs := rgtC t v r wr k) (by simp) 3 _ rfl
    have q9 := D5.c (b := y1.heap.size) (T := 24) (vs := rgtC t v r wr k) (by simp) 4 _ rfl
    go_wp2_with fail
    refine (implRText_val HS.out _).mono ?_
    rintro e y6 ⟨rfl, hb6⟩
    have D6 := D5.stay hb6
    clear q0 q1 q2 q3 q4 q5 q6 q7 q8 q9
    clear hb6 D5
    have q0 := D6.c (b := y3.heap.size) (T := 24) (vs := rgtC t v r wr k) (by simp) 0 _ rfl
    have q1 := D6.c (b := y3.heap.size) (T := 24) (vs := rgtC t v r wr k) (by simp) 1 _ rfl
    have q2 := D6.c (b := y3.heap.size) (T := 24) (vs := rgtC t v r wr k) (by simp) 2 _ rfl
    have q3 := D6.c (b := y3.heap.size) (T := 24) (vs := rgtC t v r wr k) (by simp) 3 _ rfl
    have q4 := D6.c (b := y3.heap.size) (T := 24) (vs := rgtC t v r wr k) (by simp) 4 _ rfl
    have q5 := D6.c (b := y1.heap.size) (T := 24) (vs := rgtC t v r wr k) (by simp) 0 _ rfl
    have q6 := D6.c (b := y1.heap.size) (T := 24) (vs := rgtC t v r wr k) (by simp) 1 _ rfl
    have q7 := D6.c (b := y1.heap.size) (T := 24) (vs := rgtC t v r wr k) (by simp) 2 _ rfl
    have q8 := D6.c (b := y1.heap.size) (T := 24) (vs := rgtC t v r wr k) (by simp) 3 _ rfl
    have q9 := D6.c (b := y1.heap.size) (T := 24) (vs := rgtC t v r wr k) (by simp) 4 _ rfl
    go_wp2
    go_ret
    exact ⟨rfl, D6.1⟩
  · clear hn hz
    go_wp2
    go_ret
    exact ⟨rfl, D4.1⟩
end Go.Proofs.YthbeiigiffnhjaaDoor
