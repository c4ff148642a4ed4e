/-
  The walk of laws.FnRightThree.
-/
import Derived.Test.YthbeiigiffnhjaaDrawRI
import Derived.Test.YthbeiigiffnhjaaLessM
namespace Go.Proofs.Ythbeiigiffnhjaa
open Go.RowKit
set_option linter.unusedVariables false

set_option maxRecDepth 100000 in
set_option maxHeartbeats 2000000 in
theorem walk_FnRightThree (a0 : Option Addr) (len0 cap0 : Nat) (z0 : List Int) (a1 : Option Addr) (len1 cap1 : Nat) (z1 : List Int) (w : World) (w0 : IsRow .u8 w a0 len0 cap0 z0) (w1 : IsRow .u8 w a1 len1 cap1 z1) :
    Calls Try.prog 5 #[.slice a0 len0 cap0, .slice a1 len1 cap1] w fun e w' => e = .returned (.bool true) ∧ Below w.heap.size w w' := by
  by_cases g0 : (1048576 : Int) < (len0 : Int)
  · go_enter Try.func5, Try.ntmps5
    go_wp2
    go_ret
    exact ⟨rfl, Below.refl _ _⟩
  by_cases g1 : (1048576 : Int) < (len1 : Int)
  · go_enter Try.func5, Try.ntmps5
    go_wp2
    go_ret
    exact ⟨rfl, Below.refl _ _⟩
  have W0 := Lib.hid w0
  clear w0 w1
  go_enter Try.func5, Try.ntmps5
  go_wp2_with fail
  refine (drawRIn_any a0 len0 cap0 z0 _ W0.out).mono ?_
  rintro e x ⟨t, v, r, wr, k, t2, v2, r2, wr2, k2, rfl, hx⟩
  clear W0
  have D00 := ((Kn.start hx).new 24 (rgtC t v r wr k)).new 24 (rgtC t2 v2 r2 wr2 k2)
  rw [show (x.alloc (.cells (rgtC t v r wr k) 24)).heap.size = x.heap.size + 1 by simp] at D00
  clear hx
  obtain ⟨g, hg⟩ : ∃ g, inB t v r wr k t2 v2 r2 wr2 k2 = g := ⟨_, rfl⟩
  have HG := Lib.hid hg
  clear hg
  go_wp2_with fail
  refine (implRIn_val HG.out _).mono ?_
  rintro e y1 ⟨rfl, hb1⟩
  have D1 := D00.stay hb1
  clear hb1 D00
  have q0 := D1.c (b := x.heap.size + 1) (T := 24) (vs := rgtC t2 v2 r2 wr2 k2) (by simp) 0 _ rfl
  have q1 := D1.c (b := x.heap.size + 1) (T := 24) (vs := rgtC t2 v2 r2 wr2 k2) (by simp) 1 _ rfl
  have q2 := D1.c (b := x.heap.size + 1) (T := 24) (vs := rgtC t2 v2 r2 wr2 k2) (by simp) 2 _ rfl
  have q3 := D1.c (b := x.heap.size + 1) (T := 24) (vs := rgtC t2 v2 r2 wr2 k2) (by simp) 3 _ rfl
  have q4 := D1.c (b := x.heap.size + 1) (T := 24) (vs := rgtC t2 v2 r2 wr2 k2) (by simp) 4 _ rfl
  have q5 := D1.c (b := x.heap.size) (T := 24) (vs := rgtC t v r wr k) (by simp) 0 _ rfl
  have q6 := D1.c (b := x.heap.size) (T := 24) (vs := rgtC t v r wr k) (by simp) 1 _ rfl
  have q7 := D1.c (b := x.heap.size) (T := 24) (vs := rgtC t v r wr k) (by simp) 2 _ rfl
  have q8 := D1.c (b := x.heap.size) (T := 24) (vs := rgtC t v r wr k) (by simp) 3 _ rfl
  have q9 := D1.c (b := x.heap.size) (T := 24) (vs := rgtC t v r wr k) (by simp) 4 _ rfl
  go_wp2_with fail
  refine (specRIn_val HG.out _).mono ?_
  rintro e y2 ⟨rfl, hb2⟩
  have D2 := D1.stay hb2
  clear q0 q1 q2 q3 q4 q5 q6 q7 q8 q9
  clear hb2 D1
  have q0 := D2.c (b := x.heap.size + 1) (T := 24) (vs := rgtC t2 v2 r2 wr2 k2) (by simp) 0 _ rfl
  have q1 := D2.c (b := x.heap.size + 1) (T := 24) (vs := rgtC t2 v2 r2 wr2 k2) (by simp) 1 _ rfl
  have q2 := D2.c (b := x.heap.size + 1) (T := 24) (vs := rgtC t2 v2 r2 wr2 k2) (by simp) 2 _ rfl
  have q3 := D2.c (b := x.heap.size + 1) (T := 24) (vs := rgtC t2 v2 r2 wr2 k2) (by simp) 3 _ rfl
  have q4 := D2.c (b := x.heap.size + 1) (T := 24) (vs := rgtC t2 v2 r2 wr2 k2) (by simp) 4 _ rfl
  have q5 := D2.c (b := x.heap.size) (T := 24) (vs := rgtC t v r wr k) (by simp) 0 _ rfl
  have q6 := D2.c (b := x.heap.size) (T := 24) (vs := rgtC t v r wr k) (by simp) 1 _ rfl
  have q7 := D2.c (b := x.heap.size) (T := 24) (vs := rgtC t v r wr k) (by simp) 2 _ rfl
  have q8 := D2.c (b := x.heap.size) (T := 24) (vs := rgtC t v r wr k) (by simp) 3 _ rfl
  have q9 := D2.c (b := x.heap.size) (T := 24) (vs := rgtC t v r wr k) (by simp) 4 _ rfl
  cases g
  · go_wp2_with fail
    refine (specRIn_val HG.out _).mono ?_
    rintro e y3 ⟨rfl, hb3⟩
    have D3 := D2.stay hb3
    clear q0 q1 q2 q3 q4 q5 q6 q7 q8 q9
    clear hb3 D2
    go_wp2
    go_ret
    exact ⟨rfl, D3.1⟩
  by_cases ht : t = 0
  · subst ht
    go_wp2_with fail
    refine (specRIn_val HG.out _).mono ?_
    rintro e y3 ⟨rfl, hb3⟩
    have D3 := D2.stay hb3
    clear q0 q1 q2 q3 q4 q5 q6 q7 q8 q9
    clear hb3 D2
    go_wp2
    go_ret
    exact ⟨rfl, D3.1⟩
  have hz : (t == 0) = false := by simpa using ht
  go_wp2_with fail
  refine (implLess_ex t v r wr k _ _ _ _).mono ?_
  rintro e y9 ⟨⟨u1, u2, b1, b2, b3, rfl, hl⟩, hb9⟩
  have D9 := D2.stay hb9
  clear q0 q1 q2 q3 q4 q5 q6 q7 q8 q9
  clear hb9 D2
  have HI := Lib.hid (less_in (inB_fst HG.out) hl)
  have HJ := Lib.hid (inB_trans HI.out HG.out)
  clear hl ht hz
  have D10 := D9.new 24 (rgtC u1 u2 b1 b2 b3)
  clear D9
  have q0 := D10.c (b := y9.heap.size) (T := 24) (vs := rgtC u1 u2 b1 b2 b3) (by simp) 0 _ rfl
  have q1 := D10.c (b := y9.heap.size) (T := 24) (vs := rgtC u1 u2 b1 b2 b3) (by simp) 1 _ rfl
  have q2 := D10.c (b := y9.heap.size) (T := 24) (vs := rgtC u1 u2 b1 b2 b3) (by simp) 2 _ rfl
  have q3 := D10.c (b := y9.heap.size) (T := 24) (vs := rgtC u1 u2 b1 b2 b3) (by simp) 3 _ rfl
  have q4 := D10.c (b := y9.heap.size) (T := 24) (vs := rgtC u1 u2 b1 b2 b3) (by simp) 4 _ rfl
  have q5 := D10.c (b := x.heap.size + 1) (T := 24) (vs := rgtC t2 v2 r2 wr2 k2) (by simp) 0 _ rfl
  have q6 := D10.c (b := x.heap.size + 1) (T := 24) (vs := rgtC t2 v2 r2 wr2 k2) (by simp) 1 _ rfl
  have q7 := D10.c (b := x.heap.size + 1) (T := 24) (vs := rgtC t2 v2 r2 wr2 k2) (by simp) 2 _ rfl
  have q8 := D10.c (b := x.heap.size + 1) (T := 24) (vs := rgtC t2 v2 r2 wr2 k2) (by simp) 3 _ rfl
  have q9 := D10.c (b := x.heap.size + 1) (T := 24) (vs := rgtC t2 v2 r2 wr2 k2) (by simp) 4 _ rfl
  have q10 := D10.c (b := x.heap.size) (T := 24) (vs := rgtC t v r wr k) (by simp) 0 _ rfl
  have q11 := D10.c (b := x.heap.size) (T := 24) (vs := rgtC t v r wr k) (by simp) 1 _ rfl
  have q12 := D10.c (b := x.heap.size) (T := 24) (vs := rgtC t v r wr k) (by simp) 2 _ rfl
  have q13 := D10.c (b := x.heap.size) (T := 24) (vs := rgtC t v r wr k) (by simp) 3 _ rfl
  have q14 := D10.c (b := x.heap.size) (T := 24) (vs := rgtC t v r wr k) (by simp) 4 _ rfl
  go_wp2_with fail
  refine (implRIn_val HI.out _).mono ?_
  rintro e y11 ⟨rfl, hb11⟩
  have D11 := D10.stay hb11
  clear q0 q1 q2 q3 q4 q5 q6 q7 q8 q9 q10 q11 q12 q13 q14
  clear hb11 D10
  have q0 := D11.c (b := y9.heap.size) (T := 24) (vs := rgtC u1 u2 b1 b2 b3) (by simp) 0 _ rfl
  have q1 := D11.c (b := y9.heap.size) (T := 24) (vs := rgtC u1 u2 b1 b2 b3) (by simp) 1 _ rfl
  have q2 := D11.c (b := y9.heap.size) (T := 24) (vs := rgtC u1 u2 b1 b2 b3) (by simp) 2 _ rfl
  have q3 := D11.c (b := y9.heap.size) (T := 24) (vs := rgtC u1 u2 b1 b2 b3) (by simp) 3 _ rfl
  have q4 := D11.c (b := y9.heap.size) (T := 24) (vs := rgtC u1 u2 b1 b2 b3) (by simp) 4 _ rfl
  have q5 := D11.c (b := x.heap.size + 1) (T := 24) (vs := rgtC t2 v2 r2 wr2 k2) (by simp) 0 _ rfl
  have q6 := D11.c (b := x.heap.size + 1) (T := 24) (vs := rgtC t2 v2 r2 wr2 k2) (by simp) 1 _ rfl
  have q7 := D11.c (b := x.heap.size + 1) (T := 24) (vs := rgtC t2 v2 r2 wr2 k2) (by simp) 2 _ rfl
  have q8 := D11.c (b := x.heap.size + 1) (T := 24) (vs := rgtC t2 v2 r2 wr2 k2) (by simp) 3 _ rfl
  have q9 := D11.c (b := x.heap.size + 1) (T := 24) (vs := rgtC t2 v2 r2 wr2 k2) (by simp) 4 _ rfl
  have q10 := D11.c (b := x.heap.size) (T := 24) (vs := rgtC t v r wr k) (by simp) 0 _ rfl
  have q11 := D11.c (b := x.heap.size) (T := 24) (vs := rgtC t v r wr k) (by simp) 1 _ rfl
  have q12 := D11.c (b := x.heap.size) (T := 24) (vs := rgtC t v r wr k) (by simp) 2 _ rfl
  have q13 := D11.c (b := x.heap.size) (T := 24) (vs := rgtC t v r wr k) (by simp) 3 _ rfl
  have q14 := D11.c (b := x.heap.size) (T := 24) (vs := rgtC t v r wr k) (by simp) 4 _ rfl
  go_wp2_with fail
  refine (implRIn_val HJ.out _).mono ?_
  rintro e y12 ⟨rfl, hb12⟩
  have D12 := D11.stay hb12
  clear q0 q1 q2 q3 q4 q5 q6 q7 q8 q9 q10 q11 q12 q13 q14
  clear hb12 D11
  go_wp2
  go_ret
  exact ⟨rfl, D12.1⟩
end Go.Proofs.Ythbeiigiffnhjaa
