/-
  The walk of laws.FnRightOne.
-/
import Derived.Test.YthbeiigiffnhjaaDrawRA
import Derived.Test.YthbeiigiffnhjaaRigI
namespace Go.Proofs.Ythbeiigiffnhjaa
open Go.RowKit
set_option linter.unusedVariables false

set_option maxRecDepth 100000 in
set_option maxHeartbeats 2000000 in
theorem walk_FnRightOne (a0 : Option Addr) (len0 cap0 : Nat) (z0 : List Int) (a1 : Option Addr) (len1 cap1 : Nat) (z1 : List Int) (w : World) (w0 : IsRow .u8 w a0 len0 cap0 z0) (w1 : IsRow .u8 w a1 len1 cap1 z1) :
    Calls Try.prog 8 #[.slice a0 len0 cap0, .slice a1 len1 cap1] w fun e w' => e = .returned (.bool true) ∧ Below w.heap.size w w' := by
  by_cases g0 : (1048576 : Int) < (len0 : Int)
  · go_enter Try.func8, Try.ntmps8
    go_wp2
    go_ret
    exact ⟨rfl, Below.refl _ _⟩
  by_cases g1 : (1048576 : Int) < (len1 : Int)
  · go_enter Try.func8, Try.ntmps8
    go_wp2
    go_ret
    exact ⟨rfl, Below.refl _ _⟩
  have W0 := Lib.hid w0
  have W1 := Lib.hid w1
  clear w0 w1
  go_enter Try.func8, Try.ntmps8
  go_wp2_with fail
  refine (drawRText_any a0 len0 cap0 z0 _ W0.out).mono ?_
  rintro e x ⟨t, v, r, wr, k, t0, t1, v0, v1, rfl, hx⟩
  clear W0 t0 t1 v0 v1
  have D0 := (Kn.start hx).new 24 (rgtC t v r wr k)
  clear hx
  have w1 := W1.out.below D0.1
  clear W1
  go_wp2_with fail
  refine (drawROk_any a1 len1 cap1 z1 _ w1).mono ?_
  rintro e x2 ⟨t2, v2, r2, wr2, k2, _, _, _, _, rfl, hx2⟩
  have D00 := D0.stay hx2
  clear w1 hx2 D0
  have D1 := D00.new 24 (rgtC t2 v2 r2 wr2 k2)
  clear D00
  have q0 := D1.c (b := x2.heap.size) (T := 24) (vs := rgtC t2 v2 r2 wr2 k2) (by simp) 0 _ rfl
  have q1 := D1.c (b := x2.heap.size) (T := 24) (vs := rgtC t2 v2 r2 wr2 k2) (by simp) 1 _ rfl
  have q2 := D1.c (b := x2.heap.size) (T := 24) (vs := rgtC t2 v2 r2 wr2 k2) (by simp) 2 _ rfl
  have q3 := D1.c (b := x2.heap.size) (T := 24) (vs := rgtC t2 v2 r2 wr2 k2) (by simp) 3 _ rfl
  have q4 := D1.c (b := x2.heap.size) (T := 24) (vs := rgtC t2 v2 r2 wr2 k2) (by simp) 4 _ rfl
  have q5 := D1.c (b := x.heap.size) (T := 24) (vs := rgtC t v r wr k) (by simp) 0 _ rfl
  have q6 := D1.c (b := x.heap.size) (T := 24) (vs := rgtC t v r wr k) (by simp) 1 _ rfl
  have q7 := D1.c (b := x.heap.size) (T := 24) (vs := rgtC t v r wr k) (by simp) 2 _ rfl
  have q8 := D1.c (b := x.heap.size) (T := 24) (vs := rgtC t v r wr k) (by simp) 3 _ rfl
  have q9 := D1.c (b := x.heap.size) (T := 24) (vs := rgtC t v r wr k) (by simp) 4 _ rfl
  go_wp2_with fail
  refine (implRText_any _ _ _ _ _ _).mono ?_
  rintro e y2 ⟨rfl, hb2⟩
  have D2 := D1.stay hb2
  clear q0 q1 q2 q3 q4 q5 q6 q7 q8 q9
  clear hb2 D1
  have q0 := D2.c (b := x2.heap.size) (T := 24) (vs := rgtC t2 v2 r2 wr2 k2) (by simp) 0 _ rfl
  have q1 := D2.c (b := x2.heap.size) (T := 24) (vs := rgtC t2 v2 r2 wr2 k2) (by simp) 1 _ rfl
  have q2 := D2.c (b := x2.heap.size) (T := 24) (vs := rgtC t2 v2 r2 wr2 k2) (by simp) 2 _ rfl
  have q3 := D2.c (b := x2.heap.size) (T := 24) (vs := rgtC t2 v2 r2 wr2 k2) (by simp) 3 _ rfl
  have q4 := D2.c (b := x2.heap.size) (T := 24) (vs := rgtC t2 v2 r2 wr2 k2) (by simp) 4 _ rfl
  have q5 := D2.c (b := x.heap.size) (T := 24) (vs := rgtC t v r wr k) (by simp) 0 _ rfl
  have q6 := D2.c (b := x.heap.size) (T := 24) (vs := rgtC t v r wr k) (by simp) 1 _ rfl
  have q7 := D2.c (b := x.heap.size) (T := 24) (vs := rgtC t v r wr k) (by simp) 2 _ rfl
  have q8 := D2.c (b := x.heap.size) (T := 24) (vs := rgtC t v r wr k) (by simp) 3 _ rfl
  have q9 := D2.c (b := x.heap.size) (T := 24) (vs := rgtC t v r wr k) (by simp) 4 _ rfl
  go_wp2_with fail
  refine (implRText_any _ _ _ _ _ _).mono ?_
  rintro e y3 ⟨rfl, hb3⟩
  have D3 := D2.stay hb3
  clear q0 q1 q2 q3 q4 q5 q6 q7 q8 q9
  clear hb3 D2
  have q0 := D3.c (b := x2.heap.size) (T := 24) (vs := rgtC t2 v2 r2 wr2 k2) (by simp) 0 _ rfl
  have q1 := D3.c (b := x2.heap.size) (T := 24) (vs := rgtC t2 v2 r2 wr2 k2) (by simp) 1 _ rfl
  have q2 := D3.c (b := x2.heap.size) (T := 24) (vs := rgtC t2 v2 r2 wr2 k2) (by simp) 2 _ rfl
  have q3 := D3.c (b := x2.heap.size) (T := 24) (vs := rgtC t2 v2 r2 wr2 k2) (by simp) 3 _ rfl
  have q4 := D3.c (b := x2.heap.size) (T := 24) (vs := rgtC t2 v2 r2 wr2 k2) (by simp) 4 _ rfl
  have q5 := D3.c (b := x.heap.size) (T := 24) (vs := rgtC t v r wr k) (by simp) 0 _ rfl
  have q6 := D3.c (b := x.heap.size) (T := 24) (vs := rgtC t v r wr k) (by simp) 1 _ rfl
  have q7 := D3.c (b := x.heap.size) (T := 24) (vs := rgtC t v r wr k) (by simp) 2 _ rfl
  have q8 := D3.c (b := x.heap.size) (T := 24) (vs := rgtC t v r wr k) (by simp) 3 _ rfl
  have q9 := D3.c (b := x.heap.size) (T := 24) (vs := rgtC t v r wr k) (by simp) 4 _ rfl
  go_wp2_with fail
  refine (specRText_any _ _ _ _ _ _).mono ?_
  rintro e y4 ⟨rfl, hb4⟩
  have D4 := D3.stay hb4
  clear q0 q1 q2 q3 q4 q5 q6 q7 q8 q9
  clear hb4 D3
  have q0 := D4.c (b := x2.heap.size) (T := 24) (vs := rgtC t2 v2 r2 wr2 k2) (by simp) 0 _ rfl
  have q1 := D4.c (b := x2.heap.size) (T := 24) (vs := rgtC t2 v2 r2 wr2 k2) (by simp) 1 _ rfl
  have q2 := D4.c (b := x2.heap.size) (T := 24) (vs := rgtC t2 v2 r2 wr2 k2) (by simp) 2 _ rfl
  have q3 := D4.c (b := x2.heap.size) (T := 24) (vs := rgtC t2 v2 r2 wr2 k2) (by simp) 3 _ rfl
  have q4 := D4.c (b := x2.heap.size) (T := 24) (vs := rgtC t2 v2 r2 wr2 k2) (by simp) 4 _ rfl
  have q5 := D4.c (b := x.heap.size) (T := 24) (vs := rgtC t v r wr k) (by simp) 0 _ rfl
  have q6 := D4.c (b := x.heap.size) (T := 24) (vs := rgtC t v r wr k) (by simp) 1 _ rfl
  have q7 := D4.c (b := x.heap.size) (T := 24) (vs := rgtC t v r wr k) (by simp) 2 _ rfl
  have q8 := D4.c (b := x.heap.size) (T := 24) (vs := rgtC t v r wr k) (by simp) 3 _ rfl
  have q9 := D4.c (b := x.heap.size) (T := 24) (vs := rgtC t v r wr k) (by simp) 4 _ rfl
  cases hk : okR t v r wr k
  · have HB := Lib.hid (txtR_bad hk)
    rw [HB.out]
    clear hk
    go_wp2_with fail
    refine (specRText_any _ _ _ _ _ _).mono ?_
    rintro e y5 ⟨rfl, hb5⟩
    rw [HB.out]
    have D5 := D4.stay hb5
    clear q0 q1 q2 q3 q4 q5 q6 q7 q8 q9
    clear hb5 D4
    go_wp2
    go_ret
    exact ⟨rfl, D5.1⟩
  cases hk2 : okR t2 v2 r2 wr2 k2
  · have HB := Lib.hid (txtR_bad hk2)
    rw [HB.out]
    have hne := txtR_ne hk
    clear hk hk2
    obtain ⟨s, hs⟩ : ∃ s, txtR t v r wr k = s := ⟨_, rfl⟩
    rw [hs] at hne ⊢
    have HS := Lib.hid hs
    clear hs
    go_wp2_with fail
    refine (specRText_val HS.out _).mono ?_
    rintro e y5 ⟨rfl, hb5⟩
    have D5 := D4.stay hb5
    clear q0 q1 q2 q3 q4 q5 q6 q7 q8 q9
    clear hb5 D4
    go_wp2
    go_ret
    exact ⟨rfl, D5.1⟩
  · have hne := txtR_ne hk
    have hne2 := txtR_ne hk2
    by_cases hq : t = t2 ∧ v = v2 ∧ r = r2 ∧ wr = wr2 ∧ k = k2
    · obtain ⟨rfl, rfl, rfl, rfl, rfl⟩ := hq
      clear hk hk2
      generalize txtR t v r wr k = s at *
      go_wp2
      go_ret
      exact ⟨rfl, D4.1⟩
    · have hst : ((txtR t v r wr k).toList == (txtR t2 v2 r2 wr2 k2).toList) = false := by
        cases hc : ((txtR t v r wr k).toList == (txtR t2 v2 r2 wr2 k2).toList) with
        | false => rfl
        | true => exact absurd (txtR_inj hk hk2 (toList_eq hc)) hq
      clear hk hk2
      generalize txtR t v r wr k = s at *
      generalize txtR t2 v2 r2 wr2 k2 = s2 at *
      have HQ := Lib.hid hq
      clear hq
      go_wp2
      all_goals first
        | (exfalso; exact HQ.out ⟨by first | assumption | rfl, by first | assumption | rfl, by first | assumption | rfl, by first | assumption | rfl, by first | assumption | rfl⟩)
        | (go_ret; exact ⟨rfl, D4.1⟩)
end Go.Proofs.Ythbeiigiffnhjaa
