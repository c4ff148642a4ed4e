/-
  The walk of laws.FnLessTwo.
-/
import Derived.Test.YthbeiigiffnhjaaDrawRA
import Derived.Test.YthbeiigiffnhjaaLessM
namespace Go.Proofs.Ythbeiigiffnhjaa
open Go.RowKit
set_option linter.unusedVariables false

set_option maxRecDepth 100000 in
set_option maxHeartbeats 2000000 in
theorem walk_FnLessTwo (a0 : Option Addr) (len0 cap0 : Nat) (z0 : List Int) (a1 : Option Addr) (len1 cap1 : Nat) (z1 : List Int) (w : World) (w0 : IsRow .u8 w a0 len0 cap0 z0) (w1 : IsRow .u8 w a1 len1 cap1 z1) :
    Calls Try.prog 9 #[.slice a0 len0 cap0, .slice a1 len1 cap1] w fun e w' => e = .returned (.bool true) ∧ Below w.heap.size w w' := by
  by_cases g0 : (1048576 : Int) < (len0 : Int)
  · go_enter Try.func9, Try.ntmps9
    go_wp2
    go_ret
    exact ⟨rfl, Below.refl _ _⟩
  by_cases g1 : (1048576 : Int) < (len1 : Int)
  · go_enter Try.func9, Try.ntmps9
    go_wp2
    go_ret
    exact ⟨rfl, Below.refl _ _⟩
  have W0 := Lib.hid w0
  clear w0 w1
  go_enter Try.func9, Try.ntmps9
  go_wp2_with fail
  refine (drawRLess_any a0 len0 cap0 z0 _ W0.out).mono ?_
  rintro e x ⟨t, v, r, wr, k, read, write, strong, _, _, _, _, rfl, hx⟩
  clear W0
  have D0 := (Kn.start hx).new 24 (rgtC t v r wr k)
  clear hx
  obtain ⟨u1, u2, b1, b2, b3, hl⟩ : ∃ u1 u2 b1 b2 b3, lessV t v r wr k read write strong = rgt u1 u2 b1 b2 b3 := ⟨_, _, _, _, _, rfl⟩
  have HL := Lib.hid hl
  clear hl
  go_wp2_with fail
  refine (implLess_val HL.out _).mono ?_
  rintro e y1 ⟨rfl, hb1⟩
  have D1 := D0.stay hb1
  clear hb1 D0
  have D2 := D1.new 24 (rgtC u1 u2 b1 b2 b3)
  clear D1
  have q0 := D2.c (b := y1.heap.size) (T := 24) (vs := rgtC u1 u2 b1 b2 b3) (by simp) 0 _ rfl
  have q1 := D2.c (b := y1.heap.size) (T := 24) (vs := rgtC u1 u2 b1 b2 b3) (by simp) 1 _ rfl
  have q2 := D2.c (b := y1.heap.size) (T := 24) (vs := rgtC u1 u2 b1 b2 b3) (by simp) 2 _ rfl
  have q3 := D2.c (b := y1.heap.size) (T := 24) (vs := rgtC u1 u2 b1 b2 b3) (by simp) 3 _ rfl
  have q4 := D2.c (b := y1.heap.size) (T := 24) (vs := rgtC u1 u2 b1 b2 b3) (by simp) 4 _ rfl
  have q5 := D2.c (b := x.heap.size) (T := 24) (vs := rgtC t v r wr k) (by simp) 0 _ rfl
  have q6 := D2.c (b := x.heap.size) (T := 24) (vs := rgtC t v r wr k) (by simp) 1 _ rfl
  have q7 := D2.c (b := x.heap.size) (T := 24) (vs := rgtC t v r wr k) (by simp) 2 _ rfl
  have q8 := D2.c (b := x.heap.size) (T := 24) (vs := rgtC t v r wr k) (by simp) 3 _ rfl
  have q9 := D2.c (b := x.heap.size) (T := 24) (vs := rgtC t v r wr k) (by simp) 4 _ rfl
  cases h1 : okR t v r wr k
  · have H1 := Lib.hid h1
    clear h1
    go_wp2_with fail
    clear q0 q1 q2 q3 q4 q5 q6 q7 q8 q9
    have cc0 := fun zz : Wd (Kn w [(y1.heap.size, 24, rgtC u1 u2 b1 b2 b3), (x.heap.size, 24, rgtC t v r wr k)]) => zz.ok.c (b := y1.heap.size) (T := 24) (vs := rgtC u1 u2 b1 b2 b3) (by simp) 0 _ rfl
    have cc1 := fun zz : Wd (Kn w [(y1.heap.size, 24, rgtC u1 u2 b1 b2 b3), (x.heap.size, 24, rgtC t v r wr k)]) => zz.ok.c (b := y1.heap.size) (T := 24) (vs := rgtC u1 u2 b1 b2 b3) (by simp) 1 _ rfl
    have cc2 := fun zz : Wd (Kn w [(y1.heap.size, 24, rgtC u1 u2 b1 b2 b3), (x.heap.size, 24, rgtC t v r wr k)]) => zz.ok.c (b := y1.heap.size) (T := 24) (vs := rgtC u1 u2 b1 b2 b3) (by simp) 2 _ rfl
    have cc3 := fun zz : Wd (Kn w [(y1.heap.size, 24, rgtC u1 u2 b1 b2 b3), (x.heap.size, 24, rgtC t v r wr k)]) => zz.ok.c (b := y1.heap.size) (T := 24) (vs := rgtC u1 u2 b1 b2 b3) (by simp) 3 _ rfl
    have cc4 := fun zz : Wd (Kn w [(y1.heap.size, 24, rgtC u1 u2 b1 b2 b3), (x.heap.size, 24, rgtC t v r wr k)]) => zz.ok.c (b := y1.heap.size) (T := 24) (vs := rgtC u1 u2 b1 b2 b3) (by simp) 4 _ rfl
    have cc5 := fun zz : Wd (Kn w [(y1.heap.size, 24, rgtC u1 u2 b1 b2 b3), (x.heap.size, 24, rgtC t v r wr k)]) => zz.ok.c (b := x.heap.size) (T := 24) (vs := rgtC t v r wr k) (by simp) 0 _ rfl
    have cc6 := fun zz : Wd (Kn w [(y1.heap.size, 24, rgtC u1 u2 b1 b2 b3), (x.heap.size, 24, rgtC t v r wr k)]) => zz.ok.c (b := x.heap.size) (T := 24) (vs := rgtC t v r wr k) (by simp) 1 _ rfl
    have cc7 := fun zz : Wd (Kn w [(y1.heap.size, 24, rgtC u1 u2 b1 b2 b3), (x.heap.size, 24, rgtC t v r wr k)]) => zz.ok.c (b := x.heap.size) (T := 24) (vs := rgtC t v r wr k) (by simp) 2 _ rfl
    have cc8 := fun zz : Wd (Kn w [(y1.heap.size, 24, rgtC u1 u2 b1 b2 b3), (x.heap.size, 24, rgtC t v r wr k)]) => zz.ok.c (b := x.heap.size) (T := 24) (vs := rgtC t v r wr k) (by simp) 3 _ rfl
    have cc9 := fun zz : Wd (Kn w [(y1.heap.size, 24, rgtC u1 u2 b1 b2 b3), (x.heap.size, 24, rgtC t v r wr k)]) => zz.ok.c (b := x.heap.size) (T := 24) (vs := rgtC t v r wr k) (by simp) 4 _ rfl
    have ne : Nonempty (Wd (Kn w [(y1.heap.size, 24, rgtC u1 u2 b1 b2 b3), (x.heap.size, 24, rgtC t v r wr k)])) := ⟨⟨_, D2.drew⟩⟩
    refine wp_region_quiet (C := fun y => ∃ zz : Wd (Kn w [(y1.heap.size, 24, rgtC u1 u2 b1 b2 b3), (x.heap.size, 24, rgtC t v r wr k)]), y = zz.w) (by kernel_rfl) (by kernel_rfl) ⟨⟨_, D2.drew⟩, rfl⟩ ?_
    show wpQuiet _ _ _ _ [_, _, _, _, _, _, _, _, _, _, _, _] _
    repeat (first | go_big_quiet_step ((first | (go_at_call 22; with_reducible exact inCls Kn.stay (specLess_val HL.out _)) | (go_at_call 16; with_reducible exact inCls Kn.stay (specROk_val H1.out _)))) | quiet_step ((first | (go_at_call 22; with_reducible exact inCls Kn.stay (specLess_val HL.out _)) | (go_at_call 16; with_reducible exact inCls Kn.stay (specROk_val H1.out _)))))
    refine wpQuiet_nil ?_
    rintro _ ⟨t3, rfl⟩
    clear ne cc0 cc1 cc2 cc3 cc4 cc5 cc6 cc7 cc8 cc9
    obtain ⟨y3, D3⟩ := t3
    clear D2
    dsimp only
    have q0 := D3.c (b := y1.heap.size) (T := 24) (vs := rgtC u1 u2 b1 b2 b3) (by simp) 0 _ rfl
    have q1 := D3.c (b := y1.heap.size) (T := 24) (vs := rgtC u1 u2 b1 b2 b3) (by simp) 1 _ rfl
    have q2 := D3.c (b := y1.heap.size) (T := 24) (vs := rgtC u1 u2 b1 b2 b3) (by simp) 2 _ rfl
    have q3 := D3.c (b := y1.heap.size) (T := 24) (vs := rgtC u1 u2 b1 b2 b3) (by simp) 3 _ rfl
    have q4 := D3.c (b := y1.heap.size) (T := 24) (vs := rgtC u1 u2 b1 b2 b3) (by simp) 4 _ rfl
    have q5 := D3.c (b := x.heap.size) (T := 24) (vs := rgtC t v r wr k) (by simp) 0 _ rfl
    have q6 := D3.c (b := x.heap.size) (T := 24) (vs := rgtC t v r wr k) (by simp) 1 _ rfl
    have q7 := D3.c (b := x.heap.size) (T := 24) (vs := rgtC t v r wr k) (by simp) 2 _ rfl
    have q8 := D3.c (b := x.heap.size) (T := 24) (vs := rgtC t v r wr k) (by simp) 3 _ rfl
    have q9 := D3.c (b := x.heap.size) (T := 24) (vs := rgtC t v r wr k) (by simp) 4 _ rfl
    go_wp2_with fail
    clear q0 q1 q2 q3 q4 q5 q6 q7 q8 q9
    have cc0 := fun zz : Wd (Kn w [(y1.heap.size, 24, rgtC u1 u2 b1 b2 b3), (x.heap.size, 24, rgtC t v r wr k)]) => zz.ok.c (b := y1.heap.size) (T := 24) (vs := rgtC u1 u2 b1 b2 b3) (by simp) 0 _ rfl
    have cc1 := fun zz : Wd (Kn w [(y1.heap.size, 24, rgtC u1 u2 b1 b2 b3), (x.heap.size, 24, rgtC t v r wr k)]) => zz.ok.c (b := y1.heap.size) (T := 24) (vs := rgtC u1 u2 b1 b2 b3) (by simp) 1 _ rfl
    have cc2 := fun zz : Wd (Kn w [(y1.heap.size, 24, rgtC u1 u2 b1 b2 b3), (x.heap.size, 24, rgtC t v r wr k)]) => zz.ok.c (b := y1.heap.size) (T := 24) (vs := rgtC u1 u2 b1 b2 b3) (by simp) 2 _ rfl
    have cc3 := fun zz : Wd (Kn w [(y1.heap.size, 24, rgtC u1 u2 b1 b2 b3), (x.heap.size, 24, rgtC t v r wr k)]) => zz.ok.c (b := y1.heap.size) (T := 24) (vs := rgtC u1 u2 b1 b2 b3) (by simp) 3 _ rfl
    have cc4 := fun zz : Wd (Kn w [(y1.heap.size, 24, rgtC u1 u2 b1 b2 b3), (x.heap.size, 24, rgtC t v r wr k)]) => zz.ok.c (b := y1.heap.size) (T := 24) (vs := rgtC u1 u2 b1 b2 b3) (by simp) 4 _ rfl
    have cc5 := fun zz : Wd (Kn w [(y1.heap.size, 24, rgtC u1 u2 b1 b2 b3), (x.heap.size, 24, rgtC t v r wr k)]) => zz.ok.c (b := x.heap.size) (T := 24) (vs := rgtC t v r wr k) (by simp) 0 _ rfl
    have cc6 := fun zz : Wd (Kn w [(y1.heap.size, 24, rgtC u1 u2 b1 b2 b3), (x.heap.size, 24, rgtC t v r wr k)]) => zz.ok.c (b := x.heap.size) (T := 24) (vs := rgtC t v r wr k) (by simp) 1 _ rfl
    have cc7 := fun zz : Wd (Kn w [(y1.heap.size, 24, rgtC u1 u2 b1 b2 b3), (x.heap.size, 24, rgtC t v r wr k)]) => zz.ok.c (b := x.heap.size) (T := 24) (vs := rgtC t v r wr k) (by simp) 2 _ rfl
    have cc8 := fun zz : Wd (Kn w [(y1.heap.size, 24, rgtC u1 u2 b1 b2 b3), (x.heap.size, 24, rgtC t v r wr k)]) => zz.ok.c (b := x.heap.size) (T := 24) (vs := rgtC t v r wr k) (by simp) 3 _ rfl
    have cc9 := fun zz : Wd (Kn w [(y1.heap.size, 24, rgtC u1 u2 b1 b2 b3), (x.heap.size, 24, rgtC t v r wr k)]) => zz.ok.c (b := x.heap.size) (T := 24) (vs := rgtC t v r wr k) (by simp) 4 _ rfl
    have ne : Nonempty (Wd (Kn w [(y1.heap.size, 24, rgtC u1 u2 b1 b2 b3), (x.heap.size, 24, rgtC t v r wr k)])) := ⟨⟨_, D3.drew⟩⟩
    refine wp_region_quiet (C := fun y => ∃ zz : Wd (Kn w [(y1.heap.size, 24, rgtC u1 u2 b1 b2 b3), (x.heap.size, 24, rgtC t v r wr k)]), y = zz.w) (by kernel_rfl) (by kernel_rfl) ⟨⟨_, D3.drew⟩, rfl⟩ ?_
    show wpQuiet _ _ _ _ [_, _, _, _, _, _, _, _] _
    repeat (first | go_big_quiet_step ((first | (go_at_call 22; with_reducible exact inCls Kn.stay (specLess_val HL.out _)))) | quiet_step ((first | (go_at_call 22; with_reducible exact inCls Kn.stay (specLess_val HL.out _)))))
    refine wpQuiet_nil ?_
    rintro _ ⟨t4, rfl⟩
    clear ne cc0 cc1 cc2 cc3 cc4 cc5 cc6 cc7 cc8 cc9
    obtain ⟨y4, D4⟩ := t4
    clear D3
    dsimp only
    go_wp2
    go_ret
    exact ⟨rfl, D4.1⟩
  · have H1 := Lib.hid h1
    clear h1
    go_wp2_with fail
    clear q0 q1 q2 q3 q4 q5 q6 q7 q8 q9
    have cc0 := fun zz : Wd (Kn w [(y1.heap.size, 24, rgtC u1 u2 b1 b2 b3), (x.heap.size, 24, rgtC t v r wr k)]) => zz.ok.c (b := y1.heap.size) (T := 24) (vs := rgtC u1 u2 b1 b2 b3) (by simp) 0 _ rfl
    have cc1 := fun zz : Wd (Kn w [(y1.heap.size, 24, rgtC u1 u2 b1 b2 b3), (x.heap.size, 24, rgtC t v r wr k)]) => zz.ok.c (b := y1.heap.size) (T := 24) (vs := rgtC u1 u2 b1 b2 b3) (by simp) 1 _ rfl
    have cc2 := fun zz : Wd (Kn w [(y1.heap.size, 24, rgtC u1 u2 b1 b2 b3), (x.heap.size, 24, rgtC t v r wr k)]) => zz.ok.c (b := y1.heap.size) (T := 24) (vs := rgtC u1 u2 b1 b2 b3) (by simp) 2 _ rfl
    have cc3 := fun zz : Wd (Kn w [(y1.heap.size, 24, rgtC u1 u2 b1 b2 b3), (x.heap.size, 24, rgtC t v r wr k)]) => zz.ok.c (b := y1.heap.size) (T := 24) (vs := rgtC u1 u2 b1 b2 b3) (by simp) 3 _ rfl
    have cc4 := fun zz : Wd (Kn w [(y1.heap.size, 24, rgtC u1 u2 b1 b2 b3), (x.heap.size, 24, rgtC t v r wr k)]) => zz.ok.c (b := y1.heap.size) (T := 24) (vs := rgtC u1 u2 b1 b2 b3) (by simp) 4 _ rfl
    have cc5 := fun zz : Wd (Kn w [(y1.heap.size, 24, rgtC u1 u2 b1 b2 b3), (x.heap.size, 24, rgtC t v r wr k)]) => zz.ok.c (b := x.heap.size) (T := 24) (vs := rgtC t v r wr k) (by simp) 0 _ rfl
    have cc6 := fun zz : Wd (Kn w [(y1.heap.size, 24, rgtC u1 u2 b1 b2 b3), (x.heap.size, 24, rgtC t v r wr k)]) => zz.ok.c (b := x.heap.size) (T := 24) (vs := rgtC t v r wr k) (by simp) 1 _ rfl
    have cc7 := fun zz : Wd (Kn w [(y1.heap.size, 24, rgtC u1 u2 b1 b2 b3), (x.heap.size, 24, rgtC t v r wr k)]) => zz.ok.c (b := x.heap.size) (T := 24) (vs := rgtC t v r wr k) (by simp) 2 _ rfl
    have cc8 := fun zz : Wd (Kn w [(y1.heap.size, 24, rgtC u1 u2 b1 b2 b3), (x.heap.size, 24, rgtC t v r wr k)]) => zz.ok.c (b := x.heap.size) (T := 24) (vs := rgtC t v r wr k) (by simp) 3 _ rfl
    have cc9 := fun zz : Wd (Kn w [(y1.heap.size, 24, rgtC u1 u2 b1 b2 b3), (x.heap.size, 24, rgtC t v r wr k)]) => zz.ok.c (b := x.heap.size) (T := 24) (vs := rgtC t v r wr k) (by simp) 4 _ rfl
    have ne : Nonempty (Wd (Kn w [(y1.heap.size, 24, rgtC u1 u2 b1 b2 b3), (x.heap.size, 24, rgtC t v r wr k)])) := ⟨⟨_, D2.drew⟩⟩
    refine wp_region_quiet (C := fun y => ∃ zz : Wd (Kn w [(y1.heap.size, 24, rgtC u1 u2 b1 b2 b3), (x.heap.size, 24, rgtC t v r wr k)]), y = zz.w) (by kernel_rfl) (by kernel_rfl) ⟨⟨_, D2.drew⟩, rfl⟩ ?_
    show wpQuiet _ _ _ _ [_, _, _, _, _, _, _, _, _, _, _, _] _
    repeat (first | go_big_quiet_step ((first | (go_at_call 22; with_reducible exact inCls Kn.stay (specLess_val HL.out _)) | (go_at_call 16; with_reducible exact inCls Kn.stay (specROk_val H1.out _)))) | quiet_step ((first | (go_at_call 22; with_reducible exact inCls Kn.stay (specLess_val HL.out _)) | (go_at_call 16; with_reducible exact inCls Kn.stay (specROk_val H1.out _)))))
    refine wpQuiet_nil ?_
    rintro _ ⟨t3, rfl⟩
    clear ne cc0 cc1 cc2 cc3 cc4 cc5 cc6 cc7 cc8 cc9
    obtain ⟨y3, D3⟩ := t3
    clear D2
    dsimp only
    have q0 := D3.c (b := y1.heap.size) (T := 24) (vs := rgtC u1 u2 b1 b2 b3) (by simp) 0 _ rfl
    have q1 := D3.c (b := y1.heap.size) (T := 24) (vs := rgtC u1 u2 b1 b2 b3) (by simp) 1 _ rfl
    have q2 := D3.c (b := y1.heap.size) (T := 24) (vs := rgtC u1 u2 b1 b2 b3) (by simp) 2 _ rfl
    have q3 := D3.c (b := y1.heap.size) (T := 24) (vs := rgtC u1 u2 b1 b2 b3) (by simp) 3 _ rfl
    have q4 := D3.c (b := y1.heap.size) (T := 24) (vs := rgtC u1 u2 b1 b2 b3) (by simp) 4 _ rfl
    have q5 := D3.c (b := x.heap.size) (T := 24) (vs := rgtC t v r wr k) (by simp) 0 _ rfl
    have q6 := D3.c (b := x.heap.size) (T := 24) (vs := rgtC t v r wr k) (by simp) 1 _ rfl
    have q7 := D3.c (b := x.heap.size) (T := 24) (vs := rgtC t v r wr k) (by simp) 2 _ rfl
    have q8 := D3.c (b := x.heap.size) (T := 24) (vs := rgtC t v r wr k) (by simp) 3 _ rfl
    have q9 := D3.c (b := x.heap.size) (T := 24) (vs := rgtC t v r wr k) (by simp) 4 _ rfl
    go_wp2_with fail
    generalize ((len1 : Int) % 2 == 1) = da
    generalize ((len1 : Int) / 2 % 2 == 1) = db
    generalize ((len1 : Int) / 4 % 2 == 1) = dc
    obtain ⟨m1, m2, n1, n2, n3, c1, c2, d1, d2, d3, p1, p2, s1, s2, s3, e1, e2, e3, e4⟩ := less_swap read write strong da db dc H1.out
    obtain ⟨rfl, rfl, rfl, rfl, rfl⟩ := rgt_inj (HL.out.symm.trans e1)
    have HE2 := Lib.hid e2
    have HE3 := Lib.hid e3
    have HE4 := Lib.hid e4
    clear e1 e2 e3 e4
    clear q0 q1 q2 q3 q4 q5 q6 q7 q8 q9
    have cc0 := fun zz : Wd (Kn w [(y1.heap.size, 24, rgtC u1 u2 b1 b2 b3), (x.heap.size, 24, rgtC t v r wr k)]) => zz.ok.c (b := y1.heap.size) (T := 24) (vs := rgtC u1 u2 b1 b2 b3) (by simp) 0 _ rfl
    have cc1 := fun zz : Wd (Kn w [(y1.heap.size, 24, rgtC u1 u2 b1 b2 b3), (x.heap.size, 24, rgtC t v r wr k)]) => zz.ok.c (b := y1.heap.size) (T := 24) (vs := rgtC u1 u2 b1 b2 b3) (by simp) 1 _ rfl
    have cc2 := fun zz : Wd (Kn w [(y1.heap.size, 24, rgtC u1 u2 b1 b2 b3), (x.heap.size, 24, rgtC t v r wr k)]) => zz.ok.c (b := y1.heap.size) (T := 24) (vs := rgtC u1 u2 b1 b2 b3) (by simp) 2 _ rfl
    have cc3 := fun zz : Wd (Kn w [(y1.heap.size, 24, rgtC u1 u2 b1 b2 b3), (x.heap.size, 24, rgtC t v r wr k)]) => zz.ok.c (b := y1.heap.size) (T := 24) (vs := rgtC u1 u2 b1 b2 b3) (by simp) 3 _ rfl
    have cc4 := fun zz : Wd (Kn w [(y1.heap.size, 24, rgtC u1 u2 b1 b2 b3), (x.heap.size, 24, rgtC t v r wr k)]) => zz.ok.c (b := y1.heap.size) (T := 24) (vs := rgtC u1 u2 b1 b2 b3) (by simp) 4 _ rfl
    have cc5 := fun zz : Wd (Kn w [(y1.heap.size, 24, rgtC u1 u2 b1 b2 b3), (x.heap.size, 24, rgtC t v r wr k)]) => zz.ok.c (b := x.heap.size) (T := 24) (vs := rgtC t v r wr k) (by simp) 0 _ rfl
    have cc6 := fun zz : Wd (Kn w [(y1.heap.size, 24, rgtC u1 u2 b1 b2 b3), (x.heap.size, 24, rgtC t v r wr k)]) => zz.ok.c (b := x.heap.size) (T := 24) (vs := rgtC t v r wr k) (by simp) 1 _ rfl
    have cc7 := fun zz : Wd (Kn w [(y1.heap.size, 24, rgtC u1 u2 b1 b2 b3), (x.heap.size, 24, rgtC t v r wr k)]) => zz.ok.c (b := x.heap.size) (T := 24) (vs := rgtC t v r wr k) (by simp) 2 _ rfl
    have cc8 := fun zz : Wd (Kn w [(y1.heap.size, 24, rgtC u1 u2 b1 b2 b3), (x.heap.size, 24, rgtC t v r wr k)]) => zz.ok.c (b := x.heap.size) (T := 24) (vs := rgtC t v r wr k) (by simp) 3 _ rfl
    have cc9 := fun zz : Wd (Kn w [(y1.heap.size, 24, rgtC u1 u2 b1 b2 b3), (x.heap.size, 24, rgtC t v r wr k)]) => zz.ok.c (b := x.heap.size) (T := 24) (vs := rgtC t v r wr k) (by simp) 4 _ rfl
    have ne : Nonempty (Wd (Kn w [(y1.heap.size, 24, rgtC u1 u2 b1 b2 b3), (x.heap.size, 24, rgtC t v r wr k)])) := ⟨⟨_, D3.drew⟩⟩
    refine wp_region_quiet (C := fun y => ∃ zz : Wd (Kn w [(y1.heap.size, 24, rgtC u1 u2 b1 b2 b3), (x.heap.size, 24, rgtC t v r wr k)]), y = zz.w) (by kernel_rfl) (by kernel_rfl) ⟨⟨_, D3.drew⟩, rfl⟩ ?_
    show wpQuiet _ _ _ _ [_, _, _, _, _, _, _, _, _, _, _, _, _, _, _, _] _
    repeat (first | go_big_quiet_step ((first | (go_at_call 20; with_reducible exact inCls Kn.stay (implLess_val HE2.out _)) | (go_at_call 20; with_reducible exact inCls Kn.stay (implLess_val HE3.out _)) | (go_at_call 20; with_reducible exact inCls Kn.stay (implLess_val HE4.out _)))) | quiet_step ((first | (go_at_call 20; with_reducible exact inCls Kn.stay (implLess_val HE2.out _)) | (go_at_call 20; with_reducible exact inCls Kn.stay (implLess_val HE3.out _)) | (go_at_call 20; with_reducible exact inCls Kn.stay (implLess_val HE4.out _)))))
    refine wpQuiet_nil ?_
    rintro _ ⟨t4, rfl⟩
    clear ne cc0 cc1 cc2 cc3 cc4 cc5 cc6 cc7 cc8 cc9
    obtain ⟨y4, D4⟩ := t4
    clear D3
    dsimp only
    go_wp2
    go_ret
    exact ⟨rfl, D4.1⟩
end Go.Proofs.Ythbeiigiffnhjaa
