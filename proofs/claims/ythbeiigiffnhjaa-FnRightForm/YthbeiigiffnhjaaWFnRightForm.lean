/-
  The walk of laws.FnRightForm.
-/
import Derived.Test.YthbeiigiffnhjaaDrawRA
import Derived.Test.YthbeiigiffnhjaaLessM
namespace Go.Proofs.Ythbeiigiffnhjaa
open Go.RowKit
set_option linter.unusedVariables false

set_option maxRecDepth 100000 in
set_option maxHeartbeats 2000000 in
theorem walk_FnRightForm (a0 : Option Addr) (len0 cap0 : Nat) (z0 : List Int) (w : World) (w0 : IsRow .u8 w a0 len0 cap0 z0) :
    Calls Try.prog 3 #[.slice a0 len0 cap0] w fun e w' => e = .returned (.bool true) ∧ Below w.heap.size w w' := by
  by_cases g0 : (1048576 : Int) < (len0 : Int)
  · go_enter Try.func3, Try.ntmps3
    go_wp2
    go_ret
    exact ⟨rfl, Below.refl _ _⟩
  have W0 := Lib.hid w0
  clear w0
  go_enter Try.func3, Try.ntmps3
  go_wp2_with fail
  refine (drawROk_any a0 len0 cap0 z0 _ W0.out).mono ?_
  rintro e x ⟨t, v, r, wr, k, t0, t1, v0, v1, rfl, hx⟩
  clear W0 t0 t1 v0 v1
  have D0 := (Kn.start hx).new 24 (rgtC t v r wr k)
  clear hx
  obtain ⟨g, hg⟩ : ∃ g, okR t v r wr k = g := ⟨_, rfl⟩
  have HG := Lib.hid hg
  clear hg
  go_wp2_with fail
  refine (implROk_val HG.out _).mono ?_
  rintro e y1 ⟨rfl, hb1⟩
  have D1 := D0.stay hb1
  clear hb1 D0
  have q0 := D1.c (b := x.heap.size) (T := 24) (vs := rgtC t v r wr k) (by simp) 0 _ rfl
  have q1 := D1.c (b := x.heap.size) (T := 24) (vs := rgtC t v r wr k) (by simp) 1 _ rfl
  have q2 := D1.c (b := x.heap.size) (T := 24) (vs := rgtC t v r wr k) (by simp) 2 _ rfl
  have q3 := D1.c (b := x.heap.size) (T := 24) (vs := rgtC t v r wr k) (by simp) 3 _ rfl
  have q4 := D1.c (b := x.heap.size) (T := 24) (vs := rgtC t v r wr k) (by simp) 4 _ rfl
  go_wp2_with fail
  refine (specROk_val HG.out _).mono ?_
  rintro e y2 ⟨rfl, hb2⟩
  have D2 := D1.stay hb2
  clear q0 q1 q2 q3 q4
  clear hb2 D1
  have q0 := D2.c (b := x.heap.size) (T := 24) (vs := rgtC t v r wr k) (by simp) 0 _ rfl
  have q1 := D2.c (b := x.heap.size) (T := 24) (vs := rgtC t v r wr k) (by simp) 1 _ rfl
  have q2 := D2.c (b := x.heap.size) (T := 24) (vs := rgtC t v r wr k) (by simp) 2 _ rfl
  have q3 := D2.c (b := x.heap.size) (T := 24) (vs := rgtC t v r wr k) (by simp) 3 _ rfl
  have q4 := D2.c (b := x.heap.size) (T := 24) (vs := rgtC t v r wr k) (by simp) 4 _ rfl
  cases g
  · go_wp2_with fail
    refine (specROk_val HG.out _).mono ?_
    rintro e y3 ⟨rfl, hb3⟩
    have D3 := D2.stay hb3
    clear q0 q1 q2 q3 q4
    clear hb3 D2
    go_wp2
    go_ret
    exact ⟨rfl, D3.1⟩
  by_cases ht : t = 0
  · subst ht
    obtain ⟨rfl, rfl, rfl, rfl⟩ := okR_null HG.out
    have HA := Lib.hid (form_weak HG.out)
    have HB := Lib.hid (form_thing 0 false false false)
    have HC := Lib.hid (form_vers HG.out)
    have hlt := (D2.box (b := x.heap.size) (T := 24) (vs := rgtC 0 0 false false false) (by simp)).lt
    go_wp2_with fail
    have E0 := ((D2.new 24 (rgtC 0 0 false false true)).new 24 (rgtC 9 0 false false false)).new 24 (rgtC 0 6 false false false)
    rw [show (y2.alloc (.cells (rgtC 0 0 false false true) 24)).heap.size = y2.heap.size + 1 by simp, show ((y2.alloc (.cells (rgtC 0 0 false false true) 24)).alloc (.cells (rgtC 9 0 false false false) 24)).heap.size = y2.heap.size + 1 + 1 by simp] at E0
    clear q0 q1 q2 q3 q4
    clear D2
    have cc0 := fun zz : Wd (Kn w [(y2.heap.size + 1 + 1, 24, rgtC 0 6 false false false), (y2.heap.size + 1, 24, rgtC 9 0 false false false), (y2.heap.size, 24, rgtC 0 0 false false true), (x.heap.size, 24, rgtC 0 0 false false false)]) => zz.ok.c (b := y2.heap.size + 1 + 1) (T := 24) (vs := rgtC 0 6 false false false) (by simp) 0 _ rfl
    have cc1 := fun zz : Wd (Kn w [(y2.heap.size + 1 + 1, 24, rgtC 0 6 false false false), (y2.heap.size + 1, 24, rgtC 9 0 false false false), (y2.heap.size, 24, rgtC 0 0 false false true), (x.heap.size, 24, rgtC 0 0 false false false)]) => zz.ok.c (b := y2.heap.size + 1 + 1) (T := 24) (vs := rgtC 0 6 false false false) (by simp) 1 _ rfl
    have cc2 := fun zz : Wd (Kn w [(y2.heap.size + 1 + 1, 24, rgtC 0 6 false false false), (y2.heap.size + 1, 24, rgtC 9 0 false false false), (y2.heap.size, 24, rgtC 0 0 false false true), (x.heap.size, 24, rgtC 0 0 false false false)]) => zz.ok.c (b := y2.heap.size + 1 + 1) (T := 24) (vs := rgtC 0 6 false false false) (by simp) 2 _ rfl
    have cc3 := fun zz : Wd (Kn w [(y2.heap.size + 1 + 1, 24, rgtC 0 6 false false false), (y2.heap.size + 1, 24, rgtC 9 0 false false false), (y2.heap.size, 24, rgtC 0 0 false false true), (x.heap.size, 24, rgtC 0 0 false false false)]) => zz.ok.c (b := y2.heap.size + 1 + 1) (T := 24) (vs := rgtC 0 6 false false false) (by simp) 3 _ rfl
    have cc4 := fun zz : Wd (Kn w [(y2.heap.size + 1 + 1, 24, rgtC 0 6 false false false), (y2.heap.size + 1, 24, rgtC 9 0 false false false), (y2.heap.size, 24, rgtC 0 0 false false true), (x.heap.size, 24, rgtC 0 0 false false false)]) => zz.ok.c (b := y2.heap.size + 1 + 1) (T := 24) (vs := rgtC 0 6 false false false) (by simp) 4 _ rfl
    have cc5 := fun zz : Wd (Kn w [(y2.heap.size + 1 + 1, 24, rgtC 0 6 false false false), (y2.heap.size + 1, 24, rgtC 9 0 false false false), (y2.heap.size, 24, rgtC 0 0 false false true), (x.heap.size, 24, rgtC 0 0 false false false)]) => zz.ok.c (b := y2.heap.size + 1) (T := 24) (vs := rgtC 9 0 false false false) (by simp) 0 _ rfl
    have cc6 := fun zz : Wd (Kn w [(y2.heap.size + 1 + 1, 24, rgtC 0 6 false false false), (y2.heap.size + 1, 24, rgtC 9 0 false false false), (y2.heap.size, 24, rgtC 0 0 false false true), (x.heap.size, 24, rgtC 0 0 false false false)]) => zz.ok.c (b := y2.heap.size + 1) (T := 24) (vs := rgtC 9 0 false false false) (by simp) 1 _ rfl
    have cc7 := fun zz : Wd (Kn w [(y2.heap.size + 1 + 1, 24, rgtC 0 6 false false false), (y2.heap.size + 1, 24, rgtC 9 0 false false false), (y2.heap.size, 24, rgtC 0 0 false false true), (x.heap.size, 24, rgtC 0 0 false false false)]) => zz.ok.c (b := y2.heap.size + 1) (T := 24) (vs := rgtC 9 0 false false false) (by simp) 2 _ rfl
    have cc8 := fun zz : Wd (Kn w [(y2.heap.size + 1 + 1, 24, rgtC 0 6 false false false), (y2.heap.size + 1, 24, rgtC 9 0 false false false), (y2.heap.size, 24, rgtC 0 0 false false true), (x.heap.size, 24, rgtC 0 0 false false false)]) => zz.ok.c (b := y2.heap.size + 1) (T := 24) (vs := rgtC 9 0 false false false) (by simp) 3 _ rfl
    have cc9 := fun zz : Wd (Kn w [(y2.heap.size + 1 + 1, 24, rgtC 0 6 false false false), (y2.heap.size + 1, 24, rgtC 9 0 false false false), (y2.heap.size, 24, rgtC 0 0 false false true), (x.heap.size, 24, rgtC 0 0 false false false)]) => zz.ok.c (b := y2.heap.size + 1) (T := 24) (vs := rgtC 9 0 false false false) (by simp) 4 _ rfl
    have cc10 := fun zz : Wd (Kn w [(y2.heap.size + 1 + 1, 24, rgtC 0 6 false false false), (y2.heap.size + 1, 24, rgtC 9 0 false false false), (y2.heap.size, 24, rgtC 0 0 false false true), (x.heap.size, 24, rgtC 0 0 false false false)]) => zz.ok.c (b := y2.heap.size) (T := 24) (vs := rgtC 0 0 false false true) (by simp) 0 _ rfl
    have cc11 := fun zz : Wd (Kn w [(y2.heap.size + 1 + 1, 24, rgtC 0 6 false false false), (y2.heap.size + 1, 24, rgtC 9 0 false false false), (y2.heap.size, 24, rgtC 0 0 false false true), (x.heap.size, 24, rgtC 0 0 false false false)]) => zz.ok.c (b := y2.heap.size) (T := 24) (vs := rgtC 0 0 false false true) (by simp) 1 _ rfl
    have cc12 := fun zz : Wd (Kn w [(y2.heap.size + 1 + 1, 24, rgtC 0 6 false false false), (y2.heap.size + 1, 24, rgtC 9 0 false false false), (y2.heap.size, 24, rgtC 0 0 false false true), (x.heap.size, 24, rgtC 0 0 false false false)]) => zz.ok.c (b := y2.heap.size) (T := 24) (vs := rgtC 0 0 false false true) (by simp) 2 _ rfl
    have cc13 := fun zz : Wd (Kn w [(y2.heap.size + 1 + 1, 24, rgtC 0 6 false false false), (y2.heap.size + 1, 24, rgtC 9 0 false false false), (y2.heap.size, 24, rgtC 0 0 false false true), (x.heap.size, 24, rgtC 0 0 false false false)]) => zz.ok.c (b := y2.heap.size) (T := 24) (vs := rgtC 0 0 false false true) (by simp) 3 _ rfl
    have cc14 := fun zz : Wd (Kn w [(y2.heap.size + 1 + 1, 24, rgtC 0 6 false false false), (y2.heap.size + 1, 24, rgtC 9 0 false false false), (y2.heap.size, 24, rgtC 0 0 false false true), (x.heap.size, 24, rgtC 0 0 false false false)]) => zz.ok.c (b := y2.heap.size) (T := 24) (vs := rgtC 0 0 false false true) (by simp) 4 _ rfl
    have cc15 := fun zz : Wd (Kn w [(y2.heap.size + 1 + 1, 24, rgtC 0 6 false false false), (y2.heap.size + 1, 24, rgtC 9 0 false false false), (y2.heap.size, 24, rgtC 0 0 false false true), (x.heap.size, 24, rgtC 0 0 false false false)]) => zz.ok.c (b := x.heap.size) (T := 24) (vs := rgtC 0 0 false false false) (by simp) 0 _ rfl
    have cc16 := fun zz : Wd (Kn w [(y2.heap.size + 1 + 1, 24, rgtC 0 6 false false false), (y2.heap.size + 1, 24, rgtC 9 0 false false false), (y2.heap.size, 24, rgtC 0 0 false false true), (x.heap.size, 24, rgtC 0 0 false false false)]) => zz.ok.c (b := x.heap.size) (T := 24) (vs := rgtC 0 0 false false false) (by simp) 1 _ rfl
    have cc17 := fun zz : Wd (Kn w [(y2.heap.size + 1 + 1, 24, rgtC 0 6 false false false), (y2.heap.size + 1, 24, rgtC 9 0 false false false), (y2.heap.size, 24, rgtC 0 0 false false true), (x.heap.size, 24, rgtC 0 0 false false false)]) => zz.ok.c (b := x.heap.size) (T := 24) (vs := rgtC 0 0 false false false) (by simp) 2 _ rfl
    have cc18 := fun zz : Wd (Kn w [(y2.heap.size + 1 + 1, 24, rgtC 0 6 false false false), (y2.heap.size + 1, 24, rgtC 9 0 false false false), (y2.heap.size, 24, rgtC 0 0 false false true), (x.heap.size, 24, rgtC 0 0 false false false)]) => zz.ok.c (b := x.heap.size) (T := 24) (vs := rgtC 0 0 false false false) (by simp) 3 _ rfl
    have cc19 := fun zz : Wd (Kn w [(y2.heap.size + 1 + 1, 24, rgtC 0 6 false false false), (y2.heap.size + 1, 24, rgtC 9 0 false false false), (y2.heap.size, 24, rgtC 0 0 false false true), (x.heap.size, 24, rgtC 0 0 false false false)]) => zz.ok.c (b := x.heap.size) (T := 24) (vs := rgtC 0 0 false false false) (by simp) 4 _ rfl
    have ne : Nonempty (Wd (Kn w [(y2.heap.size + 1 + 1, 24, rgtC 0 6 false false false), (y2.heap.size + 1, 24, rgtC 9 0 false false false), (y2.heap.size, 24, rgtC 0 0 false false true), (x.heap.size, 24, rgtC 0 0 false false false)])) := ⟨⟨_, E0.drew⟩⟩
    refine wp_region_quiet (C := fun y => ∃ zz : Wd (Kn w [(y2.heap.size + 1 + 1, 24, rgtC 0 6 false false false), (y2.heap.size + 1, 24, rgtC 9 0 false false false), (y2.heap.size, 24, rgtC 0 0 false false true), (x.heap.size, 24, rgtC 0 0 false false false)]), y = zz.w) (by kernel_rfl) (by kernel_rfl) ⟨⟨_, E0.drew⟩, rfl⟩ ?_
    show wpQuiet _ _ _ _ [_, _, _, _, _, _, _, _, _, _, _, _, _, _, _, _, _, _, _, _, _, _, _, _, _, _, _, _, _, _, _, _, _, _, _, _, _, _, _, _, _] _
    repeat (first | go_big_quiet_step ((first | (go_at_call 15; with_reducible exact inCls Kn.stay (implROk_val HA.out _)) | (go_at_call 15; with_reducible exact inCls Kn.stay (implROk_val HB.out _)) | (go_at_call 15; with_reducible exact inCls Kn.stay (implROk_val HC.out _)))) | quiet_step ((first | (go_at_call 15; with_reducible exact inCls Kn.stay (implROk_val HA.out _)) | (go_at_call 15; with_reducible exact inCls Kn.stay (implROk_val HB.out _)) | (go_at_call 15; with_reducible exact inCls Kn.stay (implROk_val HC.out _)))))
    refine wpQuiet_nil ?_
    rintro _ ⟨t3, rfl⟩
    clear ne cc0 cc1 cc2 cc3 cc4 cc5 cc6 cc7 cc8 cc9 cc10 cc11 cc12 cc13 cc14 cc15 cc16 cc17 cc18 cc19
    obtain ⟨y3, D3⟩ := t3
    clear E0
    dsimp only
    go_wp2
    go_ret
    exact ⟨rfl, D3.1⟩
  · have hp : (0 : Int) < t := by have := (okR_bd HG.out ht).1; omega
    rcases (show k = false ∨ k = true ∧ wr = false by have := (okR_parts HG.out ht).2.2; revert this; cases k <;> cases wr <;> simp) with rfl | ⟨rfl, rfl⟩
    · have HA := Lib.hid (form_weak HG.out)
      have HB := Lib.hid (form_thing v r wr false)
      have HC := Lib.hid (form_vers HG.out)
      have hlt := (D2.box (b := x.heap.size) (T := 24) (vs := rgtC t v r wr false) (by simp)).lt
      go_wp2_with fail
      have E0 := ((D2.new 24 (rgtC t v r wr true)).new 24 (rgtC 9 v r wr false)).new 24 (rgtC t 6 r wr false)
      rw [show (y2.alloc (.cells (rgtC t v r wr true) 24)).heap.size = y2.heap.size + 1 by simp, show ((y2.alloc (.cells (rgtC t v r wr true) 24)).alloc (.cells (rgtC 9 v r wr false) 24)).heap.size = y2.heap.size + 1 + 1 by simp] at E0
      clear q0 q1 q2 q3 q4
      clear D2
      have cc0 := fun zz : Wd (Kn w [(y2.heap.size + 1 + 1, 24, rgtC t 6 r wr false), (y2.heap.size + 1, 24, rgtC 9 v r wr false), (y2.heap.size, 24, rgtC t v r wr true), (x.heap.size, 24, rgtC t v r wr false)]) => zz.ok.c (b := y2.heap.size + 1 + 1) (T := 24) (vs := rgtC t 6 r wr false) (by simp) 0 _ rfl
      have cc1 := fun zz : Wd (Kn w [(y2.heap.size + 1 + 1, 24, rgtC t 6 r wr false), (y2.heap.size + 1, 24, rgtC 9 v r wr false), (y2.heap.size, 24, rgtC t v r wr true), (x.heap.size, 24, rgtC t v r wr false)]) => zz.ok.c (b := y2.heap.size + 1 + 1) (T := 24) (vs := rgtC t 6 r wr false) (by simp) 1 _ rfl
      have cc2 := fun zz : Wd (Kn w [(y2.heap.size + 1 + 1, 24, rgtC t 6 r wr false), (y2.heap.size + 1, 24, rgtC 9 v r wr false), (y2.heap.size, 24, rgtC t v r wr true), (x.heap.size, 24, rgtC t v r wr false)]) => zz.ok.c (b := y2.heap.size + 1 + 1) (T := 24) (vs := rgtC t 6 r wr false) (by simp) 2 _ rfl
      have cc3 := fun zz : Wd (Kn w [(y2.heap.size + 1 + 1, 24, rgtC t 6 r wr false), (y2.heap.size + 1, 24, rgtC 9 v r wr false), (y2.heap.size, 24, rgtC t v r wr true), (x.heap.size, 24, rgtC t v r wr false)]) => zz.ok.c (b := y2.heap.size + 1 + 1) (T := 24) (vs := rgtC t 6 r wr false) (by simp) 3 _ rfl
      have cc4 := fun zz : Wd (Kn w [(y2.heap.size + 1 + 1, 24, rgtC t 6 r wr false), (y2.heap.size + 1, 24, rgtC 9 v r wr false), (y2.heap.size, 24, rgtC t v r wr true), (x.heap.size, 24, rgtC t v r wr false)]) => zz.ok.c (b := y2.heap.size + 1 + 1) (T := 24) (vs := rgtC t 6 r wr false) (by simp) 4 _ rfl
      have cc5 := fun zz : Wd (Kn w [(y2.heap.size + 1 + 1, 24, rgtC t 6 r wr false), (y2.heap.size + 1, 24, rgtC 9 v r wr false), (y2.heap.size, 24, rgtC t v r wr true), (x.heap.size, 24, rgtC t v r wr false)]) => zz.ok.c (b := y2.heap.size + 1) (T := 24) (vs := rgtC 9 v r wr false) (by simp) 0 _ rfl
      have cc6 := fun zz : Wd (Kn w [(y2.heap.size + 1 + 1, 24, rgtC t 6 r wr false), (y2.heap.size + 1, 24, rgtC 9 v r wr false), (y2.heap.size, 24, rgtC t v r wr true), (x.heap.size, 24, rgtC t v r wr false)]) => zz.ok.c (b := y2.heap.size + 1) (T := 24) (vs := rgtC 9 v r wr false) (by simp) 1 _ rfl
      have cc7 := fun zz : Wd (Kn w [(y2.heap.size + 1 + 1, 24, rgtC t 6 r wr false), (y2.heap.size + 1, 24, rgtC 9 v r wr false), (y2.heap.size, 24, rgtC t v r wr true), (x.heap.size, 24, rgtC t v r wr false)]) => zz.ok.c (b := y2.heap.size + 1) (T := 24) (vs := rgtC 9 v r wr false) (by simp) 2 _ rfl
      have cc8 := fun zz : Wd (Kn w [(y2.heap.size + 1 + 1, 24, rgtC t 6 r wr false), (y2.heap.size + 1, 24, rgtC 9 v r wr false), (y2.heap.size, 24, rgtC t v r wr true), (x.heap.size, 24, rgtC t v r wr false)]) => zz.ok.c (b := y2.heap.size + 1) (T := 24) (vs := rgtC 9 v r wr false) (by simp) 3 _ rfl
      have cc9 := fun zz : Wd (Kn w [(y2.heap.size + 1 + 1, 24, rgtC t 6 r wr false), (y2.heap.size + 1, 24, rgtC 9 v r wr false), (y2.heap.size, 24, rgtC t v r wr true), (x.heap.size, 24, rgtC t v r wr false)]) => zz.ok.c (b := y2.heap.size + 1) (T := 24) (vs := rgtC 9 v r wr false) (by simp) 4 _ rfl
      have cc10 := fun zz : Wd (Kn w [(y2.heap.size + 1 + 1, 24, rgtC t 6 r wr false), (y2.heap.size + 1, 24, rgtC 9 v r wr false), (y2.heap.size, 24, rgtC t v r wr true), (x.heap.size, 24, rgtC t v r wr false)]) => zz.ok.c (b := y2.heap.size) (T := 24) (vs := rgtC t v r wr true) (by simp) 0 _ rfl
      have cc11 := fun zz : Wd (Kn w [(y2.heap.size + 1 + 1, 24, rgtC t 6 r wr false), (y2.heap.size + 1, 24, rgtC 9 v r wr false), (y2.heap.size, 24, rgtC t v r wr true), (x.heap.size, 24, rgtC t v r wr false)]) => zz.ok.c (b := y2.heap.size) (T := 24) (vs := rgtC t v r wr true) (by simp) 1 _ rfl
      have cc12 := fun zz : Wd (Kn w [(y2.heap.size + 1 + 1, 24, rgtC t 6 r wr false), (y2.heap.size + 1, 24, rgtC 9 v r wr false), (y2.heap.size, 24, rgtC t v r wr true), (x.heap.size, 24, rgtC t v r wr false)]) => zz.ok.c (b := y2.heap.size) (T := 24) (vs := rgtC t v r wr true) (by simp) 2 _ rfl
      have cc13 := fun zz : Wd (Kn w [(y2.heap.size + 1 + 1, 24, rgtC t 6 r wr false), (y2.heap.size + 1, 24, rgtC 9 v r wr false), (y2.heap.size, 24, rgtC t v r wr true), (x.heap.size, 24, rgtC t v r wr false)]) => zz.ok.c (b := y2.heap.size) (T := 24) (vs := rgtC t v r wr true) (by simp) 3 _ rfl
      have cc14 := fun zz : Wd (Kn w [(y2.heap.size + 1 + 1, 24, rgtC t 6 r wr false), (y2.heap.size + 1, 24, rgtC 9 v r wr false), (y2.heap.size, 24, rgtC t v r wr true), (x.heap.size, 24, rgtC t v r wr false)]) => zz.ok.c (b := y2.heap.size) (T := 24) (vs := rgtC t v r wr true) (by simp) 4 _ rfl
      have cc15 := fun zz : Wd (Kn w [(y2.heap.size + 1 + 1, 24, rgtC t 6 r wr false), (y2.heap.size + 1, 24, rgtC 9 v r wr false), (y2.heap.size, 24, rgtC t v r wr true), (x.heap.size, 24, rgtC t v r wr false)]) => zz.ok.c (b := x.heap.size) (T := 24) (vs := rgtC t v r wr false) (by simp) 0 _ rfl
      have cc16 := fun zz : Wd (Kn w [(y2.heap.size + 1 + 1, 24, rgtC t 6 r wr false), (y2.heap.size + 1, 24, rgtC 9 v r wr false), (y2.heap.size, 24, rgtC t v r wr true), (x.heap.size, 24, rgtC t v r wr false)]) => zz.ok.c (b := x.heap.size) (T := 24) (vs := rgtC t v r wr false) (by simp) 1 _ rfl
      have cc17 := fun zz : Wd (Kn w [(y2.heap.size + 1 + 1, 24, rgtC t 6 r wr false), (y2.heap.size + 1, 24, rgtC 9 v r wr false), (y2.heap.size, 24, rgtC t v r wr true), (x.heap.size, 24, rgtC t v r wr false)]) => zz.ok.c (b := x.heap.size) (T := 24) (vs := rgtC t v r wr false) (by simp) 2 _ rfl
      have cc18 := fun zz : Wd (Kn w [(y2.heap.size + 1 + 1, 24, rgtC t 6 r wr false), (y2.heap.size + 1, 24, rgtC 9 v r wr false), (y2.heap.size, 24, rgtC t v r wr true), (x.heap.size, 24, rgtC t v r wr false)]) => zz.ok.c (b := x.heap.size) (T := 24) (vs := rgtC t v r wr false) (by simp) 3 _ rfl
      have cc19 := fun zz : Wd (Kn w [(y2.heap.size + 1 + 1, 24, rgtC t 6 r wr false), (y2.heap.size + 1, 24, rgtC 9 v r wr false), (y2.heap.size, 24, rgtC t v r wr true), (x.heap.size, 24, rgtC t v r wr false)]) => zz.ok.c (b := x.heap.size) (T := 24) (vs := rgtC t v r wr false) (by simp) 4 _ rfl
      have ne : Nonempty (Wd (Kn w [(y2.heap.size + 1 + 1, 24, rgtC t 6 r wr false), (y2.heap.size + 1, 24, rgtC 9 v r wr false), (y2.heap.size, 24, rgtC t v r wr true), (x.heap.size, 24, rgtC t v r wr false)])) := ⟨⟨_, E0.drew⟩⟩
      refine wp_region_quiet (C := fun y => ∃ zz : Wd (Kn w [(y2.heap.size + 1 + 1, 24, rgtC t 6 r wr false), (y2.heap.size + 1, 24, rgtC 9 v r wr false), (y2.heap.size, 24, rgtC t v r wr true), (x.heap.size, 24, rgtC t v r wr false)]), y = zz.w) (by kernel_rfl) (by kernel_rfl) ⟨⟨_, E0.drew⟩, rfl⟩ ?_
      show wpQuiet _ _ _ _ [_, _, _, _, _, _, _, _, _, _, _, _, _, _, _, _, _, _, _, _, _, _, _, _, _, _, _, _, _, _, _, _, _, _, _, _, _, _, _, _, _] _
      repeat (first | go_big_quiet_step ((first | (go_at_call 15; with_reducible exact inCls Kn.stay (implROk_val HA.out _)) | (go_at_call 15; with_reducible exact inCls Kn.stay (implROk_val HB.out _)) | (go_at_call 15; with_reducible exact inCls Kn.stay (implROk_val HC.out _)))) | quiet_step ((first | (go_at_call 15; with_reducible exact inCls Kn.stay (implROk_val HA.out _)) | (go_at_call 15; with_reducible exact inCls Kn.stay (implROk_val HB.out _)) | (go_at_call 15; with_reducible exact inCls Kn.stay (implROk_val HC.out _)))))
      refine wpQuiet_nil ?_
      rintro _ ⟨t3, rfl⟩
      clear ne cc0 cc1 cc2 cc3 cc4 cc5 cc6 cc7 cc8 cc9 cc10 cc11 cc12 cc13 cc14 cc15 cc16 cc17 cc18 cc19
      obtain ⟨y3, D3⟩ := t3
      clear E0
      dsimp only
      go_wp2
      go_ret
      exact ⟨rfl, D3.1⟩
    · have HA := Lib.hid (form_weak HG.out)
      have HB := Lib.hid (form_thing v r false true)
      have HC := Lib.hid (form_vers HG.out)
      have hlt := (D2.box (b := x.heap.size) (T := 24) (vs := rgtC t v r false true) (by simp)).lt
      go_wp2_with fail
      have E0 := ((D2.new 24 (rgtC t v r false true)).new 24 (rgtC 9 v r false true)).new 24 (rgtC t 6 r false true)
      rw [show (y2.alloc (.cells (rgtC t v r false true) 24)).heap.size = y2.heap.size + 1 by simp, show ((y2.alloc (.cells (rgtC t v r false true) 24)).alloc (.cells (rgtC 9 v r false true) 24)).heap.size = y2.heap.size + 1 + 1 by simp] at E0
      clear q0 q1 q2 q3 q4
      clear D2
      have cc0 := fun zz : Wd (Kn w [(y2.heap.size + 1 + 1, 24, rgtC t 6 r false true), (y2.heap.size + 1, 24, rgtC 9 v r false true), (y2.heap.size, 24, rgtC t v r false true), (x.heap.size, 24, rgtC t v r false true)]) => zz.ok.c (b := y2.heap.size + 1 + 1) (T := 24) (vs := rgtC t 6 r false true) (by simp) 0 _ rfl
      have cc1 := fun zz : Wd (Kn w [(y2.heap.size + 1 + 1, 24, rgtC t 6 r false true), (y2.heap.size + 1, 24, rgtC 9 v r false true), (y2.heap.size, 24, rgtC t v r false true), (x.heap.size, 24, rgtC t v r false true)]) => zz.ok.c (b := y2.heap.size + 1 + 1) (T := 24) (vs := rgtC t 6 r false true) (by simp) 1 _ rfl
      have cc2 := fun zz : Wd (Kn w [(y2.heap.size + 1 + 1, 24, rgtC t 6 r false true), (y2.heap.size + 1, 24, rgtC 9 v r false true), (y2.heap.size, 24, rgtC t v r false true), (x.heap.size, 24, rgtC t v r false true)]) => zz.ok.c (b := y2.heap.size + 1 + 1) (T := 24) (vs := rgtC t 6 r false true) (by simp) 2 _ rfl
      have cc3 := fun zz : Wd (Kn w [(y2.heap.size + 1 + 1, 24, rgtC t 6 r false true), (y2.heap.size + 1, 24, rgtC 9 v r false true), (y2.heap.size, 24, rgtC t v r false true), (x.heap.size, 24, rgtC t v r false true)]) => zz.ok.c (b := y2.heap.size + 1 + 1) (T := 24) (vs := rgtC t 6 r false true) (by simp) 3 _ rfl
      have cc4 := fun zz : Wd (Kn w [(y2.heap.size + 1 + 1, 24, rgtC t 6 r false true), (y2.heap.size + 1, 24, rgtC 9 v r false true), (y2.heap.size, 24, rgtC t v r false true), (x.heap.size, 24, rgtC t v r false true)]) => zz.ok.c (b := y2.heap.size + 1 + 1) (T := 24) (vs := rgtC t 6 r false true) (by simp) 4 _ rfl
      have cc5 := fun zz : Wd (Kn w [(y2.heap.size + 1 + 1, 24, rgtC t 6 r false true), (y2.heap.size + 1, 24, rgtC 9 v r false true), (y2.heap.size, 24, rgtC t v r false true), (x.heap.size, 24, rgtC t v r false true)]) => zz.ok.c (b := y2.heap.size + 1) (T := 24) (vs := rgtC 9 v r false true) (by simp) 0 _ rfl
      have cc6 := fun zz : Wd (Kn w [(y2.heap.size + 1 + 1, 24, rgtC t 6 r false true), (y2.heap.size + 1, 24, rgtC 9 v r false true), (y2.heap.size, 24, rgtC t v r false true), (x.heap.size, 24, rgtC t v r false true)]) => zz.ok.c (b := y2.heap.size + 1) (T := 24) (vs := rgtC 9 v r false true) (by simp) 1 _ rfl
      have cc7 := fun zz : Wd (Kn w [(y2.heap.size + 1 + 1, 24, rgtC t 6 r false true), (y2.heap.size + 1, 24, rgtC 9 v r false true), (y2.heap.size, 24, rgtC t v r false true), (x.heap.size, 24, rgtC t v r false true)]) => zz.ok.c (b := y2.heap.size + 1) (T := 24) (vs := rgtC 9 v r false true) (by simp) 2 _ rfl
      have cc8 := fun zz : Wd (Kn w [(y2.heap.size + 1 + 1, 24, rgtC t 6 r false true), (y2.heap.size + 1, 24, rgtC 9 v r false true), (y2.heap.size, 24, rgtC t v r false true), (x.heap.size, 24, rgtC t v r false true)]) => zz.ok.c (b := y2.heap.size + 1) (T := 24) (vs := rgtC 9 v r false true) (by simp) 3 _ rfl
      have cc9 := fun zz : Wd (Kn w [(y2.heap.size + 1 + 1, 24, rgtC t 6 r false true), (y2.heap.size + 1, 24, rgtC 9 v r false true), (y2.heap.size, 24, rgtC t v r false true), (x.heap.size, 24, rgtC t v r false true)]) => zz.ok.c (b := y2.heap.size + 1) (T := 24) (vs := rgtC 9 v r false true) (by simp) 4 _ rfl
      have cc10 := fun zz : Wd (Kn w [(y2.heap.size + 1 + 1, 24, rgtC t 6 r false true), (y2.heap.size + 1, 24, rgtC 9 v r false true), (y2.heap.size, 24, rgtC t v r false true), (x.heap.size, 24, rgtC t v r false true)]) => zz.ok.c (b := y2.heap.size) (T := 24) (vs := rgtC t v r false true) (by simp) 0 _ rfl
      have cc11 := fun zz : Wd (Kn w [(y2.heap.size + 1 + 1, 24, rgtC t 6 r false true), (y2.heap.size + 1, 24, rgtC 9 v r false true), (y2.heap.size, 24, rgtC t v r false true), (x.heap.size, 24, rgtC t v r false true)]) => zz.ok.c (b := y2.heap.size) (T := 24) (vs := rgtC t v r false true) (by simp) 1 _ rfl
      have cc12 := fun zz : Wd (Kn w [(y2.heap.size + 1 + 1, 24, rgtC t 6 r false true), (y2.heap.size + 1, 24, rgtC 9 v r false true), (y2.heap.size, 24, rgtC t v r false true), (x.heap.size, 24, rgtC t v r false true)]) => zz.ok.c (b := y2.heap.size) (T := 24) (vs := rgtC t v r false true) (by simp) 2 _ rfl
      have cc13 := fun zz : Wd (Kn w [(y2.heap.size + 1 + 1, 24, rgtC t 6 r false true), (y2.heap.size + 1, 24, rgtC 9 v r false true), (y2.heap.size, 24, rgtC t v r false true), (x.heap.size, 24, rgtC t v r false true)]) => zz.ok.c (b := y2.heap.size) (T := 24) (vs := rgtC t v r false true) (by simp) 3 _ rfl
      have cc14 := fun zz : Wd (Kn w [(y2.heap.size + 1 + 1, 24, rgtC t 6 r false true), (y2.heap.size + 1, 24, rgtC 9 v r false true), (y2.heap.size, 24, rgtC t v r false true), (x.heap.size, 24, rgtC t v r false true)]) => zz.ok.c (b := y2.heap.size) (T := 24) (vs := rgtC t v r false true) (by simp) 4 _ rfl
      have cc15 := fun zz : Wd (Kn w [(y2.heap.size + 1 + 1, 24, rgtC t 6 r false true), (y2.heap.size + 1, 24, rgtC 9 v r false true), (y2.heap.size, 24, rgtC t v r false true), (x.heap.size, 24, rgtC t v r false true)]) => zz.ok.c (b := x.heap.size) (T := 24) (vs := rgtC t v r false true) (by simp) 0 _ rfl
      have cc16 := fun zz : Wd (Kn w [(y2.heap.size + 1 + 1, 24, rgtC t 6 r false true), (y2.heap.size + 1, 24, rgtC 9 v r false true), (y2.heap.size, 24, rgtC t v r false true), (x.heap.size, 24, rgtC t v r false true)]) => zz.ok.c (b := x.heap.size) (T := 24) (vs := rgtC t v r false true) (by simp) 1 _ rfl
      have cc17 := fun zz : Wd (Kn w [(y2.heap.size + 1 + 1, 24, rgtC t 6 r false true), (y2.heap.size + 1, 24, rgtC 9 v r false true), (y2.heap.size, 24, rgtC t v r false true), (x.heap.size, 24, rgtC t v r false true)]) => zz.ok.c (b := x.heap.size) (T := 24) (vs := rgtC t v r false true) (by simp) 2 _ rfl
      have cc18 := fun zz : Wd (Kn w [(y2.heap.size + 1 + 1, 24, rgtC t 6 r false true), (y2.heap.size + 1, 24, rgtC 9 v r false true), (y2.heap.size, 24, rgtC t v r false true), (x.heap.size, 24, rgtC t v r false true)]) => zz.ok.c (b := x.heap.size) (T := 24) (vs := rgtC t v r false true) (by simp) 3 _ rfl
      have cc19 := fun zz : Wd (Kn w [(y2.heap.size + 1 + 1, 24, rgtC t 6 r false true), (y2.heap.size + 1, 24, rgtC 9 v r false true), (y2.heap.size, 24, rgtC t v r false true), (x.heap.size, 24, rgtC t v r false true)]) => zz.ok.c (b := x.heap.size) (T := 24) (vs := rgtC t v r false true) (by simp) 4 _ rfl
      have ne : Nonempty (Wd (Kn w [(y2.heap.size + 1 + 1, 24, rgtC t 6 r false true), (y2.heap.size + 1, 24, rgtC 9 v r false true), (y2.heap.size, 24, rgtC t v r false true), (x.heap.size, 24, rgtC t v r false true)])) := ⟨⟨_, E0.drew⟩⟩
      refine wp_region_quiet (C := fun y => ∃ zz : Wd (Kn w [(y2.heap.size + 1 + 1, 24, rgtC t 6 r false true), (y2.heap.size + 1, 24, rgtC 9 v r false true), (y2.heap.size, 24, rgtC t v r false true), (x.heap.size, 24, rgtC t v r false true)]), y = zz.w) (by kernel_rfl) (by kernel_rfl) ⟨⟨_, E0.drew⟩, rfl⟩ ?_
      show wpQuiet _ _ _ _ [_, _, _, _, _, _, _, _, _, _, _, _, _, _, _, _, _, _, _, _, _, _, _, _, _, _, _, _, _, _, _, _, _, _, _, _, _, _, _, _, _] _
      repeat (first | go_big_quiet_step ((first | (go_at_call 15; with_reducible exact inCls Kn.stay (implROk_val HA.out _)) | (go_at_call 15; with_reducible exact inCls Kn.stay (implROk_val HB.out _)) | (go_at_call 15; with_reducible exact inCls Kn.stay (implROk_val HC.out _)))) | quiet_step ((first | (go_at_call 15; with_reducible exact inCls Kn.stay (implROk_val HA.out _)) | (go_at_call 15; with_reducible exact inCls Kn.stay (implROk_val HB.out _)) | (go_at_call 15; with_reducible exact inCls Kn.stay (implROk_val HC.out _)))))
      refine wpQuiet_nil ?_
      rintro _ ⟨t3, rfl⟩
      clear ne cc0 cc1 cc2 cc3 cc4 cc5 cc6 cc7 cc8 cc9 cc10 cc11 cc12 cc13 cc14 cc15 cc16 cc17 cc18 cc19
      obtain ⟨y3, D3⟩ := t3
      clear E0
      dsimp only
      go_wp2
      go_ret
      exact ⟨rfl, D3.1⟩
end Go.Proofs.Ythbeiigiffnhjaa
