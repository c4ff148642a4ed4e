/-
  The walk of laws.FnJoinMarks.
-/
import Derived.Test.YtiooefcdlemodaaDrawM
import Derived.Test.YtiooefcdlemodaaCls
namespace Go.Proofs.Ytiooefcdlemodaa
open Go.RowKit
set_option linter.unusedVariables false

set_option maxRecDepth 100000 in
set_option maxHeartbeats 2000000 in
theorem walk_FnJoinMarks (a0 : Option Addr) (len0 cap0 : Nat) (z0 : List Int) (w : World) (w0 : IsRow .u8 w a0 len0 cap0 z0) :
    Calls Try.prog 10 #[.slice a0 len0 cap0] w fun e w' => e = .returned (.bool true) ∧ Below w.heap.size w w' := by
  by_cases g0 : (1048576 : Int) < (len0 : Int)
  · go_enter Try.func10, Try.ntmps10
    go_wp2
    go_ret
    exact ⟨rfl, Below.refl _ _⟩
  have W0 := Lib.hid w0
  clear w0
  go_enter Try.func10, Try.ntmps10
  go_wp2_with fail
  refine (drawJoin_any a0 len0 cap0 z0 _ W0.out).mono ?_
  rintro e x ⟨s, v, s2, v2, rfl, hx⟩
  clear W0
  have D0 := (ClsL.start hx).new2 s v s2 v2
  clear hx
  obtain ⟨ja, hja⟩ : ∃ a, jn1 s v s2 v2 = a := ⟨_, rfl⟩
  obtain ⟨jb, hjb⟩ : ∃ a, jn2 s v s2 v2 = a := ⟨_, rfl⟩
  have HA := Lib.hid hja
  have HB := Lib.hid hjb
  clear hja hjb
  go_wp2_with fail
  refine (implJoin_val HA.out HB.out _).mono ?_
  rintro e y1 ⟨rfl, hb1⟩
  have D1 := D0.stay hb1
  clear hb1 D0
  have D2 := D1.new (ja) (jb)
  clear D1
  have q0 := D2.c0 (b := y1.heap.size) (s := ja) (v := jb) (by simp)
  have q1 := D2.c1 (b := y1.heap.size) (s := ja) (v := jb) (by simp)
  have q2 := D2.c0 (b := x.heap.size) (s := s) (v := v) (by simp)
  have q3 := D2.c1 (b := x.heap.size) (s := s) (v := v) (by simp)
  have q4 := D2.c0 (b := x.heap.size + 1) (s := s2) (v := v2) (by simp)
  have q5 := D2.c1 (b := x.heap.size + 1) (s := s2) (v := v2) (by simp)
  cases h1 : okL s v
  · have H1 := Lib.hid h1
    clear h1
    go_wp2_with fail
    clear q0 q1 q2 q3 q4 q5
    have cc0 := fun t : Wd (ClsL w [(y1.heap.size, ja, jb), (x.heap.size, s, v), (x.heap.size + 1, s2, v2)]) => t.ok.c0 (b := y1.heap.size) (s := ja) (v := jb) (by simp)
    have cc1 := fun t : Wd (ClsL w [(y1.heap.size, ja, jb), (x.heap.size, s, v), (x.heap.size + 1, s2, v2)]) => t.ok.c1 (b := y1.heap.size) (s := ja) (v := jb) (by simp)
    have cc2 := fun t : Wd (ClsL w [(y1.heap.size, ja, jb), (x.heap.size, s, v), (x.heap.size + 1, s2, v2)]) => t.ok.c0 (b := x.heap.size) (s := s) (v := v) (by simp)
    have cc3 := fun t : Wd (ClsL w [(y1.heap.size, ja, jb), (x.heap.size, s, v), (x.heap.size + 1, s2, v2)]) => t.ok.c1 (b := x.heap.size) (s := s) (v := v) (by simp)
    have cc4 := fun t : Wd (ClsL w [(y1.heap.size, ja, jb), (x.heap.size, s, v), (x.heap.size + 1, s2, v2)]) => t.ok.c0 (b := x.heap.size + 1) (s := s2) (v := v2) (by simp)
    have cc5 := fun t : Wd (ClsL w [(y1.heap.size, ja, jb), (x.heap.size, s, v), (x.heap.size + 1, s2, v2)]) => t.ok.c1 (b := x.heap.size + 1) (s := s2) (v := v2) (by simp)
    have ne : Nonempty (Wd (ClsL w [(y1.heap.size, ja, jb), (x.heap.size, s, v), (x.heap.size + 1, s2, v2)])) := ⟨⟨_, D2.drew⟩⟩
    refine wp_region_quiet (C := fun y => ∃ t : Wd (ClsL w [(y1.heap.size, ja, jb), (x.heap.size, s, v), (x.heap.size + 1, s2, v2)]), y = t.w) (by kernel_rfl) (by kernel_rfl) ⟨⟨_, D2.drew⟩, rfl⟩ ?_
    show wpQuiet _ _ _ _ [_, _, _, _, _, _, _, _, _, _, _, _, _, _, _] _
    repeat (first | go_big_quiet_step ((first | (go_at_call 19; with_reducible exact inCls ClsL.stay (specJoin_val HA.out HB.out _)) | (go_at_call 15; with_reducible exact inCls ClsL.stay (specOk_val H1.out _)))) | quiet_step ((first | (go_at_call 19; with_reducible exact inCls ClsL.stay (specJoin_val HA.out HB.out _)) | (go_at_call 15; with_reducible exact inCls ClsL.stay (specOk_val H1.out _)))))
    refine wpQuiet_nil ?_
    rintro _ ⟨t3, rfl⟩
    clear ne cc0 cc1 cc2 cc3 cc4 cc5
    obtain ⟨y3, D3⟩ := t3
    clear D2
    dsimp only
    have q0 := D3.c0 (b := y1.heap.size) (s := ja) (v := jb) (by simp)
    have q1 := D3.c1 (b := y1.heap.size) (s := ja) (v := jb) (by simp)
    have q2 := D3.c0 (b := x.heap.size) (s := s) (v := v) (by simp)
    have q3 := D3.c1 (b := x.heap.size) (s := s) (v := v) (by simp)
    have q4 := D3.c0 (b := x.heap.size + 1) (s := s2) (v := v2) (by simp)
    have q5 := D3.c1 (b := x.heap.size + 1) (s := s2) (v := v2) (by simp)
    go_wp2_with fail
    clear q0 q1 q2 q3 q4 q5
    have cc0 := fun t : Wd (ClsL w [(y1.heap.size, ja, jb), (x.heap.size, s, v), (x.heap.size + 1, s2, v2)]) => t.ok.c0 (b := y1.heap.size) (s := ja) (v := jb) (by simp)
    have cc1 := fun t : Wd (ClsL w [(y1.heap.size, ja, jb), (x.heap.size, s, v), (x.heap.size + 1, s2, v2)]) => t.ok.c1 (b := y1.heap.size) (s := ja) (v := jb) (by simp)
    have cc2 := fun t : Wd (ClsL w [(y1.heap.size, ja, jb), (x.heap.size, s, v), (x.heap.size + 1, s2, v2)]) => t.ok.c0 (b := x.heap.size) (s := s) (v := v) (by simp)
    have cc3 := fun t : Wd (ClsL w [(y1.heap.size, ja, jb), (x.heap.size, s, v), (x.heap.size + 1, s2, v2)]) => t.ok.c1 (b := x.heap.size) (s := s) (v := v) (by simp)
    have cc4 := fun t : Wd (ClsL w [(y1.heap.size, ja, jb), (x.heap.size, s, v), (x.heap.size + 1, s2, v2)]) => t.ok.c0 (b := x.heap.size + 1) (s := s2) (v := v2) (by simp)
    have cc5 := fun t : Wd (ClsL w [(y1.heap.size, ja, jb), (x.heap.size, s, v), (x.heap.size + 1, s2, v2)]) => t.ok.c1 (b := x.heap.size + 1) (s := s2) (v := v2) (by simp)
    have ne : Nonempty (Wd (ClsL w [(y1.heap.size, ja, jb), (x.heap.size, s, v), (x.heap.size + 1, s2, v2)])) := ⟨⟨_, D3.drew⟩⟩
    refine wp_region_quiet (C := fun y => ∃ t : Wd (ClsL w [(y1.heap.size, ja, jb), (x.heap.size, s, v), (x.heap.size + 1, s2, v2)]), y = t.w) (by kernel_rfl) (by kernel_rfl) ⟨⟨_, D3.drew⟩, rfl⟩ ?_
    show wpQuiet _ _ _ _ [_, _, _, _, _, _] _
    repeat (first | go_big_quiet_step ((first | (go_at_call 19; with_reducible exact inCls ClsL.stay (specJoin_val HA.out HB.out _)))) | quiet_step ((first | (go_at_call 19; with_reducible exact inCls ClsL.stay (specJoin_val HA.out HB.out _)))))
    refine wpQuiet_nil ?_
    rintro _ ⟨t4, rfl⟩
    clear ne cc0 cc1 cc2 cc3 cc4 cc5
    obtain ⟨y4, D4⟩ := t4
    clear D3
    dsimp only
    go_wp2
    go_ret
    exact ⟨rfl, D4.1⟩
  cases h2 : okL s2 v2
  · have H1 := Lib.hid h1
    have H2 := Lib.hid h2
    clear h1 h2
    go_wp2_with fail
    clear q0 q1 q2 q3 q4 q5
    have cc0 := fun t : Wd (ClsL w [(y1.heap.size, ja, jb), (x.heap.size, s, v), (x.heap.size + 1, s2, v2)]) => t.ok.c0 (b := y1.heap.size) (s := ja) (v := jb) (by simp)
    have cc1 := fun t : Wd (ClsL w [(y1.heap.size, ja, jb), (x.heap.size, s, v), (x.heap.size + 1, s2, v2)]) => t.ok.c1 (b := y1.heap.size) (s := ja) (v := jb) (by simp)
    have cc2 := fun t : Wd (ClsL w [(y1.heap.size, ja, jb), (x.heap.size, s, v), (x.heap.size + 1, s2, v2)]) => t.ok.c0 (b := x.heap.size) (s := s) (v := v) (by simp)
    have cc3 := fun t : Wd (ClsL w [(y1.heap.size, ja, jb), (x.heap.size, s, v), (x.heap.size + 1, s2, v2)]) => t.ok.c1 (b := x.heap.size) (s := s) (v := v) (by simp)
    have cc4 := fun t : Wd (ClsL w [(y1.heap.size, ja, jb), (x.heap.size, s, v), (x.heap.size + 1, s2, v2)]) => t.ok.c0 (b := x.heap.size + 1) (s := s2) (v := v2) (by simp)
    have cc5 := fun t : Wd (ClsL w [(y1.heap.size, ja, jb), (x.heap.size, s, v), (x.heap.size + 1, s2, v2)]) => t.ok.c1 (b := x.heap.size + 1) (s := s2) (v := v2) (by simp)
    have ne : Nonempty (Wd (ClsL w [(y1.heap.size, ja, jb), (x.heap.size, s, v), (x.heap.size + 1, s2, v2)])) := ⟨⟨_, D2.drew⟩⟩
    refine wp_region_quiet (C := fun y => ∃ t : Wd (ClsL w [(y1.heap.size, ja, jb), (x.heap.size, s, v), (x.heap.size + 1, s2, v2)]), y = t.w) (by kernel_rfl) (by kernel_rfl) ⟨⟨_, D2.drew⟩, rfl⟩ ?_
    show wpQuiet _ _ _ _ [_, _, _, _, _, _, _, _, _, _, _, _, _, _, _] _
    repeat (first | go_big_quiet_step ((first | (go_at_call 19; with_reducible exact inCls ClsL.stay (specJoin_val HA.out HB.out _)) | (go_at_call 15; with_reducible exact inCls ClsL.stay (specOk_val H1.out _)) | (go_at_call 15; with_reducible exact inCls ClsL.stay (specOk_val H2.out _)))) | quiet_step ((first | (go_at_call 19; with_reducible exact inCls ClsL.stay (specJoin_val HA.out HB.out _)) | (go_at_call 15; with_reducible exact inCls ClsL.stay (specOk_val H1.out _)) | (go_at_call 15; with_reducible exact inCls ClsL.stay (specOk_val H2.out _)))))
    refine wpQuiet_nil ?_
    rintro _ ⟨t3, rfl⟩
    clear ne cc0 cc1 cc2 cc3 cc4 cc5
    obtain ⟨y3, D3⟩ := t3
    clear D2
    dsimp only
    have q0 := D3.c0 (b := y1.heap.size) (s := ja) (v := jb) (by simp)
    have q1 := D3.c1 (b := y1.heap.size) (s := ja) (v := jb) (by simp)
    have q2 := D3.c0 (b := x.heap.size) (s := s) (v := v) (by simp)
    have q3 := D3.c1 (b := x.heap.size) (s := s) (v := v) (by simp)
    have q4 := D3.c0 (b := x.heap.size + 1) (s := s2) (v := v2) (by simp)
    have q5 := D3.c1 (b := x.heap.size + 1) (s := s2) (v := v2) (by simp)
    go_wp2_with fail
    clear q0 q1 q2 q3 q4 q5
    have cc0 := fun t : Wd (ClsL w [(y1.heap.size, ja, jb), (x.heap.size, s, v), (x.heap.size + 1, s2, v2)]) => t.ok.c0 (b := y1.heap.size) (s := ja) (v := jb) (by simp)
    have cc1 := fun t : Wd (ClsL w [(y1.heap.size, ja, jb), (x.heap.size, s, v), (x.heap.size + 1, s2, v2)]) => t.ok.c1 (b := y1.heap.size) (s := ja) (v := jb) (by simp)
    have cc2 := fun t : Wd (ClsL w [(y1.heap.size, ja, jb), (x.heap.size, s, v), (x.heap.size + 1, s2, v2)]) => t.ok.c0 (b := x.heap.size) (s := s) (v := v) (by simp)
    have cc3 := fun t : Wd (ClsL w [(y1.heap.size, ja, jb), (x.heap.size, s, v), (x.heap.size + 1, s2, v2)]) => t.ok.c1 (b := x.heap.size) (s := s) (v := v) (by simp)
    have cc4 := fun t : Wd (ClsL w [(y1.heap.size, ja, jb), (x.heap.size, s, v), (x.heap.size + 1, s2, v2)]) => t.ok.c0 (b := x.heap.size + 1) (s := s2) (v := v2) (by simp)
    have cc5 := fun t : Wd (ClsL w [(y1.heap.size, ja, jb), (x.heap.size, s, v), (x.heap.size + 1, s2, v2)]) => t.ok.c1 (b := x.heap.size + 1) (s := s2) (v := v2) (by simp)
    have ne : Nonempty (Wd (ClsL w [(y1.heap.size, ja, jb), (x.heap.size, s, v), (x.heap.size + 1, s2, v2)])) := ⟨⟨_, D3.drew⟩⟩
    refine wp_region_quiet (C := fun y => ∃ t : Wd (ClsL w [(y1.heap.size, ja, jb), (x.heap.size, s, v), (x.heap.size + 1, s2, v2)]), y = t.w) (by kernel_rfl) (by kernel_rfl) ⟨⟨_, D3.drew⟩, rfl⟩ ?_
    show wpQuiet _ _ _ _ [_, _, _, _, _, _] _
    repeat (first | go_big_quiet_step ((first | (go_at_call 19; with_reducible exact inCls ClsL.stay (specJoin_val HA.out HB.out _)))) | quiet_step ((first | (go_at_call 19; with_reducible exact inCls ClsL.stay (specJoin_val HA.out HB.out _)))))
    refine wpQuiet_nil ?_
    rintro _ ⟨t4, rfl⟩
    clear ne cc0 cc1 cc2 cc3 cc4 cc5
    obtain ⟨y4, D4⟩ := t4
    clear D3
    dsimp only
    go_wp2
    go_ret
    exact ⟨rfl, D4.1⟩
  have H1 := Lib.hid h1
  have H2 := Lib.hid h2
  clear h1 h2
  go_wp2_with fail
  clear q0 q1 q2 q3 q4 q5
  have cc0 := fun t : Wd (ClsL w [(y1.heap.size, ja, jb), (x.heap.size, s, v), (x.heap.size + 1, s2, v2)]) => t.ok.c0 (b := y1.heap.size) (s := ja) (v := jb) (by simp)
  have cc1 := fun t : Wd (ClsL w [(y1.heap.size, ja, jb), (x.heap.size, s, v), (x.heap.size + 1, s2, v2)]) => t.ok.c1 (b := y1.heap.size) (s := ja) (v := jb) (by simp)
  have cc2 := fun t : Wd (ClsL w [(y1.heap.size, ja, jb), (x.heap.size, s, v), (x.heap.size + 1, s2, v2)]) => t.ok.c0 (b := x.heap.size) (s := s) (v := v) (by simp)
  have cc3 := fun t : Wd (ClsL w [(y1.heap.size, ja, jb), (x.heap.size, s, v), (x.heap.size + 1, s2, v2)]) => t.ok.c1 (b := x.heap.size) (s := s) (v := v) (by simp)
  have cc4 := fun t : Wd (ClsL w [(y1.heap.size, ja, jb), (x.heap.size, s, v), (x.heap.size + 1, s2, v2)]) => t.ok.c0 (b := x.heap.size + 1) (s := s2) (v := v2) (by simp)
  have cc5 := fun t : Wd (ClsL w [(y1.heap.size, ja, jb), (x.heap.size, s, v), (x.heap.size + 1, s2, v2)]) => t.ok.c1 (b := x.heap.size + 1) (s := s2) (v := v2) (by simp)
  have ne : Nonempty (Wd (ClsL w [(y1.heap.size, ja, jb), (x.heap.size, s, v), (x.heap.size + 1, s2, v2)])) := ⟨⟨_, D2.drew⟩⟩
  refine wp_region_quiet (C := fun y => ∃ t : Wd (ClsL w [(y1.heap.size, ja, jb), (x.heap.size, s, v), (x.heap.size + 1, s2, v2)]), y = t.w) (by kernel_rfl) (by kernel_rfl) ⟨⟨_, D2.drew⟩, rfl⟩ ?_
  show wpQuiet _ _ _ _ [_, _, _, _, _, _, _, _, _, _, _, _, _, _, _] _
  repeat (first | go_big_quiet_step ((first | (go_at_call 19; with_reducible exact inCls ClsL.stay (specJoin_val HA.out HB.out _)) | (go_at_call 15; with_reducible exact inCls ClsL.stay (specOk_val H1.out _)) | (go_at_call 15; with_reducible exact inCls ClsL.stay (specOk_val H2.out _)))) | quiet_step ((first | (go_at_call 19; with_reducible exact inCls ClsL.stay (specJoin_val HA.out HB.out _)) | (go_at_call 15; with_reducible exact inCls ClsL.stay (specOk_val H1.out _)) | (go_at_call 15; with_reducible exact inCls ClsL.stay (specOk_val H2.out _)))))
  refine wpQuiet_nil ?_
  rintro _ ⟨t3, rfl⟩
  clear ne cc0 cc1 cc2 cc3 cc4 cc5
  obtain ⟨y3, D3⟩ := t3
  clear D2
  dsimp only
  have q0 := D3.c0 (b := y1.heap.size) (s := ja) (v := jb) (by simp)
  have q1 := D3.c1 (b := y1.heap.size) (s := ja) (v := jb) (by simp)
  have q2 := D3.c0 (b := x.heap.size) (s := s) (v := v) (by simp)
  have q3 := D3.c1 (b := x.heap.size) (s := s) (v := v) (by simp)
  have q4 := D3.c0 (b := x.heap.size + 1) (s := s2) (v := v2) (by simp)
  have q5 := D3.c1 (b := x.heap.size + 1) (s := s2) (v := v2) (by simp)
  obtain ⟨ma, hma⟩ : ∃ a, mt1 s v s2 v2 = a := ⟨_, rfl⟩
  obtain ⟨mb, hmb⟩ : ∃ a, mt2 s v s2 v2 = a := ⟨_, rfl⟩
  have MA := Lib.hid hma
  have MB := Lib.hid hmb
  clear hma hmb
  go_wp2_with fail
  refine (implMeet_val MA.out MB.out _).mono ?_
  rintro e y4 ⟨rfl, hb4⟩
  have D4 := D3.stay hb4
  clear q0 q1 q2 q3 q4 q5
  clear hb4 D3
  have D5 := D4.new (ma) (mb)
  clear D4
  have q0 := D5.c0 (b := y4.heap.size) (s := ma) (v := mb) (by simp)
  have q1 := D5.c1 (b := y4.heap.size) (s := ma) (v := mb) (by simp)
  have q2 := D5.c0 (b := y1.heap.size) (s := ja) (v := jb) (by simp)
  have q3 := D5.c1 (b := y1.heap.size) (s := ja) (v := jb) (by simp)
  have q4 := D5.c0 (b := x.heap.size) (s := s) (v := v) (by simp)
  have q5 := D5.c1 (b := x.heap.size) (s := s) (v := v) (by simp)
  have q6 := D5.c0 (b := x.heap.size + 1) (s := s2) (v := v2) (by simp)
  have q7 := D5.c1 (b := x.heap.size + 1) (s := s2) (v := v2) (by simp)
  have a1 := okL_split H1.out
  have a2 := okL_split H2.out
  obtain ⟨⟨s0, s3⟩, v0, v3⟩ := a1
  obtain ⟨⟨s4, s5⟩, v4, v5⟩ := a2
  obtain ⟨i1, i2⟩ := join_eq H1.out H2.out
  rw [HA.out] at i1
  rw [HB.out] at i2
  obtain ⟨i3, i4⟩ := meet_eq H1.out H2.out
  rw [MA.out] at i3
  rw [MB.out] at i4
  have o1 : 0 ≤ ja ∧ ja ≤ 3 ∧ 0 ≤ jb ∧ jb ≤ 3 ∧ 0 ≤ ma ∧ ma ≤ 3 ∧ 0 ≤ mb ∧ mb ≤ 3 := by rw [i1, i2, i3, i4]; simp [or2, and2]; omega
  obtain ⟨o1, o2, o3, o4, o5, o6, o7, o8⟩ := o1
  have I1 := Lib.hid i1
  have I2 := Lib.hid i2
  have I3 := Lib.hid i3
  have I4 := Lib.hid i4
  clear i1 i2 i3 i4
  go_wp2
  have DD := D5.past (.cells #[.int .i64 1, .int .i64 2] 3)
  have BB := Box.fresh (y4.alloc (.cells #[.int .i64 ma, .int .i64 mb] 24)) 3 #[.int .i64 1, .int .i64 2]
  rw [show (y4.alloc (.cells #[.int .i64 ma, .int .i64 mb] 24)).heap.size = y4.heap.size + 1 by simp] at BB
  clear q0 q1 q2 q3 q4 q5 q6 q7 D5
  go_loopw [47] (fun i x' => ∃ k : Nat, k ≤ 2 ∧ i = .int .i64 k ∧ ClsL w [(y4.heap.size, ma, mb), (y1.heap.size, ja, jb), (x.heap.size, s, v), (x.heap.size + 1, s2, v2)] x' ∧ Box x' (y4.heap.size + 1) 3 #[.int .i64 1, .int .i64 2]) (fun i _ => 2 - (intOf i).toNat)
  case atStart => exact ⟨0, by omega, rfl, DD, BB⟩
  case round =>
    obtain ⟨k, hk, rfl, hD, hB⟩ := hrel
    clear DD BB
    rcases (by omega : k = 0 ∨ k = 1 ∨ k = 2) with rfl | rfl | rfl
    · have e1 : (ja % 2 == 1) = decide (0 < s % 2 + s2 % 2) := by rw [I1.out, Bool.eq_iff_iff]; simp [or2]; omega
      have e2 : (jb % 2 == 1) = (v % 2 + v2 % 2 == 2) := by rw [I2.out, Bool.eq_iff_iff]; simp [and2]; omega
      have e3 : (ma % 2 == 1) = (s % 2 + s2 % 2 == 2) := by rw [I3.out, Bool.eq_iff_iff]; simp [and2]; omega
      have e4 : (mb % 2 == 1) = decide (0 < v % 2 + v2 % 2) := by rw [I4.out, Bool.eq_iff_iff]; simp [or2]; omega
      have q0 := hD.c0 (b := y4.heap.size) (s := ma) (v := mb) (by simp)
      have q1 := hD.c1 (b := y4.heap.size) (s := ma) (v := mb) (by simp)
      have q2 := hD.c0 (b := y1.heap.size) (s := ja) (v := jb) (by simp)
      have q3 := hD.c1 (b := y1.heap.size) (s := ja) (v := jb) (by simp)
      have q4 := hD.c0 (b := x.heap.size) (s := s) (v := v) (by simp)
      have q5 := hD.c1 (b := x.heap.size) (s := s) (v := v) (by simp)
      have q6 := hD.c0 (b := x.heap.size + 1) (s := s2) (v := v2) (by simp)
      have q7 := hD.c1 (b := x.heap.size + 1) (s := s2) (v := v2) (by simp)
      have b0 := hB.cell 0 _ rfl
      have b1 := hB.cell 1 _ rfl
      go_wp2
      go_quiet (fail)
      go_wp2
      go_quiet (fail)
      go_wp2
      exact ⟨⟨1, by omega, rfl, hD.drewN _, hB.drewN _⟩, by decide⟩
    · have e1 : (ja / 2 % 2 == 1) = decide (0 < s / 2 % 2 + s2 / 2 % 2) := by rw [I1.out, Bool.eq_iff_iff]; simp [or2]; omega
      have e2 : (jb / 2 % 2 == 1) = (v / 2 % 2 + v2 / 2 % 2 == 2) := by rw [I2.out, Bool.eq_iff_iff]; simp [and2]; omega
      have e3 : (ma / 2 % 2 == 1) = (s / 2 % 2 + s2 / 2 % 2 == 2) := by rw [I3.out, Bool.eq_iff_iff]; simp [and2]; omega
      have e4 : (mb / 2 % 2 == 1) = decide (0 < v / 2 % 2 + v2 / 2 % 2) := by rw [I4.out, Bool.eq_iff_iff]; simp [or2]; omega
      have q0 := hD.c0 (b := y4.heap.size) (s := ma) (v := mb) (by simp)
      have q1 := hD.c1 (b := y4.heap.size) (s := ma) (v := mb) (by simp)
      have q2 := hD.c0 (b := y1.heap.size) (s := ja) (v := jb) (by simp)
      have q3 := hD.c1 (b := y1.heap.size) (s := ja) (v := jb) (by simp)
      have q4 := hD.c0 (b := x.heap.size) (s := s) (v := v) (by simp)
      have q5 := hD.c1 (b := x.heap.size) (s := s) (v := v) (by simp)
      have q6 := hD.c0 (b := x.heap.size + 1) (s := s2) (v := v2) (by simp)
      have q7 := hD.c1 (b := x.heap.size + 1) (s := s2) (v := v2) (by simp)
      have b0 := hB.cell 0 _ rfl
      have b1 := hB.cell 1 _ rfl
      go_wp2
      go_quiet (fail)
      go_wp2
      go_quiet (fail)
      go_wp2
      exact ⟨⟨2, by omega, rfl, hD.drewN _, hB.drewN _⟩, by decide⟩
    · go_wp2
      go_ret
      exact ⟨rfl, hD.1⟩
end Go.Proofs.Ytiooefcdlemodaa
