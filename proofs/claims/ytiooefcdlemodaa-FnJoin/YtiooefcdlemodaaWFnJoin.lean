/-
  The walk of laws.FnJoin.
-/
import Derived.Test.YtiooefcdlemodaaDrawM
import Derived.Test.YtiooefcdlemodaaCls
namespace Go.Proofs.Ytiooefcdlemodaa
open Go.RowKit
set_option linter.unusedVariables false

set_option maxHeartbeats 2000000 in
theorem walk_FnJoin (a0 : Option Addr) (len0 cap0 : Nat) (z0 : List Int) (a1 : Option Addr) (len1 cap1 : Nat) (z1 : List Int) (w : World) (w0 : IsRow .u8 w a0 len0 cap0 z0) (w1 : IsRow .u8 w a1 len1 cap1 z1) :
    Calls Try.prog 5 #[.slice a0 len0 cap0, .slice a1 len1 cap1] w fun e w' => e = .returned (.bool true) ∧ Below w.heap.size w w' := by
  by_cases g0 : (1048576 : Int) < (len0 : Int)
  · go_enter Try.func5, Try.ntmps5
    go_wp2
    go_ret
    exact ⟨rfl, Below.refl _ _⟩
  by_cases g1 : (1048576 : Int) < (len1 : Int)
  · go_enter Try.func5, Try.ntmps5
    go_wp2
    go_ret
    exact ⟨rfl, Below.refl _ _⟩
  have W0 := Lib.hid w0
  clear w0 w1
  go_enter Try.func5, Try.ntmps5
  go_wp2_with fail
  refine (drawJoin_any a0 len0 cap0 z0 _ W0.out).mono ?_
  rintro e x ⟨s, v, s2, v2, rfl, hx⟩
  clear W0
  have D0 := (ClsL.start hx).new2 s v s2 v2
  clear hx
  obtain ⟨ja, hja⟩ : ∃ a, jn1 s v s2 v2 = a := ⟨_, rfl⟩
  obtain ⟨jb, hjb⟩ : ∃ a, jn2 s v s2 v2 = a := ⟨_, rfl⟩
  have HA := Lib.hid hja
  have HB := Lib.hid hjb
  clear hja hjb
  go_wp2_with fail
  refine (implJoin_val HA.out HB.out _).mono ?_
  rintro e y1 ⟨rfl, hb1⟩
  have D1 := D0.stay hb1
  clear hb1 D0
  have D2 := D1.new (ja) (jb)
  clear D1
  have q0 := D2.c0 (b := y1.heap.size) (s := ja) (v := jb) (by simp)
  have q1 := D2.c1 (b := y1.heap.size) (s := ja) (v := jb) (by simp)
  have q2 := D2.c0 (b := x.heap.size) (s := s) (v := v) (by simp)
  have q3 := D2.c1 (b := x.heap.size) (s := s) (v := v) (by simp)
  have q4 := D2.c0 (b := x.heap.size + 1) (s := s2) (v := v2) (by simp)
  have q5 := D2.c1 (b := x.heap.size + 1) (s := s2) (v := v2) (by simp)
  cases h1 : okL s v
  · have H1 := Lib.hid h1
    clear h1
    go_wp2_with fail
    clear q0 q1 q2 q3 q4 q5
    have cc0 := fun t : Wd (ClsL w [(y1.heap.size, ja, jb), (x.heap.size, s, v), (x.heap.size + 1, s2, v2)]) => t.ok.c0 (b := y1.heap.size) (s := ja) (v := jb) (by simp)
    have cc1 := fun t : Wd (ClsL w [(y1.heap.size, ja, jb), (x.heap.size, s, v), (x.heap.size + 1, s2, v2)]) => t.ok.c1 (b := y1.heap.size) (s := ja) (v := jb) (by simp)
    have cc2 := fun t : Wd (ClsL w [(y1.heap.size, ja, jb), (x.heap.size, s, v), (x.heap.size + 1, s2, v2)]) => t.ok.c0 (b := x.heap.size) (s := s) (v := v) (by simp)
    have cc3 := fun t : Wd (ClsL w [(y1.heap.size, ja, jb), (x.heap.size, s, v), (x.heap.size + 1, s2, v2)]) => t.ok.c1 (b := x.heap.size) (s := s) (v := v) (by simp)
    have cc4 := fun t : Wd (ClsL w [(y1.heap.size, ja, jb), (x.heap.size, s, v), (x.heap.size + 1, s2, v2)]) => t.ok.c0 (b := x.heap.size + 1) (s := s2) (v := v2) (by simp)
    have cc5 := fun t : Wd (ClsL w [(y1.heap.size, ja, jb), (x.heap.size, s, v), (x.heap.size + 1, s2, v2)]) => t.ok.c1 (b := x.heap.size + 1) (s := s2) (v := v2) (by simp)
    have ne : Nonempty (Wd (ClsL w [(y1.heap.size, ja, jb), (x.heap.size, s, v), (x.heap.size + 1, s2, v2)])) := ⟨⟨_, D2.drew⟩⟩
    refine wp_region_quiet (C := fun y => ∃ t : Wd (ClsL w [(y1.heap.size, ja, jb), (x.heap.size, s, v), (x.heap.size + 1, s2, v2)]), y = t.w) (by kernel_rfl) (by kernel_rfl) ⟨⟨_, D2.drew⟩, rfl⟩ ?_
    show wpQuiet _ _ _ _ [_, _, _, _, _, _, _, _, _, _, _, _, _, _, _] _
    repeat (first | go_big_quiet_step ((first | (go_at_call 19; with_reducible exact inCls ClsL.stay (specJoin_val HA.out HB.out _)) | (go_at_call 15; with_reducible exact inCls ClsL.stay (specOk_val H1.out _)))) | quiet_step ((first | (go_at_call 19; with_reducible exact inCls ClsL.stay (specJoin_val HA.out HB.out _)) | (go_at_call 15; with_reducible exact inCls ClsL.stay (specOk_val H1.out _)))))
    refine wpQuiet_nil ?_
    rintro _ ⟨t3, rfl⟩
    clear ne cc0 cc1 cc2 cc3 cc4 cc5
    obtain ⟨y3, D3⟩ := t3
    clear D2
    dsimp only
    have q0 := D3.c0 (b := y1.heap.size) (s := ja) (v := jb) (by simp)
    have q1 := D3.c1 (b := y1.heap.size) (s := ja) (v := jb) (by simp)
    have q2 := D3.c0 (b := x.heap.size) (s := s) (v := v) (by simp)
    have q3 := D3.c1 (b := x.heap.size) (s := s) (v := v) (by simp)
    have q4 := D3.c0 (b := x.heap.size + 1) (s := s2) (v := v2) (by simp)
    have q5 := D3.c1 (b := x.heap.size + 1) (s := s2) (v := v2) (by simp)
    go_wp2_with fail
    clear q0 q1 q2 q3 q4 q5
    have cc0 := fun t : Wd (ClsL w [(y1.heap.size, ja, jb), (x.heap.size, s, v), (x.heap.size + 1, s2, v2)]) => t.ok.c0 (b := y1.heap.size) (s := ja) (v := jb) (by simp)
    have cc1 := fun t : Wd (ClsL w [(y1.heap.size, ja, jb), (x.heap.size, s, v), (x.heap.size + 1, s2, v2)]) => t.ok.c1 (b := y1.heap.size) (s := ja) (v := jb) (by simp)
    have cc2 := fun t : Wd (ClsL w [(y1.heap.size, ja, jb), (x.heap.size, s, v), (x.heap.size + 1, s2, v2)]) => t.ok.c0 (b := x.heap.size) (s := s) (v := v) (by simp)
    have cc3 := fun t : Wd (ClsL w [(y1.heap.size, ja, jb), (x.heap.size, s, v), (x.heap.size + 1, s2, v2)]) => t.ok.c1 (b := x.heap.size) (s := s) (v := v) (by simp)
    have cc4 := fun t : Wd (ClsL w [(y1.heap.size, ja, jb), (x.heap.size, s, v), (x.heap.size + 1, s2, v2)]) => t.ok.c0 (b := x.heap.size + 1) (s := s2) (v := v2) (by simp)
    have cc5 := fun t : Wd (ClsL w [(y1.heap.size, ja, jb), (x.heap.size, s, v), (x.heap.size + 1, s2, v2)]) => t.ok.c1 (b := x.heap.size + 1) (s := s2) (v := v2) (by simp)
    have ne : Nonempty (Wd (ClsL w [(y1.heap.size, ja, jb), (x.heap.size, s, v), (x.heap.size + 1, s2, v2)])) := ⟨⟨_, D3.drew⟩⟩
    refine wp_region_quiet (C := fun y => ∃ t : Wd (ClsL w [(y1.heap.size, ja, jb), (x.heap.size, s, v), (x.heap.size + 1, s2, v2)]), y = t.w) (by kernel_rfl) (by kernel_rfl) ⟨⟨_, D3.drew⟩, rfl⟩ ?_
    show wpQuiet _ _ _ _ [_, _, _, _, _, _] _
    repeat (first | go_big_quiet_step ((first | (go_at_call 19; with_reducible exact inCls ClsL.stay (specJoin_val HA.out HB.out _)))) | quiet_step ((first | (go_at_call 19; with_reducible exact inCls ClsL.stay (specJoin_val HA.out HB.out _)))))
    refine wpQuiet_nil ?_
    rintro _ ⟨t4, rfl⟩
    clear ne cc0 cc1 cc2 cc3 cc4 cc5
    obtain ⟨y4, D4⟩ := t4
    clear D3
    dsimp only
    go_wp2
    go_ret
    exact ⟨rfl, D4.1⟩
  cases h2 : okL s2 v2
  · have H1 := Lib.hid h1
    have H2 := Lib.hid h2
    clear h1 h2
    go_wp2_with fail
    clear q0 q1 q2 q3 q4 q5
    have cc0 := fun t : Wd (ClsL w [(y1.heap.size, ja, jb), (x.heap.size, s, v), (x.heap.size + 1, s2, v2)]) => t.ok.c0 (b := y1.heap.size) (s := ja) (v := jb) (by simp)
    have cc1 := fun t : Wd (ClsL w [(y1.heap.size, ja, jb), (x.heap.size, s, v), (x.heap.size + 1, s2, v2)]) => t.ok.c1 (b := y1.heap.size) (s := ja) (v := jb) (by simp)
    have cc2 := fun t : Wd (ClsL w [(y1.heap.size, ja, jb), (x.heap.size, s, v), (x.heap.size + 1, s2, v2)]) => t.ok.c0 (b := x.heap.size) (s := s) (v := v) (by simp)
    have cc3 := fun t : Wd (ClsL w [(y1.heap.size, ja, jb), (x.heap.size, s, v), (x.heap.size + 1, s2, v2)]) => t.ok.c1 (b := x.heap.size) (s := s) (v := v) (by simp)
    have cc4 := fun t : Wd (ClsL w [(y1.heap.size, ja, jb), (x.heap.size, s, v), (x.heap.size + 1, s2, v2)]) => t.ok.c0 (b := x.heap.size + 1) (s := s2) (v := v2) (by simp)
    have cc5 := fun t : Wd (ClsL w [(y1.heap.size, ja, jb), (x.heap.size, s, v), (x.heap.size + 1, s2, v2)]) => t.ok.c1 (b := x.heap.size + 1) (s := s2) (v := v2) (by simp)
    have ne : Nonempty (Wd (ClsL w [(y1.heap.size, ja, jb), (x.heap.size, s, v), (x.heap.size + 1, s2, v2)])) := ⟨⟨_, D2.drew⟩⟩
    refine wp_region_quiet (C := fun y => ∃ t : Wd (ClsL w [(y1.heap.size, ja, jb), (x.heap.size, s, v), (x.heap.size + 1, s2, v2)]), y = t.w) (by kernel_rfl) (by kernel_rfl) ⟨⟨_, D2.drew⟩, rfl⟩ ?_
    show wpQuiet _ _ _ _ [_, _, _, _, _, _, _, _, _, _, _, _, _, _, _] _
    repeat (first | go_big_quiet_step ((first | (go_at_call 19; with_reducible exact inCls ClsL.stay (specJoin_val HA.out HB.out _)) | (go_at_call 15; with_reducible exact inCls ClsL.stay (specOk_val H1.out _)) | (go_at_call 15; with_reducible exact inCls ClsL.stay (specOk_val H2.out _)))) | quiet_step ((first | (go_at_call 19; with_reducible exact inCls ClsL.stay (specJoin_val HA.out HB.out _)) | (go_at_call 15; with_reducible exact inCls ClsL.stay (specOk_val H1.out _)) | (go_at_call 15; with_reducible exact inCls ClsL.stay (specOk_val H2.out _)))))
    refine wpQuiet_nil ?_
    rintro _ ⟨t3, rfl⟩
    clear ne cc0 cc1 cc2 cc3 cc4 cc5
    obtain ⟨y3, D3⟩ := t3
    clear D2
    dsimp only
    have q0 := D3.c0 (b := y1.heap.size) (s := ja) (v := jb) (by simp)
    have q1 := D3.c1 (b := y1.heap.size) (s := ja) (v := jb) (by simp)
    have q2 := D3.c0 (b := x.heap.size) (s := s) (v := v) (by simp)
    have q3 := D3.c1 (b := x.heap.size) (s := s) (v := v) (by simp)
    have q4 := D3.c0 (b := x.heap.size + 1) (s := s2) (v := v2) (by simp)
    have q5 := D3.c1 (b := x.heap.size + 1) (s := s2) (v := v2) (by simp)
    go_wp2_with fail
    clear q0 q1 q2 q3 q4 q5
    have cc0 := fun t : Wd (ClsL w [(y1.heap.size, ja, jb), (x.heap.size, s, v), (x.heap.size + 1, s2, v2)]) => t.ok.c0 (b := y1.heap.size) (s := ja) (v := jb) (by simp)
    have cc1 := fun t : Wd (ClsL w [(y1.heap.size, ja, jb), (x.heap.size, s, v), (x.heap.size + 1, s2, v2)]) => t.ok.c1 (b := y1.heap.size) (s := ja) (v := jb) (by simp)
    have cc2 := fun t : Wd (ClsL w [(y1.heap.size, ja, jb), (x.heap.size, s, v), (x.heap.size + 1, s2, v2)]) => t.ok.c0 (b := x.heap.size) (s := s) (v := v) (by simp)
    have cc3 := fun t : Wd (ClsL w [(y1.heap.size, ja, jb), (x.heap.size, s, v), (x.heap.size + 1, s2, v2)]) => t.ok.c1 (b := x.heap.size) (s := s) (v := v) (by simp)
    have cc4 := fun t : Wd (ClsL w [(y1.heap.size, ja, jb), (x.heap.size, s, v), (x.heap.size + 1, s2, v2)]) => t.ok.c0 (b := x.heap.size + 1) (s := s2) (v := v2) (by simp)
    have cc5 := fun t : Wd (ClsL w [(y1.heap.size, ja, jb), (x.heap.size, s, v), (x.heap.size + 1, s2, v2)]) => t.ok.c1 (b := x.heap.size + 1) (s := s2) (v := v2) (by simp)
    have ne : Nonempty (Wd (ClsL w [(y1.heap.size, ja, jb), (x.heap.size, s, v), (x.heap.size + 1, s2, v2)])) := ⟨⟨_, D3.drew⟩⟩
    refine wp_region_quiet (C := fun y => ∃ t : Wd (ClsL w [(y1.heap.size, ja, jb), (x.heap.size, s, v), (x.heap.size + 1, s2, v2)]), y = t.w) (by kernel_rfl) (by kernel_rfl) ⟨⟨_, D3.drew⟩, rfl⟩ ?_
    show wpQuiet _ _ _ _ [_, _, _, _, _, _] _
    repeat (first | go_big_quiet_step ((first | (go_at_call 19; with_reducible exact inCls ClsL.stay (specJoin_val HA.out HB.out _)))) | quiet_step ((first | (go_at_call 19; with_reducible exact inCls ClsL.stay (specJoin_val HA.out HB.out _)))))
    refine wpQuiet_nil ?_
    rintro _ ⟨t4, rfl⟩
    clear ne cc0 cc1 cc2 cc3 cc4 cc5
    obtain ⟨y4, D4⟩ := t4
    clear D3
    dsimp only
    go_wp2
    go_ret
    exact ⟨rfl, D4.1⟩
  have H1 := Lib.hid h1
  have H2 := Lib.hid h2
  clear h1 h2
  go_wp2_with fail
  clear q0 q1 q2 q3 q4 q5
  have cc0 := fun t : Wd (ClsL w [(y1.heap.size, ja, jb), (x.heap.size, s, v), (x.heap.size + 1, s2, v2)]) => t.ok.c0 (b := y1.heap.size) (s := ja) (v := jb) (by simp)
  have cc1 := fun t : Wd (ClsL w [(y1.heap.size, ja, jb), (x.heap.size, s, v), (x.heap.size + 1, s2, v2)]) => t.ok.c1 (b := y1.heap.size) (s := ja) (v := jb) (by simp)
  have cc2 := fun t : Wd (ClsL w [(y1.heap.size, ja, jb), (x.heap.size, s, v), (x.heap.size + 1, s2, v2)]) => t.ok.c0 (b := x.heap.size) (s := s) (v := v) (by simp)
  have cc3 := fun t : Wd (ClsL w [(y1.heap.size, ja, jb), (x.heap.size, s, v), (x.heap.size + 1, s2, v2)]) => t.ok.c1 (b := x.heap.size) (s := s) (v := v) (by simp)
  have cc4 := fun t : Wd (ClsL w [(y1.heap.size, ja, jb), (x.heap.size, s, v), (x.heap.size + 1, s2, v2)]) => t.ok.c0 (b := x.heap.size + 1) (s := s2) (v := v2) (by simp)
  have cc5 := fun t : Wd (ClsL w [(y1.heap.size, ja, jb), (x.heap.size, s, v), (x.heap.size + 1, s2, v2)]) => t.ok.c1 (b := x.heap.size + 1) (s := s2) (v := v2) (by simp)
  have ne : Nonempty (Wd (ClsL w [(y1.heap.size, ja, jb), (x.heap.size, s, v), (x.heap.size + 1, s2, v2)])) := ⟨⟨_, D2.drew⟩⟩
  refine wp_region_quiet (C := fun y => ∃ t : Wd (ClsL w [(y1.heap.size, ja, jb), (x.heap.size, s, v), (x.heap.size + 1, s2, v2)]), y = t.w) (by kernel_rfl) (by kernel_rfl) ⟨⟨_, D2.drew⟩, rfl⟩ ?_
  show wpQuiet _ _ _ _ [_, _, _, _, _, _, _, _, _, _, _, _, _, _, _] _
  repeat (first | go_big_quiet_step ((first | (go_at_call 19; with_reducible exact inCls ClsL.stay (specJoin_val HA.out HB.out _)) | (go_at_call 15; with_reducible exact inCls ClsL.stay (specOk_val H1.out _)) | (go_at_call 15; with_reducible exact inCls ClsL.stay (specOk_val H2.out _)))) | quiet_step ((first | (go_at_call 19; with_reducible exact inCls ClsL.stay (specJoin_val HA.out HB.out _)) | (go_at_call 15; with_reducible exact inCls ClsL.stay (specOk_val H1.out _)) | (go_at_call 15; with_reducible exact inCls ClsL.stay (specOk_val H2.out _)))))
  refine wpQuiet_nil ?_
  rintro _ ⟨t3, rfl⟩
  clear ne cc0 cc1 cc2 cc3 cc4 cc5
  obtain ⟨y3, D3⟩ := t3
  clear D2
  dsimp only
  have q0 := D3.c0 (b := y1.heap.size) (s := ja) (v := jb) (by simp)
  have q1 := D3.c1 (b := y1.heap.size) (s := ja) (v := jb) (by simp)
  have q2 := D3.c0 (b := x.heap.size) (s := s) (v := v) (by simp)
  have q3 := D3.c1 (b := x.heap.size) (s := s) (v := v) (by simp)
  have q4 := D3.c0 (b := x.heap.size + 1) (s := s2) (v := v2) (by simp)
  have q5 := D3.c1 (b := x.heap.size + 1) (s := s2) (v := v2) (by simp)
  go_wp2_with fail
  refine (ldLabel_any len1 _ (by unfold maxLen; omega)).mono ?_
  rintro e y4 ⟨rfl, hb4⟩
  have D4 := D3.stay hb4
  clear q0 q1 q2 q3 q4 q5
  clear hb4 D3
  have D5 := D4.new (((len1 : Int) % 4)) (((len1 : Int) / 4 % 4))
  clear D4
  have q0 := D5.c0 (b := y4.heap.size) (s := ((len1 : Int) % 4)) (v := ((len1 : Int) / 4 % 4)) (by simp)
  have q1 := D5.c1 (b := y4.heap.size) (s := ((len1 : Int) % 4)) (v := ((len1 : Int) / 4 % 4)) (by simp)
  have q2 := D5.c0 (b := y1.heap.size) (s := ja) (v := jb) (by simp)
  have q3 := D5.c1 (b := y1.heap.size) (s := ja) (v := jb) (by simp)
  have q4 := D5.c0 (b := x.heap.size) (s := s) (v := v) (by simp)
  have q5 := D5.c1 (b := x.heap.size) (s := s) (v := v) (by simp)
  have q6 := D5.c0 (b := x.heap.size + 1) (s := s2) (v := v2) (by simp)
  have q7 := D5.c1 (b := x.heap.size + 1) (s := s2) (v := v2) (by simp)
  obtain ⟨c1, c2⟩ : 0 ≤ (len1 : Int) % 4 ∧ (len1 : Int) % 4 ≤ 3 := by omega
  obtain ⟨c3, c4⟩ : 0 ≤ (len1 : Int) / 4 % 4 ∧ (len1 : Int) / 4 % 4 ≤ 3 := by omega
  generalize (len1 : Int) % 4 = cs at *
  generalize (len1 : Int) / 4 % 4 = cv at *
  have H3 := Lib.hid (okL_of c1 c2 c3 c4)
  clear c1 c2 c3 c4
  obtain ⟨i1, i2⟩ := join_eq H1.out H2.out
  rw [HA.out] at i1
  rw [HB.out] at i2
  have F1 := Lib.hid (show flow s v ja jb = true by rw [i1, i2]; exact (join_up H1.out H2.out).1)
  have F2 := Lib.hid (show flow s2 v2 ja jb = true by rw [i1, i2]; exact (join_up H1.out H2.out).2)
  have F3 := Lib.hid (show flow ja jb cs cv = (flow s v cs cv && flow s2 v2 cs cv) by rw [i1, i2]; exact join_least H1.out H2.out H3.out)
  have C1 := Lib.hid (show jn1 s2 v2 s v = ja by rw [(join_eq H2.out H1.out).1, i1, or2_comm])
  have C2 := Lib.hid (show jn2 s2 v2 s v = jb by rw [(join_eq H2.out H1.out).2, i2, and2_comm])
  have S1 := Lib.hid (show jn1 s v s v = s by rw [(join_eq H1.out H1.out).1, or2_self (okL1 H1.out)])
  have S2 := Lib.hid (show jn2 s v s v = v by rw [(join_eq H1.out H1.out).2, and2_self (okL2 H1.out)])
  clear i1 i2
  cases fa : flow s v cs cv
  · have FA := Lib.hid fa
    have F4 := Lib.hid (show flow ja jb cs cv = false by rw [F3.out, fa, Bool.false_and])
    clear fa
    go_wp2_with fail
    refine (implFlow_val FA.out _).mono ?_
    rintro e y6 ⟨rfl, hb6⟩
    have D6 := D5.stay hb6
    clear q0 q1 q2 q3 q4 q5 q6 q7
    clear hb6 D5
    have q0 := D6.c0 (b := y4.heap.size) (s := cs) (v := cv) (by simp)
    have q1 := D6.c1 (b := y4.heap.size) (s := cs) (v := cv) (by simp)
    have q2 := D6.c0 (b := y1.heap.size) (s := ja) (v := jb) (by simp)
    have q3 := D6.c1 (b := y1.heap.size) (s := ja) (v := jb) (by simp)
    have q4 := D6.c0 (b := x.heap.size) (s := s) (v := v) (by simp)
    have q5 := D6.c1 (b := x.heap.size) (s := s) (v := v) (by simp)
    have q6 := D6.c0 (b := x.heap.size + 1) (s := s2) (v := v2) (by simp)
    have q7 := D6.c1 (b := x.heap.size + 1) (s := s2) (v := v2) (by simp)
    go_wp2_with fail
    clear q0 q1 q2 q3 q4 q5 q6 q7
    have cc0 := fun t : Wd (ClsL w [(y4.heap.size, cs, cv), (y1.heap.size, ja, jb), (x.heap.size, s, v), (x.heap.size + 1, s2, v2)]) => t.ok.c0 (b := y4.heap.size) (s := cs) (v := cv) (by simp)
    have cc1 := fun t : Wd (ClsL w [(y4.heap.size, cs, cv), (y1.heap.size, ja, jb), (x.heap.size, s, v), (x.heap.size + 1, s2, v2)]) => t.ok.c1 (b := y4.heap.size) (s := cs) (v := cv) (by simp)
    have cc2 := fun t : Wd (ClsL w [(y4.heap.size, cs, cv), (y1.heap.size, ja, jb), (x.heap.size, s, v), (x.heap.size + 1, s2, v2)]) => t.ok.c0 (b := y1.heap.size) (s := ja) (v := jb) (by simp)
    have cc3 := fun t : Wd (ClsL w [(y4.heap.size, cs, cv), (y1.heap.size, ja, jb), (x.heap.size, s, v), (x.heap.size + 1, s2, v2)]) => t.ok.c1 (b := y1.heap.size) (s := ja) (v := jb) (by simp)
    have cc4 := fun t : Wd (ClsL w [(y4.heap.size, cs, cv), (y1.heap.size, ja, jb), (x.heap.size, s, v), (x.heap.size + 1, s2, v2)]) => t.ok.c0 (b := x.heap.size) (s := s) (v := v) (by simp)
    have cc5 := fun t : Wd (ClsL w [(y4.heap.size, cs, cv), (y1.heap.size, ja, jb), (x.heap.size, s, v), (x.heap.size + 1, s2, v2)]) => t.ok.c1 (b := x.heap.size) (s := s) (v := v) (by simp)
    have cc6 := fun t : Wd (ClsL w [(y4.heap.size, cs, cv), (y1.heap.size, ja, jb), (x.heap.size, s, v), (x.heap.size + 1, s2, v2)]) => t.ok.c0 (b := x.heap.size + 1) (s := s2) (v := v2) (by simp)
    have cc7 := fun t : Wd (ClsL w [(y4.heap.size, cs, cv), (y1.heap.size, ja, jb), (x.heap.size, s, v), (x.heap.size + 1, s2, v2)]) => t.ok.c1 (b := x.heap.size + 1) (s := s2) (v := v2) (by simp)
    have ne : Nonempty (Wd (ClsL w [(y4.heap.size, cs, cv), (y1.heap.size, ja, jb), (x.heap.size, s, v), (x.heap.size + 1, s2, v2)])) := ⟨⟨_, D6.drew⟩⟩
    refine wp_region_quiet (C := fun y => ∃ t : Wd (ClsL w [(y4.heap.size, cs, cv), (y1.heap.size, ja, jb), (x.heap.size, s, v), (x.heap.size + 1, s2, v2)]), y = t.w) (by kernel_rfl) (by kernel_rfl) ⟨⟨_, D6.drew⟩, rfl⟩ ?_
    show wpQuiet _ _ _ _ [_, _, _, _, _, _, _, _, _, _, _, _, _, _, _, _, _, _, _, _, _, _, _, _, _, _, _, _, _, _] _
    repeat (first | go_big_quiet_step ((first | (go_at_call 13; with_reducible exact inCls ClsL.stay (implFlow_val F1.out _)) | (go_at_call 13; with_reducible exact inCls ClsL.stay (implFlow_val F2.out _)) | (go_at_call 13; with_reducible exact inCls ClsL.stay (implFlow_val F4.out _)) | (go_at_call 18; with_reducible exact inCls ClsL.stay (implJoin_val C1.out C2.out _)) | (go_at_call 18; with_reducible exact inCls ClsL.stay (implJoin_val S1.out S2.out _)))) | quiet_step ((first | (go_at_call 13; with_reducible exact inCls ClsL.stay (implFlow_val F1.out _)) | (go_at_call 13; with_reducible exact inCls ClsL.stay (implFlow_val F2.out _)) | (go_at_call 13; with_reducible exact inCls ClsL.stay (implFlow_val F4.out _)) | (go_at_call 18; with_reducible exact inCls ClsL.stay (implJoin_val C1.out C2.out _)) | (go_at_call 18; with_reducible exact inCls ClsL.stay (implJoin_val S1.out S2.out _)))))
    refine wpQuiet_nil ?_
    rintro _ ⟨t7, rfl⟩
    clear ne cc0 cc1 cc2 cc3 cc4 cc5 cc6 cc7
    obtain ⟨y7, D7⟩ := t7
    clear D6
    dsimp only
    go_wp2
    go_ret
    exact ⟨rfl, D7.1⟩
  cases fb : flow s2 v2 cs cv
  · have FA := Lib.hid fa
    have FB := Lib.hid fb
    have F4 := Lib.hid (show flow ja jb cs cv = false by rw [F3.out, fa, fb]; rfl)
    clear fa fb
    go_wp2_with fail
    refine (implFlow_val FA.out _).mono ?_
    rintro e y6 ⟨rfl, hb6⟩
    have D6 := D5.stay hb6
    clear q0 q1 q2 q3 q4 q5 q6 q7
    clear hb6 D5
    have q0 := D6.c0 (b := y4.heap.size) (s := cs) (v := cv) (by simp)
    have q1 := D6.c1 (b := y4.heap.size) (s := cs) (v := cv) (by simp)
    have q2 := D6.c0 (b := y1.heap.size) (s := ja) (v := jb) (by simp)
    have q3 := D6.c1 (b := y1.heap.size) (s := ja) (v := jb) (by simp)
    have q4 := D6.c0 (b := x.heap.size) (s := s) (v := v) (by simp)
    have q5 := D6.c1 (b := x.heap.size) (s := s) (v := v) (by simp)
    have q6 := D6.c0 (b := x.heap.size + 1) (s := s2) (v := v2) (by simp)
    have q7 := D6.c1 (b := x.heap.size + 1) (s := s2) (v := v2) (by simp)
    go_wp2_with fail
    refine (implFlow_val FB.out _).mono ?_
    rintro e y7 ⟨rfl, hb7⟩
    have D7 := D6.stay hb7
    clear q0 q1 q2 q3 q4 q5 q6 q7
    clear hb7 D6
    have q0 := D7.c0 (b := y4.heap.size) (s := cs) (v := cv) (by simp)
    have q1 := D7.c1 (b := y4.heap.size) (s := cs) (v := cv) (by simp)
    have q2 := D7.c0 (b := y1.heap.size) (s := ja) (v := jb) (by simp)
    have q3 := D7.c1 (b := y1.heap.size) (s := ja) (v := jb) (by simp)
    have q4 := D7.c0 (b := x.heap.size) (s := s) (v := v) (by simp)
    have q5 := D7.c1 (b := x.heap.size) (s := s) (v := v) (by simp)
    have q6 := D7.c0 (b := x.heap.size + 1) (s := s2) (v := v2) (by simp)
    have q7 := D7.c1 (b := x.heap.size + 1) (s := s2) (v := v2) (by simp)
    go_wp2_with fail
    clear q0 q1 q2 q3 q4 q5 q6 q7
    have cc0 := fun t : Wd (ClsL w [(y4.heap.size, cs, cv), (y1.heap.size, ja, jb), (x.heap.size, s, v), (x.heap.size + 1, s2, v2)]) => t.ok.c0 (b := y4.heap.size) (s := cs) (v := cv) (by simp)
    have cc1 := fun t : Wd (ClsL w [(y4.heap.size, cs, cv), (y1.heap.size, ja, jb), (x.heap.size, s, v), (x.heap.size + 1, s2, v2)]) => t.ok.c1 (b := y4.heap.size) (s := cs) (v := cv) (by simp)
    have cc2 := fun t : Wd (ClsL w [(y4.heap.size, cs, cv), (y1.heap.size, ja, jb), (x.heap.size, s, v), (x.heap.size + 1, s2, v2)]) => t.ok.c0 (b := y1.heap.size) (s := ja) (v := jb) (by simp)
    have cc3 := fun t : Wd (ClsL w [(y4.heap.size, cs, cv), (y1.heap.size, ja, jb), (x.heap.size, s, v), (x.heap.size + 1, s2, v2)]) => t.ok.c1 (b := y1.heap.size) (s := ja) (v := jb) (by simp)
    have cc4 := fun t : Wd (ClsL w [(y4.heap.size, cs, cv), (y1.heap.size, ja, jb), (x.heap.size, s, v), (x.heap.size + 1, s2, v2)]) => t.ok.c0 (b := x.heap.size) (s := s) (v := v) (by simp)
    have cc5 := fun t : Wd (ClsL w [(y4.heap.size, cs, cv), (y1.heap.size, ja, jb), (x.heap.size, s, v), (x.heap.size + 1, s2, v2)]) => t.ok.c1 (b := x.heap.size) (s := s) (v := v) (by simp)
    have cc6 := fun t : Wd (ClsL w [(y4.heap.size, cs, cv), (y1.heap.size, ja, jb), (x.heap.size, s, v), (x.heap.size + 1, s2, v2)]) => t.ok.c0 (b := x.heap.size + 1) (s := s2) (v := v2) (by simp)
    have cc7 := fun t : Wd (ClsL w [(y4.heap.size, cs, cv), (y1.heap.size, ja, jb), (x.heap.size, s, v), (x.heap.size + 1, s2, v2)]) => t.ok.c1 (b := x.heap.size + 1) (s := s2) (v := v2) (by simp)
    have ne : Nonempty (Wd (ClsL w [(y4.heap.size, cs, cv), (y1.heap.size, ja, jb), (x.heap.size, s, v), (x.heap.size + 1, s2, v2)])) := ⟨⟨_, D7.drew⟩⟩
    refine wp_region_quiet (C := fun y => ∃ t : Wd (ClsL w [(y4.heap.size, cs, cv), (y1.heap.size, ja, jb), (x.heap.size, s, v), (x.heap.size + 1, s2, v2)]), y = t.w) (by kernel_rfl) (by kernel_rfl) ⟨⟨_, D7.drew⟩, rfl⟩ ?_
    show wpQuiet _ _ _ _ [_, _, _, _, _, _, _, _, _, _, _, _, _, _, _, _, _, _, _, _, _, _, _, _, _, _, _, _, _, _] _
    repeat (first | go_big_quiet_step ((first | (go_at_call 13; with_reducible exact inCls ClsL.stay (implFlow_val F1.out _)) | (go_at_call 13; with_reducible exact inCls ClsL.stay (implFlow_val F2.out _)) | (go_at_call 13; with_reducible exact inCls ClsL.stay (implFlow_val F4.out _)) | (go_at_call 18; with_reducible exact inCls ClsL.stay (implJoin_val C1.out C2.out _)) | (go_at_call 18; with_reducible exact inCls ClsL.stay (implJoin_val S1.out S2.out _)))) | quiet_step ((first | (go_at_call 13; with_reducible exact inCls ClsL.stay (implFlow_val F1.out _)) | (go_at_call 13; with_reducible exact inCls ClsL.stay (implFlow_val F2.out _)) | (go_at_call 13; with_reducible exact inCls ClsL.stay (implFlow_val F4.out _)) | (go_at_call 18; with_reducible exact inCls ClsL.stay (implJoin_val C1.out C2.out _)) | (go_at_call 18; with_reducible exact inCls ClsL.stay (implJoin_val S1.out S2.out _)))))
    refine wpQuiet_nil ?_
    rintro _ ⟨t8, rfl⟩
    clear ne cc0 cc1 cc2 cc3 cc4 cc5 cc6 cc7
    obtain ⟨y8, D8⟩ := t8
    clear D7
    dsimp only
    go_wp2
    go_ret
    exact ⟨rfl, D8.1⟩
  · have FA := Lib.hid fa
    have FB := Lib.hid fb
    have F4 := Lib.hid (show flow ja jb cs cv = true by rw [F3.out, fa, fb]; rfl)
    clear fa fb
    go_wp2_with fail
    refine (implFlow_val FA.out _).mono ?_
    rintro e y6 ⟨rfl, hb6⟩
    have D6 := D5.stay hb6
    clear q0 q1 q2 q3 q4 q5 q6 q7
    clear hb6 D5
    have q0 := D6.c0 (b := y4.heap.size) (s := cs) (v := cv) (by simp)
    have q1 := D6.c1 (b := y4.heap.size) (s := cs) (v := cv) (by simp)
    have q2 := D6.c0 (b := y1.heap.size) (s := ja) (v := jb) (by simp)
    have q3 := D6.c1 (b := y1.heap.size) (s := ja) (v := jb) (by simp)
    have q4 := D6.c0 (b := x.heap.size) (s := s) (v := v) (by simp)
    have q5 := D6.c1 (b := x.heap.size) (s := s) (v := v) (by simp)
    have q6 := D6.c0 (b := x.heap.size + 1) (s := s2) (v := v2) (by simp)
    have q7 := D6.c1 (b := x.heap.size + 1) (s := s2) (v := v2) (by simp)
    go_wp2_with fail
    refine (implFlow_val FB.out _).mono ?_
    rintro e y7 ⟨rfl, hb7⟩
    have D7 := D6.stay hb7
    clear q0 q1 q2 q3 q4 q5 q6 q7
    clear hb7 D6
    have q0 := D7.c0 (b := y4.heap.size) (s := cs) (v := cv) (by simp)
    have q1 := D7.c1 (b := y4.heap.size) (s := cs) (v := cv) (by simp)
    have q2 := D7.c0 (b := y1.heap.size) (s := ja) (v := jb) (by simp)
    have q3 := D7.c1 (b := y1.heap.size) (s := ja) (v := jb) (by simp)
    have q4 := D7.c0 (b := x.heap.size) (s := s) (v := v) (by simp)
    have q5 := D7.c1 (b := x.heap.size) (s := s) (v := v) (by simp)
    have q6 := D7.c0 (b := x.heap.size + 1) (s := s2) (v := v2) (by simp)
    have q7 := D7.c1 (b := x.heap.size + 1) (s := s2) (v := v2) (by simp)
    go_wp2_with fail
    clear q0 q1 q2 q3 q4 q5 q6 q7
    have cc0 := fun t : Wd (ClsL w [(y4.heap.size, cs, cv), (y1.heap.size, ja, jb), (x.heap.size, s, v), (x.heap.size + 1, s2, v2)]) => t.ok.c0 (b := y4.heap.size) (s := cs) (v := cv) (by simp)
    have cc1 := fun t : Wd (ClsL w [(y4.heap.size, cs, cv), (y1.heap.size, ja, jb), (x.heap.size, s, v), (x.heap.size + 1, s2, v2)]) => t.ok.c1 (b := y4.heap.size) (s := cs) (v := cv) (by simp)
    have cc2 := fun t : Wd (ClsL w [(y4.heap.size, cs, cv), (y1.heap.size, ja, jb), (x.heap.size, s, v), (x.heap.size + 1, s2, v2)]) => t.ok.c0 (b := y1.heap.size) (s := ja) (v := jb) (by simp)
    have cc3 := fun t : Wd (ClsL w [(y4.heap.size, cs, cv), (y1.heap.size, ja, jb), (x.heap.size, s, v), (x.heap.size + 1, s2, v2)]) => t.ok.c1 (b := y1.heap.size) (s := ja) (v := jb) (by simp)
    have cc4 := fun t : Wd (ClsL w [(y4.heap.size, cs, cv), (y1.heap.size, ja, jb), (x.heap.size, s, v), (x.heap.size + 1, s2, v2)]) => t.ok.c0 (b := x.heap.size) (s := s) (v := v) (by simp)
    have cc5 := fun t : Wd (ClsL w [(y4.heap.size, cs, cv), (y1.heap.size, ja, jb), (x.heap.size, s, v), (x.heap.size + 1, s2, v2)]) => t.ok.c1 (b := x.heap.size) (s := s) (v := v) (by simp)
    have cc6 := fun t : Wd (ClsL w [(y4.heap.size, cs, cv), (y1.heap.size, ja, jb), (x.heap.size, s, v), (x.heap.size + 1, s2, v2)]) => t.ok.c0 (b := x.heap.size + 1) (s := s2) (v := v2) (by simp)
    have cc7 := fun t : Wd (ClsL w [(y4.heap.size, cs, cv), (y1.heap.size, ja, jb), (x.heap.size, s, v), (x.heap.size + 1, s2, v2)]) => t.ok.c1 (b := x.heap.size + 1) (s := s2) (v := v2) (by simp)
    have ne : Nonempty (Wd (ClsL w [(y4.heap.size, cs, cv), (y1.heap.size, ja, jb), (x.heap.size, s, v), (x.heap.size + 1, s2, v2)])) := ⟨⟨_, D7.drew⟩⟩
    refine wp_region_quiet (C := fun y => ∃ t : Wd (ClsL w [(y4.heap.size, cs, cv), (y1.heap.size, ja, jb), (x.heap.size, s, v), (x.heap.size + 1, s2, v2)]), y = t.w) (by kernel_rfl) (by kernel_rfl) ⟨⟨_, D7.drew⟩, rfl⟩ ?_
    show wpQuiet _ _ _ _ [_, _, _, _, _, _, _, _, _, _, _, _, _, _, _, _, _, _, _, _, _, _, _, _, _, _, _, _, _, _] _
    repeat (first | go_big_quiet_step ((first | (go_at_call 13; with_reducible exact inCls ClsL.stay (implFlow_val F1.out _)) | (go_at_call 13; with_reducible exact inCls ClsL.stay (implFlow_val F2.out _)) | (go_at_call 13; with_reducible exact inCls ClsL.stay (implFlow_val F4.out _)) | (go_at_call 18; with_reducible exact inCls ClsL.stay (implJoin_val C1.out C2.out _)) | (go_at_call 18; with_reducible exact inCls ClsL.stay (implJoin_val S1.out S2.out _)))) | quiet_step ((first | (go_at_call 13; with_reducible exact inCls ClsL.stay (implFlow_val F1.out _)) | (go_at_call 13; with_reducible exact inCls ClsL.stay (implFlow_val F2.out _)) | (go_at_call 13; with_reducible exact inCls ClsL.stay (implFlow_val F4.out _)) | (go_at_call 18; with_reducible exact inCls ClsL.stay (implJoin_val C1.out C2.out _)) | (go_at_call 18; with_reducible exact inCls ClsL.stay (implJoin_val S1.out S2.out _)))))
    refine wpQuiet_nil ?_
    rintro _ ⟨t8, rfl⟩
    clear ne cc0 cc1 cc2 cc3 cc4 cc5 cc6 cc7
    obtain ⟨y8, D8⟩ := t8
    clear D7
    dsimp only
    go_wp2
    go_ret
    exact ⟨rfl, D8.1⟩
end Go.Proofs.Ytiooefcdlemodaa
