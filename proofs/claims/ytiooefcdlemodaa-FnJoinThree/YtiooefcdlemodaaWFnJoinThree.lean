/-
  The walk of laws.FnJoinThree.
-/
import Derived.Test.YtiooefcdlemodaaDrawM
import Derived.Test.YtiooefcdlemodaaCls
namespace Go.Proofs.Ytiooefcdlemodaa
open Go.RowKit
set_option linter.unusedVariables false

set_option maxHeartbeats 2000000 in
theorem walk_FnJoinThree (a0 : Option Addr) (len0 cap0 : Nat) (z0 : List Int) (a1 : Option Addr) (len1 cap1 : Nat) (z1 : List Int) (w : World) (w0 : IsRow .u8 w a0 len0 cap0 z0) (w1 : IsRow .u8 w a1 len1 cap1 z1) :
    Calls Try.prog 7 #[.slice a0 len0 cap0, .slice a1 len1 cap1] w fun e w' => e = .returned (.bool true) ∧ Below w.heap.size w w' := by
  by_cases g0 : (1048576 : Int) < (len0 : Int)
  · go_enter Try.func7, Try.ntmps7
    go_wp2
    go_ret
    exact ⟨rfl, Below.refl _ _⟩
  by_cases g1 : (1048576 : Int) < (len1 : Int)
  · go_enter Try.func7, Try.ntmps7
    go_wp2
    go_ret
    exact ⟨rfl, Below.refl _ _⟩
  have W0 := Lib.hid w0
  clear w0 w1
  go_enter Try.func7, Try.ntmps7
  go_wp2_with fail
  refine (drawJoin_any a0 len0 cap0 z0 _ W0.out).mono ?_
  rintro e x ⟨s, v, s2, v2, rfl, hx⟩
  clear W0
  have D0 := (ClsL.start hx).new2 s v s2 v2
  clear hx
  obtain ⟨ja, hja⟩ : ∃ a, jn1 s v s2 v2 = a := ⟨_, rfl⟩
  obtain ⟨jb, hjb⟩ : ∃ a, jn2 s v s2 v2 = a := ⟨_, rfl⟩
  have HA := Lib.hid hja
  have HB := Lib.hid hjb
  clear hja hjb
  go_wp2_with fail
  refine (implJoin_val HA.out HB.out _).mono ?_
  rintro e y1 ⟨rfl, hb1⟩
  have D1 := D0.stay hb1
  clear hb1 D0
  have D2 := D1.new (ja) (jb)
  clear D1
  have q0 := D2.c0 (b := y1.heap.size) (s := ja) (v := jb) (by simp)
  have q1 := D2.c1 (b := y1.heap.size) (s := ja) (v := jb) (by simp)
  have q2 := D2.c0 (b := x.heap.size) (s := s) (v := v) (by simp)
  have q3 := D2.c1 (b := x.heap.size) (s := s) (v := v) (by simp)
  have q4 := D2.c0 (b := x.heap.size + 1) (s := s2) (v := v2) (by simp)
  have q5 := D2.c1 (b := x.heap.size + 1) (s := s2) (v := v2) (by simp)
  cases h1 : okL s v
  · have H1 := Lib.hid h1
    clear h1
    go_wp2_with fail
    clear q0 q1 q2 q3 q4 q5
    have cc0 := fun t : Wd (ClsL w [(y1.heap.size, ja, jb), (x.heap.size, s, v), (x.heap.size + 1, s2, v2)]) => t.ok.c0 (b := y1.heap.size) (s := ja) (v := jb) (by simp)
    have cc1 := fun t : Wd (ClsL w [(y1.heap.size, ja, jb), (x.heap.size, s, v), (x.heap.size + 1, s2, v2)]) => t.ok.c1 (b := y1.heap.size) (s := ja) (v := jb) (by simp)
    have cc2 := fun t : Wd (ClsL w [(y1.heap.size, ja, jb), (x.heap.size, s, v), (x.heap.size + 1, s2, v2)]) => t.ok.c0 (b := x.heap.size) (s := s) (v := v) (by simp)
    have cc3 := fun t : Wd (ClsL w [(y1.heap.size, ja, jb), (x.heap.size, s, v), (x.heap.size + 1, s2, v2)]) => t.ok.c1 (b := x.heap.size) (s := s) (v := v) (by simp)
    have cc4 := fun t : Wd (ClsL w [(y1.heap.size, ja, jb), (x.heap.size, s, v), (x.heap.size + 1, s2, v2)]) => t.ok.c0 (b := x.heap.size + 1) (s := s2) (v := v2) (by simp)
    have cc5 := fun t : Wd (ClsL w [(y1.heap.size, ja, jb), (x.heap.size, s, v), (x.heap.size + 1, s2, v2)]) => t.ok.c1 (b := x.heap.size + 1) (s := s2) (v := v2) (by simp)
    have ne : Nonempty (Wd (ClsL w [(y1.heap.size, ja, jb), (x.heap.size, s, v), (x.heap.size + 1, s2, v2)])) := ⟨⟨_, D2.drew⟩⟩
    refine wp_region_quiet (C := fun y => ∃ t : Wd (ClsL w [(y1.heap.size, ja, jb), (x.heap.size, s, v), (x.heap.size + 1, s2, v2)]), y = t.w) (by kernel_rfl) (by kernel_rfl) ⟨⟨_, D2.drew⟩, rfl⟩ ?_
    show wpQuiet _ _ _ _ [_, _, _, _, _, _, _, _, _, _, _, _, _, _, _] _
    repeat (first | go_big_quiet_step ((first | (go_at_call 19; with_reducible exact inCls ClsL.stay (specJoin_val HA.out HB.out _)) | (go_at_call 15; with_reducible exact inCls ClsL.stay (specOk_val H1.out _)))) | quiet_step ((first | (go_at_call 19; with_reducible exact inCls ClsL.stay (specJoin_val HA.out HB.out _)) | (go_at_call 15; with_reducible exact inCls ClsL.stay (specOk_val H1.out _)))))
    refine wpQuiet_nil ?_
    rintro _ ⟨t3, rfl⟩
    clear ne cc0 cc1 cc2 cc3 cc4 cc5
    obtain ⟨y3, D3⟩ := t3
    clear D2
    dsimp only
    have q0 := D3.c0 (b := y1.heap.size) (s := ja) (v := jb) (by simp)
    have q1 := D3.c1 (b := y1.heap.size) (s := ja) (v := jb) (by simp)
    have q2 := D3.c0 (b := x.heap.size) (s := s) (v := v) (by simp)
    have q3 := D3.c1 (b := x.heap.size) (s := s) (v := v) (by simp)
    have q4 := D3.c0 (b := x.heap.size + 1) (s := s2) (v := v2) (by simp)
    have q5 := D3.c1 (b := x.heap.size + 1) (s := s2) (v := v2) (by simp)
    go_wp2_with fail
    clear q0 q1 q2 q3 q4 q5
    have cc0 := fun t : Wd (ClsL w [(y1.heap.size, ja, jb), (x.heap.size, s, v), (x.heap.size + 1, s2, v2)]) => t.ok.c0 (b := y1.heap.size) (s := ja) (v := jb) (by simp)
    have cc1 := fun t : Wd (ClsL w [(y1.heap.size, ja, jb), (x.heap.size, s, v), (x.heap.size + 1, s2, v2)]) => t.ok.c1 (b := y1.heap.size) (s := ja) (v := jb) (by simp)
    have cc2 := fun t : Wd (ClsL w [(y1.heap.size, ja, jb), (x.heap.size, s, v), (x.heap.size + 1, s2, v2)]) => t.ok.c0 (b := x.heap.size) (s := s) (v := v) (by simp)
    have cc3 := fun t : Wd (ClsL w [(y1.heap.size, ja, jb), (x.heap.size, s, v), (x.heap.size + 1, s2, v2)]) => t.ok.c1 (b := x.heap.size) (s := s) (v := v) (by simp)
    have cc4 := fun t : Wd (ClsL w [(y1.heap.size, ja, jb), (x.heap.size, s, v), (x.heap.size + 1, s2, v2)]) => t.ok.c0 (b := x.heap.size + 1) (s := s2) (v := v2) (by simp)
    have cc5 := fun t : Wd (ClsL w [(y1.heap.size, ja, jb), (x.heap.size, s, v), (x.heap.size + 1, s2, v2)]) => t.ok.c1 (b := x.heap.size + 1) (s := s2) (v := v2) (by simp)
    have ne : Nonempty (Wd (ClsL w [(y1.heap.size, ja, jb), (x.heap.size, s, v), (x.heap.size + 1, s2, v2)])) := ⟨⟨_, D3.drew⟩⟩
    refine wp_region_quiet (C := fun y => ∃ t : Wd (ClsL w [(y1.heap.size, ja, jb), (x.heap.size, s, v), (x.heap.size + 1, s2, v2)]), y = t.w) (by kernel_rfl) (by kernel_rfl) ⟨⟨_, D3.drew⟩, rfl⟩ ?_
    show wpQuiet _ _ _ _ [_, _, _, _, _, _] _
    repeat (first | go_big_quiet_step ((first | (go_at_call 19; with_reducible exact inCls ClsL.stay (specJoin_val HA.out HB.out _)))) | quiet_step ((first | (go_at_call 19; with_reducible exact inCls ClsL.stay (specJoin_val HA.out HB.out _)))))
    refine wpQuiet_nil ?_
    rintro _ ⟨t4, rfl⟩
    clear ne cc0 cc1 cc2 cc3 cc4 cc5
    obtain ⟨y4, D4⟩ := t4
    clear D3
    dsimp only
    go_wp2
    go_ret
    exact ⟨rfl, D4.1⟩
  cases h2 : okL s2 v2
  · have H1 := Lib.hid h1
    have H2 := Lib.hid h2
    clear h1 h2
    go_wp2_with fail
    clear q0 q1 q2 q3 q4 q5
    have cc0 := fun t : Wd (ClsL w [(y1.heap.size, ja, jb), (x.heap.size, s, v), (x.heap.size + 1, s2, v2)]) => t.ok.c0 (b := y1.heap.size) (s := ja) (v := jb) (by simp)
    have cc1 := fun t : Wd (ClsL w [(y1.heap.size, ja, jb), (x.heap.size, s, v), (x.heap.size + 1, s2, v2)]) => t.ok.c1 (b := y1.heap.size) (s := ja) (v := jb) (by simp)
    have cc2 := fun t : Wd (ClsL w [(y1.heap.size, ja, jb), (x.heap.size, s, v), (x.heap.size + 1, s2, v2)]) => t.ok.c0 (b := x.heap.size) (s := s) (v := v) (by simp)
    have cc3 := fun t : Wd (ClsL w [(y1.heap.size, ja, jb), (x.heap.size, s, v), (x.heap.size + 1, s2, v2)]) => t.ok.c1 (b := x.heap.size) (s := s) (v := v) (by simp)
    have cc4 := fun t : Wd (ClsL w [(y1.heap.size, ja, jb), (x.heap.size, s, v), (x.heap.size + 1, s2, v2)]) => t.ok.c0 (b := x.heap.size + 1) (s := s2) (v := v2) (by simp)
    have cc5 := fun t : Wd (ClsL w [(y1.heap.size, ja, jb), (x.heap.size, s, v), (x.heap.size + 1, s2, v2)]) => t.ok.c1 (b := x.heap.size + 1) (s := s2) (v := v2) (by simp)
    have ne : Nonempty (Wd (ClsL w [(y1.heap.size, ja, jb), (x.heap.size, s, v), (x.heap.size + 1, s2, v2)])) := ⟨⟨_, D2.drew⟩⟩
    refine wp_region_quiet (C := fun y => ∃ t : Wd (ClsL w [(y1.heap.size, ja, jb), (x.heap.size, s, v), (x.heap.size + 1, s2, v2)]), y = t.w) (by kernel_rfl) (by kernel_rfl) ⟨⟨_, D2.drew⟩, rfl⟩ ?_
    show wpQuiet _ _ _ _ [_, _, _, _, _, _, _, _, _, _, _, _, _, _, _] _
    repeat (first | go_big_quiet_step ((first | (go_at_call 19; with_reducible exact inCls ClsL.stay (specJoin_val HA.out HB.out _)) | (go_at_call 15; with_reducible exact inCls ClsL.stay (specOk_val H1.out _)) | (go_at_call 15; with_reducible exact inCls ClsL.stay (specOk_val H2.out _)))) | quiet_step ((first | (go_at_call 19; with_reducible exact inCls ClsL.stay (specJoin_val HA.out HB.out _)) | (go_at_call 15; with_reducible exact inCls ClsL.stay (specOk_val H1.out _)) | (go_at_call 15; with_reducible exact inCls ClsL.stay (specOk_val H2.out _)))))
    refine wpQuiet_nil ?_
    rintro _ ⟨t3, rfl⟩
    clear ne cc0 cc1 cc2 cc3 cc4 cc5
    obtain ⟨y3, D3⟩ := t3
    clear D2
    dsimp only
    have q0 := D3.c0 (b := y1.heap.size) (s := ja) (v := jb) (by simp)
    have q1 := D3.c1 (b := y1.heap.size) (s := ja) (v := jb) (by simp)
    have q2 := D3.c0 (b := x.heap.size) (s := s) (v := v) (by simp)
    have q3 := D3.c1 (b := x.heap.size) (s := s) (v := v) (by simp)
    have q4 := D3.c0 (b := x.heap.size + 1) (s := s2) (v := v2) (by simp)
    have q5 := D3.c1 (b := x.heap.size + 1) (s := s2) (v := v2) (by simp)
    go_wp2_with fail
    clear q0 q1 q2 q3 q4 q5
    have cc0 := fun t : Wd (ClsL w [(y1.heap.size, ja, jb), (x.heap.size, s, v), (x.heap.size + 1, s2, v2)]) => t.ok.c0 (b := y1.heap.size) (s := ja) (v := jb) (by simp)
    have cc1 := fun t : Wd (ClsL w [(y1.heap.size, ja, jb), (x.heap.size, s, v), (x.heap.size + 1, s2, v2)]) => t.ok.c1 (b := y1.heap.size) (s := ja) (v := jb) (by simp)
    have cc2 := fun t : Wd (ClsL w [(y1.heap.size, ja, jb), (x.heap.size, s, v), (x.heap.size + 1, s2, v2)]) => t.ok.c0 (b := x.heap.size) (s := s) (v := v) (by simp)
    have cc3 := fun t : Wd (ClsL w [(y1.heap.size, ja, jb), (x.heap.size, s, v), (x.heap.size + 1, s2, v2)]) => t.ok.c1 (b := x.heap.size) (s := s) (v := v) (by simp)
    have cc4 := fun t : Wd (ClsL w [(y1.heap.size, ja, jb), (x.heap.size, s, v), (x.heap.size + 1, s2, v2)]) => t.ok.c0 (b := x.heap.size + 1) (s := s2) (v := v2) (by simp)
    have cc5 := fun t : Wd (ClsL w [(y1.heap.size, ja, jb), (x.heap.size, s, v), (x.heap.size + 1, s2, v2)]) => t.ok.c1 (b := x.heap.size + 1) (s := s2) (v := v2) (by simp)
    have ne : Nonempty (Wd (ClsL w [(y1.heap.size, ja, jb), (x.heap.size, s, v), (x.heap.size + 1, s2, v2)])) := ⟨⟨_, D3.drew⟩⟩
    refine wp_region_quiet (C := fun y => ∃ t : Wd (ClsL w [(y1.heap.size, ja, jb), (x.heap.size, s, v), (x.heap.size + 1, s2, v2)]), y = t.w) (by kernel_rfl) (by kernel_rfl) ⟨⟨_, D3.drew⟩, rfl⟩ ?_
    show wpQuiet _ _ _ _ [_, _, _, _, _, _] _
    repeat (first | go_big_quiet_step ((first | (go_at_call 19; with_reducible exact inCls ClsL.stay (specJoin_val HA.out HB.out _)))) | quiet_step ((first | (go_at_call 19; with_reducible exact inCls ClsL.stay (specJoin_val HA.out HB.out _)))))
    refine wpQuiet_nil ?_
    rintro _ ⟨t4, rfl⟩
    clear ne cc0 cc1 cc2 cc3 cc4 cc5
    obtain ⟨y4, D4⟩ := t4
    clear D3
    dsimp only
    go_wp2
    go_ret
    exact ⟨rfl, D4.1⟩
  have H1 := Lib.hid h1
  have H2 := Lib.hid h2
  clear h1 h2
  go_wp2_with fail
  clear q0 q1 q2 q3 q4 q5
  have cc0 := fun t : Wd (ClsL w [(y1.heap.size, ja, jb), (x.heap.size, s, v), (x.heap.size + 1, s2, v2)]) => t.ok.c0 (b := y1.heap.size) (s := ja) (v := jb) (by simp)
  have cc1 := fun t : Wd (ClsL w [(y1.heap.size, ja, jb), (x.heap.size, s, v), (x.heap.size + 1, s2, v2)]) => t.ok.c1 (b := y1.heap.size) (s := ja) (v := jb) (by simp)
  have cc2 := fun t : Wd (ClsL w [(y1.heap.size, ja, jb), (x.heap.size, s, v), (x.heap.size + 1, s2, v2)]) => t.ok.c0 (b := x.heap.size) (s := s) (v := v) (by simp)
  have cc3 := fun t : Wd (ClsL w [(y1.heap.size, ja, jb), (x.heap.size, s, v), (x.heap.size + 1, s2, v2)]) => t.ok.c1 (b := x.heap.size) (s := s) (v := v) (by simp)
  have cc4 := fun t : Wd (ClsL w [(y1.heap.size, ja, jb), (x.heap.size, s, v), (x.heap.size + 1, s2, v2)]) => t.ok.c0 (b := x.heap.size + 1) (s := s2) (v := v2) (by simp)
  have cc5 := fun t : Wd (ClsL w [(y1.heap.size, ja, jb), (x.heap.size, s, v), (x.heap.size + 1, s2, v2)]) => t.ok.c1 (b := x.heap.size + 1) (s := s2) (v := v2) (by simp)
  have ne : Nonempty (Wd (ClsL w [(y1.heap.size, ja, jb), (x.heap.size, s, v), (x.heap.size + 1, s2, v2)])) := ⟨⟨_, D2.drew⟩⟩
  refine wp_region_quiet (C := fun y => ∃ t : Wd (ClsL w [(y1.heap.size, ja, jb), (x.heap.size, s, v), (x.heap.size + 1, s2, v2)]), y = t.w) (by kernel_rfl) (by kernel_rfl) ⟨⟨_, D2.drew⟩, rfl⟩ ?_
  show wpQuiet _ _ _ _ [_, _, _, _, _, _, _, _, _, _, _, _, _, _, _] _
  repeat (first | go_big_quiet_step ((first | (go_at_call 19; with_reducible exact inCls ClsL.stay (specJoin_val HA.out HB.out _)) | (go_at_call 15; with_reducible exact inCls ClsL.stay (specOk_val H1.out _)) | (go_at_call 15; with_reducible exact inCls ClsL.stay (specOk_val H2.out _)))) | quiet_step ((first | (go_at_call 19; with_reducible exact inCls ClsL.stay (specJoin_val HA.out HB.out _)) | (go_at_call 15; with_reducible exact inCls ClsL.stay (specOk_val H1.out _)) | (go_at_call 15; with_reducible exact inCls ClsL.stay (specOk_val H2.out _)))))
  refine wpQuiet_nil ?_
  rintro _ ⟨t3, rfl⟩
  clear ne cc0 cc1 cc2 cc3 cc4 cc5
  obtain ⟨y3, D3⟩ := t3
  clear D2
  dsimp only
  have q0 := D3.c0 (b := y1.heap.size) (s := ja) (v := jb) (by simp)
  have q1 := D3.c1 (b := y1.heap.size) (s := ja) (v := jb) (by simp)
  have q2 := D3.c0 (b := x.heap.size) (s := s) (v := v) (by simp)
  have q3 := D3.c1 (b := x.heap.size) (s := s) (v := v) (by simp)
  have q4 := D3.c0 (b := x.heap.size + 1) (s := s2) (v := v2) (by simp)
  have q5 := D3.c1 (b := x.heap.size + 1) (s := s2) (v := v2) (by simp)
  go_wp2_with fail
  refine (ldLabel_any len1 _ (by unfold maxLen; omega)).mono ?_
  rintro e y4 ⟨rfl, hb4⟩
  have D4 := D3.stay hb4
  clear q0 q1 q2 q3 q4 q5
  clear hb4 D3
  have D5 := D4.new (((len1 : Int) % 4)) (((len1 : Int) / 4 % 4))
  clear D4
  have q0 := D5.c0 (b := y4.heap.size) (s := ((len1 : Int) % 4)) (v := ((len1 : Int) / 4 % 4)) (by simp)
  have q1 := D5.c1 (b := y4.heap.size) (s := ((len1 : Int) % 4)) (v := ((len1 : Int) / 4 % 4)) (by simp)
  have q2 := D5.c0 (b := y1.heap.size) (s := ja) (v := jb) (by simp)
  have q3 := D5.c1 (b := y1.heap.size) (s := ja) (v := jb) (by simp)
  have q4 := D5.c0 (b := x.heap.size) (s := s) (v := v) (by simp)
  have q5 := D5.c1 (b := x.heap.size) (s := s) (v := v) (by simp)
  have q6 := D5.c0 (b := x.heap.size + 1) (s := s2) (v := v2) (by simp)
  have q7 := D5.c1 (b := x.heap.size + 1) (s := s2) (v := v2) (by simp)
  obtain ⟨c1, c2⟩ : 0 ≤ (len1 : Int) % 4 ∧ (len1 : Int) % 4 ≤ 3 := by omega
  obtain ⟨c3, c4⟩ : 0 ≤ (len1 : Int) / 4 % 4 ∧ (len1 : Int) / 4 % 4 ≤ 3 := by omega
  generalize (len1 : Int) % 4 = cs at *
  generalize (len1 : Int) / 4 % 4 = cv at *
  have H3 := Lib.hid (okL_of c1 c2 c3 c4)
  clear c1 c2 c3 c4
  obtain ⟨i1, i2⟩ := join_eq H1.out H2.out
  rw [HA.out] at i1
  rw [HB.out] at i2
  have ok3 : okL ja jb = true := by rw [i1, i2]; exact join_ok H1.out H2.out
  obtain ⟨pA, hpA⟩ : ∃ a, jn1 ja jb cs cv = a := ⟨_, rfl⟩
  obtain ⟨rA, hrA⟩ : ∃ a, jn2 ja jb cs cv = a := ⟨_, rfl⟩
  obtain ⟨pB, hpB⟩ : ∃ a, jn1 s2 v2 cs cv = a := ⟨_, rfl⟩
  obtain ⟨rB, hrB⟩ : ∃ a, jn2 s2 v2 cs cv = a := ⟨_, rfl⟩
  obtain ⟨pM, hpM⟩ : ∃ a, mt1 s v s2 v2 = a := ⟨_, rfl⟩
  obtain ⟨rM, hrM⟩ : ∃ a, mt2 s v s2 v2 = a := ⟨_, rfl⟩
  obtain ⟨pN, hpN⟩ : ∃ a, mt1 s2 v2 cs cv = a := ⟨_, rfl⟩
  obtain ⟨rN, hrN⟩ : ∃ a, mt2 s2 v2 cs cv = a := ⟨_, rfl⟩
  have a1 := (join_eq ok3 H3.out).1
  have a2 := (join_eq ok3 H3.out).2
  rw [hpA] at a1
  rw [hrA] at a2
  have b1 := (join_eq H2.out H3.out).1
  have b2 := (join_eq H2.out H3.out).2
  rw [hpB] at b1
  rw [hrB] at b2
  have okB : okL pB rB = true := by rw [b1, b2]; exact join_ok H2.out H3.out
  have m1 := (meet_eq H1.out H2.out).1
  have m2 := (meet_eq H1.out H2.out).2
  rw [hpM] at m1
  rw [hrM] at m2
  have okM : okL pM rM = true := by rw [m1, m2]; exact meet_ok H1.out H2.out
  have n1 := (meet_eq H2.out H3.out).1
  have n2 := (meet_eq H2.out H3.out).2
  rw [hpN] at n1
  rw [hrN] at n2
  have okK : okL pN rN = true := by rw [n1, n2]; exact meet_ok H2.out H3.out
  have G1 := Lib.hid (show jn1 s v pB rB = pA by rw [(join_eq H1.out okB).1, a1, b1, i1, or2_assoc (okL1 H1.out) (okL1 H2.out) (okL1 H3.out)])
  have G2 := Lib.hid (show jn2 s v pB rB = rA by rw [(join_eq H1.out okB).2, a2, b2, i2, and2_assoc (okL2 H1.out) (okL2 H2.out) (okL2 H3.out)])
  obtain ⟨pX, hpX⟩ : ∃ a, mt1 pM rM cs cv = a := ⟨_, rfl⟩
  obtain ⟨rX, hrX⟩ : ∃ a, mt2 pM rM cs cv = a := ⟨_, rfl⟩
  have G3 := Lib.hid (show mt1 s v pN rN = pX by rw [(meet_eq H1.out okK).1, ← hpX, (meet_eq okM H3.out).1, m1, n1, and2_assoc (okL1 H1.out) (okL1 H2.out) (okL1 H3.out)])
  have G4 := Lib.hid (show mt2 s v pN rN = rX by rw [(meet_eq H1.out okK).2, ← hrX, (meet_eq okM H3.out).2, m2, n2, or2_assoc (okL2 H1.out) (okL2 H2.out) (okL2 H3.out)])
  have PA := Lib.hid hpA
  have RA := Lib.hid hrA
  clear hpA hrA
  have PB := Lib.hid hpB
  have RB := Lib.hid hrB
  clear hpB hrB
  have PM := Lib.hid hpM
  have RM := Lib.hid hrM
  clear hpM hrM
  have PN := Lib.hid hpN
  have RN := Lib.hid hrN
  clear hpN hrN
  have PX := Lib.hid hpX
  have RX := Lib.hid hrX
  clear hpX hrX
  clear i1 i2 a1 a2 b1 b2 m1 m2 n1 n2 ok3 okB okM okK
  go_wp2_with fail
  clear q0 q1 q2 q3 q4 q5 q6 q7
  have cc0 := fun t : Wd (ClsL w [(y4.heap.size, cs, cv), (y1.heap.size, ja, jb), (x.heap.size, s, v), (x.heap.size + 1, s2, v2)]) => t.ok.c0 (b := y4.heap.size) (s := cs) (v := cv) (by simp)
  have cc1 := fun t : Wd (ClsL w [(y4.heap.size, cs, cv), (y1.heap.size, ja, jb), (x.heap.size, s, v), (x.heap.size + 1, s2, v2)]) => t.ok.c1 (b := y4.heap.size) (s := cs) (v := cv) (by simp)
  have cc2 := fun t : Wd (ClsL w [(y4.heap.size, cs, cv), (y1.heap.size, ja, jb), (x.heap.size, s, v), (x.heap.size + 1, s2, v2)]) => t.ok.c0 (b := y1.heap.size) (s := ja) (v := jb) (by simp)
  have cc3 := fun t : Wd (ClsL w [(y4.heap.size, cs, cv), (y1.heap.size, ja, jb), (x.heap.size, s, v), (x.heap.size + 1, s2, v2)]) => t.ok.c1 (b := y1.heap.size) (s := ja) (v := jb) (by simp)
  have cc4 := fun t : Wd (ClsL w [(y4.heap.size, cs, cv), (y1.heap.size, ja, jb), (x.heap.size, s, v), (x.heap.size + 1, s2, v2)]) => t.ok.c0 (b := x.heap.size) (s := s) (v := v) (by simp)
  have cc5 := fun t : Wd (ClsL w [(y4.heap.size, cs, cv), (y1.heap.size, ja, jb), (x.heap.size, s, v), (x.heap.size + 1, s2, v2)]) => t.ok.c1 (b := x.heap.size) (s := s) (v := v) (by simp)
  have cc6 := fun t : Wd (ClsL w [(y4.heap.size, cs, cv), (y1.heap.size, ja, jb), (x.heap.size, s, v), (x.heap.size + 1, s2, v2)]) => t.ok.c0 (b := x.heap.size + 1) (s := s2) (v := v2) (by simp)
  have cc7 := fun t : Wd (ClsL w [(y4.heap.size, cs, cv), (y1.heap.size, ja, jb), (x.heap.size, s, v), (x.heap.size + 1, s2, v2)]) => t.ok.c1 (b := x.heap.size + 1) (s := s2) (v := v2) (by simp)
  have ne : Nonempty (Wd (ClsL w [(y4.heap.size, cs, cv), (y1.heap.size, ja, jb), (x.heap.size, s, v), (x.heap.size + 1, s2, v2)])) := ⟨⟨_, D5.drew⟩⟩
  refine wp_region_quiet (C := fun y => ∃ t : Wd (ClsL w [(y4.heap.size, cs, cv), (y1.heap.size, ja, jb), (x.heap.size, s, v), (x.heap.size + 1, s2, v2)]), y = t.w) (by kernel_rfl) (by kernel_rfl) ⟨⟨_, D5.drew⟩, rfl⟩ ?_
  show wpQuiet _ _ _ _ [_, _, _, _, _, _, _, _, _, _, _, _, _, _, _, _, _, _, _, _, _, _, _] _
  repeat (first | go_big_quiet_step ((first | (go_at_call 18; with_reducible exact inCls ClsL.stay (implJoin_val PA.out RA.out _)) | (go_at_call 18; with_reducible exact inCls ClsL.stay (implJoin_val PB.out RB.out _)) | (go_at_call 18; with_reducible exact inCls ClsL.stay (implJoin_val G1.out G2.out _)) | (go_at_call 21; with_reducible exact inCls ClsL.stay (implMeet_val PM.out RM.out _)) | (go_at_call 21; with_reducible exact inCls ClsL.stay (implMeet_val PX.out RX.out _)) | (go_at_call 21; with_reducible exact inCls ClsL.stay (implMeet_val PN.out RN.out _)) | (go_at_call 21; with_reducible exact inCls ClsL.stay (implMeet_val G3.out G4.out _)))) | quiet_step ((first | (go_at_call 18; with_reducible exact inCls ClsL.stay (implJoin_val PA.out RA.out _)) | (go_at_call 18; with_reducible exact inCls ClsL.stay (implJoin_val PB.out RB.out _)) | (go_at_call 18; with_reducible exact inCls ClsL.stay (implJoin_val G1.out G2.out _)) | (go_at_call 21; with_reducible exact inCls ClsL.stay (implMeet_val PM.out RM.out _)) | (go_at_call 21; with_reducible exact inCls ClsL.stay (implMeet_val PX.out RX.out _)) | (go_at_call 21; with_reducible exact inCls ClsL.stay (implMeet_val PN.out RN.out _)) | (go_at_call 21; with_reducible exact inCls ClsL.stay (implMeet_val G3.out G4.out _)))))
  refine wpQuiet_nil ?_
  rintro _ ⟨t6, rfl⟩
  clear ne cc0 cc1 cc2 cc3 cc4 cc5 cc6 cc7
  obtain ⟨y6, D6⟩ := t6
  clear D5
  dsimp only
  go_wp2
  go_ret
  exact ⟨rfl, D6.1⟩
end Go.Proofs.Ytiooefcdlemodaa
