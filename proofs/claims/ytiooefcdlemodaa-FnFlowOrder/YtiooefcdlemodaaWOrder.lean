/-
  The walk of laws.FnFlowOrder.
-/
import Derived.Test.YtiooefcdlemodaaDrawM
import Derived.Test.YtiooefcdlemodaaLawMath
namespace Go.Proofs.Ytiooefcdlemodaa
open Go.RowKit
set_option linter.unusedVariables false

set_option maxHeartbeats 400000 in
theorem ldLabel_any (n : Nat) (w : World) (hn : n ≤ maxLen) :
    Calls Try.prog 16 #[.int .i64 n] w fun e w' => e = .returned (lab ((n : Int) % 4) ((n : Int) / 4 % 4)) ∧ Below w.heap.size w w' := by
  unfold maxLen at hn
  go_enter Try.func16, Try.ntmps16
  go_wp2
  refine bodyPost_ret (v := lab ((n : Int) % 4) ((n : Int) / 4 % 4)) (by simp [results, Try.results16, go_sem]) rfl ⟨rfl, ?_⟩
  exact (Below.refl _ _).alloc (Nat.le_refl _) _

set_option maxHeartbeats 1000000 in
theorem walk_FnFlowOrder (a0 : Option Addr) (len0 cap0 : Nat) (z0 : List Int) (a1 : Option Addr) (len1 cap1 : Nat) (z1 : List Int) (w : World) (w0 : IsRow .u8 w a0 len0 cap0 z0) (w1 : IsRow .u8 w a1 len1 cap1 z1) :
    Calls Try.prog 3 #[.slice a0 len0 cap0, .slice a1 len1 cap1] w fun e w' => e = .returned (.bool true) ∧ Below w.heap.size w w' := by
  by_cases g0 : (1048576 : Int) < (len0 : Int)
  · go_enter Try.func3, Try.ntmps3
    go_wp2
    go_ret
    exact ⟨rfl, Below.refl _ _⟩
  by_cases g1 : (1048576 : Int) < (len1 : Int)
  · go_enter Try.func3, Try.ntmps3
    go_wp2
    go_ret
    exact ⟨rfl, Below.refl _ _⟩
  have W0 := Lib.hid w0
  clear w0 w1
  go_enter Try.func3, Try.ntmps3
  go_wp2_with fail
  refine (drawFlow_any a0 len0 cap0 z0 _ W0.out).mono ?_
  rintro e x ⟨s, v, s2, v2, rfl, hx⟩
  clear W0
  have B0 := laid2 hx (.cells #[.int .i64 s, .int .i64 v] 24) (.cells #[.int .i64 s2, .int .i64 v2] 24)
  have t0 := two_new x s v s2 v2
  clear hx
  go_wp2_with fail
  refine (implFlow_any _ _ _ _ _).mono ?_
  rintro e x1 ⟨rfl, hb1⟩
  have B1 := going B0 hb1
  have t1 := t0.stay hb1
  obtain ⟨q0, q1, q2, q3⟩ := t1.cells
  clear hb1 B0 t0
  cases hf : flow s v s2 v2
  all_goals
    have HF := Lib.hid hf
    clear hf
    go_wp2_with fail
    refine (specFlow_any _ _ _ _ _).mono ?_
    rintro e x2 ⟨rfl, hb2⟩
    rw [HF.out]
    have B2 := going B1 hb2
    have t2 := t1.stay hb2
    clear q0 q1 q2 q3 hb2 B1 t1
    obtain ⟨q0, q1, q2, q3⟩ := t2.cells
    go_wp2_with fail
    refine (specOk_any _ _ _).mono ?_
    rintro e x3 ⟨rfl, hb3⟩
    have B3 := going B2 hb3
    have t3 := t2.stay hb3
    clear q0 q1 q2 q3 hb3 B2 t2
    obtain ⟨q0, q1, q2, q3⟩ := t3.cells
    cases h1 : okL s v
    · go_wp2_with fail
      refine (specFlow_any _ _ _ _ _).mono ?_
      rintro e x4 ⟨rfl, hb4⟩
      rw [HF.out]
      go_wp2_with fail
      go_ret
      exact ⟨rfl, going B3 hb4⟩
    have H1 := Lib.hid h1
    clear h1
    go_wp2_with fail
    refine (specOk_any _ _ _).mono ?_
    rintro e x4 ⟨rfl, hb4⟩
    have B4 := going B3 hb4
    have t4 := t3.stay hb4
    clear q0 q1 q2 q3 hb4 B3 t3
    obtain ⟨q0, q1, q2, q3⟩ := t4.cells
    cases h2 : okL s2 v2
    · go_wp2_with fail
      refine (specFlow_any _ _ _ _ _).mono ?_
      rintro e x5 ⟨rfl, hb5⟩
      rw [HF.out]
      go_wp2_with fail
      go_ret
      exact ⟨rfl, going B4 hb5⟩
    have H2 := Lib.hid h2
    clear h2
    go_wp2_with fail
    refine (ldLabel_any len1 _ (by unfold maxLen; omega)).mono ?_
    rintro e x5 ⟨rfl, hb5⟩
    have B5 := laid1 (going B4 hb5) (.cells #[.int .i64 ((len1 : Int) % 4), .int .i64 ((len1 : Int) / 4 % 4)] 24)
    have t5 := (t4.stay hb5).past (.cells #[.int .i64 ((len1 : Int) % 4), .int .i64 ((len1 : Int) / 4 % 4)] 24)
    have u5 := Box.fresh x5 24 #[.int .i64 ((len1 : Int) % 4), .int .i64 ((len1 : Int) / 4 % 4)]
    clear q0 q1 q2 q3 hb5 B4 t4
    obtain ⟨c1, c2⟩ : 0 ≤ (len1 : Int) % 4 ∧ (len1 : Int) % 4 ≤ 3 := by omega
    obtain ⟨c3, c4⟩ : 0 ≤ (len1 : Int) / 4 % 4 ∧ (len1 : Int) / 4 % 4 ≤ 3 := by omega
    generalize (len1 : Int) % 4 = cs at *
    generalize (len1 : Int) / 4 % 4 = cv at *
    have H3 := Lib.hid (show okL cs cv = true by simp [okL, okN]; omega)
    obtain ⟨q0, q1, q2, q3⟩ := t5.cells
    have q4 := u5.cell 0 _ rfl
    have q5 := u5.cell 1 _ rfl
  · by_cases e1 : s = s2
    · subst e1
      have e2 : (v == v2) = false := by
        cases hv : v == v2 with
        | false => rfl
        | true =>
          have e3 : v = v2 := by simpa using hv
          subst e3
          exact absurd ((flow_refl H1.out).symm.trans HF.out) (by decide)
      go_wp2_with fail
      have cc := fun (t : Wd (Cls2 w x.heap.size s v s v2)) => Cls2.cells t
      have cc0 := fun t => (cc t).1
      have cc1 := fun t => (cc t).2.1
      have cc2 := fun t => (cc t).2.2.1
      have cc3 := fun t => (cc t).2.2.2
      have ne : Nonempty (Wd (Cls2 w x.heap.size s v s v2)) := ⟨⟨_, B5.drew, t5.drew⟩⟩
      clear cc q0 q1 q2 q3 q4 q5
      refine wp_region_quiet (C := fun y => ∃ t : Wd (Cls2 w x.heap.size s v s v2), y = t.w) (by kernel_rfl) (by kernel_rfl) ⟨⟨_, B5.drew, t5.drew⟩, rfl⟩ ?_
      show wpQuiet _ _ _ _ [_, _, _, _, _, _, _, _, _, _, _, _, _, _, _, _] _
      repeat (first | go_big_quiet_step ((first | (go_at_call 13; exact inCls Cls2.stay (implFlow_val (flow_refl H1.out) _)))) | quiet_step ((first | (go_at_call 13; exact inCls Cls2.stay (implFlow_val (flow_refl H1.out) _)))))
      refine wpQuiet_nil ?_
      rintro _ ⟨y, rfl⟩
      go_wp2
      go_ret
      exact ⟨rfl, y.ok.1⟩
    · have e2 : (s == s2) = false := by simpa using e1
      go_wp2_with fail
      have cc := fun (t : Wd (Cls2 w x.heap.size s v s2 v2)) => Cls2.cells t
      have cc0 := fun t => (cc t).1
      have cc1 := fun t => (cc t).2.1
      have cc2 := fun t => (cc t).2.2.1
      have cc3 := fun t => (cc t).2.2.2
      have ne : Nonempty (Wd (Cls2 w x.heap.size s v s2 v2)) := ⟨⟨_, B5.drew, t5.drew⟩⟩
      clear cc q0 q1 q2 q3 q4 q5
      refine wp_region_quiet (C := fun y => ∃ t : Wd (Cls2 w x.heap.size s v s2 v2), y = t.w) (by kernel_rfl) (by kernel_rfl) ⟨⟨_, B5.drew, t5.drew⟩, rfl⟩ ?_
      show wpQuiet _ _ _ _ [_, _, _, _, _, _, _, _, _, _, _, _, _, _, _, _] _
      repeat (first | go_big_quiet_step ((first | (go_at_call 13; exact inCls Cls2.stay (implFlow_val (flow_refl H1.out) _)))) | quiet_step ((first | (go_at_call 13; exact inCls Cls2.stay (implFlow_val (flow_refl H1.out) _)))))
      refine wpQuiet_nil ?_
      rintro _ ⟨y, rfl⟩
      go_wp2
      go_ret
      exact ⟨rfl, y.ok.1⟩
  · -- it flows: what stands behind the second test, in each of three cases
    go_wp2_with fail
    refine (implFlow_any _ _ _ _ _).mono ?_
    rintro e x6 ⟨rfl, hb6⟩
    have B6 := going B5 hb6
    have t6 := t5.stay hb6
    have u6 := u5.stay hb6
    clear q0 q1 q2 q3 q4 q5 hb6 B5 t5 u5
    obtain ⟨q0, q1, q2, q3⟩ := t6.cells
    have q4 := u6.cell 0 _ rfl
    have q5 := u6.cell 1 _ rfl
    have F3 : ∀ b : Bool, flow s2 v2 cs cv = b → b = true → flow s v cs cv = true := fun b hb ht => flow_trans H1.out H2.out H3.out HF.out (hb.trans ht)
    have G3 := Lib.hid F3
    clear F3
    cases hg : flow s2 v2 cs cv
    · clear G3
      clear hg
      by_cases e1 : s = s2
      · subst e1
        by_cases e3 : v = v2
        · subst e3
          go_wp2_with fail
          have cc := fun (t : Wd (Cls2 w x.heap.size s v s v)) => Cls2.cells t
          have cc0 := fun t => (cc t).1
          have cc1 := fun t => (cc t).2.1
          have cc2 := fun t => (cc t).2.2.1
          have cc3 := fun t => (cc t).2.2.2
          have ne : Nonempty (Wd (Cls2 w x.heap.size s v s v)) := ⟨⟨_, B6.drew, t6.drew⟩⟩
          clear cc q0 q1 q2 q3 q4 q5
          refine wp_region_quiet (C := fun y => ∃ t : Wd (Cls2 w x.heap.size s v s v), y = t.w) (by kernel_rfl) (by kernel_rfl) ⟨⟨_, B6.drew, t6.drew⟩, rfl⟩ ?_
          show wpQuiet _ _ _ _ [_, _, _, _, _, _, _, _, _, _, _, _, _, _, _, _] _
          repeat (first | go_big_quiet_step ((first | (go_at_call 13; exact inCls Cls2.stay (implFlow_val (flow_refl H1.out) _)))) | quiet_step ((first | (go_at_call 13; exact inCls Cls2.stay (implFlow_val (flow_refl H1.out) _)))))
          refine wpQuiet_nil ?_
          rintro _ ⟨y, rfl⟩
          go_wp2
          go_ret
          exact ⟨rfl, y.ok.1⟩
        · have e2 : (v == v2) = false := by simpa using e3
          have F2 := Lib.hid (show flow s v2 s v = false by
            have h := flow_anti H1.out H2.out
            rw [HF.out, e2] at h
            simpa using h)
          go_wp2_with fail
          have cc := fun (t : Wd (Cls2 w x.heap.size s v s v2)) => Cls2.cells t
          have cc0 := fun t => (cc t).1
          have cc1 := fun t => (cc t).2.1
          have cc2 := fun t => (cc t).2.2.1
          have cc3 := fun t => (cc t).2.2.2
          have ne : Nonempty (Wd (Cls2 w x.heap.size s v s v2)) := ⟨⟨_, B6.drew, t6.drew⟩⟩
          clear cc q0 q1 q2 q3 q4 q5
          refine wp_region_quiet (C := fun y => ∃ t : Wd (Cls2 w x.heap.size s v s v2), y = t.w) (by kernel_rfl) (by kernel_rfl) ⟨⟨_, B6.drew, t6.drew⟩, rfl⟩ ?_
          show wpQuiet _ _ _ _ [_, _, _, _, _, _, _, _, _, _, _, _, _, _, _, _] _
          repeat (first | go_big_quiet_step ((first | (go_at_call_of 13 (Value.int IntKind.i64 v2); exact inCls Cls2.stay (implFlow_val F2.out _)) | (go_at_call 13; exact inCls Cls2.stay (implFlow_val (flow_refl H1.out) _)))) | quiet_step ((first | (go_at_call_of 13 (Value.int IntKind.i64 v2); exact inCls Cls2.stay (implFlow_val F2.out _)) | (go_at_call 13; exact inCls Cls2.stay (implFlow_val (flow_refl H1.out) _)))))
          refine wpQuiet_nil ?_
          rintro _ ⟨y, rfl⟩
          go_wp2
          go_ret
          exact ⟨rfl, y.ok.1⟩
      · have e2 : (s == s2) = false := by simpa using e1
        have F2 := Lib.hid (show flow s2 v2 s v = false by
          have h := flow_anti H1.out H2.out
          rw [HF.out, e2] at h
          simpa using h)
        go_wp2_with fail
        have cc := fun (t : Wd (Cls2 w x.heap.size s v s2 v2)) => Cls2.cells t
        have cc0 := fun t => (cc t).1
        have cc1 := fun t => (cc t).2.1
        have cc2 := fun t => (cc t).2.2.1
        have cc3 := fun t => (cc t).2.2.2
        have ne : Nonempty (Wd (Cls2 w x.heap.size s v s2 v2)) := ⟨⟨_, B6.drew, t6.drew⟩⟩
        clear cc q0 q1 q2 q3 q4 q5
        refine wp_region_quiet (C := fun y => ∃ t : Wd (Cls2 w x.heap.size s v s2 v2), y = t.w) (by kernel_rfl) (by kernel_rfl) ⟨⟨_, B6.drew, t6.drew⟩, rfl⟩ ?_
        show wpQuiet _ _ _ _ [_, _, _, _, _, _, _, _, _, _, _, _, _, _, _, _] _
        repeat (first | go_big_quiet_step ((first | (go_at_call_of 13 (Value.int IntKind.i64 v2); exact inCls Cls2.stay (implFlow_val F2.out _)) | (go_at_call 13; exact inCls Cls2.stay (implFlow_val (flow_refl H1.out) _)))) | quiet_step ((first | (go_at_call_of 13 (Value.int IntKind.i64 v2); exact inCls Cls2.stay (implFlow_val F2.out _)) | (go_at_call 13; exact inCls Cls2.stay (implFlow_val (flow_refl H1.out) _)))))
        refine wpQuiet_nil ?_
        rintro _ ⟨y, rfl⟩
        go_wp2
        go_ret
        exact ⟨rfl, y.ok.1⟩
    · have HG := Lib.hid hg
      clear hg
      go_wp2_with fail
      refine (implFlow_val (G3.out _ HG.out rfl) _).mono ?_
      rintro e x7 ⟨rfl, hb7⟩
      have B7 := going B6 hb7
      have t7 := t6.stay hb7
      clear q0 q1 q2 q3 q4 q5 hb7 B6 t6 u6
      obtain ⟨q0, q1, q2, q3⟩ := t7.cells
      by_cases e1 : s = s2
      · subst e1
        by_cases e3 : v = v2
        · subst e3
          go_wp2_with fail
          have cc := fun (t : Wd (Cls2 w x.heap.size s v s v)) => Cls2.cells t
          have cc0 := fun t => (cc t).1
          have cc1 := fun t => (cc t).2.1
          have cc2 := fun t => (cc t).2.2.1
          have cc3 := fun t => (cc t).2.2.2
          have ne : Nonempty (Wd (Cls2 w x.heap.size s v s v)) := ⟨⟨_, B7.drew, t7.drew⟩⟩
          clear cc q0 q1 q2 q3
          refine wp_region_quiet (C := fun y => ∃ t : Wd (Cls2 w x.heap.size s v s v), y = t.w) (by kernel_rfl) (by kernel_rfl) ⟨⟨_, B7.drew, t7.drew⟩, rfl⟩ ?_
          show wpQuiet _ _ _ _ [_, _, _, _, _, _, _, _, _, _, _, _, _, _, _, _] _
          repeat (first | go_big_quiet_step ((first | (go_at_call 13; exact inCls Cls2.stay (implFlow_val (flow_refl H1.out) _)))) | quiet_step ((first | (go_at_call 13; exact inCls Cls2.stay (implFlow_val (flow_refl H1.out) _)))))
          refine wpQuiet_nil ?_
          rintro _ ⟨y, rfl⟩
          go_wp2
          go_ret
          exact ⟨rfl, y.ok.1⟩
        · have e2 : (v == v2) = false := by simpa using e3
          have F2 := Lib.hid (show flow s v2 s v = false by
            have h := flow_anti H1.out H2.out
            rw [HF.out, e2] at h
            simpa using h)
          go_wp2_with fail
          have cc := fun (t : Wd (Cls2 w x.heap.size s v s v2)) => Cls2.cells t
          have cc0 := fun t => (cc t).1
          have cc1 := fun t => (cc t).2.1
          have cc2 := fun t => (cc t).2.2.1
          have cc3 := fun t => (cc t).2.2.2
          have ne : Nonempty (Wd (Cls2 w x.heap.size s v s v2)) := ⟨⟨_, B7.drew, t7.drew⟩⟩
          clear cc q0 q1 q2 q3
          refine wp_region_quiet (C := fun y => ∃ t : Wd (Cls2 w x.heap.size s v s v2), y = t.w) (by kernel_rfl) (by kernel_rfl) ⟨⟨_, B7.drew, t7.drew⟩, rfl⟩ ?_
          show wpQuiet _ _ _ _ [_, _, _, _, _, _, _, _, _, _, _, _, _, _, _, _] _
          repeat (first | go_big_quiet_step ((first | (go_at_call_of 13 (Value.int IntKind.i64 v2); exact inCls Cls2.stay (implFlow_val F2.out _)) | (go_at_call 13; exact inCls Cls2.stay (implFlow_val (flow_refl H1.out) _)))) | quiet_step ((first | (go_at_call_of 13 (Value.int IntKind.i64 v2); exact inCls Cls2.stay (implFlow_val F2.out _)) | (go_at_call 13; exact inCls Cls2.stay (implFlow_val (flow_refl H1.out) _)))))
          refine wpQuiet_nil ?_
          rintro _ ⟨y, rfl⟩
          go_wp2
          go_ret
          exact ⟨rfl, y.ok.1⟩
      · have e2 : (s == s2) = false := by simpa using e1
        have F2 := Lib.hid (show flow s2 v2 s v = false by
          have h := flow_anti H1.out H2.out
          rw [HF.out, e2] at h
          simpa using h)
        go_wp2_with fail
        have cc := fun (t : Wd (Cls2 w x.heap.size s v s2 v2)) => Cls2.cells t
        have cc0 := fun t => (cc t).1
        have cc1 := fun t => (cc t).2.1
        have cc2 := fun t => (cc t).2.2.1
        have cc3 := fun t => (cc t).2.2.2
        have ne : Nonempty (Wd (Cls2 w x.heap.size s v s2 v2)) := ⟨⟨_, B7.drew, t7.drew⟩⟩
        clear cc q0 q1 q2 q3
        refine wp_region_quiet (C := fun y => ∃ t : Wd (Cls2 w x.heap.size s v s2 v2), y = t.w) (by kernel_rfl) (by kernel_rfl) ⟨⟨_, B7.drew, t7.drew⟩, rfl⟩ ?_
        show wpQuiet _ _ _ _ [_, _, _, _, _, _, _, _, _, _, _, _, _, _, _, _] _
        repeat (first | go_big_quiet_step ((first | (go_at_call_of 13 (Value.int IntKind.i64 v2); exact inCls Cls2.stay (implFlow_val F2.out _)) | (go_at_call 13; exact inCls Cls2.stay (implFlow_val (flow_refl H1.out) _)))) | quiet_step ((first | (go_at_call_of 13 (Value.int IntKind.i64 v2); exact inCls Cls2.stay (implFlow_val F2.out _)) | (go_at_call 13; exact inCls Cls2.stay (implFlow_val (flow_refl H1.out) _)))))
        refine wpQuiet_nil ?_
        rintro _ ⟨y, rfl⟩
        go_wp2
        go_ret
        exact ⟨rfl, y.ok.1⟩
end Go.Proofs.Ytiooefcdlemodaa
