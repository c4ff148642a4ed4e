/-
  The walk of laws.FnFlowMarks.
-/
import Derived.Test.YtiooefcdlemodaaDrawM
import Derived.Test.YtiooefcdlemodaaCls
namespace Go.Proofs.Ytiooefcdlemodaa
open Go.RowKit
set_option linter.unusedVariables false

/-- One mark: it flows by it. -/
def mk1 (s v s2 v2 m : Int) : Bool := (s / m % 2 == 0 || s2 / m % 2 == 1) && (v2 / m % 2 == 0 || v / m % 2 == 1)
def canB (s v s2 v2 : Int) (k : Nat) : Bool := if k = 0 then true else if k = 1 then mk1 s v s2 v2 1 else mk1 s v s2 v2 1 && mk1 s v s2 v2 2
theorem canB_flow {s v s2 v2 : Int} (h1 : okL s v = true) (h2 : okL s2 v2 = true) : canB s v s2 v2 2 = flow s v s2 v2 := by
  obtain ⟨a1, a2⟩ := okL_split h1
  obtain ⟨b1, b2⟩ := okL_split h2
  rw [flow_eq h1 h2, Bool.eq_iff_iff]; simp [canB, mk1, sub2]; omega

set_option maxHeartbeats 2000000 in
theorem walk_FnFlowMarks (a0 : Option Addr) (len0 cap0 : Nat) (z0 : List Int) (w : World) (w0 : IsRow .u8 w a0 len0 cap0 z0) :
    Calls Try.prog 9 #[.slice a0 len0 cap0] w fun e w' => e = .returned (.bool true) ∧ Below w.heap.size w w' := by
  by_cases g0 : (1048576 : Int) < (len0 : Int)
  · go_enter Try.func9, Try.ntmps9
    go_wp2
    go_ret
    exact ⟨rfl, Below.refl _ _⟩
  have W0 := Lib.hid w0
  clear w0
  go_enter Try.func9, Try.ntmps9
  go_wp2_with fail
  refine (drawFlow_any a0 len0 cap0 z0 _ W0.out).mono ?_
  rintro e x ⟨s, v, s2, v2, rfl, hx⟩
  clear W0
  have D0 := (ClsL.start hx).new2 s v s2 v2
  clear hx
  go_wp2_with fail
  refine (implFlow_any _ _ _ _ _).mono ?_
  rintro e y1 ⟨rfl, hb1⟩
  have D1 := D0.stay hb1
  clear hb1 D0
  have q0 := D1.c0 (b := x.heap.size) (s := s) (v := v) (by simp)
  have q1 := D1.c1 (b := x.heap.size) (s := s) (v := v) (by simp)
  have q2 := D1.c0 (b := x.heap.size + 1) (s := s2) (v := v2) (by simp)
  have q3 := D1.c1 (b := x.heap.size + 1) (s := s2) (v := v2) (by simp)
  cases hf : flow s v s2 v2
  all_goals
    have HF := Lib.hid hf
    clear hf
    go_wp2_with fail
    refine (specFlow_val HF.out _).mono ?_
    rintro e y2 ⟨rfl, hb2⟩
    have D2 := D1.stay hb2
    clear q0 q1 q2 q3
    clear hb2 D1
    have q0 := D2.c0 (b := x.heap.size) (s := s) (v := v) (by simp)
    have q1 := D2.c1 (b := x.heap.size) (s := s) (v := v) (by simp)
    have q2 := D2.c0 (b := x.heap.size + 1) (s := s2) (v := v2) (by simp)
    have q3 := D2.c1 (b := x.heap.size + 1) (s := s2) (v := v2) (by simp)
    go_wp2_with fail
    refine (specOk_any _ _ _).mono ?_
    rintro e y3 ⟨rfl, hb3⟩
    have D3 := D2.stay hb3
    clear q0 q1 q2 q3
    clear hb3 D2
    have q0 := D3.c0 (b := x.heap.size) (s := s) (v := v) (by simp)
    have q1 := D3.c1 (b := x.heap.size) (s := s) (v := v) (by simp)
    have q2 := D3.c0 (b := x.heap.size + 1) (s := s2) (v := v2) (by simp)
    have q3 := D3.c1 (b := x.heap.size + 1) (s := s2) (v := v2) (by simp)
    cases h1 : okL s v
    · go_wp2_with fail
      refine (specFlow_val HF.out _).mono ?_
      rintro e y4 ⟨rfl, hb4⟩
      have D4 := D3.stay hb4
      clear q0 q1 q2 q3
      clear hb4 D3
      go_wp2
      go_ret
      exact ⟨rfl, D4.1⟩
    have H1 := Lib.hid h1
    clear h1
    go_wp2_with fail
    refine (specOk_any _ _ _).mono ?_
    rintro e y4 ⟨rfl, hb4⟩
    have D4 := D3.stay hb4
    clear q0 q1 q2 q3
    clear hb4 D3
    have q0 := D4.c0 (b := x.heap.size) (s := s) (v := v) (by simp)
    have q1 := D4.c1 (b := x.heap.size) (s := s) (v := v) (by simp)
    have q2 := D4.c0 (b := x.heap.size + 1) (s := s2) (v := v2) (by simp)
    have q3 := D4.c1 (b := x.heap.size + 1) (s := s2) (v := v2) (by simp)
    cases h2 : okL s2 v2
    · go_wp2_with fail
      refine (specFlow_val HF.out _).mono ?_
      rintro e y5 ⟨rfl, hb5⟩
      have D5 := D4.stay hb5
      clear q0 q1 q2 q3
      clear hb5 D4
      go_wp2
      go_ret
      exact ⟨rfl, D5.1⟩
    have H2 := Lib.hid h2
    clear h2
  all_goals
    have a1 := okL_split H1.out
    have a2 := okL_split H2.out
    obtain ⟨⟨s0, s3⟩, v0, v3⟩ := a1
    obtain ⟨⟨s4, s5⟩, v4, v5⟩ := a2
    go_wp2
    have D9 := D4.past (.cells #[.int .i64 1, .int .i64 2] 3)
    clear q0 q1 q2 q3
    have q0 := D9.c0 (b := x.heap.size) (s := s) (v := v) (by simp)
    have q1 := D9.c1 (b := x.heap.size) (s := s) (v := v) (by simp)
    have q2 := D9.c0 (b := x.heap.size + 1) (s := s2) (v := v2) (by simp)
    have q3 := D9.c1 (b := x.heap.size + 1) (s := s2) (v := v2) (by simp)
    go_loop [6, 42] (fun c i => ∃ k : Nat, k ≤ 2 ∧ i = .int .i64 k ∧ c = .bool (canB s v s2 v2 k)) (fun _ i => 2 - (intOf i).toNat)
    case atStart => exact ⟨0, by omega, rfl, rfl⟩
    case round =>
      obtain ⟨k, hk, rfl, rfl⟩ := hrel
      rcases (by omega : k = 0 ∨ k = 1 ∨ k = 2) with rfl | rfl | rfl
      · rw [show canB s v s2 v2 0 = true from rfl]
        go_wp2
        all_goals
          refine ⟨⟨1, by omega, rfl, ?_⟩, by decide⟩
          congr 1
          simp [canB, mk1, *]
      · rw [show canB s v s2 v2 1 = mk1 s v s2 v2 1 from rfl]
        cases hc : mk1 s v s2 v2 1
        · have HC := Lib.hid hc
          clear hc
          go_wp2
          refine ⟨⟨2, by omega, rfl, ?_⟩, by decide⟩
          congr 1
          simp [canB, HC.out]
        · have HC := Lib.hid hc
          clear hc
          go_wp2
          all_goals
            refine ⟨⟨2, by omega, rfl, ?_⟩, by decide⟩
            congr 1
            have hc := HC.out
            simp only [canB, hc]
            simp [mk1, *]
      · rw [show canB s v s2 v2 2 = _ from (canB_flow H1.out H2.out).trans HF.out]
        go_wp2
        go_ret
        exact ⟨rfl, D9.1⟩
end Go.Proofs.Ytiooefcdlemodaa
