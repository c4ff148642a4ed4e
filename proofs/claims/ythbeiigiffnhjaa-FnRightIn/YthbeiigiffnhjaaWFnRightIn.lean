/-
  The walk of laws.FnRightIn.
-/
import Derived.Test.YthbeiigiffnhjaaDrawRI
import Derived.Test.YthbeiigiffnhjaaRigI
namespace Go.Proofs.Ythbeiigiffnhjaa
open Go.RowKit
set_option linter.unusedVariables false

theorem inB_self {t v : Int} {r wr k : Bool} (h : okR t v r wr k = true) : inB t v r wr k t v r wr k = true := by
  simp [inB, h, inRgt]
theorem inB_null {t v : Int} {r wr k : Bool} (h : okR t v r wr k = true) : inB 0 0 false false false t v r wr k = true := by
  have : okR 0 0 false false false = true := rfl
  simp [inB, h, inRgt, this]
theorem inB_anti {t v : Int} {r wr k : Bool} {t2 v2 : Int} {r2 wr2 k2 : Bool} (h : inB t v r wr k t2 v2 r2 wr2 k2 = true) (h2 : inB t2 v2 r2 wr2 k2 t v r wr k = true) :
    t = t2 ∧ v = v2 ∧ r = r2 ∧ wr = wr2 ∧ k = k2 := by
  simp only [inB, Bool.and_eq_true] at h h2
  obtain ⟨o1, o2, h⟩ := h
  obtain ⟨_, _, h2⟩ := h2
  by_cases ht : t = 0
  · subst ht
    by_cases ht2 : t2 = 0
    · subst ht2
      have a1 : v = 0 ∧ r = false ∧ wr = false ∧ k = false := by simpa [okR] using o1
      have a2 : v2 = 0 ∧ r2 = false ∧ wr2 = false ∧ k2 = false := by simpa [okR] using o2
      obtain ⟨rfl, rfl, rfl, rfl⟩ := a1
      obtain ⟨rfl, rfl, rfl, rfl⟩ := a2
      exact ⟨rfl, rfl, rfl, rfl, rfl⟩
    · simp [inRgt, ht2] at h2
  · simp [inRgt, ht] at h
    obtain ⟨rfl, rfl, h3, h4, h5⟩ := h
    simp [inRgt, ht] at h2
    refine ⟨rfl, rfl, ?_, ?_, ?_⟩
    · revert h3 h2; cases r <;> cases r2 <;> simp
    · revert h4 h2; cases wr <;> cases wr2 <;> simp
    · revert h5 h2; cases k <;> cases k2 <;> simp

set_option maxRecDepth 100000 in
set_option maxHeartbeats 2000000 in
theorem walk_FnRightIn (a0 : Option Addr) (len0 cap0 : Nat) (z0 : List Int) (w : World) (w0 : IsRow .u8 w a0 len0 cap0 z0) :
    Calls Try.prog 4 #[.slice a0 len0 cap0] w fun e w' => e = .returned (.bool true) ∧ Below w.heap.size w w' := by
  by_cases g0 : (1048576 : Int) < (len0 : Int)
  · go_enter Try.func4, Try.ntmps4
    go_wp2
    go_ret
    exact ⟨rfl, Below.refl _ _⟩
  have W0 := Lib.hid w0
  clear w0
  go_enter Try.func4, Try.ntmps4
  go_wp2_with fail
  refine (drawRIn_any a0 len0 cap0 z0 _ W0.out).mono ?_
  rintro e x ⟨t, v, r, wr, k, t2, v2, r2, wr2, k2, rfl, hx⟩
  clear W0
  have D00 := ((Kn.start hx).new 24 (rgtC t v r wr k)).new 24 (rgtC t2 v2 r2 wr2 k2)
  rw [show (x.alloc (.cells (rgtC t v r wr k) 24)).heap.size = x.heap.size + 1 by simp] at D00
  clear hx
  obtain ⟨g, hg⟩ : ∃ g, inB t v r wr k t2 v2 r2 wr2 k2 = g := ⟨_, rfl⟩
  have HG := Lib.hid hg
  clear hg
  go_wp2_with fail
  refine (implRIn_val HG.out _).mono ?_
  rintro e y1 ⟨rfl, hb1⟩
  have D1 := D00.stay hb1
  clear hb1 D00
  have q0 := D1.c (b := x.heap.size + 1) (T := 24) (vs := rgtC t2 v2 r2 wr2 k2) (by simp) 0 _ rfl
  have q1 := D1.c (b := x.heap.size + 1) (T := 24) (vs := rgtC t2 v2 r2 wr2 k2) (by simp) 1 _ rfl
  have q2 := D1.c (b := x.heap.size + 1) (T := 24) (vs := rgtC t2 v2 r2 wr2 k2) (by simp) 2 _ rfl
  have q3 := D1.c (b := x.heap.size + 1) (T := 24) (vs := rgtC t2 v2 r2 wr2 k2) (by simp) 3 _ rfl
  have q4 := D1.c (b := x.heap.size + 1) (T := 24) (vs := rgtC t2 v2 r2 wr2 k2) (by simp) 4 _ rfl
  have q5 := D1.c (b := x.heap.size) (T := 24) (vs := rgtC t v r wr k) (by simp) 0 _ rfl
  have q6 := D1.c (b := x.heap.size) (T := 24) (vs := rgtC t v r wr k) (by simp) 1 _ rfl
  have q7 := D1.c (b := x.heap.size) (T := 24) (vs := rgtC t v r wr k) (by simp) 2 _ rfl
  have q8 := D1.c (b := x.heap.size) (T := 24) (vs := rgtC t v r wr k) (by simp) 3 _ rfl
  have q9 := D1.c (b := x.heap.size) (T := 24) (vs := rgtC t v r wr k) (by simp) 4 _ rfl
  go_wp2_with fail
  refine (specRIn_val HG.out _).mono ?_
  rintro e y2 ⟨rfl, hb2⟩
  have D2 := D1.stay hb2
  clear q0 q1 q2 q3 q4 q5 q6 q7 q8 q9
  clear hb2 D1
  have q0 := D2.c (b := x.heap.size + 1) (T := 24) (vs := rgtC t2 v2 r2 wr2 k2) (by simp) 0 _ rfl
  have q1 := D2.c (b := x.heap.size + 1) (T := 24) (vs := rgtC t2 v2 r2 wr2 k2) (by simp) 1 _ rfl
  have q2 := D2.c (b := x.heap.size + 1) (T := 24) (vs := rgtC t2 v2 r2 wr2 k2) (by simp) 2 _ rfl
  have q3 := D2.c (b := x.heap.size + 1) (T := 24) (vs := rgtC t2 v2 r2 wr2 k2) (by simp) 3 _ rfl
  have q4 := D2.c (b := x.heap.size + 1) (T := 24) (vs := rgtC t2 v2 r2 wr2 k2) (by simp) 4 _ rfl
  have q5 := D2.c (b := x.heap.size) (T := 24) (vs := rgtC t v r wr k) (by simp) 0 _ rfl
  have q6 := D2.c (b := x.heap.size) (T := 24) (vs := rgtC t v r wr k) (by simp) 1 _ rfl
  have q7 := D2.c (b := x.heap.size) (T := 24) (vs := rgtC t v r wr k) (by simp) 2 _ rfl
  have q8 := D2.c (b := x.heap.size) (T := 24) (vs := rgtC t v r wr k) (by simp) 3 _ rfl
  have q9 := D2.c (b := x.heap.size) (T := 24) (vs := rgtC t v r wr k) (by simp) 4 _ rfl
  cases h1 : okR t v r wr k
  · have H1 := Lib.hid h1
    clear h1
    go_wp2_with fail
    refine (specROk_val H1.out _).mono ?_
    rintro e y3 ⟨rfl, hb3⟩
    have D3 := D2.stay hb3
    clear q0 q1 q2 q3 q4 q5 q6 q7 q8 q9
    clear hb3 D2
    have q0 := D3.c (b := x.heap.size + 1) (T := 24) (vs := rgtC t2 v2 r2 wr2 k2) (by simp) 0 _ rfl
    have q1 := D3.c (b := x.heap.size + 1) (T := 24) (vs := rgtC t2 v2 r2 wr2 k2) (by simp) 1 _ rfl
    have q2 := D3.c (b := x.heap.size + 1) (T := 24) (vs := rgtC t2 v2 r2 wr2 k2) (by simp) 2 _ rfl
    have q3 := D3.c (b := x.heap.size + 1) (T := 24) (vs := rgtC t2 v2 r2 wr2 k2) (by simp) 3 _ rfl
    have q4 := D3.c (b := x.heap.size + 1) (T := 24) (vs := rgtC t2 v2 r2 wr2 k2) (by simp) 4 _ rfl
    have q5 := D3.c (b := x.heap.size) (T := 24) (vs := rgtC t v r wr k) (by simp) 0 _ rfl
    have q6 := D3.c (b := x.heap.size) (T := 24) (vs := rgtC t v r wr k) (by simp) 1 _ rfl
    have q7 := D3.c (b := x.heap.size) (T := 24) (vs := rgtC t v r wr k) (by simp) 2 _ rfl
    have q8 := D3.c (b := x.heap.size) (T := 24) (vs := rgtC t v r wr k) (by simp) 3 _ rfl
    have q9 := D3.c (b := x.heap.size) (T := 24) (vs := rgtC t v r wr k) (by simp) 4 _ rfl
    go_wp2_with fail
    refine (specRIn_val HG.out _).mono ?_
    rintro e y4 ⟨rfl, hb4⟩
    have D4 := D3.stay hb4
    clear q0 q1 q2 q3 q4 q5 q6 q7 q8 q9
    clear hb4 D3
    go_wp2
    go_ret
    exact ⟨rfl, D4.1⟩
  have H1 := Lib.hid h1
  clear h1
  go_wp2_with fail
  refine (specROk_val H1.out _).mono ?_
  rintro e y3 ⟨rfl, hb3⟩
  have D3 := D2.stay hb3
  clear q0 q1 q2 q3 q4 q5 q6 q7 q8 q9
  clear hb3 D2
  have q0 := D3.c (b := x.heap.size + 1) (T := 24) (vs := rgtC t2 v2 r2 wr2 k2) (by simp) 0 _ rfl
  have q1 := D3.c (b := x.heap.size + 1) (T := 24) (vs := rgtC t2 v2 r2 wr2 k2) (by simp) 1 _ rfl
  have q2 := D3.c (b := x.heap.size + 1) (T := 24) (vs := rgtC t2 v2 r2 wr2 k2) (by simp) 2 _ rfl
  have q3 := D3.c (b := x.heap.size + 1) (T := 24) (vs := rgtC t2 v2 r2 wr2 k2) (by simp) 3 _ rfl
  have q4 := D3.c (b := x.heap.size + 1) (T := 24) (vs := rgtC t2 v2 r2 wr2 k2) (by simp) 4 _ rfl
  have q5 := D3.c (b := x.heap.size) (T := 24) (vs := rgtC t v r wr k) (by simp) 0 _ rfl
  have q6 := D3.c (b := x.heap.size) (T := 24) (vs := rgtC t v r wr k) (by simp) 1 _ rfl
  have q7 := D3.c (b := x.heap.size) (T := 24) (vs := rgtC t v r wr k) (by simp) 2 _ rfl
  have q8 := D3.c (b := x.heap.size) (T := 24) (vs := rgtC t v r wr k) (by simp) 3 _ rfl
  have q9 := D3.c (b := x.heap.size) (T := 24) (vs := rgtC t v r wr k) (by simp) 4 _ rfl
  cases h2 : okR t2 v2 r2 wr2 k2
  · have H2 := Lib.hid h2
    clear h2
    go_wp2_with fail
    refine (specROk_val H2.out _).mono ?_
    rintro e y4 ⟨rfl, hb4⟩
    have D4 := D3.stay hb4
    clear q0 q1 q2 q3 q4 q5 q6 q7 q8 q9
    clear hb4 D3
    have q0 := D4.c (b := x.heap.size + 1) (T := 24) (vs := rgtC t2 v2 r2 wr2 k2) (by simp) 0 _ rfl
    have q1 := D4.c (b := x.heap.size + 1) (T := 24) (vs := rgtC t2 v2 r2 wr2 k2) (by simp) 1 _ rfl
    have q2 := D4.c (b := x.heap.size + 1) (T := 24) (vs := rgtC t2 v2 r2 wr2 k2) (by simp) 2 _ rfl
    have q3 := D4.c (b := x.heap.size + 1) (T := 24) (vs := rgtC t2 v2 r2 wr2 k2) (by simp) 3 _ rfl
    have q4 := D4.c (b := x.heap.size + 1) (T := 24) (vs := rgtC t2 v2 r2 wr2 k2) (by simp) 4 _ rfl
    have q5 := D4.c (b := x.heap.size) (T := 24) (vs := rgtC t v r wr k) (by simp) 0 _ rfl
    have q6 := D4.c (b := x.heap.size) (T := 24) (vs := rgtC t v r wr k) (by simp) 1 _ rfl
    have q7 := D4.c (b := x.heap.size) (T := 24) (vs := rgtC t v r wr k) (by simp) 2 _ rfl
    have q8 := D4.c (b := x.heap.size) (T := 24) (vs := rgtC t v r wr k) (by simp) 3 _ rfl
    have q9 := D4.c (b := x.heap.size) (T := 24) (vs := rgtC t v r wr k) (by simp) 4 _ rfl
    go_wp2_with fail
    refine (specRIn_val HG.out _).mono ?_
    rintro e y5 ⟨rfl, hb5⟩
    have D5 := D4.stay hb5
    clear q0 q1 q2 q3 q4 q5 q6 q7 q8 q9
    clear hb5 D4
    go_wp2
    go_ret
    exact ⟨rfl, D5.1⟩
  have H2 := Lib.hid h2
  clear h2
  go_wp2_with fail
  refine (specROk_val H2.out _).mono ?_
  rintro e y4 ⟨rfl, hb4⟩
  have D4 := D3.stay hb4
  clear q0 q1 q2 q3 q4 q5 q6 q7 q8 q9
  clear hb4 D3
  have q0 := D4.c (b := x.heap.size + 1) (T := 24) (vs := rgtC t2 v2 r2 wr2 k2) (by simp) 0 _ rfl
  have q1 := D4.c (b := x.heap.size + 1) (T := 24) (vs := rgtC t2 v2 r2 wr2 k2) (by simp) 1 _ rfl
  have q2 := D4.c (b := x.heap.size + 1) (T := 24) (vs := rgtC t2 v2 r2 wr2 k2) (by simp) 2 _ rfl
  have q3 := D4.c (b := x.heap.size + 1) (T := 24) (vs := rgtC t2 v2 r2 wr2 k2) (by simp) 3 _ rfl
  have q4 := D4.c (b := x.heap.size + 1) (T := 24) (vs := rgtC t2 v2 r2 wr2 k2) (by simp) 4 _ rfl
  have q5 := D4.c (b := x.heap.size) (T := 24) (vs := rgtC t v r wr k) (by simp) 0 _ rfl
  have q6 := D4.c (b := x.heap.size) (T := 24) (vs := rgtC t v r wr k) (by simp) 1 _ rfl
  have q7 := D4.c (b := x.heap.size) (T := 24) (vs := rgtC t v r wr k) (by simp) 2 _ rfl
  have q8 := D4.c (b := x.heap.size) (T := 24) (vs := rgtC t v r wr k) (by simp) 3 _ rfl
  have q9 := D4.c (b := x.heap.size) (T := 24) (vs := rgtC t v r wr k) (by simp) 4 _ rfl
  have HS := Lib.hid (inB_self H1.out)
  have HZ := Lib.hid (inB_null H1.out)
  obtain ⟨g2, hg2⟩ : ∃ g, inB t2 v2 r2 wr2 k2 t v r wr k = g := ⟨_, rfl⟩
  have HG2 := Lib.hid hg2
  clear hg2
  by_cases hq : t = t2 ∧ v = v2 ∧ r = r2 ∧ wr = wr2 ∧ k = k2
  · obtain ⟨rfl, rfl, rfl, rfl, rfl⟩ := hq
    have e1 := HG.out
    have e2 := HG2.out
    rw [HS.out] at e1 e2
    subst e1 e2
    go_wp2_with fail
    clear q0 q1 q2 q3 q4 q5 q6 q7 q8 q9
    have cc0 := fun zz : Wd (Kn w [(x.heap.size + 1, 24, rgtC t v r wr k), (x.heap.size, 24, rgtC t v r wr k)]) => zz.ok.c (b := x.heap.size + 1) (T := 24) (vs := rgtC t v r wr k) (by simp) 0 _ rfl
    have cc1 := fun zz : Wd (Kn w [(x.heap.size + 1, 24, rgtC t v r wr k), (x.heap.size, 24, rgtC t v r wr k)]) => zz.ok.c (b := x.heap.size + 1) (T := 24) (vs := rgtC t v r wr k) (by simp) 1 _ rfl
    have cc2 := fun zz : Wd (Kn w [(x.heap.size + 1, 24, rgtC t v r wr k), (x.heap.size, 24, rgtC t v r wr k)]) => zz.ok.c (b := x.heap.size + 1) (T := 24) (vs := rgtC t v r wr k) (by simp) 2 _ rfl
    have cc3 := fun zz : Wd (Kn w [(x.heap.size + 1, 24, rgtC t v r wr k), (x.heap.size, 24, rgtC t v r wr k)]) => zz.ok.c (b := x.heap.size + 1) (T := 24) (vs := rgtC t v r wr k) (by simp) 3 _ rfl
    have cc4 := fun zz : Wd (Kn w [(x.heap.size + 1, 24, rgtC t v r wr k), (x.heap.size, 24, rgtC t v r wr k)]) => zz.ok.c (b := x.heap.size + 1) (T := 24) (vs := rgtC t v r wr k) (by simp) 4 _ rfl
    have cc5 := fun zz : Wd (Kn w [(x.heap.size + 1, 24, rgtC t v r wr k), (x.heap.size, 24, rgtC t v r wr k)]) => zz.ok.c (b := x.heap.size) (T := 24) (vs := rgtC t v r wr k) (by simp) 0 _ rfl
    have cc6 := fun zz : Wd (Kn w [(x.heap.size + 1, 24, rgtC t v r wr k), (x.heap.size, 24, rgtC t v r wr k)]) => zz.ok.c (b := x.heap.size) (T := 24) (vs := rgtC t v r wr k) (by simp) 1 _ rfl
    have cc7 := fun zz : Wd (Kn w [(x.heap.size + 1, 24, rgtC t v r wr k), (x.heap.size, 24, rgtC t v r wr k)]) => zz.ok.c (b := x.heap.size) (T := 24) (vs := rgtC t v r wr k) (by simp) 2 _ rfl
    have cc8 := fun zz : Wd (Kn w [(x.heap.size + 1, 24, rgtC t v r wr k), (x.heap.size, 24, rgtC t v r wr k)]) => zz.ok.c (b := x.heap.size) (T := 24) (vs := rgtC t v r wr k) (by simp) 3 _ rfl
    have cc9 := fun zz : Wd (Kn w [(x.heap.size + 1, 24, rgtC t v r wr k), (x.heap.size, 24, rgtC t v r wr k)]) => zz.ok.c (b := x.heap.size) (T := 24) (vs := rgtC t v r wr k) (by simp) 4 _ rfl
    have ne : Nonempty (Wd (Kn w [(x.heap.size + 1, 24, rgtC t v r wr k), (x.heap.size, 24, rgtC t v r wr k)])) := ⟨⟨_, D4.drew⟩⟩
    refine wp_region_quiet (C := fun y => ∃ zz : Wd (Kn w [(x.heap.size + 1, 24, rgtC t v r wr k), (x.heap.size, 24, rgtC t v r wr k)]), y = zz.w) (by kernel_rfl) (by kernel_rfl) ⟨⟨_, D4.drew⟩, rfl⟩ ?_
    show wpQuiet _ _ _ _ [_, _, _, _, _, _, _, _, _, _, _, _, _, _, _, _, _, _, _, _, _] _
    repeat (first | go_big_quiet_step ((first | (go_at_call 18; with_reducible exact inCls Kn.stay (implRIn_val HS.out _)) | (go_at_call 18; with_reducible exact inCls Kn.stay (implRIn_val HZ.out _)) | (go_at_call 18; with_reducible exact inCls Kn.stay (implRIn_val HG2.out _)))) | quiet_step ((first | (go_at_call 18; with_reducible exact inCls Kn.stay (implRIn_val HS.out _)) | (go_at_call 18; with_reducible exact inCls Kn.stay (implRIn_val HZ.out _)) | (go_at_call 18; with_reducible exact inCls Kn.stay (implRIn_val HG2.out _)))))
    refine wpQuiet_nil ?_
    rintro _ ⟨t5, rfl⟩
    clear ne cc0 cc1 cc2 cc3 cc4 cc5 cc6 cc7 cc8 cc9
    obtain ⟨y5, D5⟩ := t5
    clear D4
    dsimp only
    go_wp2
    go_ret
    exact ⟨rfl, D5.1⟩
  · have hgg : (g && g2) = false := by
      cases g
      · rfl
      · cases g2
        · rfl
        · exact absurd (inB_anti HG.out HG2.out) hq
    have hs : ((t == t2) = false) ∨ ((t == t2) = true ∧ (v == v2) = false) ∨ ((t == t2) = true ∧ (v == v2) = true ∧ (r == r2) = false) ∨ ((t == t2) = true ∧ (v == v2) = true ∧ (r == r2) = true ∧ (wr == wr2) = false) ∨ ((t == t2) = true ∧ (v == v2) = true ∧ (r == r2) = true ∧ (wr == wr2) = true ∧ (k == k2) = false) := by
      simp only [beq_iff_eq, beq_eq_false_iff_ne, ne_eq]
      by_cases a1 : t = t2 <;> by_cases a2 : v = v2 <;> by_cases a3 : r = r2 <;> by_cases a4 : wr = wr2 <;> by_cases a5 : k = k2 <;> simp_all
    have HGG := Lib.hid hgg
    clear hgg hq
    rcases hs with e1 | ⟨e1, e2⟩ | ⟨e1, e2, e3⟩ | ⟨e1, e2, e3, e4⟩ | ⟨e1, e2, e3, e4, e5⟩
    all_goals
      cases g
      · go_wp2_with fail
        clear q0 q1 q2 q3 q4 q5 q6 q7 q8 q9
        have cc0 := fun zz : Wd (Kn w [(x.heap.size + 1, 24, rgtC t2 v2 r2 wr2 k2), (x.heap.size, 24, rgtC t v r wr k)]) => zz.ok.c (b := x.heap.size + 1) (T := 24) (vs := rgtC t2 v2 r2 wr2 k2) (by simp) 0 _ rfl
        have cc1 := fun zz : Wd (Kn w [(x.heap.size + 1, 24, rgtC t2 v2 r2 wr2 k2), (x.heap.size, 24, rgtC t v r wr k)]) => zz.ok.c (b := x.heap.size + 1) (T := 24) (vs := rgtC t2 v2 r2 wr2 k2) (by simp) 1 _ rfl
        have cc2 := fun zz : Wd (Kn w [(x.heap.size + 1, 24, rgtC t2 v2 r2 wr2 k2), (x.heap.size, 24, rgtC t v r wr k)]) => zz.ok.c (b := x.heap.size + 1) (T := 24) (vs := rgtC t2 v2 r2 wr2 k2) (by simp) 2 _ rfl
        have cc3 := fun zz : Wd (Kn w [(x.heap.size + 1, 24, rgtC t2 v2 r2 wr2 k2), (x.heap.size, 24, rgtC t v r wr k)]) => zz.ok.c (b := x.heap.size + 1) (T := 24) (vs := rgtC t2 v2 r2 wr2 k2) (by simp) 3 _ rfl
        have cc4 := fun zz : Wd (Kn w [(x.heap.size + 1, 24, rgtC t2 v2 r2 wr2 k2), (x.heap.size, 24, rgtC t v r wr k)]) => zz.ok.c (b := x.heap.size + 1) (T := 24) (vs := rgtC t2 v2 r2 wr2 k2) (by simp) 4 _ rfl
        have cc5 := fun zz : Wd (Kn w [(x.heap.size + 1, 24, rgtC t2 v2 r2 wr2 k2), (x.heap.size, 24, rgtC t v r wr k)]) => zz.ok.c (b := x.heap.size) (T := 24) (vs := rgtC t v r wr k) (by simp) 0 _ rfl
        have cc6 := fun zz : Wd (Kn w [(x.heap.size + 1, 24, rgtC t2 v2 r2 wr2 k2), (x.heap.size, 24, rgtC t v r wr k)]) => zz.ok.c (b := x.heap.size) (T := 24) (vs := rgtC t v r wr k) (by simp) 1 _ rfl
        have cc7 := fun zz : Wd (Kn w [(x.heap.size + 1, 24, rgtC t2 v2 r2 wr2 k2), (x.heap.size, 24, rgtC t v r wr k)]) => zz.ok.c (b := x.heap.size) (T := 24) (vs := rgtC t v r wr k) (by simp) 2 _ rfl
        have cc8 := fun zz : Wd (Kn w [(x.heap.size + 1, 24, rgtC t2 v2 r2 wr2 k2), (x.heap.size, 24, rgtC t v r wr k)]) => zz.ok.c (b := x.heap.size) (T := 24) (vs := rgtC t v r wr k) (by simp) 3 _ rfl
        have cc9 := fun zz : Wd (Kn w [(x.heap.size + 1, 24, rgtC t2 v2 r2 wr2 k2), (x.heap.size, 24, rgtC t v r wr k)]) => zz.ok.c (b := x.heap.size) (T := 24) (vs := rgtC t v r wr k) (by simp) 4 _ rfl
        have ne : Nonempty (Wd (Kn w [(x.heap.size + 1, 24, rgtC t2 v2 r2 wr2 k2), (x.heap.size, 24, rgtC t v r wr k)])) := ⟨⟨_, D4.drew⟩⟩
        refine wp_region_quiet (C := fun y => ∃ zz : Wd (Kn w [(x.heap.size + 1, 24, rgtC t2 v2 r2 wr2 k2), (x.heap.size, 24, rgtC t v r wr k)]), y = zz.w) (by kernel_rfl) (by kernel_rfl) ⟨⟨_, D4.drew⟩, rfl⟩ ?_
        show wpQuiet _ _ _ _ [_, _, _, _, _, _, _, _, _, _, _, _, _, _, _, _, _, _, _, _, _] _
        repeat (first | go_big_quiet_step ((first | (go_at_call 18; with_reducible exact inCls Kn.stay (implRIn_val HS.out _)) | (go_at_call 18; with_reducible exact inCls Kn.stay (implRIn_val HZ.out _)) | (go_at_call 18; with_reducible exact inCls Kn.stay (implRIn_val HG2.out _)))) | quiet_step ((first | (go_at_call 18; with_reducible exact inCls Kn.stay (implRIn_val HS.out _)) | (go_at_call 18; with_reducible exact inCls Kn.stay (implRIn_val HZ.out _)) | (go_at_call 18; with_reducible exact inCls Kn.stay (implRIn_val HG2.out _)))))
        refine wpQuiet_nil ?_
        rintro _ ⟨t5, rfl⟩
        clear ne cc0 cc1 cc2 cc3 cc4 cc5 cc6 cc7 cc8 cc9
        obtain ⟨y5, D5⟩ := t5
        clear D4
        dsimp only
        go_wp2
        go_ret
        exact ⟨rfl, D5.1⟩
      · have hg2 := HGG.out
        simp only [Bool.true_and] at hg2
        subst hg2
        go_wp2_with fail
        clear q0 q1 q2 q3 q4 q5 q6 q7 q8 q9
        have cc0 := fun zz : Wd (Kn w [(x.heap.size + 1, 24, rgtC t2 v2 r2 wr2 k2), (x.heap.size, 24, rgtC t v r wr k)]) => zz.ok.c (b := x.heap.size + 1) (T := 24) (vs := rgtC t2 v2 r2 wr2 k2) (by simp) 0 _ rfl
        have cc1 := fun zz : Wd (Kn w [(x.heap.size + 1, 24, rgtC t2 v2 r2 wr2 k2), (x.heap.size, 24, rgtC t v r wr k)]) => zz.ok.c (b := x.heap.size + 1) (T := 24) (vs := rgtC t2 v2 r2 wr2 k2) (by simp) 1 _ rfl
        have cc2 := fun zz : Wd (Kn w [(x.heap.size + 1, 24, rgtC t2 v2 r2 wr2 k2), (x.heap.size, 24, rgtC t v r wr k)]) => zz.ok.c (b := x.heap.size + 1) (T := 24) (vs := rgtC t2 v2 r2 wr2 k2) (by simp) 2 _ rfl
        have cc3 := fun zz : Wd (Kn w [(x.heap.size + 1, 24, rgtC t2 v2 r2 wr2 k2), (x.heap.size, 24, rgtC t v r wr k)]) => zz.ok.c (b := x.heap.size + 1) (T := 24) (vs := rgtC t2 v2 r2 wr2 k2) (by simp) 3 _ rfl
        have cc4 := fun zz : Wd (Kn w [(x.heap.size + 1, 24, rgtC t2 v2 r2 wr2 k2), (x.heap.size, 24, rgtC t v r wr k)]) => zz.ok.c (b := x.heap.size + 1) (T := 24) (vs := rgtC t2 v2 r2 wr2 k2) (by simp) 4 _ rfl
        have cc5 := fun zz : Wd (Kn w [(x.heap.size + 1, 24, rgtC t2 v2 r2 wr2 k2), (x.heap.size, 24, rgtC t v r wr k)]) => zz.ok.c (b := x.heap.size) (T := 24) (vs := rgtC t v r wr k) (by simp) 0 _ rfl
        have cc6 := fun zz : Wd (Kn w [(x.heap.size + 1, 24, rgtC t2 v2 r2 wr2 k2), (x.heap.size, 24, rgtC t v r wr k)]) => zz.ok.c (b := x.heap.size) (T := 24) (vs := rgtC t v r wr k) (by simp) 1 _ rfl
        have cc7 := fun zz : Wd (Kn w [(x.heap.size + 1, 24, rgtC t2 v2 r2 wr2 k2), (x.heap.size, 24, rgtC t v r wr k)]) => zz.ok.c (b := x.heap.size) (T := 24) (vs := rgtC t v r wr k) (by simp) 2 _ rfl
        have cc8 := fun zz : Wd (Kn w [(x.heap.size + 1, 24, rgtC t2 v2 r2 wr2 k2), (x.heap.size, 24, rgtC t v r wr k)]) => zz.ok.c (b := x.heap.size) (T := 24) (vs := rgtC t v r wr k) (by simp) 3 _ rfl
        have cc9 := fun zz : Wd (Kn w [(x.heap.size + 1, 24, rgtC t2 v2 r2 wr2 k2), (x.heap.size, 24, rgtC t v r wr k)]) => zz.ok.c (b := x.heap.size) (T := 24) (vs := rgtC t v r wr k) (by simp) 4 _ rfl
        have ne : Nonempty (Wd (Kn w [(x.heap.size + 1, 24, rgtC t2 v2 r2 wr2 k2), (x.heap.size, 24, rgtC t v r wr k)])) := ⟨⟨_, D4.drew⟩⟩
        refine wp_region_quiet (C := fun y => ∃ zz : Wd (Kn w [(x.heap.size + 1, 24, rgtC t2 v2 r2 wr2 k2), (x.heap.size, 24, rgtC t v r wr k)]), y = zz.w) (by kernel_rfl) (by kernel_rfl) ⟨⟨_, D4.drew⟩, rfl⟩ ?_
        show wpQuiet _ _ _ _ [_, _, _, _, _, _, _, _, _, _, _, _, _, _, _, _, _, _, _, _, _] _
        repeat (first | go_big_quiet_step ((first | (go_at_call 18; with_reducible exact inCls Kn.stay (implRIn_val HS.out _)) | (go_at_call 18; with_reducible exact inCls Kn.stay (implRIn_val HZ.out _)) | (go_at_call 18; with_reducible exact inCls Kn.stay (implRIn_val HG2.out _)))) | quiet_step ((first | (go_at_call 18; with_reducible exact inCls Kn.stay (implRIn_val HS.out _)) | (go_at_call 18; with_reducible exact inCls Kn.stay (implRIn_val HZ.out _)) | (go_at_call 18; with_reducible exact inCls Kn.stay (implRIn_val HG2.out _)))))
        refine wpQuiet_nil ?_
        rintro _ ⟨t5, rfl⟩
        clear ne cc0 cc1 cc2 cc3 cc4 cc5 cc6 cc7 cc8 cc9
        obtain ⟨y5, D5⟩ := t5
        clear D4
        dsimp only
        go_wp2
        go_ret
        exact ⟨rfl, D5.1⟩
end Go.Proofs.Ythbeiigiffnhjaa
