/-
  Lessened rights: plain facts.
-/
import Derived.Test.YthbeiigiffnhjaaRigI
import Derived.Test.YthbeiigiffnhjaaRigT
namespace Go.Proofs.Ythbeiigiffnhjaa
open Go.RowKit
set_option linter.unusedVariables false
theorem specLess_val {t v : Int} {r wr k read write strong : Bool} {a1 a2 : Int} {b1 b2 b3 : Bool} (h : lessV t v r wr k read write strong = rgt a1 a2 b1 b2 b3) (w : World) :
    Calls Try.prog 22 #[rgt t v r wr k, .bool read, .bool write, .bool strong] w fun e w' => e = .returned (rgt a1 a2 b1 b2 b3) ∧ Below w.heap.size w w' := by
  rw [← h]; exact specLess_any t v r wr k read write strong w
theorem implLess_val {t v : Int} {r wr k read write strong : Bool} {a1 a2 : Int} {b1 b2 b3 : Bool} (h : lessV t v r wr k read write strong = rgt a1 a2 b1 b2 b3) (w : World) :
    Calls Try.prog 20 #[rgt t v r wr k, .bool read, .bool write, .bool strong] w fun e w' => e = .returned (rgt a1 a2 b1 b2 b3) ∧ Below w.heap.size w w' := by
  rw [← h]; exact implLess_any t v r wr k read write strong w
theorem implLess_ex (t v : Int) (r wr k read write strong : Bool) (w : World) :
    Calls Try.prog 20 #[rgt t v r wr k, .bool read, .bool write, .bool strong] w fun e w' => (∃ a1 a2 b1 b2 b3, e = .returned (rgt a1 a2 b1 b2 b3) ∧ lessV t v r wr k read write strong = rgt a1 a2 b1 b2 b3) ∧ Below w.heap.size w w' :=
  (implLess_any t v r wr k read write strong w).mono fun e w' h => ⟨⟨_, _, _, _, _, h.1, rfl⟩, h.2⟩
theorem lessV_some {t v : Int} {r wr k : Bool} (read write strong : Bool) (h : okR t v r wr k = true) (ht : ¬ t = 0) : lessV t v r wr k read write strong = rgt t v (r && read) (wr && (write && strong)) (k || !strong) := by
  have hg : lsG t v r wr k = true := by simp [lsG, h, ht]
  simp only [lessV, hg, lsA, Bool.true_and]; rfl
theorem lessV_null (read write strong : Bool) : lessV 0 0 false false false read write strong = rgt 0 0 false false false := rfl
theorem rgt_inj {t v : Int} {r wr k : Bool} {a1 a2 : Int} {b1 b2 b3 : Bool} (h : rgt t v r wr k = rgt a1 a2 b1 b2 b3) : t = a1 ∧ v = a2 ∧ r = b1 ∧ wr = b2 ∧ k = b3 := by
  simp only [rgt, Value.agg.injEq, Array.mk.injEq, List.cons.injEq, Value.int.injEq, Value.bool.injEq, and_true, true_and] at h
  obtain ⟨rfl, rfl, rfl, rfl, rfl⟩ := h
  exact ⟨rfl, rfl, rfl, rfl, rfl⟩
theorem okR_parts {t v : Int} {r wr k : Bool} (h : okR t v r wr k = true) (ht : ¬ t = 0) : inR t 1 8 = true ∧ inR v 0 5 = true ∧ (k && wr) = false := by
  simp only [okR, ht, if_false, Bool.and_eq_true, Bool.not_eq_true'] at h
  exact ⟨h.1, h.2.1, h.2.2⟩
theorem okR_mk {t v : Int} {r wr k : Bool} (ht : ¬ t = 0) (h1 : inR t 1 8 = true) (h2 : inR v 0 5 = true) (h3 : (k && wr) = false) : okR t v r wr k = true := by
  simp [okR, ht, h1, h2, h3]
theorem less_ok {t v : Int} {r wr k read write strong : Bool} {a1 a2 : Int} {b1 b2 b3 : Bool} (h : okR t v r wr k = true) (hl : lessV t v r wr k read write strong = rgt a1 a2 b1 b2 b3) : okR a1 a2 b1 b2 b3 = true := by
  by_cases ht : t = 0
  · subst ht
    obtain ⟨rfl, rfl, rfl, rfl⟩ := okR_null h
    obtain ⟨rfl, rfl, rfl, rfl, rfl⟩ := rgt_inj ((lessV_null read write strong).symm.trans hl)
    rfl
  · obtain ⟨rfl, rfl, rfl, rfl, rfl⟩ := rgt_inj ((lessV_some read write strong h ht).symm.trans hl)
    obtain ⟨p1, p2, p3⟩ := okR_parts h ht
    refine okR_mk ht p1 p2 ?_
    revert p3
    cases k <;> cases wr <;> cases write <;> cases strong <;> decide
theorem less_in {t v : Int} {r wr k read write strong : Bool} {a1 a2 : Int} {b1 b2 b3 : Bool} (h : okR t v r wr k = true) (hl : lessV t v r wr k read write strong = rgt a1 a2 b1 b2 b3) : inB a1 a2 b1 b2 b3 t v r wr k = true := by
  have ho := less_ok h hl
  by_cases ht : t = 0
  · subst ht
    obtain ⟨rfl, rfl, rfl, rfl⟩ := okR_null h
    obtain ⟨rfl, rfl, rfl, rfl, rfl⟩ := rgt_inj ((lessV_null read write strong).symm.trans hl)
    rfl
  · obtain ⟨rfl, rfl, rfl, rfl, rfl⟩ := rgt_inj ((lessV_some read write strong h ht).symm.trans hl)
    simp only [inB, h, ho, Bool.true_and, inRgt, beq_self_eq_true]
    cases r <;> cases wr <;> cases k <;> cases read <;> cases write <;> cases strong <;> simp
theorem less_all {t v : Int} {r wr k : Bool} (h : okR t v r wr k = true) : lessV t v r wr k true true true = rgt t v r wr k := by
  by_cases ht : t = 0
  · subst ht
    obtain ⟨rfl, rfl, rfl, rfl⟩ := okR_null h
    rfl
  · rw [lessV_some _ _ _ h ht]; simp
theorem less_twice {t v : Int} {r wr k read write strong : Bool} {a1 a2 : Int} {b1 b2 b3 : Bool} (h : okR t v r wr k = true) (hl : lessV t v r wr k read write strong = rgt a1 a2 b1 b2 b3) : lessV a1 a2 b1 b2 b3 read write strong = rgt a1 a2 b1 b2 b3 := by
  have ho := less_ok h hl
  by_cases ht : t = 0
  · subst ht
    obtain ⟨rfl, rfl, rfl, rfl⟩ := okR_null h
    obtain ⟨rfl, rfl, rfl, rfl, rfl⟩ := rgt_inj ((lessV_null read write strong).symm.trans hl)
    rfl
  · obtain ⟨rfl, rfl, rfl, rfl, rfl⟩ := rgt_inj ((lessV_some read write strong h ht).symm.trans hl)
    rw [lessV_some _ _ _ ho ht]
    cases r <;> cases wr <;> cases k <;> cases read <;> cases write <;> cases strong <;> rfl
/-- Lessened by two, in either order. -/
theorem less_swap {t v : Int} {r wr k : Bool} (a b c d e f : Bool) (h : okR t v r wr k = true) : ∃ a1 a2 b1 b2 b3 c1 c2 d1 d2 d3 p1 p2 q1 q2 q3,
    lessV t v r wr k a b c = rgt a1 a2 b1 b2 b3 ∧ lessV a1 a2 b1 b2 b3 d e f = rgt p1 p2 q1 q2 q3 ∧ lessV t v r wr k d e f = rgt c1 c2 d1 d2 d3 ∧ lessV c1 c2 d1 d2 d3 a b c = rgt p1 p2 q1 q2 q3 := by
  by_cases ht : t = 0
  · subst ht
    obtain ⟨rfl, rfl, rfl, rfl⟩ := okR_null h
    exact ⟨0, 0, false, false, false, 0, 0, false, false, false, 0, 0, false, false, false, rfl, rfl, rfl, rfl⟩
  · have h1 := lessV_some a b c h ht
    have h2 := lessV_some d e f h ht
    refine ⟨_, _, _, _, _, _, _, _, _, _, _, _, _, _, _, h1, lessV_some _ _ _ (less_ok h h1) ht, h2, ?_⟩
    rw [lessV_some _ _ _ (less_ok h h2) ht]
    cases r <;> cases wr <;> cases k <;> cases a <;> cases b <;> cases c <;> cases d <;> cases e <;> cases f <;> rfl
theorem less_flags {t v : Int} {r wr k read write strong : Bool} {a1 a2 : Int} {b1 b2 b3 : Bool} (h : okR t v r wr k = true) (hl : lessV t v r wr k read write strong = rgt a1 a2 b1 b2 b3) :
    (read = true ∨ read = false ∧ b1 = false) ∧ (strong = true ∧ write = true ∨ strong = true ∧ write = false ∧ b2 = false ∨ strong = false ∧ b2 = false ∧ ((a1 == 0) = true ∨ (a1 == 0) = false ∧ b3 = true)) := by
  by_cases ht : t = 0
  · subst ht
    obtain ⟨rfl, rfl, rfl, rfl⟩ := okR_null h
    obtain ⟨rfl, rfl, rfl, rfl, rfl⟩ := rgt_inj ((lessV_null read write strong).symm.trans hl)
    cases read <;> cases write <;> cases strong <;> simp
  · obtain ⟨rfl, rfl, rfl, rfl, rfl⟩ := rgt_inj ((lessV_some read write strong h ht).symm.trans hl)
    cases r <;> cases wr <;> cases k <;> cases read <;> cases write <;> cases strong <;> simp <;> exact Classical.em _
theorem inB_fst {t v : Int} {r wr k : Bool} {t2 v2 : Int} {r2 wr2 k2 : Bool} (h : inB t v r wr k t2 v2 r2 wr2 k2 = true) : okR t v r wr k = true := by
  simp only [inB, Bool.and_eq_true] at h; exact h.1
theorem inB_trans {t v : Int} {r wr k : Bool} {t2 v2 : Int} {r2 wr2 k2 : Bool} {t3 v3 : Int} {r3 wr3 k3 : Bool} (h : inB t v r wr k t2 v2 r2 wr2 k2 = true) (h' : inB t2 v2 r2 wr2 k2 t3 v3 r3 wr3 k3 = true) :
    inB t v r wr k t3 v3 r3 wr3 k3 = true := by
  simp only [inB, Bool.and_eq_true] at h h' ⊢
  refine ⟨h.1, h'.2.1, ?_⟩
  have g := h.2.2
  have g' := h'.2.2
  by_cases ht : t = 0
  · simp [inRgt, ht]
  · simp only [inRgt, ht, decide_false, Bool.false_or, Bool.and_eq_true, beq_iff_eq] at g
    obtain ⟨rfl, rfl, g1, g2, g3⟩ := g
    simp only [inRgt, ht, decide_false, Bool.false_or, Bool.and_eq_true, beq_iff_eq] at g'
    obtain ⟨rfl, rfl, g4, g5, g6⟩ := g'
    simp only [inRgt, ht, decide_false, Bool.false_or, beq_self_eq_true, Bool.true_and]
    revert g1 g2 g3 g4 g5 g6
    cases r <;> cases r2 <;> cases r3 <;> cases wr <;> cases wr2 <;> cases wr3 <;> cases k <;> cases k2 <;> cases k3 <;> decide
/-- Weak, a right is ok just if it is to something and not to write. -/
theorem form_weak {t v : Int} {r wr k : Bool} (h : okR t v r wr k = true) : okR t v r wr true = (decide (0 < t) && !wr) := by
  by_cases ht : t = 0
  · subst ht; simp [okR]
  · obtain ⟨p1, p2, _⟩ := okR_parts h ht
    have := (okR_bd h ht).1
    have hp : 0 < t := by omega
    simp [okR, ht, p1, p2, hp]
theorem form_thing (v : Int) (r wr k : Bool) : okR 9 v r wr k = false := by simp [okR, inR]
theorem form_vers {t v : Int} {r wr k : Bool} (h : okR t v r wr k = true) : okR t 6 r wr k = false := by
  by_cases ht : t = 0
  · subst ht; simp [okR]
  · simp [okR, ht, inR]
end Go.Proofs.Ythbeiigiffnhjaa
