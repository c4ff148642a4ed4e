/-
  Reading a right: the texts of rights, one each.
-/
import Derived.Test.YtpahahonopiblaaDoorRigV
import Derived.Lib.Strings
namespace Go.Proofs.YtpahahonopiblaaDoor
open Go.RowKit
set_option linter.unusedVariables false

/-- What is read out of a text: the right that it is the text of, or nothing. -/
def RR (s : ByteArray) (t v : Int) (r wr k : Bool) (b : Bool) : Prop :=
  (b = true ∧ okR t v r wr k = true ∧ txtR t v r wr k = s) ∨ (b = false ∧ (t = 0 ∧ v = 0 ∧ r = false ∧ wr = false ∧ k = false) ∧ ∀ t v r wr k, okR t v r wr k = true → txtR t v r wr k ≠ s)
theorem RR.total (s : ByteArray) : ∃ t v r wr k b, RR s t v r wr k b := by
  by_cases h : ∃ t v r wr k, okR t v r wr k = true ∧ txtR t v r wr k = s
  · obtain ⟨t, v, r, wr, k, h1, h2⟩ := h
    exact ⟨t, v, r, wr, k, true, .inl ⟨rfl, h1, h2⟩⟩
  · exact ⟨0, 0, false, false, false, false, .inr ⟨rfl, ⟨rfl, rfl, rfl, rfl, rfl⟩, fun t v r wr k h1 h2 => h ⟨t, v, r, wr, k, h1, h2⟩⟩⟩
theorem RR.text {t v : Int} {r wr k : Bool} (h : okR t v r wr k = true) : RR (txtR t v r wr k) t v r wr k true := .inl ⟨rfl, h, rfl⟩
theorem dig8 {n : Int} (h0 : 0 ≤ n) (h9 : n ≤ 9) : (((48 + n.toNat).toUInt8).toNat : Int) - 48 = n := by
  rcases ten n h0 h9 with rfl | rfl | rfl | rfl | rfl | rfl | rfl | rfl | rfl | rfl <;> rfl
theorem bif8 (b : Bool) (c : UInt8) (n : Int) (hn : (c.toNat : Int) = n) (h : c ≠ 45) : (((bif b then c else 45 : UInt8).toNat : Int) == n) = b := by
  cases b
  · subst hn
    have : ¬ (45 : UInt8).toNat = c.toNat := fun e => h (UInt8.toNat_inj.1 e).symm
    simp only [cond_false, beq_eq_false_iff_ne, ne_eq]
    omega
  · subst hn; simp
theorem txtR_inj {t v : Int} {r wr k : Bool} {t2 v2 : Int} {r2 wr2 k2 : Bool} (h : okR t v r wr k = true) (h2 : okR t2 v2 r2 wr2 k2 = true) (e : txtR t v r wr k = txtR t2 v2 r2 wr2 k2) :
    t = t2 ∧ v = v2 ∧ r = r2 ∧ wr = wr2 ∧ k = k2 := by
  by_cases ht : t = 0
  · subst ht
    by_cases ht2 : t2 = 0
    · subst ht2
      obtain ⟨rfl, rfl, rfl, rfl⟩ := okR_null h
      obtain ⟨rfl, rfl, rfl, rfl⟩ := okR_null h2
      exact ⟨rfl, rfl, rfl, rfl, rfl⟩
    · rw [txtR_null h, txtR_some h2 ht2] at e
      have := congrArg ByteArray.size e
      exact absurd this (by show ¬ (1 = 6); decide)
  · by_cases ht2 : t2 = 0
    · subst ht2
      rw [txtR_null h2, txtR_some h ht] at e
      have := congrArg ByteArray.size e
      exact absurd this (by show ¬ (6 = 1); decide)
    · rw [txtR_some h ht, txtR_some h2 ht2] at e
      obtain ⟨a1, a2, a3, a4⟩ := okR_bd h ht
      obtain ⟨b1, b2, b3, b4⟩ := okR_bd h2 ht2
      simp only [ByteArray.mk.injEq, Array.mk.injEq, List.cons.injEq, and_true, true_and] at e
      obtain ⟨e1, e2, e3, e4, e5⟩ := e
      have p1 := dig8 (n := t) (by omega) (by omega)
      have p2 := dig8 (n := v) (by omega) (by omega)
      rw [e1, dig8 (by omega) (by omega)] at p1
      rw [e2, dig8 (by omega) (by omega)] at p2
      refine ⟨p1.symm, p2.symm, ?_, ?_, ?_⟩
      · revert e3; cases r <;> cases r2 <;> decide
      · revert e4; cases wr <;> cases wr2 <;> decide
      · revert e5; cases k <;> cases k2 <;> decide
theorem txtR_ne {t v : Int} {r wr k : Bool} (h : okR t v r wr k = true) : (txtR t v r wr k).toList.isEmpty = false := by
  by_cases ht : t = 0
  · subst ht; rw [txtR_null h, Lib.toList_data]; rfl
  · rw [txtR_some h ht, Lib.toList_data]; rfl
theorem RR.one {s : ByteArray} {t v : Int} {r wr k b : Bool} {t2 v2 : Int} {r2 wr2 k2 b2 : Bool} (h : RR s t v r wr k b) (h2 : RR s t2 v2 r2 wr2 k2 b2) :
    t = t2 ∧ v = v2 ∧ r = r2 ∧ wr = wr2 ∧ k = k2 ∧ b = b2 := by
  rcases h with ⟨rfl, ho, rfl⟩ | ⟨rfl, ⟨rfl, rfl, rfl, rfl, rfl⟩, hn⟩
  · rcases h2 with ⟨rfl, ho2, e⟩ | ⟨rfl, _, hn2⟩
    · obtain ⟨rfl, rfl, rfl, rfl, rfl⟩ := txtR_inj ho ho2 e.symm
      exact ⟨rfl, rfl, rfl, rfl, rfl, rfl⟩
    · exact absurd rfl (hn2 _ _ _ _ _ ho)
  · rcases h2 with ⟨rfl, ho2, e⟩ | ⟨rfl, ⟨rfl, rfl, rfl, rfl, rfl⟩, hn2⟩
    · exact absurd e (hn _ _ _ _ _ ho2)
    · exact ⟨rfl, rfl, rfl, rfl, rfl, rfl⟩
end Go.Proofs.YtpahahonopiblaaDoor
