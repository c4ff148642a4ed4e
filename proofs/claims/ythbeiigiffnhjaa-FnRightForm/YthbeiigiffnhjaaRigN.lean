/-
  The program's RightIn.
-/
import Derived.Test.YthbeiigiffnhjaaRigK
import Derived.Test.YthbeiigiffnhjaaRigT
namespace Go.Proofs.Ythbeiigiffnhjaa
open Go.RowKit
set_option linter.unusedVariables false

set_option maxHeartbeats 400000 in
theorem implies_any (a b : Bool) (w : World) :
    Calls Try.prog 38 #[.bool a, .bool b] w fun e w' => e = .returned (.bool (!a || b)) ∧ w = w' := by
  cases a
  all_goals
    go_enter Try.func38, Try.ntmps38
    go_wp2
    go_ret
    exact ⟨rfl, rfl⟩
theorem implies_val {a b c : Bool} (h : (!a || b) = c) (w : World) :
    Calls Try.prog 38 #[.bool a, .bool b] w fun e w' => e = .returned (.bool c) ∧ w = w' := by
  subst h; exact implies_any a b w

/-- One right to something gives no more than another one. -/
def inG (t v : Int) (r wr k : Bool) (t2 v2 : Int) (r2 wr2 k2 : Bool) : Bool := t == t2 && (v == v2 && ((!r || r2) && ((!wr || wr2) && (!k2 || k))))

set_option maxHeartbeats 2000000 in
theorem within_any (t v : Int) (r wr k : Bool) (t2 v2 : Int) (r2 wr2 k2 : Bool) (w : World) :
    Calls Try.prog 33 #[rgt t v r wr k, rgt t2 v2 r2 wr2 k2] w fun e w' => e = .returned (.bool (inG t v r wr k t2 v2 r2 wr2 k2)) ∧ Below w.heap.size w w' := by
  by_cases h1 : t = t2
  · subst h1
    by_cases h2 : v = v2
    · subst h2
      have hk : inG t v r wr k t v r2 wr2 k2 = ((!r || r2) && ((!wr || wr2) && (!k2 || k))) := by simp [inG]
      rw [hk]
      clear hk
      cases g1 : (!r || r2)
      · have G1 := Lib.hid g1
        clear g1
        rw [Bool.false_and]
        go_enter Try.func33, Try.ntmps33
        go_wp2_with fail
        refine (implies_val G1.out _).mono ?_
        rintro e w' ⟨rfl, rfl⟩
        go_wp2
        go_ret
        exact ⟨rfl, ((Below.refl _ _).alloc (Nat.le_refl _) _).alloc (by simp) _⟩
      rw [Bool.true_and]
      have G1 := Lib.hid g1
      clear g1
      cases g2 : (!wr || wr2)
      · have G2 := Lib.hid g2
        clear g2
        rw [Bool.false_and]
        go_enter Try.func33, Try.ntmps33
        go_wp2_with fail
        refine (implies_val G1.out _).mono ?_
        rintro e w' ⟨rfl, rfl⟩
        go_wp2_with fail
        refine (implies_val G2.out _).mono ?_
        rintro e w' ⟨rfl, rfl⟩
        go_wp2
        go_ret
        exact ⟨rfl, ((Below.refl _ _).alloc (Nat.le_refl _) _).alloc (by simp) _⟩
      rw [Bool.true_and]
      have G2 := Lib.hid g2
      clear g2
      go_enter Try.func33, Try.ntmps33
      go_wp2_with fail
      refine (implies_val G1.out _).mono ?_
      rintro e w' ⟨rfl, rfl⟩
      go_wp2_with fail
      refine (implies_val G2.out _).mono ?_
      rintro e w' ⟨rfl, rfl⟩
      go_wp2_with fail
      refine (implies_any k2 k _).mono ?_
      rintro e w' ⟨rfl, rfl⟩
      go_wp2
      go_ret
      exact ⟨rfl, ((Below.refl _ _).alloc (Nat.le_refl _) _).alloc (by simp) _⟩
    · have h2' : (v == v2) = false := by simpa using h2
      have hk : inG t v r wr k t v2 r2 wr2 k2 = false := by simp [inG, h2]
      rw [hk]
      clear hk h2
      go_enter Try.func33, Try.ntmps33
      go_wp2
      go_ret
      exact ⟨rfl, ((Below.refl _ _).alloc (Nat.le_refl _) _).alloc (by simp) _⟩
  · have h1' : (t == t2) = false := by simpa using h1
    have hk : inG t v r wr k t2 v2 r2 wr2 k2 = false := by simp [inG, h1]
    rw [hk]
    clear hk h1
    go_enter Try.func33, Try.ntmps33
    go_wp2
    go_ret
    exact ⟨rfl, ((Below.refl _ _).alloc (Nat.le_refl _) _).alloc (by simp) _⟩
end Go.Proofs.Ythbeiigiffnhjaa
