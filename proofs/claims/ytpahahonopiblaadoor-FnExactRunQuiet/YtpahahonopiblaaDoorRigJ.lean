/-
  The program's rights: the two forms of a right, and their methods.
-/
import Derived.Test.YtpahahonopiblaaDoorRigS
namespace Go.Proofs.YtpahahonopiblaaDoor
open Go.RowKit
set_option linter.unusedVariables false

/-- A right to nothing, as a value of the interface. -/
abbrev capN : Value := .iface 147 (.agg #[])
/-- A right to something. -/
abbrev capG (t v : Int) (r wr k : Bool) : Value := .iface 148 (rgt t v r wr k)
/-- All fields are zero. -/
def nullR (t v : Int) (r wr k : Bool) : Bool := t == 0 && (v == 0 && (!r && (!wr && !k)))
theorem nullR_zero {t v : Int} {r wr k : Bool} (h : nullR t v r wr k = true) : t = 0 ∧ v = 0 ∧ r = false ∧ wr = false ∧ k = false := by
  simpa [nullR] using h

set_option maxHeartbeats 1000000 in
theorem capOf_null (w : World) :
    Calls Tryd.prog 102 #[rgt 0 0 false false false] w fun e w' => e = .returned capN ∧ Below w.heap.size w w' := by
  go_enter Tryd.func102, Tryd.ntmps102
  go_wp2
  go_ret
  exact ⟨rfl, (Below.refl _ _).alloc (Nat.le_refl _) _⟩

set_option maxHeartbeats 1000000 in
theorem capOf_some (t v : Int) (r wr k : Bool) (h : nullR t v r wr k = false) (w : World) :
    Calls Tryd.prog 102 #[rgt t v r wr k] w fun e w' => e = .returned (capG t v r wr k) ∧ Below w.heap.size w w' := by
  by_cases ht : t = 0
  · by_cases hv : v = 0
    · subst ht; subst hv
      cases r <;> cases wr <;> cases k
      · exact absurd h (by decide)
      all_goals
        clear h
        go_enter Tryd.func102, Tryd.ntmps102
        go_wp2
        go_ret
        exact ⟨rfl, (Below.refl _ _).alloc (Nat.le_refl _) _⟩
    · have hv' : (v == 0) = false := by simpa using hv
      subst ht
      clear hv h
      go_enter Tryd.func102, Tryd.ntmps102
      go_wp2
      go_ret
      exact ⟨rfl, (Below.refl _ _).alloc (Nat.le_refl _) _⟩
  · have ht' : (t == 0) = false := by simpa using ht
    clear ht h
    go_enter Tryd.func102, Tryd.ntmps102
    go_wp2
    go_ret
    exact ⟨rfl, (Below.refl _ _).alloc (Nat.le_refl _) _⟩

set_option maxHeartbeats 1000000 in
theorem nothingOk_any (w : World) :
    Calls Tryd.prog 157 #[.agg #[]] w fun e w' => e = .returned (.bool true) ∧ Below w.heap.size w w' := by
  go_enter Tryd.func157, Tryd.ntmps157
  go_wp2
  go_ret
  exact ⟨rfl, (Below.refl _ _).alloc (Nat.le_refl _) _⟩

/-- A right to something is ok. -/
def okG (t v : Int) (wr k : Bool) : Bool := inR t 1 8 && (inR v 0 5 && !(k && wr))
theorem okR_isnull {t v : Int} {r wr k : Bool} (h : nullR t v r wr k = true) : okR t v r wr k = true := by
  obtain ⟨rfl, rfl, rfl, rfl, rfl⟩ := nullR_zero h; rfl
theorem okR_nonull {t v : Int} {r wr k : Bool} (h : nullR t v r wr k = false) : okR t v r wr k = okG t v wr k := by
  by_cases ht : t = 0
  · subst ht
    have h1 : okG 0 v wr k = false := by simp [okG, inR]
    rw [h1]
    simpa [okR, nullR] using h
  · simp [okR, okG, ht]

set_option maxHeartbeats 2000000 in
theorem grantOk_any (t v : Int) (r wr k : Bool) (w : World) :
    Calls Tryd.prog 160 #[rgt t v r wr k] w fun e w' => e = .returned (.bool (okG t v wr k)) ∧ Below w.heap.size w w' := by
  by_cases h1 : 1 ≤ t
  · by_cases h2 : t ≤ 8
    · by_cases h3 : 0 ≤ v
      · by_cases h4 : v ≤ 5
        · have hk : okG t v wr k = !(k && wr) := by simp [okG, inR, h1, h2, h3, h4]
          rw [hk]; clear hk
          cases k <;> cases wr
          all_goals
            go_enter Tryd.func160, Tryd.ntmps160
            go_wp2
            go_ret
            exact ⟨rfl, (Below.refl _ _).alloc (Nat.le_refl _) _⟩
        · have hk : okG t v wr k = false := by simp [okG, inR, h4]
          rw [hk]; clear hk
          go_enter Tryd.func160, Tryd.ntmps160
          go_wp2
          go_ret
          exact ⟨rfl, (Below.refl _ _).alloc (Nat.le_refl _) _⟩
      · have hk : okG t v wr k = false := by simp [okG, inR, h3]
        rw [hk]; clear hk
        go_enter Tryd.func160, Tryd.ntmps160
        go_wp2
        go_ret
        exact ⟨rfl, (Below.refl _ _).alloc (Nat.le_refl _) _⟩
    · have hk : okG t v wr k = false := by simp [okG, inR, h2]
      rw [hk]; clear hk
      go_enter Tryd.func160, Tryd.ntmps160
      go_wp2
      go_ret
      exact ⟨rfl, (Below.refl _ _).alloc (Nat.le_refl _) _⟩
  · have hk : okG t v wr k = false := by simp [okG, inR, h1]
    rw [hk]; clear hk
    go_enter Tryd.func160, Tryd.ntmps160
    go_wp2
    go_ret
    exact ⟨rfl, (Below.refl _ _).alloc (Nat.le_refl _) _⟩
end Go.Proofs.YtpahahonopiblaaDoor
