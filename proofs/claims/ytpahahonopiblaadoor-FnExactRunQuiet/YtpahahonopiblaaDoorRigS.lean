/-
  The model's rights: what spec.RightOk, RightIn and RightLess return, in plain values.
-/
import Derived.Test.YtpahahonopiblaaDoorKit
import Derived.Test.YtpahahonopiblaaDoorWld
namespace Go.Proofs.YtpahahonopiblaaDoor
open Go.RowKit
set_option linter.unusedVariables false

/-- A right as a value. -/
abbrev rgt (t v : Int) (r wr k : Bool) : Value := .agg #[.int .i64 t, .int .i64 v, .bool r, .bool wr, .bool k]
abbrev rgtC (t v : Int) (r wr k : Bool) : Array Value := #[.int .i64 t, .int .i64 v, .bool r, .bool wr, .bool k]
def inR (n lo hi : Int) : Bool := decide (lo ≤ n ∧ n ≤ hi)
/-- A right is ok. -/
def okR (t v : Int) (r wr k : Bool) : Bool := if t = 0 then (v == 0 && (!r && (!wr && !k))) else (inR t 1 8 && (inR v 0 5 && !(k && wr)))
/-- One right gives no more than another one. -/
def inRgt (t v : Int) (r wr k : Bool) (t2 v2 : Int) (r2 wr2 k2 : Bool) : Bool := decide (t = 0) || (t == t2 && (v == v2 && ((!r || r2) && ((!wr || wr2) && (k || !k2)))))

theorem okR_null {v : Int} {r wr k : Bool} (h : okR 0 v r wr k = true) : v = 0 ∧ r = false ∧ wr = false ∧ k = false := by
  simp [okR] at h; exact h

set_option maxHeartbeats 1000000 in
theorem specROk_zero (v : Int) (r wr k : Bool) (w : World) :
    Calls Tryd.prog 97 #[rgt 0 v r wr k] w fun e w' => e = .returned (.bool (okR 0 v r wr k)) ∧ Below w.heap.size w w' := by
  by_cases hv : v = 0
  · subst hv
    cases r <;> cases wr <;> cases k
    all_goals
      go_enter Tryd.func97, Tryd.ntmps97
      go_wp2
      go_ret
      exact ⟨rfl, (Below.refl _ _).alloc (Nat.le_refl _) _⟩
  · have hv' : (v == 0) = false := by simpa using hv
    have hk : okR 0 v r wr k = false := by simp [okR, hv]
    rw [hk]
    clear hk hv
    go_enter Tryd.func97, Tryd.ntmps97
    go_wp2
    go_ret
    exact ⟨rfl, (Below.refl _ _).alloc (Nat.le_refl _) _⟩

set_option maxHeartbeats 1000000 in
theorem specROk_some (t v : Int) (r wr k : Bool) (w : World) (ht : ¬ t = 0) :
    Calls Tryd.prog 97 #[rgt t v r wr k] w fun e w' => e = .returned (.bool (okR t v r wr k)) ∧ Below w.heap.size w w' := by
  have ht' : (t == 0) = false := by simpa using ht
  have hk : okR t v r wr k = (inR t 1 8 && (inR v 0 5 && !(k && wr))) := by simp [okR, ht]
  rw [hk]
  clear hk ht
  cases h1 : inR t 1 8
  · have H1 := Lib.hid h1
    clear h1
    rw [Bool.false_and]
    go_enter Tryd.func97, Tryd.ntmps97
    go_wp2_with fail
    refine (l6In_val H1.out _).mono ?_
    rintro e w' ⟨rfl, rfl⟩
    go_wp2
    go_ret
    exact ⟨rfl, (Below.refl _ _).alloc (Nat.le_refl _) _⟩
  cases h2 : inR v 0 5
  · have H1 := Lib.hid h1
    have H2 := Lib.hid h2
    clear h1 h2
    rw [Bool.false_and, Bool.and_false]
    go_enter Tryd.func97, Tryd.ntmps97
    go_wp2_with fail
    refine (l6In_val H1.out _).mono ?_
    rintro e w' ⟨rfl, rfl⟩
    go_wp2_with fail
    refine (l6In_val H2.out _).mono ?_
    rintro e w' ⟨rfl, rfl⟩
    go_wp2
    go_ret
    exact ⟨rfl, (Below.refl _ _).alloc (Nat.le_refl _) _⟩
  · have H1 := Lib.hid h1
    have H2 := Lib.hid h2
    clear h1 h2
    cases k <;> cases wr
    all_goals
      go_enter Tryd.func97, Tryd.ntmps97
      go_wp2_with fail
      refine (l6In_val H1.out _).mono ?_
      rintro e w' ⟨rfl, rfl⟩
      go_wp2_with fail
      refine (l6In_val H2.out _).mono ?_
      rintro e w' ⟨rfl, rfl⟩
      go_wp2
      go_ret
      exact ⟨rfl, (Below.refl _ _).alloc (Nat.le_refl _) _⟩

theorem specROk_any (t v : Int) (r wr k : Bool) (w : World) :
    Calls Tryd.prog 97 #[rgt t v r wr k] w fun e w' => e = .returned (.bool (okR t v r wr k)) ∧ Below w.heap.size w w' := by
  by_cases ht : t = 0
  · subst ht; exact specROk_zero v r wr k w
  · exact specROk_some t v r wr k w ht
theorem specROk_val {t v : Int} {r wr k b : Bool} (h : okR t v r wr k = b) (w : World) :
    Calls Tryd.prog 97 #[rgt t v r wr k] w fun e w' => e = .returned (.bool b) ∧ Below w.heap.size w w' := by
  subst h; exact specROk_any t v r wr k w
end Go.Proofs.YtpahahonopiblaaDoor
