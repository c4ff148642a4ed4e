/-
  The model's rights: what spec.RightOk, RightIn and RightLess return, in plain values.
-/
import Derived.Test.YtohfincnjhemfaaKit
import Derived.Test.YtohfincnjhemfaaWld
namespace Go.Proofs.Ytohfincnjhemfaa
open Go.RowKit
set_option linter.unusedVariables false

/-- A right as a value. -/
abbrev rgt (t v : Int) (r wr k : Bool) : Value := .agg #[.int .i64 t, .int .i64 v, .bool r, .bool wr, .bool k]
abbrev rgtC (t v : Int) (r wr k : Bool) : Array Value := #[.int .i64 t, .int .i64 v, .bool r, .bool wr, .bool k]
def inR (n lo hi : Int) : Bool := decide (lo ≤ n ∧ n ≤ hi)
/-- A right is ok. -/
def okR (t v : Int) (r wr k : Bool) : Bool := if t = 0 then (v == 0 && (!r && (!wr && !k))) else (inR t 1 8 && (inR v 0 5 && !(k && wr)))
/-- One right gives no more than another one. -/
def inRgt (t v : Int) (r wr k : Bool) (t2 v2 : Int) (r2 wr2 k2 : Bool) : Bool := decide (t = 0) || (t == t2 && (v == v2 && ((!r || r2) && ((!wr || wr2) && (k || !k2)))))

theorem okR_null {v : Int} {r wr k : Bool} (h : okR 0 v r wr k = true) : v = 0 ∧ r = false ∧ wr = false ∧ k = false := by
  simp [okR] at h; exact h

end Go.Proofs.Ytohfincnjhemfaa
