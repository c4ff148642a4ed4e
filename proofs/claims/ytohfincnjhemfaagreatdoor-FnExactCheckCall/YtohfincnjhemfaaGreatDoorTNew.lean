/-
  The model's ThingNew.
-/
import Derived.Test.YtohfincnjhemfaaGreatDoorTOk
import Derived.Test.YtohfincnjhemfaaGreatDoorCpD
namespace Go.Proofs.YtohfincnjhemfaaGreatDoor
open Go.RowKit
set_option linter.unusedVariables false

/-- A new thing. -/
def newT (kind sec vou tt : Int) : T8 := ⟨kind, sec, vou, 0, 0, if hasS kind then [⟨0, 0, false, false, false⟩, ⟨0, 0, false, false, false⟩, ⟨0, 0, false, false, false⟩, ⟨0, 0, false, false, false⟩] else [], [], tt⟩
def zeroT : T8 := ⟨0, 0, 0, 0, 0, [], [], 0⟩
/-- Four rights to nothing. -/
abbrev zr20 : Array Value := #[.int .i64 0, .int .i64 0, .bool false, .bool false, .bool false, .int .i64 0, .int .i64 0, .bool false, .bool false, .bool false, .int .i64 0, .int .i64 0, .bool false, .bool false, .bool false, .int .i64 0, .int .i64 0, .bool false, .bool false, .bool false]
/-- What ThingNew leaves: nothing, and it says so; or a new thing that owns what it holds. -/
def NewPost (kind sec vou tt : Int) (w : World) (e : Ending) (w' : World) : Prop :=
  ((okT (newT kind sec vou tt) = false ∧ e = .returned (.tuple #[zeroT.val ⟨none, 0, 0⟩ ⟨none, 0, 0⟩, .bool false])) ∨
    okT (newT kind sec vou tt) = true ∧ ∃ s q : Sl, e = .returned (.tuple #[(newT kind sec vou tt).val s q, .bool true]) ∧ HasR w' s (newT kind sec vou tt).slots ∧ HasQ w' q (newT kind sec vou tt).queue ∧
      (hasS kind = true → ∃ (b : Nat) (TY : TypeId), w.heap.size ≤ b ∧ s = ⟨some ⟨b, 0, none⟩, 4, 4⟩ ∧ Box w' b TY zr20) ∧ (∀ b o, q.a = some ⟨b, o, none⟩ → w.heap.size ≤ b)) ∧ Below w.heap.size w w'
end Go.Proofs.YtohfincnjhemfaaGreatDoor
