/-
  What is told of a call when a right or a thing is another one.
-/
import Derived.Test.YtjbhcbjokeaagaaDoorCkM
import Derived.Test.YtjbhcbjokeaagaaDoorTaS
namespace Go.Proofs.YtjbhcbjokeaagaaDoor
open Go.RowKit
set_option linter.unusedVariables false

theorem thAt_set {l : List T8} {jr : Nat} (hj : jr < l.length) (x : T8) : thAt (l.set jr x) ((jr : Int) + 1) = x := by
  rw [thAt_of (j := jr) (by simpa using hj) (by omega)]; simp
theorem thAt_set_ne {l : List T8} {jr : Nat} {n : Int} (hn : inR n 1 l.length = true) (hne : n ≠ (jr : Int) + 1) (x : T8) : thAt (l.set jr x) n = thAt l n := by
  obtain ⟨j, hj, e⟩ := idx_of hn
  rw [thAt_of (j := j) (by simpa using hj) e, thAt_of hj e, List.getElem_set_ne (by omega)]
theorem slotAt_set {x : T8} {ja : Nat} (hj : ja < x.slots.length) (v : R5) : slotAt { x with slots := x.slots.set ja v } (ja : Int) = v := by
  rw [slotAt_of (j := ja) (by simpa using hj) rfl]; simp
/-- By no right nothing is done. -/
theorem chk_null {l : List T8} {jr ja : Nat} {ck cb cn : Int} (h3 : ck ≠ 3) (hj : jr < l.length) (hja : ja < l[jr].slots.length) :
    chkV (l.set jr { l[jr] with slots := (l[jr]).slots.set ja ⟨0, 0, false, false, false⟩ }) ⟨ck, (jr : Int) + 1, (ja : Int), cb, cn⟩ = -1 := by
  cases h1 : (tabOk (l.set jr { l[jr] with slots := (l[jr]).slots.set ja ⟨0, 0, false, false, false⟩ }) && isRun (l.set jr { l[jr] with slots := (l[jr]).slots.set ja ⟨0, 0, false, false, false⟩ }) ((jr : Int) + 1)) with
  | false => exact chkV_no h1
  | true =>
    cases h2 : (C5.ok ⟨ck, (jr : Int) + 1, (ja : Int), cb, cn⟩) with
    | false => exact chkV_bad h2
    | true =>
      rw [chkV_go h1 h2, if_neg h3]
      dsimp only
      rw [thAt_set hj, slotAt_set hja]
      exact useV_none (by simp [inR]) (Int.le_refl _) (by dsimp only; omega)
end Go.Proofs.YtjbhcbjokeaagaaDoor
