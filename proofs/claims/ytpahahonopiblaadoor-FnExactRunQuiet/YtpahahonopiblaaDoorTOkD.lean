/-
  When a thing is ok.
-/
import Derived.Test.YtpahahonopiblaaDoorTab
import Derived.Deep.DeepCutAuto
namespace Go.Proofs.YtpahahonopiblaaDoor
open Go.RowKit
set_option linter.unusedVariables false

/-- Kinds and ranges. -/
def okT1 (x : T8) : Bool := inR x.kind 1 5 && (okL x.sec x.vou && (inR x.vers 0 5 && !decide (3 < (x.queue.length : Int))))
/-- The number, and the version. -/
def leastN (x : T8) : Int := if x.kind = 3 then -4 else 0
def okT2 (x : T8) : Bool := inR x.num (leastN x) 99 && (!(x.num != 0 && (x.kind == 2 || x.kind == 4)) && !(x.vers != 0 && (x.kind == 3 || x.kind == 5)))
def hasS (k : Int) : Bool := k == 2 || k == 3
def okT3 (x : T8) : Bool := if hasS x.kind then (x.slots.length : Int) == 4 else (x.slots.length : Int) == 0
def okT4 (x : T8) : Bool := (x.kind == 4 || (x.queue.length : Int) == 0) && ((x.kind == 5 && inR x.to 1 8) || (x.kind != 5 && x.to == 0))
/-- A thing is ok. -/
def okT (x : T8) : Bool := okT1 x && (okT2 x && (x.queue.all (inR · 0 99) && (x.slots.all R5.ok && (okT3 x && okT4 x))))

set_option maxHeartbeats 400000 in
theorem l3Slots_any (k : Int) (w : World) :
    Calls Tryd.prog 105 #[.int .i64 k] w fun e w' => e = .returned (.bool (hasS k)) ∧ w = w' := by
  by_cases h2 : k = 2
  · subst h2
    go_enter Tryd.func105, Tryd.ntmps105
    go_wp2
    go_ret
    exact ⟨rfl, rfl⟩
  · have h2' : (k == 2) = false := by simpa using h2
    go_enter Tryd.func105, Tryd.ntmps105
    go_wp2
    go_ret
    exact ⟨by simp [hasS, h2'], rfl⟩

theorem l3Slots_val {k : Int} {b : Bool} (h : hasS k = b) (w : World) :
    Calls Tryd.prog 105 #[.int .i64 k] w fun e w' => e = .returned (.bool b) ∧ w = w' := by
  subst h; exact l3Slots_any k w
theorem okT2_of {x : T8} (h : inR x.num (leastN x) 99 = true) : okT2 x = (!(x.num != 0 && (x.kind == 2 || x.kind == 4)) && !(x.vers != 0 && (x.kind == 3 || x.kind == 5))) := by simp [okT2, h]
/-- Numbers of a queue, the first k of them. -/
def qOk (l : List Int) (k : Nat) : Prop := ∀ i (h : i < l.length), i < k → inR l[i] 0 99 = true
def sOk (l : List R5) (k : Nat) : Prop := ∀ i (h : i < l.length), i < k → (l[i]).ok = true
theorem qOk_all {l : List Int} (h : qOk l l.length) : l.all (inR · 0 99) = true := by
  simp only [List.all_eq_true]
  intro y hy
  obtain ⟨i, hi, rfl⟩ := List.getElem_of_mem hy
  exact h i hi hi
theorem sOk_all {l : List R5} (h : sOk l l.length) : l.all R5.ok = true := by
  simp only [List.all_eq_true]
  intro y hy
  obtain ⟨i, hi, rfl⟩ := List.getElem_of_mem hy
  exact h i hi hi
theorem q_bad {l : List Int} {i : Nat} (h : i < l.length) (hb : inR l[i] 0 99 = false) : l.all (inR · 0 99) = false := by
  simp only [List.all_eq_false]
  exact ⟨l[i], List.getElem_mem h, by simp [hb]⟩
theorem s_bad {l : List R5} {i : Nat} (h : i < l.length) (hb : (l[i]).ok = false) : l.all R5.ok = false := by
  simp only [List.all_eq_false]
  exact ⟨l[i], List.getElem_mem h, by simp [hb]⟩
end Go.Proofs.YtpahahonopiblaaDoor
