/-
  When things are a table.
-/
import Derived.Test.YtpahahonopiblaaDoorTOkD
namespace Go.Proofs.YtpahahonopiblaaDoor
open Go.RowKit
set_option linter.unusedVariables false

def kindAt (l : List T8) (n : Int) : Int := (l[n.toNat]?.map T8.kind).getD 0
def versAt (l : List T8) (n : Int) : Int := (l[n.toNat]?.map T8.vers).getD 0
/-- A gate goes to a page. -/
def gateOk (l : List T8) (x : T8) : Bool := !(x.kind == 5 && (decide ((l.length : Int) < x.to) || kindAt l (x.to - 1) != 1))
/-- A right is to a thing that there is, as it is or was. -/
def rightIn (l : List T8) (r : R5) : Bool := !(decide ((l.length : Int) < r.t) || (decide (0 < r.t) && decide (versAt l (r.t - 1) < r.v)))
def elemOk (l : List T8) (x : T8) : Bool := okT x && (gateOk l x && x.slots.all (rightIn l))
/-- Things are a table. -/
def tabOk (l : List T8) : Bool := l.all (elemOk l) && inR l.length 1 8
theorem all_upto {α : Type} {f : α → Bool} {l : List α} (h : ∀ i (h : i < l.length), i < l.length → f l[i] = true) : l.all f = true := by
  simp only [List.all_eq_true]
  intro y hy
  obtain ⟨i, hi, rfl⟩ := List.getElem_of_mem hy
  exact h i hi hi
theorem all_bad {α : Type} {f : α → Bool} {l : List α} {i : Nat} (h : i < l.length) (hb : f l[i] = false) : l.all f = false := by
  simp only [List.all_eq_false]
  exact ⟨l[i], List.getElem_mem h, by simp [hb]⟩
theorem kindAt_of {l : List T8} {n : Int} {j : Nat} (hj : j < l.length) (hn : n = j) : kindAt l n = l[j].kind := by
  subst hn; simp [kindAt, List.getElem?_eq_getElem hj]
theorem versAt_of {l : List T8} {n : Int} {j : Nat} (hj : j < l.length) (hn : n = j) : versAt l n = l[j].vers := by
  subst hn; simp [versAt, List.getElem?_eq_getElem hj]
theorem okT_to {x : T8} (h : okT x = true) (hk : x.kind = 5) : 1 ≤ x.to ∧ x.to ≤ 8 := by
  simp only [okT, okT4, Bool.and_eq_true] at h
  have h4 := h.2.2.2.2.2.2
  simp [hk, inR] at h4
  exact h4
theorem okT_slots {x : T8} (h : okT x = true) : x.slots.length ≤ 4 := by
  simp only [okT, okT3, Bool.and_eq_true] at h
  have h3 := h.2.2.2.2.1
  split at h3
  · have : (x.slots.length : Int) = 4 := by simpa using h3
    omega
  · have : (x.slots.length : Int) = 0 := by simpa using h3
    omega
theorem okT_right {x : T8} (h : okT x = true) {j : Nat} (hj : j < x.slots.length) : (x.slots[j]).ok = true := by
  simp only [okT, Bool.and_eq_true] at h
  exact List.all_eq_true.1 h.2.2.2.1 _ (List.getElem_mem hj)
theorem R5.bd {r : R5} (h : r.ok = true) : 0 ≤ r.t ∧ r.t ≤ 8 := by
  by_cases ht : r.t = 0
  · omega
  · have h' : okR r.t r.v r.r r.w r.k = true := h
    simp [okR, ht, inR] at h'
    omega
end Go.Proofs.YtpahahonopiblaaDoor
