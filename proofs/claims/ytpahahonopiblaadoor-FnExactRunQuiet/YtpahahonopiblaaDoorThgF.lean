/-
  The program's ThingOk.
-/
import Derived.Test.YtpahahonopiblaaDoorThgE
import Derived.Test.YtpahahonopiblaaDoorThgD
import Derived.Deep.DeepCutAuto
import Derived.Deep.Light
namespace Go.Proofs.YtpahahonopiblaaDoor
open Go.RowKit
set_option linter.unusedVariables false

/-- As the program asks. -/
def okI (x : T8) (r : Row) : Bool := okL x.sec x.vou && (inR x.vers r.v0 r.v1 && (inR x.num r.n0 r.n1 && (inR x.to r.t0 r.t1 && (inR x.slots.length r.s0 r.s1 && (inR x.queue.length r.q0 r.q1 && ((rts [x]).all R5.ok && x.queue.all (inR · 0 99)))))))
theorem rts_one (x : T8) : rts [x] = rtsX x := by simp [rts]
theorem inR_same (n a : Int) : inR n a a = (n == a) := by
  by_cases h : n = a
  · subst h; simp [inR]
  · have : inR n a a = false := by simp [inR]; omega
    rw [this]; simp [h]
theorem okT_out {x : T8} (h : inR x.kind 1 5 = false) : okT x = false := by simp [okT, okT1, h]
theorem okT_in {x : T8} (h : inR x.kind 1 5 = true) : okT x = okI x (rowOf x.kind) := by
  have hk : x.kind = 1 ∨ x.kind = 2 ∨ x.kind = 3 ∨ x.kind = 4 ∨ x.kind = 5 := by simp [inR] at h; omega
  have e4 : x.slots.length = 4 → (rtsX x).all R5.ok = x.slots.all R5.ok := fun e => by simp [rtsX, e]
  have e0 : x.slots.length = 0 → (rtsX x).all R5.ok = x.slots.all R5.ok := fun e => by
    have : x.slots = [] := List.length_eq_zero_iff.1 e
    simp [rtsX, this]
  unfold okT okI okT1 okT2 okT3 okT4 leastN
  rw [rts_one]
  generalize x.queue.all (inR · 0 99) = qa at *
  generalize x.slots.all R5.ok = sa at *
  generalize (rtsX x).all R5.ok = ra at *
  generalize okL x.sec x.vou = ol at *
  generalize x.slots.length = sn at *
  generalize x.queue.length = qn at *
  rcases hk with hk | hk | hk | hk | hk
  all_goals
    rw [hk]
    simp only [rowOf, hasS, inR]
    rw [Bool.eq_iff_iff]
    simp
    constructor
    · intro hh
      have h1 : ra = sa := by first | (apply e4; omega) | (apply e0; omega)
      subst h1
      simp_all
      try omega
    · intro hh
      have h1 : ra = sa := by first | (apply e4; omega) | (apply e0; omega)
      subst h1
      simp_all
      try omega
end Go.Proofs.YtpahahonopiblaaDoor
