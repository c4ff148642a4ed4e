/-
  The program's small tests: numbers of a queue, the target of a gate, a right in a table.
-/
import Derived.Test.YtpahahonopiblaaDoorThgD
import Derived.Deep.DeepCutAuto
import Derived.Deep.Light
namespace Go.Proofs.YtpahahonopiblaaDoor
open Go.RowKit
set_option linter.unusedVariables false

set_option maxRecDepth 100000 in
set_option maxHeartbeats 2000000 in
theorem queueOk_any (x : T8) (s q : Sl) (w : World) (hq : HasQ w q x.queue) (hz : x.queue.length ≤ 1048576) :
    Calls Tryd.prog 99 #[x.val s q] w fun e w' => e = .returned (.bool (x.queue.all (inR · 0 99))) ∧ Below w.heap.size w w' := by
  have hqn := hq.len
  have hB : Below w.heap.size w (w.alloc (.cells (x.cs s q) 37)) := (Below.refl _ _).alloc (Nat.le_refl _) _
  have HQ1 := Lib.hid (hq.stay hB)
  have HB := Lib.hid hB
  clear hq hB
  go_enter Tryd.func99, Tryd.ntmps99
  go_wp2
  go_loop [8] (fun i => ∃ k : Nat, k ≤ x.queue.length ∧ i = .int .i64 k ∧ qOk x.queue k) (fun i => x.queue.length - (intOf i).toNat)
  case atStart => exact ⟨0, by omega, rfl, fun i h hi => absurd hi (by omega)⟩
  case round =>
    obtain ⟨k, hk, rfl, hok⟩ := hrel
    have HOK := Lib.hid hok
    clear hok
    by_cases hlt : k < x.queue.length
    · have hlt' : (k : Int) < (x.queue.length : Int) := by omega
      obtain ⟨b, o, ea, hc⟩ := HQ1.out.at hlt
      generalize hv : x.queue[k] = v at *
      have HV := Lib.hid hv
      clear hv
      by_cases h1 : v < 0
      · have HA := Lib.hid (q_bad hlt (show inR x.queue[k] 0 99 = false by rw [HV.out]; simp [inR]; omega))
        go_wp2
        go_ret
        exact ⟨by rw [HA.out]; rfl, HB.out⟩
      · by_cases h2 : 99 < v
        · have HA := Lib.hid (q_bad hlt (show inR x.queue[k] 0 99 = false by rw [HV.out]; simp [inR]; omega))
          go_wp2
          go_ret
          exact ⟨by rw [HA.out]; rfl, HB.out⟩
        · have HA := Lib.hid (show inR x.queue[k] 0 99 = true by rw [HV.out]; simp [inR]; omega)
          go_wp2
          go_round
          case rel =>
            refine ⟨k + 1, by omega, by go_num, fun i h hi => ?_⟩
            by_cases hik : i = k
            · subst hik; exact HA.out
            · exact HOK.out i h (by omega)
          case measure => simp [intOf]; omega
    · have hlt' : ¬ (k : Int) < (x.queue.length : Int) := by omega
      have HJ := Lib.hid (show k = x.queue.length by omega)
      have HA := Lib.hid (qOk_all (HJ.out ▸ HOK.out))
      clear HOK hlt hk HQ1
      go_wp2
      go_ret
      exact ⟨by rw [HA.out]; rfl, HB.out⟩

/-- The target of a gate is a page. -/
def targB (l : List T8) (x : T8) : Bool := !(x.kind == 5 && !(inR x.to 1 l.length && kindAt l (x.to - 1) == 1))
set_option maxRecDepth 100000 in
set_option maxHeartbeats 2000000 in
theorem targetOk_any (l : List T8) (b o c : Nat) (x : T8) (s q : Sl) (w : World) (ht : Tb w b o l) (hz : l.length ≤ 1048576) :
    Calls Tryd.prog 60 #[.slice (some ⟨b, o, none⟩) l.length c, x.val s q] w fun e w' => e = .returned (.bool (targB l x)) ∧ Below w.heap.size w w' := by
  have hB : Below w.heap.size w (w.alloc (.cells (x.cs s q) 37)) := (Below.refl _ _).alloc (Nat.le_refl _) _
  have HT := Lib.hid (ht.stay hB)
  have HB := Lib.hid hB
  clear ht hB
  by_cases h5 : x.kind = 5
  · have h5' : (x.kind == 5) = true := by simpa using h5
    cases h1 : inR x.to 1 l.length
    · have HA := Lib.hid (show targB l x = false by simp [targB, h5, h1])
      have HC := Lib.hid (fun w => thingAt_no x.to l.length (some ⟨b, o, none⟩) c h1 w)
      clear h1
      go_enter Tryd.func60, Tryd.ntmps60
      go_wp2_with fail
      refine (HC.out _).mono ?_
      rintro e y ⟨rfl, hb⟩
      have HB2 := Lib.hid (goB HB.out hb)
      clear hb
      go_wp2
      go_ret
      exact ⟨by rw [HA.out]; rfl, HB2.out.alloc HB2.out.size _⟩
    · obtain ⟨p1, p2⟩ : 1 ≤ x.to ∧ x.to ≤ l.length := by simpa [inR] using h1
      obtain ⟨j, hj⟩ : ∃ j : Nat, x.to - 1 = j := ⟨(x.to - 1).toNat, by omega⟩
      have hjl : j < l.length := by omega
      obtain ⟨ss, qs, -, -, hA⟩ := HT.out j hjl
      have HA := Lib.hid (show targB l x = (l[j].kind == 1) by simp [targB, h5, h1, kindAt_of hjl hj])
      have HC := Lib.hid (thingAt_yes l b o c x.to j hjl hj hz ss qs _ hA)
      clear hA h1 p1 p2 hj
      generalize l[j] = z at *
      go_enter Tryd.func60, Tryd.ntmps60
      go_wp2_with fail
      refine HC.out.mono ?_
      rintro e y ⟨rfl, hb⟩
      have HB2 := Lib.hid (goB HB.out hb)
      clear hb
      go_wp2
      go_ret
      exact ⟨by rw [HA.out]; rfl, HB2.out.alloc HB2.out.size _⟩
  · have h5' : (x.kind == 5) = false := by simpa using h5
    have HA := Lib.hid (show targB l x = true by simp [targB, h5])
    go_enter Tryd.func60, Tryd.ntmps60
    go_wp2
    go_ret
    exact ⟨by rw [HA.out]; rfl, HB.out⟩

/-- A right is to nothing, or to a thing as it is or was. -/
def beenB (l : List T8) (r : R5) : Bool := nullR r.t r.v r.r r.w r.k || (inR r.t 1 l.length && decide (r.v ≤ versAt l (r.t - 1)))
set_option maxRecDepth 100000 in
set_option maxHeartbeats 2000000 in
theorem hasBeen_some (l : List T8) (b o c : Nat) (r : R5) (w : World) (ht : Tb w b o l) (hz : l.length ≤ 1048576) (hr : r.t ≠ 0) :
    Calls Tryd.prog 62 #[.slice (some ⟨b, o, none⟩) l.length c, rgt r.t r.v r.r r.w r.k] w fun e w' => e = .returned (.bool (beenB l r)) ∧ Below w.heap.size w w' := by
  have hB : Below w.heap.size w (w.alloc (.cells r.cs 44)) := (Below.refl _ _).alloc (Nat.le_refl _) _
  have K0 := (Kn.refl (w := w)).new 44 r.cs
  have HT := Lib.hid (ht.stay hB)
  have HB := Lib.hid hB
  have HK := Lib.hid K0
  have hr' : (r.t == 0) = false := by simpa using hr
  have hnl : nullR r.t r.v r.r r.w r.k = false := by simp [nullR, hr]
  clear ht hB K0
  cases h1 : inR r.t 1 l.length
  · have HA := Lib.hid (show beenB l r = false by simp [beenB, hnl, h1])
    have HC := Lib.hid (fun w => thingAt_no r.t l.length (some ⟨b, o, none⟩) c h1 w)
    clear h1 hnl
    go_enter Tryd.func62, Tryd.ntmps62
    go_wp2_with fail
    refine (HC.out _).mono ?_
    rintro e y ⟨rfl, hb⟩
    have HB2 := Lib.hid (goB HB.out hb)
    clear hb
    go_wp2
    go_ret
    exact ⟨by rw [HA.out]; rfl, HB2.out.alloc HB2.out.size _⟩
  · obtain ⟨p1, p2⟩ : 1 ≤ r.t ∧ r.t ≤ l.length := by simpa [inR] using h1
    obtain ⟨j, hj⟩ : ∃ j : Nat, r.t - 1 = j := ⟨(r.t - 1).toNat, by omega⟩
    have hjl : j < l.length := by omega
    obtain ⟨ss, qs, -, -, hA⟩ := HT.out j hjl
    have HA := Lib.hid (show beenB l r = decide (r.v ≤ l[j].vers) by simp [beenB, hnl, h1, versAt_of hjl hj])
    have HC := Lib.hid (thingAt_yes l b o c r.t j hjl hj hz ss qs _ hA)
    clear hA h1 p1 p2 hj hnl
    generalize l[j] = z at *
    go_enter Tryd.func62, Tryd.ntmps62
    go_wp2_with fail
    refine HC.out.mono ?_
    rintro e y ⟨rfl, hb⟩
    have HB2 := Lib.hid (goB HB.out hb)
    have K2 := HK.out.stay hb
    have c1 := K2.c (b := w.heap.size) (T := 44) (vs := r.cs) (by simp) 1 _ rfl
    have hlt := (K2.box (b := w.heap.size) (T := 44) (vs := r.cs) (by simp)).lt
    clear hb K2
    go_wp2
    go_ret
    exact ⟨by rw [HA.out]; rfl, HB2.out.alloc HB2.out.size _⟩
set_option maxHeartbeats 2000000 in
theorem hasBeen_null (l : List T8) (a : Option Addr) (c : Nat) (r : R5) (w : World) (hr : nullR r.t r.v r.r r.w r.k = true) :
    Calls Tryd.prog 62 #[.slice a l.length c, rgt r.t r.v r.r r.w r.k] w fun e w' => e = .returned (.bool (beenB l r)) ∧ Below w.heap.size w w' := by
  have HA := Lib.hid (show beenB l r = true by simp [beenB, hr])
  obtain ⟨h1, h2, h3, h4, h5⟩ := nullR_zero hr
  rw [h1, h2, h3, h4, h5]
  clear hr h1 h2 h3 h4 h5
  go_enter Tryd.func62, Tryd.ntmps62
  go_wp2
  go_ret
  exact ⟨by rw [HA.out]; rfl, (Below.refl _ _).alloc (Nat.le_refl _) _⟩
/-- At a right that is ok. -/
theorem hasBeen_ok (l : List T8) (b o c : Nat) (r : R5) (w : World) (ht : Tb w b o l) (hz : l.length ≤ 1048576) (hr : r.ok = true) :
    Calls Tryd.prog 62 #[.slice (some ⟨b, o, none⟩) l.length c, rgt r.t r.v r.r r.w r.k] w fun e w' => e = .returned (.bool (beenB l r)) ∧ Below w.heap.size w w' := by
  by_cases h0 : r.t = 0
  · refine hasBeen_null l _ c r w ?_
    have h' : okR r.t r.v r.r r.w r.k = true := hr
    rw [h0] at h' ⊢
    obtain ⟨e1, e2, e3, e4⟩ := okR_null h'
    rw [e1, e2, e3, e4]; rfl
  · exact hasBeen_some l b o c r w ht hz h0
end Go.Proofs.YtpahahonopiblaaDoor
