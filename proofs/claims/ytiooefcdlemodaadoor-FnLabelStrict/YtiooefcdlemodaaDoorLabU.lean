/-
  Reading a label, both sides at once.
-/
import Derived.Test.YtiooefcdlemodaaDoorLabR
import Derived.Lib.Strings
namespace Go.Proofs.YtiooefcdlemodaaDoor
open Go.RowKit

theorem toList_eq {a b : ByteArray} (h : (a.toList == b.toList) = true) : a = b := by
  have h1 : a.toList = b.toList := by simpa using h
  rw [Lib.toList_data, Lib.toList_data] at h1
  cases a; cases b
  simpa using h1
theorem toList_self (a : ByteArray) : (a.toList == a.toList) = true := by simp

theorem txt_nat {s v : Nat} (hs : s < 4) (hv : v < 4) : txt s v = ⟨#[(48 + s).toUInt8, 47, (48 + v).toUInt8]⟩ := by
  rw [txt_ok (by simp [okL, okN]; omega)]
  simp

theorem okL_nat {s v : Int} (h : okL s v = true) : ∃ k j : Nat, k < 4 ∧ j < 4 ∧ s = k ∧ v = j := by
  simp [okL, okN] at h
  exact ⟨s.toNat, v.toNat, by omega, by omega, by omega, by omega⟩

theorem txt_inj {s v k j : Nat} (hs : s < 4) (hv : v < 4) (hk : k < 4) (hj : j < 4) (h : txt k j = txt s v) : k = s ∧ j = v := by
  rw [txt_nat hs hv, txt_nat hk hj] at h
  rcases (by omega : s = 0 ∨ s = 1 ∨ s = 2 ∨ s = 3) with rfl | rfl | rfl | rfl <;> rcases (by omega : k = 0 ∨ k = 1 ∨ k = 2 ∨ k = 3) with rfl | rfl | rfl | rfl <;> rcases (by omega : v = 0 ∨ v = 1 ∨ v = 2 ∨ v = 3) with rfl | rfl | rfl | rfl <;> rcases (by omega : j = 0 ∨ j = 1 ∨ j = 2 ∨ j = 3) with rfl | rfl | rfl | rfl <;> first | exact ⟨rfl, rfl⟩ | (exfalso; revert h; decide)

/-- What both readers hand back for a text: the label, and whether there is one. -/
def ReadIs (t : ByteArray) (s v : Int) (b : Bool) : Prop :=
  (∀ w, Calls Tryd.prog 9 #[.string t] w fun e w' => e = .returned (.tuple #[lab s v, .bool b]) ∧ Below w.heap.size w w') ∧
  (∀ w, Calls Tryd.prog 12 #[.string t] w fun e w' => e = .returned (.tuple #[lab s v, .bool b]) ∧ Below w.heap.size w w')

theorem read_yes {s v : Nat} (hs : s < 4) (hv : v < 4) : ReadIs (txt s v) s v true := by
  refine ⟨fun w => implRead_yes s v hs hv _ w (toList_self _) ?_, fun w => ?_⟩
  · intro k j hk hj hlt
    cases hc : ((txt k j).toList == (txt s v).toList) with
    | false => rfl
    | true =>
      obtain ⟨rfl, rfl⟩ := txt_inj hs hv hk hj (toList_eq hc)
      omega
  · have ht := txt_nat hs hv
    have hz : (txt s v).size = 3 := by rw [ht]; rfl
    have e0 : ((txt s v)[0]'(by omega)).toNat = 48 + s := by
      simp only [ht]
      show ((48 + s).toUInt8).toNat = _
      simp; omega
    have e2 : ((txt s v)[2]'(by omega)).toNat = 48 + v := by
      simp only [ht]
      show ((48 + v).toUInt8).toNat = _
      simp; omega
    have p0 : (((txt s v)[0]'(by omega)).toNat : Int) - 48 = s := by rw [e0]; omega
    have p2 : (((txt s v)[2]'(by omega)).toNat : Int) - 48 = v := by rw [e2]; omega
    have h := specRead_three (txt s v) (by omega) (by omega) (by rw [hz]; rfl) w true (by rw [p0, p2]; exact toList_self _)
    rw [p0, p2] at h
    exact h

theorem read_no {t : ByteArray} (h : ∀ s v : Nat, s < 4 → v < 4 → txt s v ≠ t) : ReadIs t 0 0 false := by
  have hne : ∀ k j : Nat, k < 4 → j < 4 → ((txt k j).toList == t.toList) = false := by
    intro k j hk hj
    cases hc : ((txt k j).toList == t.toList) with
    | false => rfl
    | true => exact absurd (toList_eq hc) (h k j hk hj)
  refine ⟨fun w => implRead_no t w hne, fun w => ?_⟩
  by_cases hz : t.size = 3
  · refine (specRead_three t (by omega) (by omega) (by rw [hz]; rfl) w false ?_)
    cases hc : ((txt ((t[0].toNat : Int) - 48) ((t[2].toNat : Int) - 48)).toList == t.toList) with
    | false => rfl
    | true =>
      have e := toList_eq hc
      cases ho : okL ((t[0].toNat : Int) - 48) ((t[2].toNat : Int) - 48) with
      | false =>
        rw [txt_bad ho] at e
        rw [← e] at hz
        exact absurd hz (by decide)
      | true =>
        obtain ⟨k, j, hk, hj, e1, e2⟩ := okL_nat ho
        rw [e1, e2] at e
        exact absurd e (h k j hk hj)
  · exact specRead_len t w (by simp; omega)

theorem read_any (t : ByteArray) : ∃ (s v : Int) (b : Bool), ReadIs t s v b ∧ (b = true → okL s v = true ∧ txt s v = t) := by
  by_cases h : ∃ s v : Nat, s < 4 ∧ v < 4 ∧ txt s v = t
  · obtain ⟨s, v, hs, hv, rfl⟩ := h
    exact ⟨s, v, true, read_yes hs hv, fun _ => ⟨by simp [okL, okN]; omega, rfl⟩⟩
  · exact ⟨0, 0, false, read_no (fun s v hs hv e => h ⟨s, v, hs, hv, e⟩), fun h => by cases h⟩
end Go.Proofs.YtiooefcdlemodaaDoor
