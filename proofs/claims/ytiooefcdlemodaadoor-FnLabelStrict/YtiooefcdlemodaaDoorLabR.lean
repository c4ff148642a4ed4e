/-
  Reading a label: what impl.LabelRead and spec.LabelRead return.
-/
import Derived.Test.YtiooefcdlemodaaDoorLabT
namespace Go.Proofs.YtiooefcdlemodaaDoor
open Go.RowKit
set_option linter.unusedVariables false

set_option maxRecDepth 100000 in
set_option maxHeartbeats 2000000 in
theorem implRead_no (t : ByteArray) (w : World) (hne : ∀ k j : Nat, k < 4 → j < 4 → ((txt k j).toList == t.toList) = false) :
    Calls Tryd.prog 9 #[.string t] w fun e w' => e = .returned (.tuple #[lab 0 0, .bool false]) ∧ Below w.heap.size w w' := by
  have HN := Lib.hid hne
  clear hne
  have K0 := (Kn.refl (w := w)).new 24 #[.int .i64 0, .int .i64 0]
  go_enter Tryd.func9, Tryd.ntmps9
  go_wp2
  go_loopw [7] (fun i x => ∃ k : Nat, k ≤ 4 ∧ i = .int .i64 k ∧ Kn w [(w.heap.size, 24, #[.int .i64 0, .int .i64 0])] x) (fun i _ => 4 - (intOf i).toNat)
  case atStart => exact ⟨0, by omega, rfl, K0⟩
  case round =>
    obtain ⟨k, hk, rfl, K1⟩ := hrel
    clear K0
    by_cases hlt : k < 4
    · have hlt' : (k : Int) < 4 := by omega
      go_wp2
      go_loopw [10] (fun i x => ∃ j : Nat, j ≤ 4 ∧ i = .int .i64 j ∧ Kn w [(w.heap.size, 24, #[.int .i64 0, .int .i64 0])] x) (fun i _ => 4 - (intOf i).toNat)
      case atStart => exact ⟨0, by omega, rfl, K1⟩
      case round =>
        obtain ⟨j, hj, rfl, K2⟩ := hrel
        clear K1
        by_cases hjl : j < 4
        · have hjl' : (j : Int) < 4 := by omega
          go_wp2_with fail
          refine (implText_any _ _ _).mono ?_
          rintro e y ⟨rfl, hb⟩
          have K3 := (K2.past _).stay hb
          have e1 := HN.out k j hlt hjl
          clear K2 hb
          go_wp2
          exact ⟨⟨j + 1, by omega, by simp, K3⟩, by simp [intOf]; omega⟩
        · have hjl' : ¬ (j : Int) < 4 := by omega
          go_wp2
          exact ⟨⟨k + 1, by omega, by simp, K2⟩, by simp [intOf]; omega⟩
    · have hlt' : ¬ (k : Int) < 4 := by omega
      have q2 := K1.c (b := w.heap.size) (T := 24) (vs := #[.int .i64 0, .int .i64 0]) (by simp) 0 _ rfl
      have q3 := K1.c (b := w.heap.size) (T := 24) (vs := #[.int .i64 0, .int .i64 0]) (by simp) 1 _ rfl
      have r2 := K1.f (b := w.heap.size) (T := 24) (vs := #[.int .i64 0, .int .i64 0]) (by simp) 0
      have r3 := K1.f (b := w.heap.size) (T := 24) (vs := #[.int .i64 0, .int .i64 0]) (by simp) 1
      go_wp2
      refine bodyPost_ret (v := .tuple #[lab 0 0, .bool false]) (by simp [results, Tryd.results9, go_sem, *]) rfl ⟨rfl, ?_⟩
      exact (K1.1.setCell (Nat.le_refl _) _).setCell (Nat.le_refl _) _

set_option maxRecDepth 100000 in
set_option maxHeartbeats 2000000 in
theorem implRead_yes (s v : Nat) (hs : s < 4) (hv : v < 4) (t : ByteArray) (w : World) (heq : ((txt s v).toList == t.toList) = true) (hne : ∀ k j : Nat, k < 4 → j < 4 → (k < s ∨ k = s ∧ j < v) → ((txt k j).toList == t.toList) = false) :
    Calls Tryd.prog 9 #[.string t] w fun e w' => e = .returned (.tuple #[lab s v, .bool true]) ∧ Below w.heap.size w w' := by
  have HN := Lib.hid hne
  clear hne
  have HE := Lib.hid heq
  clear heq
  have K0 := (Kn.refl (w := w)).new 24 #[.int .i64 0, .int .i64 0]
  go_enter Tryd.func9, Tryd.ntmps9
  go_wp2
  go_loopw [7] (fun i x => ∃ k : Nat, k ≤ 4 ∧ i = .int .i64 k ∧ Kn w [(w.heap.size, 24, #[.int .i64 0, .int .i64 0])] x ∧ k ≤ s) (fun i _ => 4 - (intOf i).toNat)
  case atStart => exact ⟨0, by omega, rfl, K0, Nat.zero_le _⟩
  case round =>
    obtain ⟨k, hk, rfl, K1, hks⟩ := hrel
    clear K0
    by_cases hlt : k < 4
    · have hlt' : (k : Int) < 4 := by omega
      go_wp2
      go_loopw [10] (fun i x => ∃ j : Nat, j ≤ 4 ∧ i = .int .i64 j ∧ Kn w [(w.heap.size, 24, #[.int .i64 0, .int .i64 0])] x ∧ (k = s → j ≤ v)) (fun i _ => 4 - (intOf i).toNat)
      case atStart => exact ⟨0, by omega, rfl, K1, fun _ => Nat.zero_le _⟩
      case round =>
        obtain ⟨j, hj, rfl, K2, hjv⟩ := hrel
        clear K1
        by_cases hjl : j < 4
        · have hjl' : (j : Int) < 4 := by omega
          by_cases hm : k = s ∧ j = v
          · obtain ⟨hm1, hm2⟩ := hm
            subst hm1 hm2
            go_wp2_with fail
            refine (implText_any _ _ _).mono ?_
            rintro e y ⟨rfl, hb⟩
            have K3 := (K2.new 24 #[.int .i64 k, .int .i64 j]).stay hb
            have e1 := HE.out
            have q0 := K3.c (b := wr.heap.size) (T := 24) (vs := #[.int .i64 k, .int .i64 j]) (by simp) 0 _ rfl
            have q1 := K3.c (b := wr.heap.size) (T := 24) (vs := #[.int .i64 k, .int .i64 j]) (by simp) 1 _ rfl
            have q2 := K3.c (b := w.heap.size) (T := 24) (vs := #[.int .i64 0, .int .i64 0]) (by simp) 0 _ rfl
            have q3 := K3.c (b := w.heap.size) (T := 24) (vs := #[.int .i64 0, .int .i64 0]) (by simp) 1 _ rfl
            have r2 := K3.f (b := w.heap.size) (T := 24) (vs := #[.int .i64 0, .int .i64 0]) (by simp) 0
            have r3 := K3.f (b := w.heap.size) (T := 24) (vs := #[.int .i64 0, .int .i64 0]) (by simp) 1
            clear K2 hb
            go_wp2
            refine bodyPost_ret (v := .tuple #[lab k j, .bool true]) (by simp [results, Tryd.results9, go_sem, *]) rfl ⟨rfl, ?_⟩
            exact (K3.1.setCell (Nat.le_refl _) _).setCell (Nat.le_refl _) _
          · have hcase : k < s ∨ k = s ∧ j < v := by
              rcases Nat.lt_or_ge k s with h | h
              · exact .inl h
              · have hk2 : k = s := by omega
                have := hjv hk2
                exact .inr ⟨hk2, by omega⟩
            clear hm
            go_wp2_with fail
            refine (implText_any _ _ _).mono ?_
            rintro e y ⟨rfl, hb⟩
            have K3 := (K2.past _).stay hb
            have e1 := HN.out k j hlt hjl hcase
            clear K2 hb
            go_wp2
            exact ⟨⟨j + 1, by omega, by simp, K3, fun hk => by have := hjv hk; omega⟩, by simp [intOf]; omega⟩
        · have hjl' : ¬ (j : Int) < 4 := by omega
          have hks2 : k + 1 ≤ s := by
            by_cases hk2 : k = s
            · have := hjv hk2
              omega
            · omega
          go_wp2
          exact ⟨⟨k + 1, by omega, by simp, K2, hks2⟩, by simp [intOf]; omega⟩
    · exact absurd hks (by omega)

set_option maxHeartbeats 1000000 in
theorem specRead_len (t : ByteArray) (w : World) (h : ((t.size : Int) == 3) = false) :
    Calls Tryd.prog 12 #[.string t] w fun e w' => e = .returned (.tuple #[lab 0 0, .bool false]) ∧ Below w.heap.size w w' := by
  go_enter Tryd.func12, Tryd.ntmps12
  go_wp2
  refine bodyPost_ret (v := .tuple #[lab 0 0, .bool false]) (by simp [results, Tryd.results12, go_sem]) rfl ⟨rfl, ?_⟩
  exact (Below.refl _ _).alloc (Nat.le_refl _) _

theorem byte48 (a : UInt8) : wrap64 (wrap64 (a.toNat : Int) - 48) = (a.toNat : Int) - 48 := by
  have := a.toNat_lt
  unfold wrap64
  omega

set_option maxHeartbeats 1000000 in
/-- What the model reads out of three letters. -/
theorem specRead_three (t : ByteArray) (h0 : 0 < t.size) (h2 : 2 < t.size) (h3 : ((t.size : Int) == 3) = true) (w : World) (g : Bool) (hg : ((txt ((t[0].toNat : Int) - 48) ((t[2].toNat : Int) - 48)).toList == t.toList) = g) :
    Calls Tryd.prog 12 #[.string t] w fun e w' => e = .returned (.tuple #[if g then lab ((t[0].toNat : Int) - 48) ((t[2].toNat : Int) - 48) else lab 0 0, .bool g]) ∧ Below w.heap.size w w' := by
  have HG := Lib.hid hg
  have h2' : (2 : Int) < (t.size : Int) := by omega
  have h0' : (0 : Int) < (t.size : Int) := by omega
  clear hg
  go_enter Tryd.func12, Tryd.ntmps12
  go_wp2
  go_region
  go_wp2_with fail
  rw [byte48, byte48]
  generalize hp : (t[0].toNat : Int) - 48 = p at *
  generalize hq : (t[2].toNat : Int) - 48 = q at *
  have HP := Lib.hid hp
  have HQ := Lib.hid hq
  clear hp hq
  refine (specText_any _ _ _).mono ?_
  rintro e y ⟨rfl, hb⟩
  have K0 := (((Kn.refl (w := w)).new 24 #[.int .i64 0, .int .i64 0]).new 24 #[.int .i64 p, .int .i64 q]).drew.stay hb
  rw [show (w.alloc (.cells #[.int .i64 0, .int .i64 0] 24)).heap.size = w.heap.size + 1 by simp] at K0
  have q0 := K0.c (b := w.heap.size + 1) (T := 24) (vs := #[.int .i64 p, .int .i64 q]) (by simp) 0 _ rfl
  have q1 := K0.c (b := w.heap.size + 1) (T := 24) (vs := #[.int .i64 p, .int .i64 q]) (by simp) 1 _ rfl
  have q2 := K0.c (b := w.heap.size) (T := 24) (vs := #[.int .i64 0, .int .i64 0]) (by simp) 0 _ rfl
  have q3 := K0.c (b := w.heap.size) (T := 24) (vs := #[.int .i64 0, .int .i64 0]) (by simp) 1 _ rfl
  have r2 := K0.f (b := w.heap.size) (T := 24) (vs := #[.int .i64 0, .int .i64 0]) (by simp) 0
  have r3 := K0.f (b := w.heap.size) (T := 24) (vs := #[.int .i64 0, .int .i64 0]) (by simp) 1
  clear hb
  cases g
  · have e1 := HG.out
    go_wp2
    refine bodyPost_ret (v := .tuple #[lab 0 0, .bool false]) (by simp [results, Tryd.results12, go_sem, *]) rfl ⟨rfl, ?_⟩
    exact (K0.1.setCell (Nat.le_refl _) _).setCell (Nat.le_refl _) _
  · have e1 := HG.out
    go_wp2
    refine bodyPost_ret (v := .tuple #[lab p q, .bool true]) (by simp [results, Tryd.results12, go_sem, *]) rfl ⟨by rw [HP.out, HQ.out], ?_⟩
    exact (K0.1.setCell (Nat.le_refl _) _).setCell (Nat.le_refl _) _
end Go.Proofs.YtiooefcdlemodaaDoor
