/-
  Joins and meets of the model: what spec.LabelJoin and spec.LabelMeet return, in plain numbers.
-/
import Derived.Test.YtiooefcdlemodabLabD
namespace Go.Proofs.Ytiooefcdlemodab
open Go.RowKit

set_option maxHeartbeats 1000000 in
theorem l1Or_any (a b : Int) (w : World) (ha : okN a = true) (hb : okN b = true) :
    Calls Try.prog 20 #[.int .i64 a, .int .i64 b] w fun e w' => e = .returned (.int .i64 (or2 a b)) ∧ w = w' := by
  rcases four a ha with rfl | rfl | rfl | rfl <;> rcases four b hb with rfl | rfl | rfl | rfl
  all_goals
    clear ha hb
    go_enter Try.func20, Try.ntmps20
    go_wp2
    go_ret
    exact ⟨rfl, rfl⟩

set_option maxHeartbeats 1000000 in
theorem l1And_any (a b : Int) (w : World) (ha : okN a = true) (hb : okN b = true) :
    Calls Try.prog 21 #[.int .i64 a, .int .i64 b] w fun e w' => e = .returned (.int .i64 (and2 a b)) ∧ w = w' := by
  rcases four a ha with rfl | rfl | rfl | rfl <;> rcases four b hb with rfl | rfl | rfl | rfl
  all_goals
    clear ha hb
    go_enter Try.func21, Try.ntmps21
    go_wp2
    go_ret
    exact ⟨rfl, rfl⟩

set_option maxHeartbeats 2000000 in
theorem specJoin_ok (s v s2 v2 : Int) (w : World) (h1 : okL s v = true) (h2 : okL s2 v2 = true) :
    Calls Try.prog 9 #[lab s v, lab s2 v2] w fun e w' => e = .returned (lab (or2 s s2) (and2 v v2)) ∧ Below w.heap.size w w' := by
  have H1 := Lib.hid h1
  have H2 := Lib.hid h2
  clear h1 h2
  go_enter Try.func9, Try.ntmps9
  go_wp2_with fail
  refine (specOk_any _ _ _).mono ?_
  rintro e w1 ⟨rfl, hb1⟩
  rw [H1.out]
  obtain ⟨hc1, hf1⟩ := bcell hb1
  go_wp2_with fail
  refine (specOk_any _ _ _).mono ?_
  rintro e w2 ⟨rfl, hb2⟩
  rw [H2.out]
  go_wp2_with fail
  obtain ⟨k1, k2, k3, hw2⟩ := three_boxes hb1 hb2
  clear hc1 hf1 hb1 hb2
  have hz2 : w.heap.size + 2 ≤ w2.heap.size := by have := k2.lt; omega
  have FX := Lib.hid (fun w' (h : Below (w.heap.size + 2) w2 w') => And.intro h (And.intro ((k1.keep h (by omega)).cell 0 (.int .i64 s) rfl) (And.intro ((k1.keep h (by omega)).cell 1 (.int .i64 v) rfl) (And.intro ((k2.keep h (by omega)).cell 0 (.int .i64 s2) rfl) ((k2.keep h (by omega)).cell 1 (.int .i64 v2) rfl)))))
  have r0 := k3.cell 0 (.int .i64 0) rfl
  have r1 := k3.cell 1 (.int .i64 0) rfl
  have f0 := k3.thaw 0
  have f1 := k3.thaw 1
  clear k1 k2 k3
  go_region_held3 (fun w' => Below (w.heap.size + 2) w2 w' ∧ w'.cell? ⟨w.heap.size, 0, none⟩ = some (.int .i64 s) ∧ w'.cell? ⟨w.heap.size, 1, none⟩ = some (.int .i64 v) ∧ w'.cell? ⟨w.heap.size + 1, 0, none⟩ = some (.int .i64 s2) ∧ w'.cell? ⟨w.heap.size + 1, 1, none⟩ = some (.int .i64 v2)) (first | exact FX.out _ (Below.refl _ _).drew | exact FX.out _ (by assumption) | assumption | exact FX.out _ (Below.drew (Below.setCell (Below.setCell (Below.refl _ _) (p := ⟨w.heap.size + 1 + 1, 0, none⟩) (by show _ ≤ w.heap.size + 1 + 1; omega) _) (p := ⟨w.heap.size + 1 + 1, 1, none⟩) (by show _ ≤ w.heap.size + 1 + 1; omega) _)))
    (first
      | (go_at_call_of 20 (Value.int IntKind.i64 s); refine (l1Or_any _ _ _ (okL1 H1.out) (okL1 H2.out)).mono ?_; rintro e w' ⟨rfl, rfl⟩)
      | (go_at_call_of 21 (Value.int IntKind.i64 v); refine (l1And_any _ _ _ (okL2 H1.out) (okL2 H2.out)).mono ?_; rintro e w' ⟨rfl, rfl⟩))
  go_wp2
  refine bodyPost_ret (v := lab (or2 s s2) (and2 v v2)) (by simp [results, Try.results9, go_sem, *]) rfl ⟨rfl, ?_⟩
  exact ((hw2.setCell (by show _ ≤ w.heap.size + 1 + 1; omega) _).setCell (by show _ ≤ w.heap.size + 1 + 1; omega) _).drew

set_option maxHeartbeats 2000000 in
theorem specMeet_ok (s v s2 v2 : Int) (w : World) (h1 : okL s v = true) (h2 : okL s2 v2 = true) :
    Calls Try.prog 12 #[lab s v, lab s2 v2] w fun e w' => e = .returned (lab (and2 s s2) (or2 v v2)) ∧ Below w.heap.size w w' := by
  have H1 := Lib.hid h1
  have H2 := Lib.hid h2
  clear h1 h2
  go_enter Try.func12, Try.ntmps12
  go_wp2_with fail
  refine (specOk_any _ _ _).mono ?_
  rintro e w1 ⟨rfl, hb1⟩
  rw [H1.out]
  obtain ⟨hc1, hf1⟩ := bcell hb1
  go_wp2_with fail
  refine (specOk_any _ _ _).mono ?_
  rintro e w2 ⟨rfl, hb2⟩
  rw [H2.out]
  go_wp2_with fail
  obtain ⟨k1, k2, k3, hw2⟩ := three_boxes hb1 hb2
  clear hc1 hf1 hb1 hb2
  have hz2 : w.heap.size + 2 ≤ w2.heap.size := by have := k2.lt; omega
  have FX := Lib.hid (fun w' (h : Below (w.heap.size + 2) w2 w') => And.intro h (And.intro ((k1.keep h (by omega)).cell 0 (.int .i64 s) rfl) (And.intro ((k1.keep h (by omega)).cell 1 (.int .i64 v) rfl) (And.intro ((k2.keep h (by omega)).cell 0 (.int .i64 s2) rfl) ((k2.keep h (by omega)).cell 1 (.int .i64 v2) rfl)))))
  have r0 := k3.cell 0 (.int .i64 0) rfl
  have r1 := k3.cell 1 (.int .i64 0) rfl
  have f0 := k3.thaw 0
  have f1 := k3.thaw 1
  clear k1 k2 k3
  go_region_held3 (fun w' => Below (w.heap.size + 2) w2 w' ∧ w'.cell? ⟨w.heap.size, 0, none⟩ = some (.int .i64 s) ∧ w'.cell? ⟨w.heap.size, 1, none⟩ = some (.int .i64 v) ∧ w'.cell? ⟨w.heap.size + 1, 0, none⟩ = some (.int .i64 s2) ∧ w'.cell? ⟨w.heap.size + 1, 1, none⟩ = some (.int .i64 v2)) (first | exact FX.out _ (Below.refl _ _).drew | exact FX.out _ (by assumption) | assumption | exact FX.out _ (Below.drew (Below.setCell (Below.setCell (Below.refl _ _) (p := ⟨w.heap.size + 1 + 1, 0, none⟩) (by show _ ≤ w.heap.size + 1 + 1; omega) _) (p := ⟨w.heap.size + 1 + 1, 1, none⟩) (by show _ ≤ w.heap.size + 1 + 1; omega) _)))
    (first
      | (go_at_call_of 21 (Value.int IntKind.i64 s); refine (l1And_any _ _ _ (okL1 H1.out) (okL1 H2.out)).mono ?_; rintro e w' ⟨rfl, rfl⟩)
      | (go_at_call_of 20 (Value.int IntKind.i64 v); refine (l1Or_any _ _ _ (okL2 H1.out) (okL2 H2.out)).mono ?_; rintro e w' ⟨rfl, rfl⟩))
  go_wp2
  refine bodyPost_ret (v := lab (and2 s s2) (or2 v v2)) (by simp [results, Try.results12, go_sem, *]) rfl ⟨rfl, ?_⟩
  exact ((hw2.setCell (by show _ ≤ w.heap.size + 1 + 1; omega) _).setCell (by show _ ≤ w.heap.size + 1 + 1; omega) _).drew

set_option maxHeartbeats 1000000 in
theorem specJoin_bad1 (s v s2 v2 : Int) (w : World) (h1 : okL s v = false) :
    Calls Try.prog 9 #[lab s v, lab s2 v2] w fun e w' => e = .returned (lab 0 0) ∧ Below w.heap.size w w' := by
  have H1 := Lib.hid h1
  clear h1
  go_enter Try.func9, Try.ntmps9
  go_wp2_with fail
  refine (specOk_any _ _ _).mono ?_
  rintro e w1 ⟨rfl, hb1⟩
  rw [H1.out]
  obtain ⟨k1, k2, k3, hw1⟩ := three_boxes hb1 (Below.refl _ _)
  have r0 := k3.cell 0 (.int .i64 0) rfl
  have r1 := k3.cell 1 (.int .i64 0) rfl
  have f0 := k3.thaw 0
  have f1 := k3.thaw 1
  clear k1 k2 k3
  go_wp2
  refine bodyPost_ret (v := lab 0 0) (by simp [results, Try.results9, go_sem, *]) rfl ⟨rfl, ?_⟩
  exact (hw1.setCell (by show _ ≤ w.heap.size + 1 + 1; omega) _).setCell (by show _ ≤ w.heap.size + 1 + 1; omega) _

set_option maxHeartbeats 1000000 in
theorem specJoin_bad2 (s v s2 v2 : Int) (w : World) (h1 : okL s v = true) (h2 : okL s2 v2 = false) :
    Calls Try.prog 9 #[lab s v, lab s2 v2] w fun e w' => e = .returned (lab 0 0) ∧ Below w.heap.size w w' := by
  have H1 := Lib.hid h1
  have H2 := Lib.hid h2
  clear h1 h2
  go_enter Try.func9, Try.ntmps9
  go_wp2_with fail
  refine (specOk_any _ _ _).mono ?_
  rintro e w1 ⟨rfl, hb1⟩
  rw [H1.out]
  obtain ⟨hc1, hf1⟩ := bcell hb1
  go_wp2_with fail
  refine (specOk_any _ _ _).mono ?_
  rintro e w2 ⟨rfl, hb2⟩
  rw [H2.out]
  obtain ⟨k1, k2, k3, hw1⟩ := three_boxes hb1 hb2
  have r0 := k3.cell 0 (.int .i64 0) rfl
  have r1 := k3.cell 1 (.int .i64 0) rfl
  have f0 := k3.thaw 0
  have f1 := k3.thaw 1
  clear k1 k2 k3 hc1 hf1
  go_wp2
  refine bodyPost_ret (v := lab 0 0) (by simp [results, Try.results9, go_sem, *]) rfl ⟨rfl, ?_⟩
  exact (hw1.setCell (by show _ ≤ w.heap.size + 1 + 1; omega) _).setCell (by show _ ≤ w.heap.size + 1 + 1; omega) _

set_option maxHeartbeats 1000000 in
theorem specMeet_bad1 (s v s2 v2 : Int) (w : World) (h1 : okL s v = false) :
    Calls Try.prog 12 #[lab s v, lab s2 v2] w fun e w' => e = .returned (lab 0 0) ∧ Below w.heap.size w w' := by
  have H1 := Lib.hid h1
  clear h1
  go_enter Try.func12, Try.ntmps12
  go_wp2_with fail
  refine (specOk_any _ _ _).mono ?_
  rintro e w1 ⟨rfl, hb1⟩
  rw [H1.out]
  obtain ⟨k1, k2, k3, hw1⟩ := three_boxes hb1 (Below.refl _ _)
  have r0 := k3.cell 0 (.int .i64 0) rfl
  have r1 := k3.cell 1 (.int .i64 0) rfl
  have f0 := k3.thaw 0
  have f1 := k3.thaw 1
  clear k1 k2 k3
  go_wp2
  refine bodyPost_ret (v := lab 0 0) (by simp [results, Try.results12, go_sem, *]) rfl ⟨rfl, ?_⟩
  exact (hw1.setCell (by show _ ≤ w.heap.size + 1 + 1; omega) _).setCell (by show _ ≤ w.heap.size + 1 + 1; omega) _

set_option maxHeartbeats 1000000 in
theorem specMeet_bad2 (s v s2 v2 : Int) (w : World) (h1 : okL s v = true) (h2 : okL s2 v2 = false) :
    Calls Try.prog 12 #[lab s v, lab s2 v2] w fun e w' => e = .returned (lab 0 0) ∧ Below w.heap.size w w' := by
  have H1 := Lib.hid h1
  have H2 := Lib.hid h2
  clear h1 h2
  go_enter Try.func12, Try.ntmps12
  go_wp2_with fail
  refine (specOk_any _ _ _).mono ?_
  rintro e w1 ⟨rfl, hb1⟩
  rw [H1.out]
  obtain ⟨hc1, hf1⟩ := bcell hb1
  go_wp2_with fail
  refine (specOk_any _ _ _).mono ?_
  rintro e w2 ⟨rfl, hb2⟩
  rw [H2.out]
  obtain ⟨k1, k2, k3, hw1⟩ := three_boxes hb1 hb2
  have r0 := k3.cell 0 (.int .i64 0) rfl
  have r1 := k3.cell 1 (.int .i64 0) rfl
  have f0 := k3.thaw 0
  have f1 := k3.thaw 1
  clear k1 k2 k3 hc1 hf1
  go_wp2
  refine bodyPost_ret (v := lab 0 0) (by simp [results, Try.results12, go_sem, *]) rfl ⟨rfl, ?_⟩
  exact (hw1.setCell (by show _ ≤ w.heap.size + 1 + 1; omega) _).setCell (by show _ ≤ w.heap.size + 1 + 1; omega) _

theorem specJoin_any (s v s2 v2 : Int) (w : World) :
    Calls Try.prog 9 #[lab s v, lab s2 v2] w fun e w' => e = .returned (lab (jn1 s v s2 v2) (jn2 s v s2 v2)) ∧ Below w.heap.size w w' := by
  cases h1 : okL s v
  · have e1 : jn1 s v s2 v2 = 0 := by simp [jn1, h1]
    have e2 : jn2 s v s2 v2 = 0 := by simp [jn2, h1]
    rw [e1, e2]
    exact specJoin_bad1 s v s2 v2 w h1
  cases h2 : okL s2 v2
  · have e1 : jn1 s v s2 v2 = 0 := by simp [jn1, h2]
    have e2 : jn2 s v s2 v2 = 0 := by simp [jn2, h2]
    rw [e1, e2]
    exact specJoin_bad2 s v s2 v2 w h1 h2
  · have e1 : jn1 s v s2 v2 = or2 s s2 := by simp [jn1, h1, h2]
    have e2 : jn2 s v s2 v2 = and2 v v2 := by simp [jn2, h1, h2]
    rw [e1, e2]
    exact specJoin_ok s v s2 v2 w h1 h2

theorem specMeet_any (s v s2 v2 : Int) (w : World) :
    Calls Try.prog 12 #[lab s v, lab s2 v2] w fun e w' => e = .returned (lab (mt1 s v s2 v2) (mt2 s v s2 v2)) ∧ Below w.heap.size w w' := by
  cases h1 : okL s v
  · have e1 : mt1 s v s2 v2 = 0 := by simp [mt1, h1]
    have e2 : mt2 s v s2 v2 = 0 := by simp [mt2, h1]
    rw [e1, e2]
    exact specMeet_bad1 s v s2 v2 w h1
  cases h2 : okL s2 v2
  · have e1 : mt1 s v s2 v2 = 0 := by simp [mt1, h2]
    have e2 : mt2 s v s2 v2 = 0 := by simp [mt2, h2]
    rw [e1, e2]
    exact specMeet_bad2 s v s2 v2 w h1 h2
  · have e1 : mt1 s v s2 v2 = and2 s s2 := by simp [mt1, h1, h2]
    have e2 : mt2 s v s2 v2 = or2 v v2 := by simp [mt2, h1, h2]
    rw [e1, e2]
    exact specMeet_ok s v s2 v2 w h1 h2
end Go.Proofs.Ytiooefcdlemodab
