/-
  Flowing: what impl.LabelFlow and spec.LabelFlow return, in plain numbers.
-/
import Derived.Test.YtpahahonopiblaaDoorLabS
namespace Go.Proofs.YtpahahonopiblaaDoor
open Go.RowKit

def flow (s v s2 v2 : Int) : Bool := okL s v && okL s2 v2 && sub2 s s2 && sub2 v2 v


set_option maxHeartbeats 1000000 in
theorem implFlow_yes (s v s2 v2 : Int) (w : World) (h1 : okL s v = true) (h2 : okL s2 v2 = true) (h3 : sub2 s s2 = true) :
    Calls Tryd.prog 30 #[lab s v, lab s2 v2] w fun e w' => e = .returned (.bool (sub2 v2 v)) ∧ Below w.heap.size w w' := by
  have H1 := Lib.hid h1
  have H2 := Lib.hid h2
  have H3 := Lib.hid h3
  clear h1 h2 h3
  go_enter Tryd.func30, Tryd.ntmps30
  go_wp2_with fail
  refine (implOk_any _ _ _).mono ?_
  rintro e w1 ⟨rfl, hb1⟩
  rw [H1.out]
  obtain ⟨hc1, hf1⟩ := bcell hb1
  go_wp2_with fail
  refine (implOk_any _ _ _).mono ?_
  rintro e w2 ⟨rfl, hb2⟩
  rw [H2.out]
  go_wp2_with fail
  have hz1 : w.heap.size + 2 ≤ w1.heap.size := by have := hb1.size; simpa using this
  have hz2 : w.heap.size + 2 ≤ w2.heap.size := by have := hb2.size; omega
  have fx : ∀ b o x, b < w.heap.size + 2 → ((w.alloc (Obj.cells #[.int .i64 s, .int .i64 v] 33)).alloc (Obj.cells #[.int .i64 s2, .int .i64 v2] 33)).cell? ⟨b, o, none⟩ = some x → ∀ w', Below (w.heap.size + 2) w2 w' → w'.cell? ⟨b, o, none⟩ = some x := by
    intro b o x hb hx w' hw
    rw [hw.cell (p := ⟨b, o, none⟩) hb, hb2.cell (p := ⟨b, o, none⟩) (by show b < _; omega), hb1.cell (p := ⟨b, o, none⟩) (by simp; omega), hx]
  have g1 := fx w.heap.size 0 (.int .i64 s) (by omega) (by simp [go_sem])
  have g2 := fx w.heap.size 1 (.int .i64 v) (by omega) (by simp [go_sem])
  have g3 := fx (w.heap.size + 1) 0 (.int .i64 s2) (by omega) (by simp [go_sem])
  have g4 := fx (w.heap.size + 1) 1 (.int .i64 v2) (by omega) (by simp [go_sem])
  have FX := Lib.hid (fun w' (h : Below (w.heap.size + 2) w2 w') => And.intro h (And.intro (g1 w' h) (And.intro (g2 w' h) (And.intro (g3 w' h) (g4 w' h)))))
  clear fx g1 g2 g3 g4 hc1 hf1
  go_region_held3 (fun w' => Below (w.heap.size + 2) w2 w' ∧ w'.cell? ⟨w.heap.size, 0, none⟩ = some (.int .i64 s) ∧ w'.cell? ⟨w.heap.size, 1, none⟩ = some (.int .i64 v) ∧ w'.cell? ⟨w.heap.size + 1, 0, none⟩ = some (.int .i64 s2) ∧ w'.cell? ⟨w.heap.size + 1, 1, none⟩ = some (.int .i64 v2)) (first | exact FX.out _ (Below.refl _ _).drew | exact FX.out _ (by assumption) | assumption)
    (first
      | (go_at_call_of 71 (Value.int IntKind.i64 s); refine (secrets_any _ _ _ (okL1 H1.out)).mono ?_; rintro e w' ⟨rfl, hb⟩; have hbb := stepB ‹Below _ _ _ ∧ _› hz2 hb)
      | (go_at_call_of 71 (Value.int IntKind.i64 s2); refine (secrets_any _ _ _ (okL1 H2.out)).mono ?_; rintro e w' ⟨rfl, hb⟩; have hbb := stepB ‹Below _ _ _ ∧ _› hz2 hb)
      | (go_at_call_of 73 (Value.int IntKind.i64 s); refine (vouchers_any _ _ _ (okL2 H1.out)).mono ?_; rintro e w' ⟨rfl, hb⟩; have hbb := stepB ‹Below _ _ _ ∧ _› hz2 hb)
      | (go_at_call_of 73 (Value.int IntKind.i64 s2); refine (vouchers_any _ _ _ (okL2 H2.out)).mono ?_; rintro e w' ⟨rfl, hb⟩; have hbb := stepB ‹Below _ _ _ ∧ _› hz2 hb)
      | (go_at_call_of 72 (Value.int IntKind.u64 s); refine (within_any _ _ _ (okL1 H1.out) (okL1 H2.out)).mono ?_; rintro e w' ⟨rfl, rfl⟩; rw [H3.out])
      | (go_at_call_of 72 (Value.int IntKind.u64 v2); refine (within_any _ _ _ (okL2 H2.out) (okL2 H1.out)).mono ?_; rintro e w' ⟨rfl, rfl⟩))
  go_wp2
  go_ret
  exact ⟨rfl, endB hb1 hb2 ‹Below _ w2 _ ∧ _›.1⟩

set_option maxHeartbeats 1000000 in
theorem implFlow_no (s v s2 v2 : Int) (w : World) (h1 : okL s v = true) (h2 : okL s2 v2 = true) (h3 : sub2 s s2 = false) :
    Calls Tryd.prog 30 #[lab s v, lab s2 v2] w fun e w' => e = .returned (.bool false) ∧ Below w.heap.size w w' := by
  have H1 := Lib.hid h1
  have H2 := Lib.hid h2
  have H3 := Lib.hid h3
  clear h1 h2 h3
  go_enter Tryd.func30, Tryd.ntmps30
  go_wp2_with fail
  refine (implOk_any _ _ _).mono ?_
  rintro e w1 ⟨rfl, hb1⟩
  rw [H1.out]
  obtain ⟨hc1, hf1⟩ := bcell hb1
  go_wp2_with fail
  refine (implOk_any _ _ _).mono ?_
  rintro e w2 ⟨rfl, hb2⟩
  rw [H2.out]
  go_wp2_with fail
  have hz1 : w.heap.size + 2 ≤ w1.heap.size := by have := hb1.size; simpa using this
  have hz2 : w.heap.size + 2 ≤ w2.heap.size := by have := hb2.size; omega
  have fx : ∀ b o x, b < w.heap.size + 2 → ((w.alloc (Obj.cells #[.int .i64 s, .int .i64 v] 33)).alloc (Obj.cells #[.int .i64 s2, .int .i64 v2] 33)).cell? ⟨b, o, none⟩ = some x → ∀ w', Below (w.heap.size + 2) w2 w' → w'.cell? ⟨b, o, none⟩ = some x := by
    intro b o x hb hx w' hw
    rw [hw.cell (p := ⟨b, o, none⟩) hb, hb2.cell (p := ⟨b, o, none⟩) (by show b < _; omega), hb1.cell (p := ⟨b, o, none⟩) (by simp; omega), hx]
  have g1 := fx w.heap.size 0 (.int .i64 s) (by omega) (by simp [go_sem])
  have g2 := fx w.heap.size 1 (.int .i64 v) (by omega) (by simp [go_sem])
  have g3 := fx (w.heap.size + 1) 0 (.int .i64 s2) (by omega) (by simp [go_sem])
  have g4 := fx (w.heap.size + 1) 1 (.int .i64 v2) (by omega) (by simp [go_sem])
  have FX := Lib.hid (fun w' (h : Below (w.heap.size + 2) w2 w') => And.intro h (And.intro (g1 w' h) (And.intro (g2 w' h) (And.intro (g3 w' h) (g4 w' h)))))
  clear fx g1 g2 g3 g4 hc1 hf1
  obtain ⟨hb0, q1, q2, q3, q4⟩ := FX.out _ (Below.refl _ _)
  have hb0' : Below (w.heap.size + 2) w2 w2.drew ∧ True := ⟨(Below.refl _ _).drew, trivial⟩
  go_region_with (first
      | (go_at_call_of 71 (Value.int IntKind.i64 s); refine (secrets_any _ _ _ (okL1 H1.out)).mono ?_; rintro e w' ⟨rfl, hb⟩; have hbb := And.intro (stepB ‹Below _ _ _ ∧ _› hz2 hb) trivial; obtain ⟨_, q1, q2, q3, q4⟩ := FX.out _ hbb.1)
      | (go_at_call_of 71 (Value.int IntKind.i64 s2); refine (secrets_any _ _ _ (okL1 H2.out)).mono ?_; rintro e w' ⟨rfl, hb⟩; have hbb := And.intro (stepB ‹Below _ _ _ ∧ _› hz2 hb) trivial; obtain ⟨_, q1, q2, q3, q4⟩ := FX.out _ hbb.1)
      | (go_at_call_of 72 (Value.int IntKind.u64 s); refine (within_any _ _ _ (okL1 H1.out) (okL1 H2.out)).mono ?_; rintro e w' ⟨rfl, rfl⟩; rw [H3.out]))
  all_goals
    go_wp2
    go_ret
    exact ⟨rfl, endB hb1 hb2 ‹Below _ w2 _ ∧ _›.1⟩
end Go.Proofs.YtpahahonopiblaaDoor
