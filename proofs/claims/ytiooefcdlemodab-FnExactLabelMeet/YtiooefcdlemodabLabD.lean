/-
  Joins and meets of the program: what impl.LabelJoin and impl.LabelMeet return, in plain numbers; impl.LabelFlow whole.
-/
import Derived.Test.YtiooefcdlemodabLabC
namespace Go.Proofs.Ytiooefcdlemodab
open Go.RowKit

set_option maxHeartbeats 1000000 in
theorem implFlow_any (s v s2 v2 : Int) (w : World) :
    Calls Try.prog 8 #[lab s v, lab s2 v2] w fun e w' => e = .returned (.bool (flow s v s2 v2)) ∧ Below w.heap.size w w' := by
  cases h1 : okL s v
  · have hk : flow s v s2 v2 = false := by simp [flow, h1]
    rw [hk]
    have H1 := Lib.hid h1
    clear h1 hk
    go_enter Try.func8, Try.ntmps8
    go_wp2_with fail
    refine (implOk_any _ _ _).mono ?_
    rintro e w1 ⟨rfl, hb1⟩
    rw [H1.out]
    go_wp2_with fail
    go_ret
    exact ⟨rfl, endB hb1 (Below.refl _ _) (Below.refl _ _)⟩
  cases h2 : okL s2 v2
  · have hk : flow s v s2 v2 = false := by simp [flow, h2]
    rw [hk]
    have H1 := Lib.hid h1
    have H2 := Lib.hid h2
    clear h1 h2 hk
    go_enter Try.func8, Try.ntmps8
    go_wp2_with fail
    refine (implOk_any _ _ _).mono ?_
    rintro e w1 ⟨rfl, hb1⟩
    rw [H1.out]
    obtain ⟨hc1, hf1⟩ := bcell hb1
    go_wp2_with fail
    refine (implOk_any _ _ _).mono ?_
    rintro e w2 ⟨rfl, hb2⟩
    rw [H2.out]
    go_wp2_with fail
    go_ret
    exact ⟨rfl, endB hb1 hb2 (Below.refl _ _)⟩
  cases h3 : sub2 s s2
  · have hk : flow s v s2 v2 = false := by simp [flow, h3]
    rw [hk]
    exact implFlow_no s v s2 v2 w h1 h2 h3
  · have hk : flow s v s2 v2 = sub2 v2 v := by simp [flow, h1, h2, h3]
    rw [hk]
    exact implFlow_yes s v s2 v2 w h1 h2 h3

theorem okN_or {a b : Int} (ha : okN a = true) (hb : okN b = true) : okN (or2 a b) = true := by
  rcases four a ha with rfl | rfl | rfl | rfl <;> rcases four b hb with rfl | rfl | rfl | rfl <;> rfl
theorem okN_and {a b : Int} (ha : okN a = true) (hb : okN b = true) : okN (and2 a b) = true := by
  rcases four a ha with rfl | rfl | rfl | rfl <;> rcases four b hb with rfl | rfl | rfl | rfl <;> rfl
theorem bits_or {a b : Int} (ha : okN a = true) (hb : okN b = true) : bits BinOp.or IntKind.u64 a b = or2 a b := by
  rcases four a ha with rfl | rfl | rfl | rfl <;> rcases four b hb with rfl | rfl | rfl | rfl <;> rfl
theorem bits_and {a b : Int} (ha : okN a = true) (hb : okN b = true) : bits BinOp.and IntKind.u64 a b = and2 a b := by
  rcases four a ha with rfl | rfl | rfl | rfl <;> rcases four b hb with rfl | rfl | rfl | rfl <;> rfl

set_option maxHeartbeats 400000 in
theorem sum_any (a : Int) (w : World) (h : okN a = true) :
    Calls Try.prog 22 #[.int .u64 a] w fun e w' => e = .returned (.int .i64 a) ∧ w = w' := by
  rcases four a h with rfl | rfl | rfl | rfl
  all_goals
    clear h
    go_enter Try.func22, Try.ntmps22
    go_wp2
    go_ret
    exact ⟨rfl, rfl⟩

/-- What two boxed labels and a result's cell give to the walk, in a world that grew out of w2. -/
theorem three_boxes {w w1 w2 : World} {T : TypeId} {x1 x2 x3 : Array Value}
    (hb1 : Below (((w.alloc (.cells x1 T)).alloc (.cells x2 T)).alloc (.cells x3 T)).heap.size (((w.alloc (.cells x1 T)).alloc (.cells x2 T)).alloc (.cells x3 T)) w1) (hb2 : Below w1.heap.size w1 w2) :
    Box w2 w.heap.size T x1 ∧ Box w2 (w.heap.size + 1) T x2 ∧ Box w2 (w.heap.size + 1 + 1) T x3 ∧ Below w.heap.size w w2 := by
  have e1 : (w.alloc (.cells x1 T)).heap.size = w.heap.size + 1 := by simp
  have e2 : ((w.alloc (.cells x1 T)).alloc (.cells x2 T)).heap.size = w.heap.size + 1 + 1 := by simp
  have b1 := Box.fresh w T x1
  have b2 := Box.fresh (w.alloc (.cells x1 T)) T x2
  have b3 := Box.fresh ((w.alloc (.cells x1 T)).alloc (.cells x2 T)) T x3
  rw [e1] at b2
  rw [e2] at b3
  have z1 := hb1.size
  simp at z1
  refine ⟨(((b1.past _).past _).stay hb1).stay hb2, ((b2.past _).stay hb1).stay hb2, (b3.stay hb1).stay hb2, ?_⟩
  have a0 : Below w.heap.size w (((w.alloc (.cells x1 T)).alloc (.cells x2 T)).alloc (.cells x3 T)) := (((Below.refl _ _).alloc (Nat.le_refl _) _).alloc (by simp) _).alloc (by simp; omega) _
  exact (a0.trans (hb1.mono (by simp; omega))).trans (hb2.mono (by omega))

set_option maxHeartbeats 2000000 in
theorem implJoin_ok (s v s2 v2 : Int) (w : World) (h1 : okL s v = true) (h2 : okL s2 v2 = true) :
    Calls Try.prog 10 #[lab s v, lab s2 v2] w fun e w' => e = .returned (lab (or2 s s2) (and2 v v2)) ∧ Below w.heap.size w w' := by
  have H1 := Lib.hid h1
  have H2 := Lib.hid h2
  have ho := bits_or (okL1 h1) (okL1 h2)
  have ha := bits_and (okL2 h1) (okL2 h2)
  clear h1 h2
  go_enter Try.func10, Try.ntmps10
  go_wp2_with fail
  refine (implOk_any _ _ _).mono ?_
  rintro e w1 ⟨rfl, hb1⟩
  rw [H1.out]
  obtain ⟨hc1, hf1⟩ := bcell hb1
  go_wp2_with fail
  refine (implOk_any _ _ _).mono ?_
  rintro e w2 ⟨rfl, hb2⟩
  rw [H2.out]
  go_wp2_with fail
  obtain ⟨k1, k2, k3, hw2⟩ := three_boxes hb1 hb2
  clear hc1 hf1 hb1 hb2
  have hz2 : w.heap.size + 2 ≤ w2.heap.size := by have := k2.lt; omega
  have FX := Lib.hid (fun w' (h : Below (w.heap.size + 2) w2 w') => And.intro h (And.intro ((k1.keep h (by omega)).cell 0 (.int .i64 s) rfl) (And.intro ((k1.keep h (by omega)).cell 1 (.int .i64 v) rfl) (And.intro ((k2.keep h (by omega)).cell 0 (.int .i64 s2) rfl) ((k2.keep h (by omega)).cell 1 (.int .i64 v2) rfl)))))
  clear k1 k2
  go_region_held3 (fun w' => Below (w.heap.size + 2) w2 w' ∧ w'.cell? ⟨w.heap.size, 0, none⟩ = some (.int .i64 s) ∧ w'.cell? ⟨w.heap.size, 1, none⟩ = some (.int .i64 v) ∧ w'.cell? ⟨w.heap.size + 1, 0, none⟩ = some (.int .i64 s2) ∧ w'.cell? ⟨w.heap.size + 1, 1, none⟩ = some (.int .i64 v2)) (first | exact FX.out _ (Below.refl _ _).drew | exact FX.out _ (by assumption) | assumption | exact FX.out _ ((‹Below _ w2 _ ∧ _›.1.setCell (by show _ ≤ w.heap.size + 1 + 1; omega) _).setCell (by show _ ≤ w.heap.size + 1 + 1; omega) _))
    (first
      | (go_at_call_of 17 (Value.int IntKind.i64 s); refine (secrets_any _ _ _ (okL1 H1.out)).mono ?_; rintro e w' ⟨rfl, hb⟩; have hbb := stepB ‹Below _ _ _ ∧ _› hz2 hb; have hr := Box.stay (Box.drew k3) hb)
      | (go_at_call_of 17 (Value.int IntKind.i64 s2); refine (secrets_any _ _ _ (okL1 H2.out)).mono ?_; rintro e w' ⟨rfl, hb⟩; have hbb := stepB ‹Below _ _ _ ∧ _› hz2 hb; have hr := Box.stay ‹Box _ _ _ _› hb)
      | (go_at_call_of 19 (Value.int IntKind.i64 s); refine (vouchers_any _ _ _ (okL2 H1.out)).mono ?_; rintro e w' ⟨rfl, hb⟩; have hbb := stepB ‹Below _ _ _ ∧ _› hz2 hb; have hr := Box.stay ‹Box _ _ _ _› hb)
      | (go_at_call_of 19 (Value.int IntKind.i64 s2); refine (vouchers_any _ _ _ (okL2 H2.out)).mono ?_; rintro e w' ⟨rfl, hb⟩; have hbb := stepB ‹Below _ _ _ ∧ _› hz2 hb; have hr := Box.stay ‹Box _ _ _ _› hb; have r0 := hr.cell 0 (.int .i64 0) rfl; have r1 := hr.cell 1 (.int .i64 0) rfl; have f0 := hr.thaw 0; have f1 := hr.thaw 1)
      | (go_at_call_of 22 (or2 s s2); refine (sum_any _ _ (okN_or (okL1 H1.out) (okL1 H2.out))).mono ?_; rintro e w' ⟨rfl, rfl⟩)
      | (go_at_call_of 22 (and2 v v2); refine (sum_any _ _ (okN_and (okL2 H1.out) (okL2 H2.out))).mono ?_; rintro e w' ⟨rfl, rfl⟩))
  go_wp2
  refine bodyPost_ret (v := lab (or2 s s2) (and2 v v2)) (by simp [results, Try.results10, go_sem, *]) rfl ⟨rfl, ?_⟩
  exact hw2.trans ((‹Below (w.heap.size + 2) w2 (World.setCell _ _ _) ∧ _›).1.mono (by omega))

set_option maxHeartbeats 2000000 in
theorem implMeet_ok (s v s2 v2 : Int) (w : World) (h1 : okL s v = true) (h2 : okL s2 v2 = true) :
    Calls Try.prog 13 #[lab s v, lab s2 v2] w fun e w' => e = .returned (lab (and2 s s2) (or2 v v2)) ∧ Below w.heap.size w w' := by
  have H1 := Lib.hid h1
  have H2 := Lib.hid h2
  have ho := bits_or (okL2 h1) (okL2 h2)
  have ha := bits_and (okL1 h1) (okL1 h2)
  clear h1 h2
  go_enter Try.func13, Try.ntmps13
  go_wp2_with fail
  refine (implOk_any _ _ _).mono ?_
  rintro e w1 ⟨rfl, hb1⟩
  rw [H1.out]
  obtain ⟨hc1, hf1⟩ := bcell hb1
  go_wp2_with fail
  refine (implOk_any _ _ _).mono ?_
  rintro e w2 ⟨rfl, hb2⟩
  rw [H2.out]
  go_wp2_with fail
  obtain ⟨k1, k2, k3, hw2⟩ := three_boxes hb1 hb2
  clear hc1 hf1 hb1 hb2
  have hz2 : w.heap.size + 2 ≤ w2.heap.size := by have := k2.lt; omega
  have FX := Lib.hid (fun w' (h : Below (w.heap.size + 2) w2 w') => And.intro h (And.intro ((k1.keep h (by omega)).cell 0 (.int .i64 s) rfl) (And.intro ((k1.keep h (by omega)).cell 1 (.int .i64 v) rfl) (And.intro ((k2.keep h (by omega)).cell 0 (.int .i64 s2) rfl) ((k2.keep h (by omega)).cell 1 (.int .i64 v2) rfl)))))
  clear k1 k2
  go_region_held3 (fun w' => Below (w.heap.size + 2) w2 w' ∧ w'.cell? ⟨w.heap.size, 0, none⟩ = some (.int .i64 s) ∧ w'.cell? ⟨w.heap.size, 1, none⟩ = some (.int .i64 v) ∧ w'.cell? ⟨w.heap.size + 1, 0, none⟩ = some (.int .i64 s2) ∧ w'.cell? ⟨w.heap.size + 1, 1, none⟩ = some (.int .i64 v2)) (first | exact FX.out _ (Below.refl _ _).drew | exact FX.out _ (by assumption) | assumption | exact FX.out _ ((‹Below _ w2 _ ∧ _›.1.setCell (by show _ ≤ w.heap.size + 1 + 1; omega) _).setCell (by show _ ≤ w.heap.size + 1 + 1; omega) _))
    (first
      | (go_at_call_of 17 (Value.int IntKind.i64 s); refine (secrets_any _ _ _ (okL1 H1.out)).mono ?_; rintro e w' ⟨rfl, hb⟩; have hbb := stepB ‹Below _ _ _ ∧ _› hz2 hb; have hr := Box.stay (Box.drew k3) hb)
      | (go_at_call_of 17 (Value.int IntKind.i64 s2); refine (secrets_any _ _ _ (okL1 H2.out)).mono ?_; rintro e w' ⟨rfl, hb⟩; have hbb := stepB ‹Below _ _ _ ∧ _› hz2 hb; have hr := Box.stay ‹Box _ _ _ _› hb)
      | (go_at_call_of 19 (Value.int IntKind.i64 s); refine (vouchers_any _ _ _ (okL2 H1.out)).mono ?_; rintro e w' ⟨rfl, hb⟩; have hbb := stepB ‹Below _ _ _ ∧ _› hz2 hb; have hr := Box.stay ‹Box _ _ _ _› hb)
      | (go_at_call_of 19 (Value.int IntKind.i64 s2); refine (vouchers_any _ _ _ (okL2 H2.out)).mono ?_; rintro e w' ⟨rfl, hb⟩; have hbb := stepB ‹Below _ _ _ ∧ _› hz2 hb; have hr := Box.stay ‹Box _ _ _ _› hb; have r0 := hr.cell 0 (.int .i64 0) rfl; have r1 := hr.cell 1 (.int .i64 0) rfl; have f0 := hr.thaw 0; have f1 := hr.thaw 1)
      | (go_at_call_of 22 (or2 v v2); refine (sum_any _ _ (okN_or (okL2 H1.out) (okL2 H2.out))).mono ?_; rintro e w' ⟨rfl, rfl⟩)
      | (go_at_call_of 22 (and2 s s2); refine (sum_any _ _ (okN_and (okL1 H1.out) (okL1 H2.out))).mono ?_; rintro e w' ⟨rfl, rfl⟩))
  go_wp2
  refine bodyPost_ret (v := lab (and2 s s2) (or2 v v2)) (by simp [results, Try.results13, go_sem, *]) rfl ⟨rfl, ?_⟩
  exact hw2.trans ((‹Below (w.heap.size + 2) w2 (World.setCell _ _ _) ∧ _›).1.mono (by omega))

set_option maxHeartbeats 1000000 in
theorem implJoin_bad1 (s v s2 v2 : Int) (w : World) (h1 : okL s v = false) :
    Calls Try.prog 10 #[lab s v, lab s2 v2] w fun e w' => e = .returned (lab 0 0) ∧ Below w.heap.size w w' := by
  have H1 := Lib.hid h1
  clear h1
  go_enter Try.func10, Try.ntmps10
  go_wp2_with fail
  refine (implOk_any _ _ _).mono ?_
  rintro e w1 ⟨rfl, hb1⟩
  rw [H1.out]
  obtain ⟨k1, k2, k3, hw1⟩ := three_boxes hb1 (Below.refl _ _)
  have r0 := k3.cell 0 (.int .i64 0) rfl
  have r1 := k3.cell 1 (.int .i64 0) rfl
  have f0 := k3.thaw 0
  have f1 := k3.thaw 1
  clear k1 k2 k3
  go_wp2
  refine bodyPost_ret (v := lab 0 0) (by simp [results, Try.results10, go_sem, *]) rfl ⟨rfl, ?_⟩
  exact (hw1.setCell (by show _ ≤ w.heap.size + 1 + 1; omega) _).setCell (by show _ ≤ w.heap.size + 1 + 1; omega) _

set_option maxHeartbeats 1000000 in
theorem implJoin_bad2 (s v s2 v2 : Int) (w : World) (h1 : okL s v = true) (h2 : okL s2 v2 = false) :
    Calls Try.prog 10 #[lab s v, lab s2 v2] w fun e w' => e = .returned (lab 0 0) ∧ Below w.heap.size w w' := by
  have H1 := Lib.hid h1
  have H2 := Lib.hid h2
  clear h1 h2
  go_enter Try.func10, Try.ntmps10
  go_wp2_with fail
  refine (implOk_any _ _ _).mono ?_
  rintro e w1 ⟨rfl, hb1⟩
  rw [H1.out]
  obtain ⟨hc1, hf1⟩ := bcell hb1
  go_wp2_with fail
  refine (implOk_any _ _ _).mono ?_
  rintro e w2 ⟨rfl, hb2⟩
  rw [H2.out]
  obtain ⟨k1, k2, k3, hw1⟩ := three_boxes hb1 hb2
  have r0 := k3.cell 0 (.int .i64 0) rfl
  have r1 := k3.cell 1 (.int .i64 0) rfl
  have f0 := k3.thaw 0
  have f1 := k3.thaw 1
  clear k1 k2 k3 hc1 hf1
  go_wp2
  refine bodyPost_ret (v := lab 0 0) (by simp [results, Try.results10, go_sem, *]) rfl ⟨rfl, ?_⟩
  exact (hw1.setCell (by show _ ≤ w.heap.size + 1 + 1; omega) _).setCell (by show _ ≤ w.heap.size + 1 + 1; omega) _

set_option maxHeartbeats 1000000 in
theorem implMeet_bad1 (s v s2 v2 : Int) (w : World) (h1 : okL s v = false) :
    Calls Try.prog 13 #[lab s v, lab s2 v2] w fun e w' => e = .returned (lab 0 0) ∧ Below w.heap.size w w' := by
  have H1 := Lib.hid h1
  clear h1
  go_enter Try.func13, Try.ntmps13
  go_wp2_with fail
  refine (implOk_any _ _ _).mono ?_
  rintro e w1 ⟨rfl, hb1⟩
  rw [H1.out]
  obtain ⟨k1, k2, k3, hw1⟩ := three_boxes hb1 (Below.refl _ _)
  have r0 := k3.cell 0 (.int .i64 0) rfl
  have r1 := k3.cell 1 (.int .i64 0) rfl
  have f0 := k3.thaw 0
  have f1 := k3.thaw 1
  clear k1 k2 k3
  go_wp2
  refine bodyPost_ret (v := lab 0 0) (by simp [results, Try.results13, go_sem, *]) rfl ⟨rfl, ?_⟩
  exact (hw1.setCell (by show _ ≤ w.heap.size + 1 + 1; omega) _).setCell (by show _ ≤ w.heap.size + 1 + 1; omega) _

set_option maxHeartbeats 1000000 in
theorem implMeet_bad2 (s v s2 v2 : Int) (w : World) (h1 : okL s v = true) (h2 : okL s2 v2 = false) :
    Calls Try.prog 13 #[lab s v, lab s2 v2] w fun e w' => e = .returned (lab 0 0) ∧ Below w.heap.size w w' := by
  have H1 := Lib.hid h1
  have H2 := Lib.hid h2
  clear h1 h2
  go_enter Try.func13, Try.ntmps13
  go_wp2_with fail
  refine (implOk_any _ _ _).mono ?_
  rintro e w1 ⟨rfl, hb1⟩
  rw [H1.out]
  obtain ⟨hc1, hf1⟩ := bcell hb1
  go_wp2_with fail
  refine (implOk_any _ _ _).mono ?_
  rintro e w2 ⟨rfl, hb2⟩
  rw [H2.out]
  obtain ⟨k1, k2, k3, hw1⟩ := three_boxes hb1 hb2
  have r0 := k3.cell 0 (.int .i64 0) rfl
  have r1 := k3.cell 1 (.int .i64 0) rfl
  have f0 := k3.thaw 0
  have f1 := k3.thaw 1
  clear k1 k2 k3 hc1 hf1
  go_wp2
  refine bodyPost_ret (v := lab 0 0) (by simp [results, Try.results13, go_sem, *]) rfl ⟨rfl, ?_⟩
  exact (hw1.setCell (by show _ ≤ w.heap.size + 1 + 1; omega) _).setCell (by show _ ≤ w.heap.size + 1 + 1; omega) _

/-- The join and the meet of two labels, zero where one is none. -/
def jn1 (s v s2 v2 : Int) : Int := if okL s v && okL s2 v2 then or2 s s2 else 0
def jn2 (s v s2 v2 : Int) : Int := if okL s v && okL s2 v2 then and2 v v2 else 0
def mt1 (s v s2 v2 : Int) : Int := if okL s v && okL s2 v2 then and2 s s2 else 0
def mt2 (s v s2 v2 : Int) : Int := if okL s v && okL s2 v2 then or2 v v2 else 0

theorem implJoin_any (s v s2 v2 : Int) (w : World) :
    Calls Try.prog 10 #[lab s v, lab s2 v2] w fun e w' => e = .returned (lab (jn1 s v s2 v2) (jn2 s v s2 v2)) ∧ Below w.heap.size w w' := by
  cases h1 : okL s v
  · have e1 : jn1 s v s2 v2 = 0 := by simp [jn1, h1]
    have e2 : jn2 s v s2 v2 = 0 := by simp [jn2, h1]
    rw [e1, e2]
    exact implJoin_bad1 s v s2 v2 w h1
  cases h2 : okL s2 v2
  · have e1 : jn1 s v s2 v2 = 0 := by simp [jn1, h2]
    have e2 : jn2 s v s2 v2 = 0 := by simp [jn2, h2]
    rw [e1, e2]
    exact implJoin_bad2 s v s2 v2 w h1 h2
  · have e1 : jn1 s v s2 v2 = or2 s s2 := by simp [jn1, h1, h2]
    have e2 : jn2 s v s2 v2 = and2 v v2 := by simp [jn2, h1, h2]
    rw [e1, e2]
    exact implJoin_ok s v s2 v2 w h1 h2

theorem implMeet_any (s v s2 v2 : Int) (w : World) :
    Calls Try.prog 13 #[lab s v, lab s2 v2] w fun e w' => e = .returned (lab (mt1 s v s2 v2) (mt2 s v s2 v2)) ∧ Below w.heap.size w w' := by
  cases h1 : okL s v
  · have e1 : mt1 s v s2 v2 = 0 := by simp [mt1, h1]
    have e2 : mt2 s v s2 v2 = 0 := by simp [mt2, h1]
    rw [e1, e2]
    exact implMeet_bad1 s v s2 v2 w h1
  cases h2 : okL s2 v2
  · have e1 : mt1 s v s2 v2 = 0 := by simp [mt1, h2]
    have e2 : mt2 s v s2 v2 = 0 := by simp [mt2, h2]
    rw [e1, e2]
    exact implMeet_bad2 s v s2 v2 w h1 h2
  · have e1 : mt1 s v s2 v2 = and2 s s2 := by simp [mt1, h1, h2]
    have e2 : mt2 s v s2 v2 = or2 v v2 := by simp [mt2, h1, h2]
    rw [e1, e2]
    exact implMeet_ok s v s2 v2 w h1 h2
end Go.Proofs.Ytiooefcdlemodab
