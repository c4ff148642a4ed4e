/-
  The walk of laws.FnExactLabelFlow.
-/
import Derived.Test.YtiooefcdlemodabWExOk
import Derived.Test.YtiooefcdlemodabLabE
import Derived.Test.YtiooefcdlemodabWld
namespace Go.Proofs.Ytiooefcdlemodab
open Go.RowKit
set_option linter.unusedVariables false

set_option maxHeartbeats 1000000 in
theorem walk_FnExactLabelFlow (s v s2 v2 : Int) (w : World) :
    Calls Try.prog 3 #[lab s v, lab s2 v2] w fun e w' => e = .returned (.bool true) ∧ Below w.heap.size w w' := by
  have K0 : Kn w [(w.heap.size, 23, #[.int .i64 s, .int .i64 v]), (w.heap.size + 1, 23, #[.int .i64 s2, .int .i64 v2])] ((w.alloc (.cells #[.int .i64 s, .int .i64 v] 23)).alloc (.cells #[.int .i64 s2, .int .i64 v2] 23)) := by
    have h := ((Kn.refl (w := w)).new 23 #[.int .i64 s, .int .i64 v]).new 23 #[.int .i64 s2, .int .i64 v2]
    rw [show (w.alloc (.cells #[.int .i64 s, .int .i64 v] 23)).heap.size = w.heap.size + 1 by simp] at h
    exact h.less (by simp)
  go_enter Try.func3, Try.ntmps3
  go_wp2_with fail
  have cc0 := fun t : Wd (Kn w [(w.heap.size, 23, #[.int .i64 s, .int .i64 v]), (w.heap.size + 1, 23, #[.int .i64 s2, .int .i64 v2])]) => t.ok.c (b := w.heap.size) (T := 23) (vs := #[.int .i64 s, .int .i64 v]) (by simp) 0 _ rfl
  have cc1 := fun t : Wd (Kn w [(w.heap.size, 23, #[.int .i64 s, .int .i64 v]), (w.heap.size + 1, 23, #[.int .i64 s2, .int .i64 v2])]) => t.ok.c (b := w.heap.size) (T := 23) (vs := #[.int .i64 s, .int .i64 v]) (by simp) 1 _ rfl
  have cc2 := fun t : Wd (Kn w [(w.heap.size, 23, #[.int .i64 s, .int .i64 v]), (w.heap.size + 1, 23, #[.int .i64 s2, .int .i64 v2])]) => t.ok.c (b := w.heap.size + 1) (T := 23) (vs := #[.int .i64 s2, .int .i64 v2]) (by simp) 0 _ rfl
  have cc3 := fun t : Wd (Kn w [(w.heap.size, 23, #[.int .i64 s, .int .i64 v]), (w.heap.size + 1, 23, #[.int .i64 s2, .int .i64 v2])]) => t.ok.c (b := w.heap.size + 1) (T := 23) (vs := #[.int .i64 s2, .int .i64 v2]) (by simp) 1 _ rfl
  have ne : Nonempty (Wd (Kn w [(w.heap.size, 23, #[.int .i64 s, .int .i64 v]), (w.heap.size + 1, 23, #[.int .i64 s2, .int .i64 v2])])) := ⟨⟨_, K0.drew⟩⟩
  refine wp_region_quiet (C := fun y => ∃ t : Wd (Kn w [(w.heap.size, 23, #[.int .i64 s, .int .i64 v]), (w.heap.size + 1, 23, #[.int .i64 s2, .int .i64 v2])]), y = t.w) (by kernel_rfl) (by kernel_rfl) ⟨⟨_, K0.drew⟩, rfl⟩ ?_
  show wpQuiet _ _ _ _ [_, _, _, _, _, _] _
  repeat (first | go_big_quiet_step ((first | (go_at_call 7; with_reducible exact inCls Kn.stay (toLabel_any s v _)) | (go_at_call 7; with_reducible exact inCls Kn.stay (toLabel_any s2 v2 _)) | (go_at_call 6; with_reducible exact inCls Kn.stay (specFlow_any s v s2 v2 _)))) | quiet_step ((first | (go_at_call 7; with_reducible exact inCls Kn.stay (toLabel_any s v _)) | (go_at_call 7; with_reducible exact inCls Kn.stay (toLabel_any s2 v2 _)) | (go_at_call 6; with_reducible exact inCls Kn.stay (specFlow_any s v s2 v2 _)))))
  refine wpQuiet_nil ?_
  rintro _ ⟨⟨y1, K1⟩, rfl⟩
  clear ne cc0 cc1 cc2 cc3 K0
  go_wp2_with fail
  have cc0 := fun t : Wd (Kn w [(w.heap.size, 23, #[.int .i64 s, .int .i64 v]), (w.heap.size + 1, 23, #[.int .i64 s2, .int .i64 v2])]) => t.ok.c (b := w.heap.size) (T := 23) (vs := #[.int .i64 s, .int .i64 v]) (by simp) 0 _ rfl
  have cc1 := fun t : Wd (Kn w [(w.heap.size, 23, #[.int .i64 s, .int .i64 v]), (w.heap.size + 1, 23, #[.int .i64 s2, .int .i64 v2])]) => t.ok.c (b := w.heap.size) (T := 23) (vs := #[.int .i64 s, .int .i64 v]) (by simp) 1 _ rfl
  have cc2 := fun t : Wd (Kn w [(w.heap.size, 23, #[.int .i64 s, .int .i64 v]), (w.heap.size + 1, 23, #[.int .i64 s2, .int .i64 v2])]) => t.ok.c (b := w.heap.size + 1) (T := 23) (vs := #[.int .i64 s2, .int .i64 v2]) (by simp) 0 _ rfl
  have cc3 := fun t : Wd (Kn w [(w.heap.size, 23, #[.int .i64 s, .int .i64 v]), (w.heap.size + 1, 23, #[.int .i64 s2, .int .i64 v2])]) => t.ok.c (b := w.heap.size + 1) (T := 23) (vs := #[.int .i64 s2, .int .i64 v2]) (by simp) 1 _ rfl
  have ne : Nonempty (Wd (Kn w [(w.heap.size, 23, #[.int .i64 s, .int .i64 v]), (w.heap.size + 1, 23, #[.int .i64 s2, .int .i64 v2])])) := ⟨⟨_, K1.drew⟩⟩
  refine wp_region_quiet (C := fun y => ∃ t : Wd (Kn w [(w.heap.size, 23, #[.int .i64 s, .int .i64 v]), (w.heap.size + 1, 23, #[.int .i64 s2, .int .i64 v2])]), y = t.w) (by kernel_rfl) (by kernel_rfl) ⟨⟨_, K1.drew⟩, rfl⟩ ?_
  show wpQuiet _ _ _ _ [_, _, _, _, _, _] _
  repeat (first | go_big_quiet_step ((first | (go_at_call 7; with_reducible exact inCls Kn.stay (toLabel_any s v _)) | (go_at_call 7; with_reducible exact inCls Kn.stay (toLabel_any s2 v2 _)) | (go_at_call 8; with_reducible exact inCls Kn.stay (implFlow_any s v s2 v2 _)))) | quiet_step ((first | (go_at_call 7; with_reducible exact inCls Kn.stay (toLabel_any s v _)) | (go_at_call 7; with_reducible exact inCls Kn.stay (toLabel_any s2 v2 _)) | (go_at_call 8; with_reducible exact inCls Kn.stay (implFlow_any s v s2 v2 _)))))
  refine wpQuiet_nil ?_
  rintro _ ⟨⟨y2, K2⟩, rfl⟩
  clear ne cc0 cc1 cc2 cc3 K1
  generalize flow s v s2 v2 = b
  cases b
  all_goals
    go_wp2
    go_ret
    exact ⟨rfl, K2.1⟩
end Go.Proofs.Ytiooefcdlemodab
