/-
  The walk of laws.FnExactRightIn.
-/
import Derived.Test.YthbeiigiffnhjaaToRgt
import Derived.Test.YthbeiigiffnhjaaRigI
import Derived.Test.YthbeiigiffnhjaaRigT
namespace Go.Proofs.Ythbeiigiffnhjaa
open Go.RowKit
set_option linter.unusedVariables false

set_option maxHeartbeats 2000000 in
theorem walk_FnExactRightIn (t v : Int) (r wr k : Bool) (t2 v2 : Int) (r2 wr2 k2 : Bool) (w : World) :
    Calls Try.prog 11 #[rgt t v r wr k, rgt t2 v2 r2 wr2 k2] w fun e w' => e = .returned (.bool true) ∧ Below w.heap.size w w' := by
  have K0 := Kn.two w 36 (rgtC t v r wr k) (rgtC t2 v2 r2 wr2 k2)
  obtain ⟨b, hb⟩ : ∃ b, inB t v r wr k t2 v2 r2 wr2 k2 = b := ⟨_, rfl⟩
  have HB := Lib.hid hb
  clear hb
  go_enter Try.func11, Try.ntmps11
  go_wp2_with fail
  have cc0 := fun zz : Wd (Kn w [(w.heap.size, 36, rgtC t v r wr k), (w.heap.size + 1, 36, rgtC t2 v2 r2 wr2 k2)]) => zz.ok.c (b := w.heap.size) (T := 36) (vs := rgtC t v r wr k) (by simp) 0 _ rfl
  have cc1 := fun zz : Wd (Kn w [(w.heap.size, 36, rgtC t v r wr k), (w.heap.size + 1, 36, rgtC t2 v2 r2 wr2 k2)]) => zz.ok.c (b := w.heap.size) (T := 36) (vs := rgtC t v r wr k) (by simp) 1 _ rfl
  have cc2 := fun zz : Wd (Kn w [(w.heap.size, 36, rgtC t v r wr k), (w.heap.size + 1, 36, rgtC t2 v2 r2 wr2 k2)]) => zz.ok.c (b := w.heap.size) (T := 36) (vs := rgtC t v r wr k) (by simp) 2 _ rfl
  have cc3 := fun zz : Wd (Kn w [(w.heap.size, 36, rgtC t v r wr k), (w.heap.size + 1, 36, rgtC t2 v2 r2 wr2 k2)]) => zz.ok.c (b := w.heap.size) (T := 36) (vs := rgtC t v r wr k) (by simp) 3 _ rfl
  have cc4 := fun zz : Wd (Kn w [(w.heap.size, 36, rgtC t v r wr k), (w.heap.size + 1, 36, rgtC t2 v2 r2 wr2 k2)]) => zz.ok.c (b := w.heap.size) (T := 36) (vs := rgtC t v r wr k) (by simp) 4 _ rfl
  have cc5 := fun zz : Wd (Kn w [(w.heap.size, 36, rgtC t v r wr k), (w.heap.size + 1, 36, rgtC t2 v2 r2 wr2 k2)]) => zz.ok.c (b := w.heap.size + 1) (T := 36) (vs := rgtC t2 v2 r2 wr2 k2) (by simp) 0 _ rfl
  have cc6 := fun zz : Wd (Kn w [(w.heap.size, 36, rgtC t v r wr k), (w.heap.size + 1, 36, rgtC t2 v2 r2 wr2 k2)]) => zz.ok.c (b := w.heap.size + 1) (T := 36) (vs := rgtC t2 v2 r2 wr2 k2) (by simp) 1 _ rfl
  have cc7 := fun zz : Wd (Kn w [(w.heap.size, 36, rgtC t v r wr k), (w.heap.size + 1, 36, rgtC t2 v2 r2 wr2 k2)]) => zz.ok.c (b := w.heap.size + 1) (T := 36) (vs := rgtC t2 v2 r2 wr2 k2) (by simp) 2 _ rfl
  have cc8 := fun zz : Wd (Kn w [(w.heap.size, 36, rgtC t v r wr k), (w.heap.size + 1, 36, rgtC t2 v2 r2 wr2 k2)]) => zz.ok.c (b := w.heap.size + 1) (T := 36) (vs := rgtC t2 v2 r2 wr2 k2) (by simp) 3 _ rfl
  have cc9 := fun zz : Wd (Kn w [(w.heap.size, 36, rgtC t v r wr k), (w.heap.size + 1, 36, rgtC t2 v2 r2 wr2 k2)]) => zz.ok.c (b := w.heap.size + 1) (T := 36) (vs := rgtC t2 v2 r2 wr2 k2) (by simp) 4 _ rfl
  have ne : Nonempty (Wd (Kn w [(w.heap.size, 36, rgtC t v r wr k), (w.heap.size + 1, 36, rgtC t2 v2 r2 wr2 k2)])) := ⟨⟨_, K0.drew⟩⟩
  refine wp_region_quiet (C := fun y => ∃ zz : Wd (Kn w [(w.heap.size, 36, rgtC t v r wr k), (w.heap.size + 1, 36, rgtC t2 v2 r2 wr2 k2)]), y = zz.w) (by kernel_rfl) (by kernel_rfl) ⟨⟨_, K0.drew⟩, rfl⟩ ?_
  show wpQuiet _ _ _ _ [_, _, _, _, _, _] _
  repeat (first | go_big_quiet_step ((first | (go_at_call 26; with_reducible exact inCls Kn.stay (toRight_any t v r wr k _)) | (go_at_call 26; with_reducible exact inCls Kn.stay (toRight_any t2 v2 r2 wr2 k2 _)) | (go_at_call 19; with_reducible exact inCls Kn.stay (specRIn_val HB.out _)))) | quiet_step ((first | (go_at_call 26; with_reducible exact inCls Kn.stay (toRight_any t v r wr k _)) | (go_at_call 26; with_reducible exact inCls Kn.stay (toRight_any t2 v2 r2 wr2 k2 _)) | (go_at_call 19; with_reducible exact inCls Kn.stay (specRIn_val HB.out _)))))
  refine wpQuiet_nil ?_
  rintro _ ⟨⟨y1, K1⟩, rfl⟩
  clear ne cc0 cc1 cc2 cc3 cc4 cc5 cc6 cc7 cc8 cc9 K0
  go_wp2_with fail
  have cc0 := fun zz : Wd (Kn w [(w.heap.size, 36, rgtC t v r wr k), (w.heap.size + 1, 36, rgtC t2 v2 r2 wr2 k2)]) => zz.ok.c (b := w.heap.size) (T := 36) (vs := rgtC t v r wr k) (by simp) 0 _ rfl
  have cc1 := fun zz : Wd (Kn w [(w.heap.size, 36, rgtC t v r wr k), (w.heap.size + 1, 36, rgtC t2 v2 r2 wr2 k2)]) => zz.ok.c (b := w.heap.size) (T := 36) (vs := rgtC t v r wr k) (by simp) 1 _ rfl
  have cc2 := fun zz : Wd (Kn w [(w.heap.size, 36, rgtC t v r wr k), (w.heap.size + 1, 36, rgtC t2 v2 r2 wr2 k2)]) => zz.ok.c (b := w.heap.size) (T := 36) (vs := rgtC t v r wr k) (by simp) 2 _ rfl
  have cc3 := fun zz : Wd (Kn w [(w.heap.size, 36, rgtC t v r wr k), (w.heap.size + 1, 36, rgtC t2 v2 r2 wr2 k2)]) => zz.ok.c (b := w.heap.size) (T := 36) (vs := rgtC t v r wr k) (by simp) 3 _ rfl
  have cc4 := fun zz : Wd (Kn w [(w.heap.size, 36, rgtC t v r wr k), (w.heap.size + 1, 36, rgtC t2 v2 r2 wr2 k2)]) => zz.ok.c (b := w.heap.size) (T := 36) (vs := rgtC t v r wr k) (by simp) 4 _ rfl
  have cc5 := fun zz : Wd (Kn w [(w.heap.size, 36, rgtC t v r wr k), (w.heap.size + 1, 36, rgtC t2 v2 r2 wr2 k2)]) => zz.ok.c (b := w.heap.size + 1) (T := 36) (vs := rgtC t2 v2 r2 wr2 k2) (by simp) 0 _ rfl
  have cc6 := fun zz : Wd (Kn w [(w.heap.size, 36, rgtC t v r wr k), (w.heap.size + 1, 36, rgtC t2 v2 r2 wr2 k2)]) => zz.ok.c (b := w.heap.size + 1) (T := 36) (vs := rgtC t2 v2 r2 wr2 k2) (by simp) 1 _ rfl
  have cc7 := fun zz : Wd (Kn w [(w.heap.size, 36, rgtC t v r wr k), (w.heap.size + 1, 36, rgtC t2 v2 r2 wr2 k2)]) => zz.ok.c (b := w.heap.size + 1) (T := 36) (vs := rgtC t2 v2 r2 wr2 k2) (by simp) 2 _ rfl
  have cc8 := fun zz : Wd (Kn w [(w.heap.size, 36, rgtC t v r wr k), (w.heap.size + 1, 36, rgtC t2 v2 r2 wr2 k2)]) => zz.ok.c (b := w.heap.size + 1) (T := 36) (vs := rgtC t2 v2 r2 wr2 k2) (by simp) 3 _ rfl
  have cc9 := fun zz : Wd (Kn w [(w.heap.size, 36, rgtC t v r wr k), (w.heap.size + 1, 36, rgtC t2 v2 r2 wr2 k2)]) => zz.ok.c (b := w.heap.size + 1) (T := 36) (vs := rgtC t2 v2 r2 wr2 k2) (by simp) 4 _ rfl
  have ne : Nonempty (Wd (Kn w [(w.heap.size, 36, rgtC t v r wr k), (w.heap.size + 1, 36, rgtC t2 v2 r2 wr2 k2)])) := ⟨⟨_, K1.drew⟩⟩
  refine wp_region_quiet (C := fun y => ∃ zz : Wd (Kn w [(w.heap.size, 36, rgtC t v r wr k), (w.heap.size + 1, 36, rgtC t2 v2 r2 wr2 k2)]), y = zz.w) (by kernel_rfl) (by kernel_rfl) ⟨⟨_, K1.drew⟩, rfl⟩ ?_
  show wpQuiet _ _ _ _ [_, _, _, _, _, _] _
  repeat (first | go_big_quiet_step ((first | (go_at_call 26; with_reducible exact inCls Kn.stay (toRight_any t v r wr k _)) | (go_at_call 26; with_reducible exact inCls Kn.stay (toRight_any t2 v2 r2 wr2 k2 _)) | (go_at_call 18; with_reducible exact inCls Kn.stay (implRIn_val HB.out _)))) | quiet_step ((first | (go_at_call 26; with_reducible exact inCls Kn.stay (toRight_any t v r wr k _)) | (go_at_call 26; with_reducible exact inCls Kn.stay (toRight_any t2 v2 r2 wr2 k2 _)) | (go_at_call 18; with_reducible exact inCls Kn.stay (implRIn_val HB.out _)))))
  refine wpQuiet_nil ?_
  rintro _ ⟨⟨y2, K2⟩, rfl⟩
  clear ne cc0 cc1 cc2 cc3 cc4 cc5 cc6 cc7 cc8 cc9 K1 HB
  cases b
  all_goals
    go_wp2
    go_ret
    exact ⟨rfl, K2.1⟩
end Go.Proofs.Ythbeiigiffnhjaa
