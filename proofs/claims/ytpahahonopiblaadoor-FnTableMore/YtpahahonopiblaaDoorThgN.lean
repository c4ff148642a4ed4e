/-
  The program's ThingNew.
-/
import Derived.Test.YtpahahonopiblaaDoorThgI
import Derived.Test.YtpahahonopiblaaDoorTNew
namespace Go.Proofs.YtpahahonopiblaaDoor
open Go.RowKit
set_option linter.unusedVariables false

set_option maxHeartbeats 1000000 in
theorem list_any (w : World) :
    Calls Tryd.prog 58 #[.agg zr20] w fun e w' => e = .returned (.slice (some ⟨w.heap.size, 0, none⟩) 4 4) ∧ w' = w.alloc (.cells zr20 89) := by
  go_enter Tryd.func58, Tryd.ntmps58
  go_wp2
  go_ret
  exact ⟨rfl, rfl⟩
theorem infoT : (Tryd.prog.info? 37).map (·.size) = some 8 := by kernel_rfl
theorem one8 (x : T8) (s q : Sl) : (x.cs s q).all (·.oneCell') = true := by simp [Value.oneCell']
theorem slots_has {k : Int} (h : inR k 1 5 = true) : inR 4 (rowOf k).s0 (rowOf k).s1 = hasS k := by
  have hk : k = 1 ∨ k = 2 ∨ k = 3 ∨ k = 4 ∨ k = 5 := by simp [inR] at h; omega
  rcases hk with rfl | rfl | rfl | rfl | rfl <;> decide
theorem zero_four {w : World} {b : Nat} {T : TypeId} (bx : Box w b T zr20) : HasR w ⟨some ⟨b, 0, none⟩, 4, 4⟩ [⟨0, 0, false, false, false⟩, ⟨0, 0, false, false, false⟩, ⟨0, 0, false, false, false⟩, ⟨0, 0, false, false, false⟩] := by
  refine ⟨rfl, Nat.le_refl _, .inr ⟨_, _, rfl, fun i x hx j v hv => ?_⟩⟩
  match i, hx with
  | 0, hx => simp at hx; subst hx; match j, hv with
    | 0, hv => exact bx.cell _ _ hv
    | 1, hv => exact bx.cell _ _ hv
    | 2, hv => exact bx.cell _ _ hv
    | 3, hv => exact bx.cell _ _ hv
    | 4, hv => exact bx.cell _ _ hv
    | j + 5, hv => simp at hv
  | 1, hx => simp at hx; subst hx; match j, hv with
    | 0, hv => exact bx.cell _ _ hv
    | 1, hv => exact bx.cell _ _ hv
    | 2, hv => exact bx.cell _ _ hv
    | 3, hv => exact bx.cell _ _ hv
    | 4, hv => exact bx.cell _ _ hv
    | j + 5, hv => simp at hv
  | 2, hx => simp at hx; subst hx; match j, hv with
    | 0, hv => exact bx.cell _ _ hv
    | 1, hv => exact bx.cell _ _ hv
    | 2, hv => exact bx.cell _ _ hv
    | 3, hv => exact bx.cell _ _ hv
    | 4, hv => exact bx.cell _ _ hv
    | j + 5, hv => simp at hv
  | 3, hx => simp at hx; subst hx; match j, hv with
    | 0, hv => exact bx.cell _ _ hv
    | 1, hv => exact bx.cell _ _ hv
    | 2, hv => exact bx.cell _ _ hv
    | 3, hv => exact bx.cell _ _ hv
    | 4, hv => exact bx.cell _ _ hv
    | j + 5, hv => simp at hv
  | i + 4, hx => simp at hx
/-- What lies there when the kind is looked up. -/
theorem new_start (kind sec vou tt : Int) (w : World) (x : T8) : Kn w [(w.heap.size + 1, 37, #[.int .i64 0, .int .i64 0, .int .i64 0, .int .i64 0, .int .i64 0, .slice none 0 0, .slice none 0 0, .int .i64 0]), (w.heap.size + 2, 37, x.cs ⟨none, 0, 0⟩ ⟨none, 0, 0⟩)] (((w.alloc (.cells #[.int .i64 sec, .int .i64 vou] 33)).alloc (.cells #[.int .i64 0, .int .i64 0, .int .i64 0, .int .i64 0, .int .i64 0, .slice none 0 0, .slice none 0 0, .int .i64 0] 37)).alloc (.cells (x.cs ⟨none, 0, 0⟩ ⟨none, 0, 0⟩) 37)) := by
  have h1 : (w.alloc (.cells #[.int .i64 sec, .int .i64 vou] 33)).heap.size = w.heap.size + 1 := by simp
  have h2 : ((w.alloc (.cells #[.int .i64 sec, .int .i64 vou] 33)).alloc (.cells #[.int .i64 0, .int .i64 0, .int .i64 0, .int .i64 0, .int .i64 0, .slice none 0 0, .slice none 0 0, .int .i64 0] 37)).heap.size = w.heap.size + 2 := by simp
  have k := (((Kn.refl (w := w)).past (.cells #[.int .i64 sec, .int .i64 vou] 33)).new 37 #[.int .i64 0, .int .i64 0, .int .i64 0, .int .i64 0, .int .i64 0, .slice none 0 0, .slice none 0 0, .int .i64 0]).new 37 (x.cs ⟨none, 0, 0⟩ ⟨none, 0, 0⟩)
  rw [h1, h2] at k
  exact k.less (by simp)

set_option maxRecDepth 100000 in
set_option maxHeartbeats 4000000 in
theorem implTNew_out (kind sec vou tt : Int) (w : World) (hf : KF w) (ho : inR kind 1 5 = false) (hk : hasS kind = false) :
    Calls Tryd.prog 21 #[.int .i64 kind, lab sec vou, .int .i64 tt] w (NewPost kind sec vou tt w) := by
  have HXS := Lib.hid (show (newT kind sec vou tt).slots = [] by simp [newT, hk])
  have HF := Lib.hid hf
  have HKK := Lib.hid hk
  have HK0 := Lib.hid (new_start kind sec vou tt w (newT kind sec vou tt))
  have HC := Lib.hid (fun w => fieldsOf_out kind ho w)
  clear ho hk hf
  go_enter Tryd.func21, Tryd.ntmps21
  go_wp2_with fail
  refine (HC.out _).mono ?_
  rintro e y ⟨rfl, hb⟩
  have K1 := Lib.hid ((HK0.out.stay hb).new 84 row0.cs)
  clear hb HC HK0
  have c0 := K1.out.c (b := w.heap.size + 2) (T := 37) (vs := (newT kind sec vou tt).cs ⟨none, 0, 0⟩ ⟨none, 0, 0⟩) (by simp) 0 _ rfl
  have c1 := K1.out.c (b := w.heap.size + 2) (T := 37) (vs := (newT kind sec vou tt).cs ⟨none, 0, 0⟩ ⟨none, 0, 0⟩) (by simp) 1 _ rfl
  have c2 := K1.out.c (b := w.heap.size + 2) (T := 37) (vs := (newT kind sec vou tt).cs ⟨none, 0, 0⟩ ⟨none, 0, 0⟩) (by simp) 2 _ rfl
  have c3 := K1.out.c (b := w.heap.size + 2) (T := 37) (vs := (newT kind sec vou tt).cs ⟨none, 0, 0⟩ ⟨none, 0, 0⟩) (by simp) 3 _ rfl
  have c4 := K1.out.c (b := w.heap.size + 2) (T := 37) (vs := (newT kind sec vou tt).cs ⟨none, 0, 0⟩ ⟨none, 0, 0⟩) (by simp) 4 _ rfl
  have c5 := K1.out.c (b := w.heap.size + 2) (T := 37) (vs := (newT kind sec vou tt).cs ⟨none, 0, 0⟩ ⟨none, 0, 0⟩) (by simp) 5 _ rfl
  have c6 := K1.out.c (b := w.heap.size + 2) (T := 37) (vs := (newT kind sec vou tt).cs ⟨none, 0, 0⟩ ⟨none, 0, 0⟩) (by simp) 6 _ rfl
  have c7 := K1.out.c (b := w.heap.size + 2) (T := 37) (vs := (newT kind sec vou tt).cs ⟨none, 0, 0⟩ ⟨none, 0, 0⟩) (by simp) 7 _ rfl
  have HR := Lib.hid (fun w => show HasR w ⟨none, 0, 0⟩ (newT kind sec vou tt).slots by rw [HXS.out]; exact ⟨rfl, Nat.le_refl _, .inl rfl⟩)
  have HQ := Lib.hid (fun w => show HasQ w ⟨none, 0, 0⟩ (newT kind sec vou tt).queue from ⟨rfl, Nat.le_refl _, .inl rfl⟩)
  go_wp2_with fail
  cases ho : okT (newT kind sec vou tt)
  · have HO := Lib.hid ho
    clear ho
    refine (implTOk_val HO.out _ (HR.out _) (HQ.out _) (HF.out.stay K1.out.1)).mono ?_
    rintro e y9 ⟨rfl, hb⟩
    have K9 := Lib.hid (K1.out.stay hb)
    have bR := K9.out.box (b := w.heap.size + 1) (T := 37) (vs := #[.int .i64 0, .int .i64 0, .int .i64 0, .int .i64 0, .int .i64 0, .slice none 0 0, .slice none 0 0, .int .i64 0]) (by simp)
    clear hb c0 c1 c2 c3 c4 c5 c6 c7
    have c0 := K9.out.c (b := w.heap.size + 2) (T := 37) (vs := (newT kind sec vou tt).cs ⟨none, 0, 0⟩ ⟨none, 0, 0⟩) (by simp) 0 _ rfl
    have c1 := K9.out.c (b := w.heap.size + 2) (T := 37) (vs := (newT kind sec vou tt).cs ⟨none, 0, 0⟩ ⟨none, 0, 0⟩) (by simp) 1 _ rfl
    have c2 := K9.out.c (b := w.heap.size + 2) (T := 37) (vs := (newT kind sec vou tt).cs ⟨none, 0, 0⟩ ⟨none, 0, 0⟩) (by simp) 2 _ rfl
    have c3 := K9.out.c (b := w.heap.size + 2) (T := 37) (vs := (newT kind sec vou tt).cs ⟨none, 0, 0⟩ ⟨none, 0, 0⟩) (by simp) 3 _ rfl
    have c4 := K9.out.c (b := w.heap.size + 2) (T := 37) (vs := (newT kind sec vou tt).cs ⟨none, 0, 0⟩ ⟨none, 0, 0⟩) (by simp) 4 _ rfl
    have c5 := K9.out.c (b := w.heap.size + 2) (T := 37) (vs := (newT kind sec vou tt).cs ⟨none, 0, 0⟩ ⟨none, 0, 0⟩) (by simp) 5 _ rfl
    have c6 := K9.out.c (b := w.heap.size + 2) (T := 37) (vs := (newT kind sec vou tt).cs ⟨none, 0, 0⟩ ⟨none, 0, 0⟩) (by simp) 6 _ rfl
    have c7 := K9.out.c (b := w.heap.size + 2) (T := 37) (vs := (newT kind sec vou tt).cs ⟨none, 0, 0⟩ ⟨none, 0, 0⟩) (by simp) 7 _ rfl
    go_wp2_with (refine wpList_store_rowTo rfl 37 (.tmp 6) (.tmp 32) rfl rfl (w.heap.size + 1) (#[.int .i64 0, .int .i64 0, .int .i64 0, .int .i64 0, .int .i64 0, .slice none 0 0, .slice none 0 0, .int .i64 0]) rfl rfl 37 #[.int .i64 0, .int .i64 0, .int .i64 0, .int .i64 0, .int .i64 0, .slice none 0 0, .slice none 0 0, .int .i64 0] bR infoT rfl (one8 zeroT ⟨none, 0, 0⟩ ⟨none, 0, 0⟩) ?_)
    refine bodyPost_ret (results_row_tmp Tryd.results21 _ _ (w.heap.size + 1) 37 (#[.int .i64 0, .int .i64 0, .int .i64 0, .int .i64 0, .int .i64 0, .slice none 0 0, .slice none 0 0, .int .i64 0]) _ rfl (setRow_box bR _) Tryd.underlying37 rfl infoT) rfl ⟨.inl ⟨HO.out, rfl⟩, ?_⟩
    exact K9.out.1.trans (setRow_below (by omega) _)
  · have HO := Lib.hid ho
    clear ho
    refine (implTOk_val HO.out _ (HR.out _) (HQ.out _) (HF.out.stay K1.out.1)).mono ?_
    rintro e y9 ⟨rfl, hb⟩
    have K9 := Lib.hid (K1.out.stay hb)
    have bR := K9.out.box (b := w.heap.size + 1) (T := 37) (vs := #[.int .i64 0, .int .i64 0, .int .i64 0, .int .i64 0, .int .i64 0, .slice none 0 0, .slice none 0 0, .int .i64 0]) (by simp)
    clear hb c0 c1 c2 c3 c4 c5 c6 c7
    have c0 := K9.out.c (b := w.heap.size + 2) (T := 37) (vs := (newT kind sec vou tt).cs ⟨none, 0, 0⟩ ⟨none, 0, 0⟩) (by simp) 0 _ rfl
    have c1 := K9.out.c (b := w.heap.size + 2) (T := 37) (vs := (newT kind sec vou tt).cs ⟨none, 0, 0⟩ ⟨none, 0, 0⟩) (by simp) 1 _ rfl
    have c2 := K9.out.c (b := w.heap.size + 2) (T := 37) (vs := (newT kind sec vou tt).cs ⟨none, 0, 0⟩ ⟨none, 0, 0⟩) (by simp) 2 _ rfl
    have c3 := K9.out.c (b := w.heap.size + 2) (T := 37) (vs := (newT kind sec vou tt).cs ⟨none, 0, 0⟩ ⟨none, 0, 0⟩) (by simp) 3 _ rfl
    have c4 := K9.out.c (b := w.heap.size + 2) (T := 37) (vs := (newT kind sec vou tt).cs ⟨none, 0, 0⟩ ⟨none, 0, 0⟩) (by simp) 4 _ rfl
    have c5 := K9.out.c (b := w.heap.size + 2) (T := 37) (vs := (newT kind sec vou tt).cs ⟨none, 0, 0⟩ ⟨none, 0, 0⟩) (by simp) 5 _ rfl
    have c6 := K9.out.c (b := w.heap.size + 2) (T := 37) (vs := (newT kind sec vou tt).cs ⟨none, 0, 0⟩ ⟨none, 0, 0⟩) (by simp) 6 _ rfl
    have c7 := K9.out.c (b := w.heap.size + 2) (T := 37) (vs := (newT kind sec vou tt).cs ⟨none, 0, 0⟩ ⟨none, 0, 0⟩) (by simp) 7 _ rfl
    go_wp2_with (refine wpList_store_rowTo rfl 37 (.tmp 6) (.tmp 33) rfl rfl (w.heap.size + 1) ((newT kind sec vou tt).cs ⟨none, 0, 0⟩ ⟨none, 0, 0⟩) rfl rfl 37 #[.int .i64 0, .int .i64 0, .int .i64 0, .int .i64 0, .int .i64 0, .slice none 0 0, .slice none 0 0, .int .i64 0] bR infoT rfl (one8 (newT kind sec vou tt) ⟨none, 0, 0⟩ ⟨none, 0, 0⟩) ?_)
    refine bodyPost_ret (results_row_tmp Tryd.results21 _ _ (w.heap.size + 1) 37 ((newT kind sec vou tt).cs ⟨none, 0, 0⟩ ⟨none, 0, 0⟩) _ rfl (setRow_box bR _) Tryd.underlying37 rfl infoT) rfl ⟨.inr ⟨HO.out, ⟨none, 0, 0⟩, ⟨none, 0, 0⟩, rfl, by rw [HXS.out]; exact ⟨rfl, Nat.le_refl _, .inl rfl⟩, ⟨rfl, Nat.le_refl _, .inl rfl⟩, fun h => absurd (HKK.out.symm.trans h) (by decide), fun b o e => by simp at e⟩, ?_⟩
    exact K9.out.1.trans (setRow_below (by omega) _)

set_option maxRecDepth 100000 in
set_option maxHeartbeats 4000000 in
theorem implTNew_bare (kind sec vou tt : Int) (w : World) (hf : KF w) (ho : inR kind 1 5 = true) (hk : hasS kind = false) :
    Calls Tryd.prog 21 #[.int .i64 kind, lab sec vou, .int .i64 tt] w (NewPost kind sec vou tt w) := by
  have HXS := Lib.hid (show (newT kind sec vou tt).slots = [] by simp [newT, hk])
  have HF := Lib.hid hf
  have HKK := Lib.hid hk
  have HK0 := Lib.hid (new_start kind sec vou tt w (newT kind sec vou tt))
  have HC := Lib.hid (fieldsOf_val kind ho _ (hf.stay HK0.out.1))
  have HH := Lib.hid ((slots_has ho).trans hk)
  generalize rowOf kind = r at *
  clear ho hk hf
  go_enter Tryd.func21, Tryd.ntmps21
  go_wp2_with fail
  refine HC.out.mono ?_
  rintro e y ⟨rfl, hb⟩
  have K1 := Lib.hid ((HK0.out.stay hb).new 84 r.cs)
  clear hb HC HK0
  have f7 := K1.out.c (b := y.heap.size) (T := 84) (vs := r.cs) (by simp) 7 _ rfl
  have f8 := K1.out.c (b := y.heap.size) (T := 84) (vs := r.cs) (by simp) 8 _ rfl
  go_wp2_with fail
  refine (has_val HH.out _).mono ?_
  rintro e y2 ⟨rfl, hb⟩
  have K2 := Lib.hid (K1.out.stay hb)
  clear hb K1 f7 f8
  have c0 := K2.out.c (b := w.heap.size + 2) (T := 37) (vs := (newT kind sec vou tt).cs ⟨none, 0, 0⟩ ⟨none, 0, 0⟩) (by simp) 0 _ rfl
  have c1 := K2.out.c (b := w.heap.size + 2) (T := 37) (vs := (newT kind sec vou tt).cs ⟨none, 0, 0⟩ ⟨none, 0, 0⟩) (by simp) 1 _ rfl
  have c2 := K2.out.c (b := w.heap.size + 2) (T := 37) (vs := (newT kind sec vou tt).cs ⟨none, 0, 0⟩ ⟨none, 0, 0⟩) (by simp) 2 _ rfl
  have c3 := K2.out.c (b := w.heap.size + 2) (T := 37) (vs := (newT kind sec vou tt).cs ⟨none, 0, 0⟩ ⟨none, 0, 0⟩) (by simp) 3 _ rfl
  have c4 := K2.out.c (b := w.heap.size + 2) (T := 37) (vs := (newT kind sec vou tt).cs ⟨none, 0, 0⟩ ⟨none, 0, 0⟩) (by simp) 4 _ rfl
  have c5 := K2.out.c (b := w.heap.size + 2) (T := 37) (vs := (newT kind sec vou tt).cs ⟨none, 0, 0⟩ ⟨none, 0, 0⟩) (by simp) 5 _ rfl
  have c6 := K2.out.c (b := w.heap.size + 2) (T := 37) (vs := (newT kind sec vou tt).cs ⟨none, 0, 0⟩ ⟨none, 0, 0⟩) (by simp) 6 _ rfl
  have c7 := K2.out.c (b := w.heap.size + 2) (T := 37) (vs := (newT kind sec vou tt).cs ⟨none, 0, 0⟩ ⟨none, 0, 0⟩) (by simp) 7 _ rfl
  have HR := Lib.hid (fun w => show HasR w ⟨none, 0, 0⟩ (newT kind sec vou tt).slots by rw [HXS.out]; exact ⟨rfl, Nat.le_refl _, .inl rfl⟩)
  have HQ := Lib.hid (fun w => show HasQ w ⟨none, 0, 0⟩ (newT kind sec vou tt).queue from ⟨rfl, Nat.le_refl _, .inl rfl⟩)
  go_wp2_with fail
  cases ho : okT (newT kind sec vou tt)
  · have HO := Lib.hid ho
    clear ho
    refine (implTOk_val HO.out _ (HR.out _) (HQ.out _) (HF.out.stay K2.out.1)).mono ?_
    rintro e y9 ⟨rfl, hb⟩
    have K9 := Lib.hid (K2.out.stay hb)
    have bR := K9.out.box (b := w.heap.size + 1) (T := 37) (vs := #[.int .i64 0, .int .i64 0, .int .i64 0, .int .i64 0, .int .i64 0, .slice none 0 0, .slice none 0 0, .int .i64 0]) (by simp)
    clear hb c0 c1 c2 c3 c4 c5 c6 c7
    have c0 := K9.out.c (b := w.heap.size + 2) (T := 37) (vs := (newT kind sec vou tt).cs ⟨none, 0, 0⟩ ⟨none, 0, 0⟩) (by simp) 0 _ rfl
    have c1 := K9.out.c (b := w.heap.size + 2) (T := 37) (vs := (newT kind sec vou tt).cs ⟨none, 0, 0⟩ ⟨none, 0, 0⟩) (by simp) 1 _ rfl
    have c2 := K9.out.c (b := w.heap.size + 2) (T := 37) (vs := (newT kind sec vou tt).cs ⟨none, 0, 0⟩ ⟨none, 0, 0⟩) (by simp) 2 _ rfl
    have c3 := K9.out.c (b := w.heap.size + 2) (T := 37) (vs := (newT kind sec vou tt).cs ⟨none, 0, 0⟩ ⟨none, 0, 0⟩) (by simp) 3 _ rfl
    have c4 := K9.out.c (b := w.heap.size + 2) (T := 37) (vs := (newT kind sec vou tt).cs ⟨none, 0, 0⟩ ⟨none, 0, 0⟩) (by simp) 4 _ rfl
    have c5 := K9.out.c (b := w.heap.size + 2) (T := 37) (vs := (newT kind sec vou tt).cs ⟨none, 0, 0⟩ ⟨none, 0, 0⟩) (by simp) 5 _ rfl
    have c6 := K9.out.c (b := w.heap.size + 2) (T := 37) (vs := (newT kind sec vou tt).cs ⟨none, 0, 0⟩ ⟨none, 0, 0⟩) (by simp) 6 _ rfl
    have c7 := K9.out.c (b := w.heap.size + 2) (T := 37) (vs := (newT kind sec vou tt).cs ⟨none, 0, 0⟩ ⟨none, 0, 0⟩) (by simp) 7 _ rfl
    go_wp2_with (refine wpList_store_rowTo rfl 37 (.tmp 6) (.tmp 32) rfl rfl (w.heap.size + 1) (#[.int .i64 0, .int .i64 0, .int .i64 0, .int .i64 0, .int .i64 0, .slice none 0 0, .slice none 0 0, .int .i64 0]) rfl rfl 37 #[.int .i64 0, .int .i64 0, .int .i64 0, .int .i64 0, .int .i64 0, .slice none 0 0, .slice none 0 0, .int .i64 0] bR infoT rfl (one8 zeroT ⟨none, 0, 0⟩ ⟨none, 0, 0⟩) ?_)
    refine bodyPost_ret (results_row_tmp Tryd.results21 _ _ (w.heap.size + 1) 37 (#[.int .i64 0, .int .i64 0, .int .i64 0, .int .i64 0, .int .i64 0, .slice none 0 0, .slice none 0 0, .int .i64 0]) _ rfl (setRow_box bR _) Tryd.underlying37 rfl infoT) rfl ⟨.inl ⟨HO.out, rfl⟩, ?_⟩
    exact K9.out.1.trans (setRow_below (by omega) _)
  · have HO := Lib.hid ho
    clear ho
    refine (implTOk_val HO.out _ (HR.out _) (HQ.out _) (HF.out.stay K2.out.1)).mono ?_
    rintro e y9 ⟨rfl, hb⟩
    have K9 := Lib.hid (K2.out.stay hb)
    have bR := K9.out.box (b := w.heap.size + 1) (T := 37) (vs := #[.int .i64 0, .int .i64 0, .int .i64 0, .int .i64 0, .int .i64 0, .slice none 0 0, .slice none 0 0, .int .i64 0]) (by simp)
    clear hb c0 c1 c2 c3 c4 c5 c6 c7
    have c0 := K9.out.c (b := w.heap.size + 2) (T := 37) (vs := (newT kind sec vou tt).cs ⟨none, 0, 0⟩ ⟨none, 0, 0⟩) (by simp) 0 _ rfl
    have c1 := K9.out.c (b := w.heap.size + 2) (T := 37) (vs := (newT kind sec vou tt).cs ⟨none, 0, 0⟩ ⟨none, 0, 0⟩) (by simp) 1 _ rfl
    have c2 := K9.out.c (b := w.heap.size + 2) (T := 37) (vs := (newT kind sec vou tt).cs ⟨none, 0, 0⟩ ⟨none, 0, 0⟩) (by simp) 2 _ rfl
    have c3 := K9.out.c (b := w.heap.size + 2) (T := 37) (vs := (newT kind sec vou tt).cs ⟨none, 0, 0⟩ ⟨none, 0, 0⟩) (by simp) 3 _ rfl
    have c4 := K9.out.c (b := w.heap.size + 2) (T := 37) (vs := (newT kind sec vou tt).cs ⟨none, 0, 0⟩ ⟨none, 0, 0⟩) (by simp) 4 _ rfl
    have c5 := K9.out.c (b := w.heap.size + 2) (T := 37) (vs := (newT kind sec vou tt).cs ⟨none, 0, 0⟩ ⟨none, 0, 0⟩) (by simp) 5 _ rfl
    have c6 := K9.out.c (b := w.heap.size + 2) (T := 37) (vs := (newT kind sec vou tt).cs ⟨none, 0, 0⟩ ⟨none, 0, 0⟩) (by simp) 6 _ rfl
    have c7 := K9.out.c (b := w.heap.size + 2) (T := 37) (vs := (newT kind sec vou tt).cs ⟨none, 0, 0⟩ ⟨none, 0, 0⟩) (by simp) 7 _ rfl
    go_wp2_with (refine wpList_store_rowTo rfl 37 (.tmp 6) (.tmp 33) rfl rfl (w.heap.size + 1) ((newT kind sec vou tt).cs ⟨none, 0, 0⟩ ⟨none, 0, 0⟩) rfl rfl 37 #[.int .i64 0, .int .i64 0, .int .i64 0, .int .i64 0, .int .i64 0, .slice none 0 0, .slice none 0 0, .int .i64 0] bR infoT rfl (one8 (newT kind sec vou tt) ⟨none, 0, 0⟩ ⟨none, 0, 0⟩) ?_)
    refine bodyPost_ret (results_row_tmp Tryd.results21 _ _ (w.heap.size + 1) 37 ((newT kind sec vou tt).cs ⟨none, 0, 0⟩ ⟨none, 0, 0⟩) _ rfl (setRow_box bR _) Tryd.underlying37 rfl infoT) rfl ⟨.inr ⟨HO.out, ⟨none, 0, 0⟩, ⟨none, 0, 0⟩, rfl, by rw [HXS.out]; exact ⟨rfl, Nat.le_refl _, .inl rfl⟩, ⟨rfl, Nat.le_refl _, .inl rfl⟩, fun h => absurd (HKK.out.symm.trans h) (by decide), fun b o e => by simp at e⟩, ?_⟩
    exact K9.out.1.trans (setRow_below (by omega) _)

set_option maxRecDepth 100000 in
set_option maxHeartbeats 4000000 in
theorem implTNew_four (kind sec vou tt : Int) (w : World) (hf : KF w) (ho : inR kind 1 5 = true) (hk : hasS kind = true) :
    Calls Tryd.prog 21 #[.int .i64 kind, lab sec vou, .int .i64 tt] w (NewPost kind sec vou tt w) := by
  have HXS := Lib.hid (show (newT kind sec vou tt).slots = [⟨0, 0, false, false, false⟩, ⟨0, 0, false, false, false⟩, ⟨0, 0, false, false, false⟩, ⟨0, 0, false, false, false⟩] by simp [newT, hk])
  have HF := Lib.hid hf
  have HKK := Lib.hid hk
  have HK0 := Lib.hid (new_start kind sec vou tt w (newT kind sec vou tt))
  have HC := Lib.hid (fieldsOf_val kind ho _ (hf.stay HK0.out.1))
  have HH := Lib.hid ((slots_has ho).trans hk)
  generalize rowOf kind = r at *
  clear ho hk hf
  go_enter Tryd.func21, Tryd.ntmps21
  go_wp2_with fail
  refine HC.out.mono ?_
  rintro e y ⟨rfl, hb⟩
  have K1 := Lib.hid ((HK0.out.stay hb).new 84 r.cs)
  clear hb HC HK0
  have f7 := K1.out.c (b := y.heap.size) (T := 84) (vs := r.cs) (by simp) 7 _ rfl
  have f8 := K1.out.c (b := y.heap.size) (T := 84) (vs := r.cs) (by simp) 8 _ rfl
  go_wp2_with fail
  refine (has_val HH.out _).mono ?_
  rintro e y2 ⟨rfl, hb⟩
  have K2 := Lib.hid (K1.out.stay hb)
  clear hb K1 f7 f8
  have c0 := K2.out.c (b := w.heap.size + 2) (T := 37) (vs := (newT kind sec vou tt).cs ⟨none, 0, 0⟩ ⟨none, 0, 0⟩) (by simp) 0 _ rfl
  have c1 := K2.out.c (b := w.heap.size + 2) (T := 37) (vs := (newT kind sec vou tt).cs ⟨none, 0, 0⟩ ⟨none, 0, 0⟩) (by simp) 1 _ rfl
  have c2 := K2.out.c (b := w.heap.size + 2) (T := 37) (vs := (newT kind sec vou tt).cs ⟨none, 0, 0⟩ ⟨none, 0, 0⟩) (by simp) 2 _ rfl
  have c3 := K2.out.c (b := w.heap.size + 2) (T := 37) (vs := (newT kind sec vou tt).cs ⟨none, 0, 0⟩ ⟨none, 0, 0⟩) (by simp) 3 _ rfl
  have c4 := K2.out.c (b := w.heap.size + 2) (T := 37) (vs := (newT kind sec vou tt).cs ⟨none, 0, 0⟩ ⟨none, 0, 0⟩) (by simp) 4 _ rfl
  have c5 := K2.out.c (b := w.heap.size + 2) (T := 37) (vs := (newT kind sec vou tt).cs ⟨none, 0, 0⟩ ⟨none, 0, 0⟩) (by simp) 5 _ rfl
  have c6 := K2.out.c (b := w.heap.size + 2) (T := 37) (vs := (newT kind sec vou tt).cs ⟨none, 0, 0⟩ ⟨none, 0, 0⟩) (by simp) 6 _ rfl
  have c7 := K2.out.c (b := w.heap.size + 2) (T := 37) (vs := (newT kind sec vou tt).cs ⟨none, 0, 0⟩ ⟨none, 0, 0⟩) (by simp) 7 _ rfl
  have fz := K2.out.f (b := w.heap.size + 2) (T := 37) (vs := (newT kind sec vou tt).cs ⟨none, 0, 0⟩ ⟨none, 0, 0⟩) (by simp) 5
  go_wp2_with fail
  refine (list_any _).mono ?_
  rintro e y3 ⟨rfl, rfl⟩
  have HSZ := Lib.hid (show w.heap.size + 2 < y2.heap.size from (K2.out.box (b := w.heap.size + 2) (T := 37) (vs := (newT kind sec vou tt).cs ⟨none, 0, 0⟩ ⟨none, 0, 0⟩) (by simp)).lt)
  have K3 : Hid (Kn w [(w.heap.size + 1, 37, #[.int .i64 0, .int .i64 0, .int .i64 0, .int .i64 0, .int .i64 0, .slice none 0 0, .slice none 0 0, .int .i64 0]), (w.heap.size + 2, 37, (newT kind sec vou tt).cs ⟨some ⟨y2.heap.size, 0, none⟩, 4, 4⟩ ⟨none, 0, 0⟩), (y2.heap.size, 89, zr20)] ((y2.setCell ⟨w.heap.size + 2, 5, none⟩ (.slice (some ⟨y2.heap.size, 0, none⟩) 4 4)).alloc (.cells zr20 89))) := Lib.hid <| by
    have hz := HSZ.out
    have hn : (y2.setCell ⟨w.heap.size + 2, 5, none⟩ (.slice (some ⟨y2.heap.size, 0, none⟩) 4 4)).heap.size = y2.heap.size := by simp [World.setCell]
    have hb := K2.out.1.setCell (p := ⟨w.heap.size + 2, 5, none⟩) (by simp) (.slice (some ⟨y2.heap.size, 0, none⟩) 4 4)
    refine ⟨hb.alloc hb.size _, fun t ht => ?_⟩
    simp at ht
    rcases ht with rfl | rfl | rfl
    · exact ((K2.out.box (by simp)).other (by simp) _).past _
    · have := (K2.out.box (b := w.heap.size + 2) (T := 37) (vs := (newT kind sec vou tt).cs ⟨none, 0, 0⟩ ⟨none, 0, 0⟩) (by simp)).put 5 (.slice (some ⟨y2.heap.size, 0, none⟩) 4 4)
      exact Box.past (by simpa using this) _
    · have := Box.fresh (y2.setCell ⟨w.heap.size + 2, 5, none⟩ (.slice (some ⟨y2.heap.size, 0, none⟩) 4 4)) 89 zr20
      rw [hn] at this
      exact this
  have hlt5 := HSZ.out
  clear K2
  have HR := Lib.hid (show HasR _ ⟨some ⟨y2.heap.size, 0, none⟩, 4, 4⟩ (newT kind sec vou tt).slots by rw [HXS.out]; exact zero_four (K3.out.box (b := y2.heap.size) (T := 89) (vs := zr20) (by simp)))
  have HQ := Lib.hid (show HasQ ((y2.setCell ⟨w.heap.size + 2, 5, none⟩ (.slice (some ⟨y2.heap.size, 0, none⟩) 4 4)).alloc (.cells zr20 89)) ⟨none, 0, 0⟩ (newT kind sec vou tt).queue from ⟨rfl, Nat.le_refl _, .inl rfl⟩)
  go_wp2_with fail
  cases ho : okT (newT kind sec vou tt)
  · have HO := Lib.hid ho
    clear ho
    refine (implTOk_val HO.out _ HR.out HQ.out (HF.out.stay K3.out.1)).mono ?_
    rintro e y9 ⟨rfl, hb⟩
    have K9 := Lib.hid (K3.out.stay hb)
    have bR := K9.out.box (b := w.heap.size + 1) (T := 37) (vs := #[.int .i64 0, .int .i64 0, .int .i64 0, .int .i64 0, .int .i64 0, .slice none 0 0, .slice none 0 0, .int .i64 0]) (by simp)
    clear hb c0 c1 c2 c3 c4 c5 c6 c7
    have c0 := K9.out.c (b := w.heap.size + 2) (T := 37) (vs := (newT kind sec vou tt).cs ⟨some ⟨y2.heap.size, 0, none⟩, 4, 4⟩ ⟨none, 0, 0⟩) (by simp) 0 _ rfl
    have c1 := K9.out.c (b := w.heap.size + 2) (T := 37) (vs := (newT kind sec vou tt).cs ⟨some ⟨y2.heap.size, 0, none⟩, 4, 4⟩ ⟨none, 0, 0⟩) (by simp) 1 _ rfl
    have c2 := K9.out.c (b := w.heap.size + 2) (T := 37) (vs := (newT kind sec vou tt).cs ⟨some ⟨y2.heap.size, 0, none⟩, 4, 4⟩ ⟨none, 0, 0⟩) (by simp) 2 _ rfl
    have c3 := K9.out.c (b := w.heap.size + 2) (T := 37) (vs := (newT kind sec vou tt).cs ⟨some ⟨y2.heap.size, 0, none⟩, 4, 4⟩ ⟨none, 0, 0⟩) (by simp) 3 _ rfl
    have c4 := K9.out.c (b := w.heap.size + 2) (T := 37) (vs := (newT kind sec vou tt).cs ⟨some ⟨y2.heap.size, 0, none⟩, 4, 4⟩ ⟨none, 0, 0⟩) (by simp) 4 _ rfl
    have c5 := K9.out.c (b := w.heap.size + 2) (T := 37) (vs := (newT kind sec vou tt).cs ⟨some ⟨y2.heap.size, 0, none⟩, 4, 4⟩ ⟨none, 0, 0⟩) (by simp) 5 _ rfl
    have c6 := K9.out.c (b := w.heap.size + 2) (T := 37) (vs := (newT kind sec vou tt).cs ⟨some ⟨y2.heap.size, 0, none⟩, 4, 4⟩ ⟨none, 0, 0⟩) (by simp) 6 _ rfl
    have c7 := K9.out.c (b := w.heap.size + 2) (T := 37) (vs := (newT kind sec vou tt).cs ⟨some ⟨y2.heap.size, 0, none⟩, 4, 4⟩ ⟨none, 0, 0⟩) (by simp) 7 _ rfl
    go_wp2_with (refine wpList_store_rowTo rfl 37 (.tmp 6) (.tmp 32) rfl rfl (w.heap.size + 1) (#[.int .i64 0, .int .i64 0, .int .i64 0, .int .i64 0, .int .i64 0, .slice none 0 0, .slice none 0 0, .int .i64 0]) rfl rfl 37 #[.int .i64 0, .int .i64 0, .int .i64 0, .int .i64 0, .int .i64 0, .slice none 0 0, .slice none 0 0, .int .i64 0] bR infoT rfl (one8 zeroT ⟨none, 0, 0⟩ ⟨none, 0, 0⟩) ?_)
    refine bodyPost_ret (results_row_tmp Tryd.results21 _ _ (w.heap.size + 1) 37 (#[.int .i64 0, .int .i64 0, .int .i64 0, .int .i64 0, .int .i64 0, .slice none 0 0, .slice none 0 0, .int .i64 0]) _ rfl (setRow_box bR _) Tryd.underlying37 rfl infoT) rfl ⟨.inl ⟨HO.out, rfl⟩, ?_⟩
    exact K9.out.1.trans (setRow_below (by omega) _)
  · have HO := Lib.hid ho
    clear ho
    refine (implTOk_val HO.out _ HR.out HQ.out (HF.out.stay K3.out.1)).mono ?_
    rintro e y9 ⟨rfl, hb⟩
    have K9 := Lib.hid (K3.out.stay hb)
    have bR := K9.out.box (b := w.heap.size + 1) (T := 37) (vs := #[.int .i64 0, .int .i64 0, .int .i64 0, .int .i64 0, .int .i64 0, .slice none 0 0, .slice none 0 0, .int .i64 0]) (by simp)
    clear hb c0 c1 c2 c3 c4 c5 c6 c7
    have c0 := K9.out.c (b := w.heap.size + 2) (T := 37) (vs := (newT kind sec vou tt).cs ⟨some ⟨y2.heap.size, 0, none⟩, 4, 4⟩ ⟨none, 0, 0⟩) (by simp) 0 _ rfl
    have c1 := K9.out.c (b := w.heap.size + 2) (T := 37) (vs := (newT kind sec vou tt).cs ⟨some ⟨y2.heap.size, 0, none⟩, 4, 4⟩ ⟨none, 0, 0⟩) (by simp) 1 _ rfl
    have c2 := K9.out.c (b := w.heap.size + 2) (T := 37) (vs := (newT kind sec vou tt).cs ⟨some ⟨y2.heap.size, 0, none⟩, 4, 4⟩ ⟨none, 0, 0⟩) (by simp) 2 _ rfl
    have c3 := K9.out.c (b := w.heap.size + 2) (T := 37) (vs := (newT kind sec vou tt).cs ⟨some ⟨y2.heap.size, 0, none⟩, 4, 4⟩ ⟨none, 0, 0⟩) (by simp) 3 _ rfl
    have c4 := K9.out.c (b := w.heap.size + 2) (T := 37) (vs := (newT kind sec vou tt).cs ⟨some ⟨y2.heap.size, 0, none⟩, 4, 4⟩ ⟨none, 0, 0⟩) (by simp) 4 _ rfl
    have c5 := K9.out.c (b := w.heap.size + 2) (T := 37) (vs := (newT kind sec vou tt).cs ⟨some ⟨y2.heap.size, 0, none⟩, 4, 4⟩ ⟨none, 0, 0⟩) (by simp) 5 _ rfl
    have c6 := K9.out.c (b := w.heap.size + 2) (T := 37) (vs := (newT kind sec vou tt).cs ⟨some ⟨y2.heap.size, 0, none⟩, 4, 4⟩ ⟨none, 0, 0⟩) (by simp) 6 _ rfl
    have c7 := K9.out.c (b := w.heap.size + 2) (T := 37) (vs := (newT kind sec vou tt).cs ⟨some ⟨y2.heap.size, 0, none⟩, 4, 4⟩ ⟨none, 0, 0⟩) (by simp) 7 _ rfl
    go_wp2_with (refine wpList_store_rowTo rfl 37 (.tmp 6) (.tmp 33) rfl rfl (w.heap.size + 1) ((newT kind sec vou tt).cs ⟨some ⟨y2.heap.size, 0, none⟩, 4, 4⟩ ⟨none, 0, 0⟩) rfl rfl 37 #[.int .i64 0, .int .i64 0, .int .i64 0, .int .i64 0, .int .i64 0, .slice none 0 0, .slice none 0 0, .int .i64 0] bR infoT rfl (one8 (newT kind sec vou tt) ⟨some ⟨y2.heap.size, 0, none⟩, 4, 4⟩ ⟨none, 0, 0⟩) ?_)
    have bS := setRow_other (g := w.heap.size + 1) (vs := (newT kind sec vou tt).cs ⟨some ⟨y2.heap.size, 0, none⟩, 4, 4⟩ ⟨none, 0, 0⟩) (K9.out.box (b := y2.heap.size) (T := 89) (vs := zr20) (by simp)) (by have := HSZ.out; omega)
    refine bodyPost_ret (results_row_tmp Tryd.results21 _ _ (w.heap.size + 1) 37 ((newT kind sec vou tt).cs ⟨some ⟨y2.heap.size, 0, none⟩, 4, 4⟩ ⟨none, 0, 0⟩) _ rfl (setRow_box bR _) Tryd.underlying37 rfl infoT) rfl ⟨.inr ⟨HO.out, ⟨some ⟨y2.heap.size, 0, none⟩, 4, 4⟩, ⟨none, 0, 0⟩, rfl, by rw [HXS.out]; exact zero_four bS, ⟨rfl, Nat.le_refl _, .inl rfl⟩, fun _ => ⟨y2.heap.size, 89, .inr rfl, by have := HSZ.out; omega, rfl, bS⟩, fun b o e => by simp at e⟩, ?_⟩
    exact K9.out.1.trans (setRow_below (by omega) _)

theorem implTNew_any (kind sec vou tt : Int) (w : World) (hf : KF w) :
    Calls Tryd.prog 21 #[.int .i64 kind, lab sec vou, .int .i64 tt] w (NewPost kind sec vou tt w) := by
  cases ho : inR kind 1 5
  · refine implTNew_out kind sec vou tt w hf ho ?_
    cases hk : hasS kind
    · rfl
    · have : kind = 2 ∨ kind = 3 := by simpa [hasS] using hk
      rcases this with rfl | rfl <;> simp [inR] at ho
  · cases hk : hasS kind
    · exact implTNew_bare kind sec vou tt w hf ho hk
    · exact implTNew_four kind sec vou tt w hf ho hk
end Go.Proofs.YtpahahonopiblaaDoor
