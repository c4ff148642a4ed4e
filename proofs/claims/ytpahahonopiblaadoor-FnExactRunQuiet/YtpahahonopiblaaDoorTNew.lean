/-
  The model's ThingNew.
-/
import Derived.Test.YtpahahonopiblaaDoorTOk
import Derived.Test.YtpahahonopiblaaDoorCpD
namespace Go.Proofs.YtpahahonopiblaaDoor
open Go.RowKit
set_option linter.unusedVariables false

/-- A new thing. -/
def newT (kind sec vou tt : Int) : T8 := ⟨kind, sec, vou, 0, 0, if hasS kind then [⟨0, 0, false, false, false⟩, ⟨0, 0, false, false, false⟩, ⟨0, 0, false, false, false⟩, ⟨0, 0, false, false, false⟩] else [], [], tt⟩
def zeroT : T8 := ⟨0, 0, 0, 0, 0, [], [], 0⟩
/-- Four rights to nothing. -/
abbrev zr20 : Array Value := #[.int .i64 0, .int .i64 0, .bool false, .bool false, .bool false, .int .i64 0, .int .i64 0, .bool false, .bool false, .bool false, .int .i64 0, .int .i64 0, .bool false, .bool false, .bool false, .int .i64 0, .int .i64 0, .bool false, .bool false, .bool false]
/-- What ThingNew leaves: nothing, and it says so; or a new thing that owns what it holds. -/
def NewPost (kind sec vou tt : Int) (w : World) (e : Ending) (w' : World) : Prop :=
  ((okT (newT kind sec vou tt) = false ∧ e = .returned (.tuple #[zeroT.val ⟨none, 0, 0⟩ ⟨none, 0, 0⟩, .bool false])) ∨
    okT (newT kind sec vou tt) = true ∧ ∃ s q : Sl, e = .returned (.tuple #[(newT kind sec vou tt).val s q, .bool true]) ∧ HasR w' s (newT kind sec vou tt).slots ∧ HasQ w' q (newT kind sec vou tt).queue ∧
      (hasS kind = true → ∃ (b : Nat) (TY : TypeId), (TY = 44 ∨ TY = 89) ∧ w.heap.size ≤ b ∧ s = ⟨some ⟨b, 0, none⟩, 4, 4⟩ ∧ Box w' b TY zr20) ∧ (∀ b o, q.a = some ⟨b, o, none⟩ → w.heap.size ≤ b)) ∧ Below w.heap.size w w'
theorem make4 (w : World) : (Instr.makeSlice 34 (.int .i64 4) (.int .i64 4)).run Tryd.prog w = .ok (.slice (some ⟨w.heap.size, 0, none⟩) 4 4) (w.alloc (.cells zr20 44)) := by
  have h := make_row (P := Tryd.prog) 34 44 (rgt 0 0 false false false) 5 24 Tryd.underlying34 (by kernel_rfl) 4 (by decide) (by decide) w
  have e : madeCells (rgt 0 0 false false false).cells (4 * 5) = zr20 := by kernel_rfl
  rw [e] at h
  exact h

/-- What a new thing owns, and where. -/
theorem new_with (kind sec vou tt : Int) (w : World) : Kn w [(w.heap.size + 1, 37, #[.int .i64 0, .int .i64 0, .int .i64 0, .int .i64 0, .int .i64 0, .slice none 0 0, .slice none 0 0, .int .i64 0]), (w.heap.size + 4, 37, (newT kind sec vou tt).cs ⟨some ⟨w.heap.size + 5, 0, none⟩, 4, 4⟩ ⟨some ⟨w.heap.size + 3, 0, none⟩, 0, 0⟩), (w.heap.size + 5, 44, zr20)] ((((((w.alloc (.cells #[.int .i64 sec, .int .i64 vou] 33)).alloc (.cells #[.int .i64 0, .int .i64 0, .int .i64 0, .int .i64 0, .int .i64 0, .slice none 0 0, .slice none 0 0, .int .i64 0] 37)).alloc (.cells #[] 44)).alloc (.cells #[] 3)).alloc (.cells ((newT kind sec vou tt).cs ⟨some ⟨w.heap.size + 5, 0, none⟩, 4, 4⟩ ⟨some ⟨w.heap.size + 3, 0, none⟩, 0, 0⟩) 37)).alloc (.cells zr20 44)) := by
  have h1 : (w.alloc (.cells #[.int .i64 sec, .int .i64 vou] 33)).heap.size = w.heap.size + 1 := by simp
  have h4 : ((((w.alloc (.cells #[.int .i64 sec, .int .i64 vou] 33)).alloc (.cells #[.int .i64 0, .int .i64 0, .int .i64 0, .int .i64 0, .int .i64 0, .slice none 0 0, .slice none 0 0, .int .i64 0] 37)).alloc (.cells #[] 44)).alloc (.cells #[] 3)).heap.size = w.heap.size + 4 := by simp
  have h5 : (((((w.alloc (.cells #[.int .i64 sec, .int .i64 vou] 33)).alloc (.cells #[.int .i64 0, .int .i64 0, .int .i64 0, .int .i64 0, .int .i64 0, .slice none 0 0, .slice none 0 0, .int .i64 0] 37)).alloc (.cells #[] 44)).alloc (.cells #[] 3)).alloc (.cells ((newT kind sec vou tt).cs ⟨some ⟨w.heap.size + 5, 0, none⟩, 4, 4⟩ ⟨some ⟨w.heap.size + 3, 0, none⟩, 0, 0⟩) 37)).heap.size = w.heap.size + 5 := by simp
  have k := (((((Kn.refl (w := w)).past (.cells #[.int .i64 sec, .int .i64 vou] 33)).new 37 #[.int .i64 0, .int .i64 0, .int .i64 0, .int .i64 0, .int .i64 0, .slice none 0 0, .slice none 0 0, .int .i64 0]).past (.cells #[] 44)).past (.cells #[] 3)).new 37 ((newT kind sec vou tt).cs ⟨some ⟨w.heap.size + 5, 0, none⟩, 4, 4⟩ ⟨some ⟨w.heap.size + 3, 0, none⟩, 0, 0⟩)
  rw [h1, h4] at k
  have k2 := k.new 44 zr20
  rw [h5] at k2
  exact k2.less (by simp)

/-- What a new thing owns, and where. -/
theorem new_bare (kind sec vou tt : Int) (w : World) : Kn w [(w.heap.size + 1, 37, #[.int .i64 0, .int .i64 0, .int .i64 0, .int .i64 0, .int .i64 0, .slice none 0 0, .slice none 0 0, .int .i64 0]), (w.heap.size + 4, 37, (newT kind sec vou tt).cs ⟨some ⟨w.heap.size + 2, 0, none⟩, 0, 0⟩ ⟨some ⟨w.heap.size + 3, 0, none⟩, 0, 0⟩)] (((((w.alloc (.cells #[.int .i64 sec, .int .i64 vou] 33)).alloc (.cells #[.int .i64 0, .int .i64 0, .int .i64 0, .int .i64 0, .int .i64 0, .slice none 0 0, .slice none 0 0, .int .i64 0] 37)).alloc (.cells #[] 44)).alloc (.cells #[] 3)).alloc (.cells ((newT kind sec vou tt).cs ⟨some ⟨w.heap.size + 2, 0, none⟩, 0, 0⟩ ⟨some ⟨w.heap.size + 3, 0, none⟩, 0, 0⟩) 37)) := by
  have h1 : (w.alloc (.cells #[.int .i64 sec, .int .i64 vou] 33)).heap.size = w.heap.size + 1 := by simp
  have h4 : ((((w.alloc (.cells #[.int .i64 sec, .int .i64 vou] 33)).alloc (.cells #[.int .i64 0, .int .i64 0, .int .i64 0, .int .i64 0, .int .i64 0, .slice none 0 0, .slice none 0 0, .int .i64 0] 37)).alloc (.cells #[] 44)).alloc (.cells #[] 3)).heap.size = w.heap.size + 4 := by simp
  have h5 : (((((w.alloc (.cells #[.int .i64 sec, .int .i64 vou] 33)).alloc (.cells #[.int .i64 0, .int .i64 0, .int .i64 0, .int .i64 0, .int .i64 0, .slice none 0 0, .slice none 0 0, .int .i64 0] 37)).alloc (.cells #[] 44)).alloc (.cells #[] 3)).alloc (.cells ((newT kind sec vou tt).cs ⟨some ⟨w.heap.size + 2, 0, none⟩, 0, 0⟩ ⟨some ⟨w.heap.size + 3, 0, none⟩, 0, 0⟩) 37)).heap.size = w.heap.size + 5 := by simp
  have k := (((((Kn.refl (w := w)).past (.cells #[.int .i64 sec, .int .i64 vou] 33)).new 37 #[.int .i64 0, .int .i64 0, .int .i64 0, .int .i64 0, .int .i64 0, .slice none 0 0, .slice none 0 0, .int .i64 0]).past (.cells #[] 44)).past (.cells #[] 3)).new 37 ((newT kind sec vou tt).cs ⟨some ⟨w.heap.size + 2, 0, none⟩, 0, 0⟩ ⟨some ⟨w.heap.size + 3, 0, none⟩, 0, 0⟩)
  rw [h1, h4] at k
  exact k.less (by simp)

set_option maxRecDepth 100000 in
set_option maxHeartbeats 2000000 in
theorem specTNew_with (kind sec vou tt : Int) (w : World) (hk : hasS kind = true) :
    Calls Tryd.prog 117 #[.int .i64 kind, lab sec vou, .int .i64 tt] w (NewPost kind sec vou tt w) := by
  have hmk := make4
  have K0 := new_with kind sec vou tt w
  have hs : HasR ((((((w.alloc (.cells #[.int .i64 sec, .int .i64 vou] 33)).alloc (.cells #[.int .i64 0, .int .i64 0, .int .i64 0, .int .i64 0, .int .i64 0, .slice none 0 0, .slice none 0 0, .int .i64 0] 37)).alloc (.cells #[] 44)).alloc (.cells #[] 3)).alloc (.cells ((newT kind sec vou tt).cs ⟨some ⟨w.heap.size + 5, 0, none⟩, 4, 4⟩ ⟨some ⟨w.heap.size + 3, 0, none⟩, 0, 0⟩) 37)).alloc (.cells zr20 44)) ⟨some ⟨w.heap.size + 5, 0, none⟩, 4, 4⟩ (newT kind sec vou tt).slots := by
    show HasR _ _ (if hasS kind then _ else _)
    rw [hk]
    have bx := K0.box (b := w.heap.size + 5) (T := 44) (vs := zr20) (by simp)
    refine ⟨rfl, Nat.le_refl _, .inr ⟨_, _, rfl, fun i x hx j v hv => ?_⟩⟩
    match i, hx with
    | 0, hx => simp at hx; subst hx; match j, hv with
      | 0, hv => exact bx.cell _ _ hv
      | 1, hv => exact bx.cell _ _ hv
      | 2, hv => exact bx.cell _ _ hv
      | 3, hv => exact bx.cell _ _ hv
      | 4, hv => exact bx.cell _ _ hv
      | j + 5, hv => simp at hv
    | 1, hx => simp at hx; subst hx; match j, hv with
      | 0, hv => exact bx.cell _ _ hv
      | 1, hv => exact bx.cell _ _ hv
      | 2, hv => exact bx.cell _ _ hv
      | 3, hv => exact bx.cell _ _ hv
      | 4, hv => exact bx.cell _ _ hv
      | j + 5, hv => simp at hv
    | 2, hx => simp at hx; subst hx; match j, hv with
      | 0, hv => exact bx.cell _ _ hv
      | 1, hv => exact bx.cell _ _ hv
      | 2, hv => exact bx.cell _ _ hv
      | 3, hv => exact bx.cell _ _ hv
      | 4, hv => exact bx.cell _ _ hv
      | j + 5, hv => simp at hv
    | 3, hx => simp at hx; subst hx; match j, hv with
      | 0, hv => exact bx.cell _ _ hv
      | 1, hv => exact bx.cell _ _ hv
      | 2, hv => exact bx.cell _ _ hv
      | 3, hv => exact bx.cell _ _ hv
      | 4, hv => exact bx.cell _ _ hv
      | j + 5, hv => simp at hv
    | i + 4, hx => simp at hx
  have hq : HasQ ((((((w.alloc (.cells #[.int .i64 sec, .int .i64 vou] 33)).alloc (.cells #[.int .i64 0, .int .i64 0, .int .i64 0, .int .i64 0, .int .i64 0, .slice none 0 0, .slice none 0 0, .int .i64 0] 37)).alloc (.cells #[] 44)).alloc (.cells #[] 3)).alloc (.cells ((newT kind sec vou tt).cs ⟨some ⟨w.heap.size + 5, 0, none⟩, 4, 4⟩ ⟨some ⟨w.heap.size + 3, 0, none⟩, 0, 0⟩) 37)).alloc (.cells zr20 44)) ⟨some ⟨w.heap.size + 3, 0, none⟩, 0, 0⟩ (newT kind sec vou tt).queue := ⟨rfl, Nat.le_refl _, .inl rfl⟩
  have hz : (newT kind sec vou tt).slots.length ≤ 1048576 := by rw [← hs.len]; show (4 : Nat) ≤ 1048576; decide
  have HK := Lib.hid hk
  have HK0 := Lib.hid K0
  have HC := Lib.hid (specTOk_any (newT kind sec vou tt) ⟨some ⟨w.heap.size + 5, 0, none⟩, 4, 4⟩ ⟨some ⟨w.heap.size + 3, 0, none⟩, 0, 0⟩ _ hs hq hz)
  have HS := Lib.hid hs
  have HQ := Lib.hid hq
  clear hk K0 hs hq hz
  go_enter Tryd.func117, Tryd.ntmps117
  go_wp2_with fail
  refine (l3Slots_val HK.out _).mono ?_
  rintro e y ⟨rfl, rfl⟩
  go_wp2_with fail
  refine HC.out.mono ?_
  rintro e y1 ⟨rfl, hb⟩
  have HK1 := Lib.hid (HK0.out.stay hb)
  have HS1 := Lib.hid (HS.out.stay hb)
  have HQ1 := Lib.hid (HQ.out.stay hb)
  clear hb HC hmk
  have c0 := HK1.out.c (b := w.heap.size + 1) (T := 37) (vs := #[.int .i64 0, .int .i64 0, .int .i64 0, .int .i64 0, .int .i64 0, .slice none 0 0, .slice none 0 0, .int .i64 0]) (by simp) 0 _ rfl
  have cf0 := HK1.out.f (b := w.heap.size + 1) (T := 37) (vs := #[.int .i64 0, .int .i64 0, .int .i64 0, .int .i64 0, .int .i64 0, .slice none 0 0, .slice none 0 0, .int .i64 0]) (by simp) 0
  have c1 := HK1.out.c (b := w.heap.size + 1) (T := 37) (vs := #[.int .i64 0, .int .i64 0, .int .i64 0, .int .i64 0, .int .i64 0, .slice none 0 0, .slice none 0 0, .int .i64 0]) (by simp) 1 _ rfl
  have cf1 := HK1.out.f (b := w.heap.size + 1) (T := 37) (vs := #[.int .i64 0, .int .i64 0, .int .i64 0, .int .i64 0, .int .i64 0, .slice none 0 0, .slice none 0 0, .int .i64 0]) (by simp) 1
  have c2 := HK1.out.c (b := w.heap.size + 1) (T := 37) (vs := #[.int .i64 0, .int .i64 0, .int .i64 0, .int .i64 0, .int .i64 0, .slice none 0 0, .slice none 0 0, .int .i64 0]) (by simp) 2 _ rfl
  have cf2 := HK1.out.f (b := w.heap.size + 1) (T := 37) (vs := #[.int .i64 0, .int .i64 0, .int .i64 0, .int .i64 0, .int .i64 0, .slice none 0 0, .slice none 0 0, .int .i64 0]) (by simp) 2
  have c3 := HK1.out.c (b := w.heap.size + 1) (T := 37) (vs := #[.int .i64 0, .int .i64 0, .int .i64 0, .int .i64 0, .int .i64 0, .slice none 0 0, .slice none 0 0, .int .i64 0]) (by simp) 3 _ rfl
  have cf3 := HK1.out.f (b := w.heap.size + 1) (T := 37) (vs := #[.int .i64 0, .int .i64 0, .int .i64 0, .int .i64 0, .int .i64 0, .slice none 0 0, .slice none 0 0, .int .i64 0]) (by simp) 3
  have c4 := HK1.out.c (b := w.heap.size + 1) (T := 37) (vs := #[.int .i64 0, .int .i64 0, .int .i64 0, .int .i64 0, .int .i64 0, .slice none 0 0, .slice none 0 0, .int .i64 0]) (by simp) 4 _ rfl
  have cf4 := HK1.out.f (b := w.heap.size + 1) (T := 37) (vs := #[.int .i64 0, .int .i64 0, .int .i64 0, .int .i64 0, .int .i64 0, .slice none 0 0, .slice none 0 0, .int .i64 0]) (by simp) 4
  have c5 := HK1.out.c (b := w.heap.size + 1) (T := 37) (vs := #[.int .i64 0, .int .i64 0, .int .i64 0, .int .i64 0, .int .i64 0, .slice none 0 0, .slice none 0 0, .int .i64 0]) (by simp) 5 _ rfl
  have cf5 := HK1.out.f (b := w.heap.size + 1) (T := 37) (vs := #[.int .i64 0, .int .i64 0, .int .i64 0, .int .i64 0, .int .i64 0, .slice none 0 0, .slice none 0 0, .int .i64 0]) (by simp) 5
  have c6 := HK1.out.c (b := w.heap.size + 1) (T := 37) (vs := #[.int .i64 0, .int .i64 0, .int .i64 0, .int .i64 0, .int .i64 0, .slice none 0 0, .slice none 0 0, .int .i64 0]) (by simp) 6 _ rfl
  have cf6 := HK1.out.f (b := w.heap.size + 1) (T := 37) (vs := #[.int .i64 0, .int .i64 0, .int .i64 0, .int .i64 0, .int .i64 0, .slice none 0 0, .slice none 0 0, .int .i64 0]) (by simp) 6
  have c7 := HK1.out.c (b := w.heap.size + 1) (T := 37) (vs := #[.int .i64 0, .int .i64 0, .int .i64 0, .int .i64 0, .int .i64 0, .slice none 0 0, .slice none 0 0, .int .i64 0]) (by simp) 7 _ rfl
  have cf7 := HK1.out.f (b := w.heap.size + 1) (T := 37) (vs := #[.int .i64 0, .int .i64 0, .int .i64 0, .int .i64 0, .int .i64 0, .slice none 0 0, .slice none 0 0, .int .i64 0]) (by simp) 7
  have d0 := HK1.out.c (b := w.heap.size + 4) (T := 37) (vs := (newT kind sec vou tt).cs ⟨some ⟨w.heap.size + 5, 0, none⟩, 4, 4⟩ ⟨some ⟨w.heap.size + 3, 0, none⟩, 0, 0⟩) (by simp) 0 _ rfl
  have d1 := HK1.out.c (b := w.heap.size + 4) (T := 37) (vs := (newT kind sec vou tt).cs ⟨some ⟨w.heap.size + 5, 0, none⟩, 4, 4⟩ ⟨some ⟨w.heap.size + 3, 0, none⟩, 0, 0⟩) (by simp) 1 _ rfl
  have d2 := HK1.out.c (b := w.heap.size + 4) (T := 37) (vs := (newT kind sec vou tt).cs ⟨some ⟨w.heap.size + 5, 0, none⟩, 4, 4⟩ ⟨some ⟨w.heap.size + 3, 0, none⟩, 0, 0⟩) (by simp) 2 _ rfl
  have d3 := HK1.out.c (b := w.heap.size + 4) (T := 37) (vs := (newT kind sec vou tt).cs ⟨some ⟨w.heap.size + 5, 0, none⟩, 4, 4⟩ ⟨some ⟨w.heap.size + 3, 0, none⟩, 0, 0⟩) (by simp) 3 _ rfl
  have d4 := HK1.out.c (b := w.heap.size + 4) (T := 37) (vs := (newT kind sec vou tt).cs ⟨some ⟨w.heap.size + 5, 0, none⟩, 4, 4⟩ ⟨some ⟨w.heap.size + 3, 0, none⟩, 0, 0⟩) (by simp) 4 _ rfl
  have d5 := HK1.out.c (b := w.heap.size + 4) (T := 37) (vs := (newT kind sec vou tt).cs ⟨some ⟨w.heap.size + 5, 0, none⟩, 4, 4⟩ ⟨some ⟨w.heap.size + 3, 0, none⟩, 0, 0⟩) (by simp) 5 _ rfl
  have d6 := HK1.out.c (b := w.heap.size + 4) (T := 37) (vs := (newT kind sec vou tt).cs ⟨some ⟨w.heap.size + 5, 0, none⟩, 4, 4⟩ ⟨some ⟨w.heap.size + 3, 0, none⟩, 0, 0⟩) (by simp) 6 _ rfl
  have d7 := HK1.out.c (b := w.heap.size + 4) (T := 37) (vs := (newT kind sec vou tt).cs ⟨some ⟨w.heap.size + 5, 0, none⟩, 4, 4⟩ ⟨some ⟨w.heap.size + 3, 0, none⟩, 0, 0⟩) (by simp) 7 _ rfl
  cases ho : okT (newT kind sec vou tt)
  · have HO := Lib.hid ho
    clear ho
    go_wp2
    refine bodyPost_ret (v := .tuple #[zeroT.val ⟨none, 0, 0⟩ ⟨none, 0, 0⟩, .bool false]) (by simp [results, Tryd.results117, go_sem, zeroT, *]) rfl ?_
    refine ⟨.inl ⟨HO.out, rfl⟩, ?_⟩
    iterate 8 (with_reducible refine Below.setCell ?_ (by dsimp only; omega) _)
    exact HK1.out.1
  · have HO := Lib.hid ho
    clear ho
    go_wp2
    refine bodyPost_ret (v := .tuple #[(newT kind sec vou tt).val ⟨some ⟨w.heap.size + 5, 0, none⟩, 4, 4⟩ ⟨some ⟨w.heap.size + 3, 0, none⟩, 0, 0⟩, .bool true]) (by simp [results, Tryd.results117, go_sem, *]) rfl ⟨.inr ⟨HO.out, ⟨some ⟨w.heap.size + 5, 0, none⟩, 4, 4⟩, ⟨some ⟨w.heap.size + 3, 0, none⟩, 0, 0⟩, rfl, ?_, ?_, fun _ => ⟨w.heap.size + 5, 44, .inl rfl, by omega, rfl, ?_⟩, fun b o e => by simp at e; omega⟩, ?_⟩
    · iterate 8 (with_reducible refine HasR.other ?_ (fun b o e => by simp at e; dsimp only; omega) _)
      exact HS1.out
    · iterate 8 (with_reducible refine HasQ.other ?_ (fun b o e => by simp at e; dsimp only; omega) _)
      exact HQ1.out
    · iterate 8 (with_reducible refine Box.other ?_ (by dsimp only; omega) _)
      exact HK1.out.box (by simp)
    · iterate 8 (with_reducible refine Below.setCell ?_ (by dsimp only; omega) _)
      exact HK1.out.1

set_option maxRecDepth 100000 in
set_option maxHeartbeats 2000000 in
theorem specTNew_bare (kind sec vou tt : Int) (w : World) (hk : hasS kind = false) :
    Calls Tryd.prog 117 #[.int .i64 kind, lab sec vou, .int .i64 tt] w (NewPost kind sec vou tt w) := by
  have hmk := make4
  have K0 := new_bare kind sec vou tt w
  have hs : HasR (((((w.alloc (.cells #[.int .i64 sec, .int .i64 vou] 33)).alloc (.cells #[.int .i64 0, .int .i64 0, .int .i64 0, .int .i64 0, .int .i64 0, .slice none 0 0, .slice none 0 0, .int .i64 0] 37)).alloc (.cells #[] 44)).alloc (.cells #[] 3)).alloc (.cells ((newT kind sec vou tt).cs ⟨some ⟨w.heap.size + 2, 0, none⟩, 0, 0⟩ ⟨some ⟨w.heap.size + 3, 0, none⟩, 0, 0⟩) 37)) ⟨some ⟨w.heap.size + 2, 0, none⟩, 0, 0⟩ (newT kind sec vou tt).slots := by
    show HasR _ _ (if hasS kind then _ else _)
    rw [hk]
    exact ⟨rfl, Nat.le_refl _, .inl rfl⟩
  have hq : HasQ (((((w.alloc (.cells #[.int .i64 sec, .int .i64 vou] 33)).alloc (.cells #[.int .i64 0, .int .i64 0, .int .i64 0, .int .i64 0, .int .i64 0, .slice none 0 0, .slice none 0 0, .int .i64 0] 37)).alloc (.cells #[] 44)).alloc (.cells #[] 3)).alloc (.cells ((newT kind sec vou tt).cs ⟨some ⟨w.heap.size + 2, 0, none⟩, 0, 0⟩ ⟨some ⟨w.heap.size + 3, 0, none⟩, 0, 0⟩) 37)) ⟨some ⟨w.heap.size + 3, 0, none⟩, 0, 0⟩ (newT kind sec vou tt).queue := ⟨rfl, Nat.le_refl _, .inl rfl⟩
  have hz : (newT kind sec vou tt).slots.length ≤ 1048576 := by rw [← hs.len]; show (0 : Nat) ≤ 1048576; decide
  have HK := Lib.hid hk
  have HK0 := Lib.hid K0
  have HC := Lib.hid (specTOk_any (newT kind sec vou tt) ⟨some ⟨w.heap.size + 2, 0, none⟩, 0, 0⟩ ⟨some ⟨w.heap.size + 3, 0, none⟩, 0, 0⟩ _ hs hq hz)
  have HS := Lib.hid hs
  have HQ := Lib.hid hq
  clear hk K0 hs hq hz
  go_enter Tryd.func117, Tryd.ntmps117
  go_wp2_with fail
  refine (l3Slots_val HK.out _).mono ?_
  rintro e y ⟨rfl, rfl⟩
  go_wp2_with fail
  refine HC.out.mono ?_
  rintro e y1 ⟨rfl, hb⟩
  have HK1 := Lib.hid (HK0.out.stay hb)
  have HS1 := Lib.hid (HS.out.stay hb)
  have HQ1 := Lib.hid (HQ.out.stay hb)
  clear hb HC hmk
  have c0 := HK1.out.c (b := w.heap.size + 1) (T := 37) (vs := #[.int .i64 0, .int .i64 0, .int .i64 0, .int .i64 0, .int .i64 0, .slice none 0 0, .slice none 0 0, .int .i64 0]) (by simp) 0 _ rfl
  have cf0 := HK1.out.f (b := w.heap.size + 1) (T := 37) (vs := #[.int .i64 0, .int .i64 0, .int .i64 0, .int .i64 0, .int .i64 0, .slice none 0 0, .slice none 0 0, .int .i64 0]) (by simp) 0
  have c1 := HK1.out.c (b := w.heap.size + 1) (T := 37) (vs := #[.int .i64 0, .int .i64 0, .int .i64 0, .int .i64 0, .int .i64 0, .slice none 0 0, .slice none 0 0, .int .i64 0]) (by simp) 1 _ rfl
  have cf1 := HK1.out.f (b := w.heap.size + 1) (T := 37) (vs := #[.int .i64 0, .int .i64 0, .int .i64 0, .int .i64 0, .int .i64 0, .slice none 0 0, .slice none 0 0, .int .i64 0]) (by simp) 1
  have c2 := HK1.out.c (b := w.heap.size + 1) (T := 37) (vs := #[.int .i64 0, .int .i64 0, .int .i64 0, .int .i64 0, .int .i64 0, .slice none 0 0, .slice none 0 0, .int .i64 0]) (by simp) 2 _ rfl
  have cf2 := HK1.out.f (b := w.heap.size + 1) (T := 37) (vs := #[.int .i64 0, .int .i64 0, .int .i64 0, .int .i64 0, .int .i64 0, .slice none 0 0, .slice none 0 0, .int .i64 0]) (by simp) 2
  have c3 := HK1.out.c (b := w.heap.size + 1) (T := 37) (vs := #[.int .i64 0, .int .i64 0, .int .i64 0, .int .i64 0, .int .i64 0, .slice none 0 0, .slice none 0 0, .int .i64 0]) (by simp) 3 _ rfl
  have cf3 := HK1.out.f (b := w.heap.size + 1) (T := 37) (vs := #[.int .i64 0, .int .i64 0, .int .i64 0, .int .i64 0, .int .i64 0, .slice none 0 0, .slice none 0 0, .int .i64 0]) (by simp) 3
  have c4 := HK1.out.c (b := w.heap.size + 1) (T := 37) (vs := #[.int .i64 0, .int .i64 0, .int .i64 0, .int .i64 0, .int .i64 0, .slice none 0 0, .slice none 0 0, .int .i64 0]) (by simp) 4 _ rfl
  have cf4 := HK1.out.f (b := w.heap.size + 1) (T := 37) (vs := #[.int .i64 0, .int .i64 0, .int .i64 0, .int .i64 0, .int .i64 0, .slice none 0 0, .slice none 0 0, .int .i64 0]) (by simp) 4
  have c5 := HK1.out.c (b := w.heap.size + 1) (T := 37) (vs := #[.int .i64 0, .int .i64 0, .int .i64 0, .int .i64 0, .int .i64 0, .slice none 0 0, .slice none 0 0, .int .i64 0]) (by simp) 5 _ rfl
  have cf5 := HK1.out.f (b := w.heap.size + 1) (T := 37) (vs := #[.int .i64 0, .int .i64 0, .int .i64 0, .int .i64 0, .int .i64 0, .slice none 0 0, .slice none 0 0, .int .i64 0]) (by simp) 5
  have c6 := HK1.out.c (b := w.heap.size + 1) (T := 37) (vs := #[.int .i64 0, .int .i64 0, .int .i64 0, .int .i64 0, .int .i64 0, .slice none 0 0, .slice none 0 0, .int .i64 0]) (by simp) 6 _ rfl
  have cf6 := HK1.out.f (b := w.heap.size + 1) (T := 37) (vs := #[.int .i64 0, .int .i64 0, .int .i64 0, .int .i64 0, .int .i64 0, .slice none 0 0, .slice none 0 0, .int .i64 0]) (by simp) 6
  have c7 := HK1.out.c (b := w.heap.size + 1) (T := 37) (vs := #[.int .i64 0, .int .i64 0, .int .i64 0, .int .i64 0, .int .i64 0, .slice none 0 0, .slice none 0 0, .int .i64 0]) (by simp) 7 _ rfl
  have cf7 := HK1.out.f (b := w.heap.size + 1) (T := 37) (vs := #[.int .i64 0, .int .i64 0, .int .i64 0, .int .i64 0, .int .i64 0, .slice none 0 0, .slice none 0 0, .int .i64 0]) (by simp) 7
  have d0 := HK1.out.c (b := w.heap.size + 4) (T := 37) (vs := (newT kind sec vou tt).cs ⟨some ⟨w.heap.size + 2, 0, none⟩, 0, 0⟩ ⟨some ⟨w.heap.size + 3, 0, none⟩, 0, 0⟩) (by simp) 0 _ rfl
  have d1 := HK1.out.c (b := w.heap.size + 4) (T := 37) (vs := (newT kind sec vou tt).cs ⟨some ⟨w.heap.size + 2, 0, none⟩, 0, 0⟩ ⟨some ⟨w.heap.size + 3, 0, none⟩, 0, 0⟩) (by simp) 1 _ rfl
  have d2 := HK1.out.c (b := w.heap.size + 4) (T := 37) (vs := (newT kind sec vou tt).cs ⟨some ⟨w.heap.size + 2, 0, none⟩, 0, 0⟩ ⟨some ⟨w.heap.size + 3, 0, none⟩, 0, 0⟩) (by simp) 2 _ rfl
  have d3 := HK1.out.c (b := w.heap.size + 4) (T := 37) (vs := (newT kind sec vou tt).cs ⟨some ⟨w.heap.size + 2, 0, none⟩, 0, 0⟩ ⟨some ⟨w.heap.size + 3, 0, none⟩, 0, 0⟩) (by simp) 3 _ rfl
  have d4 := HK1.out.c (b := w.heap.size + 4) (T := 37) (vs := (newT kind sec vou tt).cs ⟨some ⟨w.heap.size + 2, 0, none⟩, 0, 0⟩ ⟨some ⟨w.heap.size + 3, 0, none⟩, 0, 0⟩) (by simp) 4 _ rfl
  have d5 := HK1.out.c (b := w.heap.size + 4) (T := 37) (vs := (newT kind sec vou tt).cs ⟨some ⟨w.heap.size + 2, 0, none⟩, 0, 0⟩ ⟨some ⟨w.heap.size + 3, 0, none⟩, 0, 0⟩) (by simp) 5 _ rfl
  have d6 := HK1.out.c (b := w.heap.size + 4) (T := 37) (vs := (newT kind sec vou tt).cs ⟨some ⟨w.heap.size + 2, 0, none⟩, 0, 0⟩ ⟨some ⟨w.heap.size + 3, 0, none⟩, 0, 0⟩) (by simp) 6 _ rfl
  have d7 := HK1.out.c (b := w.heap.size + 4) (T := 37) (vs := (newT kind sec vou tt).cs ⟨some ⟨w.heap.size + 2, 0, none⟩, 0, 0⟩ ⟨some ⟨w.heap.size + 3, 0, none⟩, 0, 0⟩) (by simp) 7 _ rfl
  cases ho : okT (newT kind sec vou tt)
  · have HO := Lib.hid ho
    clear ho
    go_wp2
    refine bodyPost_ret (v := .tuple #[zeroT.val ⟨none, 0, 0⟩ ⟨none, 0, 0⟩, .bool false]) (by simp [results, Tryd.results117, go_sem, zeroT, *]) rfl ?_
    refine ⟨.inl ⟨HO.out, rfl⟩, ?_⟩
    iterate 8 (with_reducible refine Below.setCell ?_ (by dsimp only; omega) _)
    exact HK1.out.1
  · have HO := Lib.hid ho
    clear ho
    go_wp2
    refine bodyPost_ret (v := .tuple #[(newT kind sec vou tt).val ⟨some ⟨w.heap.size + 2, 0, none⟩, 0, 0⟩ ⟨some ⟨w.heap.size + 3, 0, none⟩, 0, 0⟩, .bool true]) (by simp [results, Tryd.results117, go_sem, *]) rfl ⟨.inr ⟨HO.out, ⟨some ⟨w.heap.size + 2, 0, none⟩, 0, 0⟩, ⟨some ⟨w.heap.size + 3, 0, none⟩, 0, 0⟩, rfl, ?_, ?_, fun h => absurd (HK.out.symm.trans h) (by decide), fun b o e => by simp at e; omega⟩, ?_⟩
    · iterate 8 (with_reducible refine HasR.other ?_ (fun b o e => by simp at e; dsimp only; omega) _)
      exact HS1.out
    · iterate 8 (with_reducible refine HasQ.other ?_ (fun b o e => by simp at e; dsimp only; omega) _)
      exact HQ1.out
    · iterate 8 (with_reducible refine Below.setCell ?_ (by dsimp only; omega) _)
      exact HK1.out.1

/-- A new thing, or none. -/
theorem specTNew_any (kind sec vou tt : Int) (w : World) :
    Calls Tryd.prog 117 #[.int .i64 kind, lab sec vou, .int .i64 tt] w (NewPost kind sec vou tt w) := by
  cases hk : hasS kind
  · exact specTNew_bare kind sec vou tt w hk
  · exact specTNew_with kind sec vou tt w hk
end Go.Proofs.YtpahahonopiblaaDoor
