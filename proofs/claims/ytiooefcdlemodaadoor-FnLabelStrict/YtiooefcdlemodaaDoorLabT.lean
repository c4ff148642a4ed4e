/-
  The text of a label: what impl.LabelText and spec.LabelText return.
-/
import Derived.Test.YtiooefcdlemodaaDoorLabS
import Derived.Test.YtiooefcdlemodaaDoorWld
import Derived.Test.YtiooefcdlemodaaDoorItoa
import Derived.Laws.BytesArg
namespace Go.Proofs.YtiooefcdlemodaaDoor
open Go.RowKit

/-- The text of a label. -/
def txt (s v : Int) : ByteArray := if okL s v then ⟨#[(48 + s.toNat).toUInt8, 47, (48 + v.toNat).toUInt8]⟩ else ⟨#[]⟩
theorem txt_ok {s v : Int} (h : okL s v = true) : txt s v = ⟨#[(48 + s.toNat).toUInt8, 47, (48 + v.toNat).toUInt8]⟩ := by simp [txt, h]
theorem txt_bad {s v : Int} (h : okL s v = false) : txt s v = ⟨#[]⟩ := by simp [txt, h]

set_option maxHeartbeats 1000000 in
theorem l6Dec_any (n : Int) (w : World) (h : okN n = true) :
    Calls Tryd.prog 18 #[.int .i64 n] w fun e w' => e = .returned (.string (dig n)) ∧ Below w.heap.size w w' := by
  have kc : ∀ x : Int, (convert 22 9 (.slice (some ⟨w.heap.size, 0, none⟩) 1 1)).run Tryd.prog (w.alloc (.cells #[.int .u8 x] 5)) = .ok (.string (strOfNums [x])) (w.alloc (.cells #[.int .u8 x] 5)) := fun x =>
    run_convert_bytes_arg _ 22 5 Tryd.underlying22 Tryd.underlying5 w.heap.size 0 1 1 [x] rfl (fun i hi => by
      obtain rfl : i = 0 := by omega
      exact (Box.fresh w 5 #[.int .u8 x]).cell 0 _ rfl) 9 Tryd.underlying9
  rcases four n h with rfl | rfl | rfl | rfl
  all_goals
    clear h
    go_enter Tryd.func18, Tryd.ntmps18
    go_wp2
    go_ret
    exact ⟨rfl, (Below.refl _ _).alloc (Nat.le_refl _) _⟩

set_option maxHeartbeats 1000000 in
theorem implText_ok (s v : Int) (w : World) (h1 : okL s v = true) :
    Calls Tryd.prog 7 #[lab s v] w fun e w' => e = .returned (.string (txt s v)) ∧ Below w.heap.size w w' := by
  have H1 := Lib.hid h1
  have HT := Lib.hid (txt_ok h1)
  clear h1
  have K0 := (Kn.refl (w := w)).new 24 #[.int .i64 s, .int .i64 v]
  go_enter Tryd.func7, Tryd.ntmps7
  go_wp2_with fail
  refine (implOk_any _ _ _).mono ?_
  rintro e x1 ⟨rfl, hb1⟩
  rw [H1.out]
  have K1 := K0.stay hb1
  clear K0 hb1
  go_wp2_with fail
  have cc0 := fun t : Wd (Kn w [(w.heap.size, 24, #[.int .i64 s, .int .i64 v])]) => t.ok.c (b := w.heap.size) (T := 24) (vs := #[.int .i64 s, .int .i64 v]) (by simp) 0 _ rfl
  have cc1 := fun t : Wd (Kn w [(w.heap.size, 24, #[.int .i64 s, .int .i64 v])]) => t.ok.c (b := w.heap.size) (T := 24) (vs := #[.int .i64 s, .int .i64 v]) (by simp) 1 _ rfl
  have ne : Nonempty (Wd (Kn w [(w.heap.size, 24, #[.int .i64 s, .int .i64 v])])) := ⟨⟨_, K1.drew⟩⟩
  refine wp_region_quiet (C := fun y => ∃ t : Wd (Kn w [(w.heap.size, 24, #[.int .i64 s, .int .i64 v])]), y = t.w) (by kernel_rfl) (by kernel_rfl) ⟨⟨_, K1.drew⟩, rfl⟩ ?_
  show wpQuiet _ _ _ _ [_, _, _, _, _, _, _, _, _] _
  repeat (first | go_big_quiet_step ((first | (go_at_call 17; with_reducible exact inClsSame (itoa_any s _ (okL1 H1.out))) | (go_at_call 17; with_reducible exact inClsSame (itoa_any v _ (okL2 H1.out))))) | quiet_step ((first | (go_at_call 17; with_reducible exact inClsSame (itoa_any s _ (okL1 H1.out))) | (go_at_call 17; with_reducible exact inClsSame (itoa_any v _ (okL2 H1.out))))))
  refine wpQuiet_nil ?_
  rintro _ ⟨⟨y2, K2⟩, rfl⟩
  clear ne cc0 cc1 K1
  go_wp2
  go_ret
  exact ⟨by rw [HT.out]; rfl, K2.1⟩

set_option maxHeartbeats 1000000 in
theorem implText_bad (s v : Int) (w : World) (h1 : okL s v = false) :
    Calls Tryd.prog 7 #[lab s v] w fun e w' => e = .returned (.string (txt s v)) ∧ Below w.heap.size w w' := by
  have H1 := Lib.hid h1
  have HT := Lib.hid (txt_bad h1)
  clear h1
  have K0 := (Kn.refl (w := w)).new 24 #[.int .i64 s, .int .i64 v]
  go_enter Tryd.func7, Tryd.ntmps7
  go_wp2_with fail
  refine (implOk_any _ _ _).mono ?_
  rintro e x1 ⟨rfl, hb1⟩
  rw [H1.out]
  have K1 := K0.stay hb1
  clear K0 hb1
  go_wp2
  go_ret
  exact ⟨by rw [HT.out]; rfl, K1.1⟩

theorem implText_any (s v : Int) (w : World) :
    Calls Tryd.prog 7 #[lab s v] w fun e w' => e = .returned (.string (txt s v)) ∧ Below w.heap.size w w' := by
  cases h : okL s v
  · exact implText_bad s v w h
  · exact implText_ok s v w h

set_option maxHeartbeats 1000000 in
theorem specText_ok (s v : Int) (w : World) (h1 : okL s v = true) :
    Calls Tryd.prog 8 #[lab s v] w fun e w' => e = .returned (.string (txt s v)) ∧ Below w.heap.size w w' := by
  have H1 := Lib.hid h1
  have HT := Lib.hid (txt_ok h1)
  clear h1
  have K0 := (Kn.refl (w := w)).new 24 #[.int .i64 s, .int .i64 v]
  go_enter Tryd.func8, Tryd.ntmps8
  go_wp2_with fail
  refine (specOk_any _ _ _).mono ?_
  rintro e x1 ⟨rfl, hb1⟩
  rw [H1.out]
  have K1 := K0.stay hb1
  clear K0 hb1
  go_wp2_with fail
  have cc0 := fun t : Wd (Kn w [(w.heap.size, 24, #[.int .i64 s, .int .i64 v])]) => t.ok.c (b := w.heap.size) (T := 24) (vs := #[.int .i64 s, .int .i64 v]) (by simp) 0 _ rfl
  have cc1 := fun t : Wd (Kn w [(w.heap.size, 24, #[.int .i64 s, .int .i64 v])]) => t.ok.c (b := w.heap.size) (T := 24) (vs := #[.int .i64 s, .int .i64 v]) (by simp) 1 _ rfl
  have ne : Nonempty (Wd (Kn w [(w.heap.size, 24, #[.int .i64 s, .int .i64 v])])) := ⟨⟨_, K1.drew⟩⟩
  refine wp_region_quiet (C := fun y => ∃ t : Wd (Kn w [(w.heap.size, 24, #[.int .i64 s, .int .i64 v])]), y = t.w) (by kernel_rfl) (by kernel_rfl) ⟨⟨_, K1.drew⟩, rfl⟩ ?_
  show wpQuiet _ _ _ _ [_, _, _, _, _, _, _, _, _] _
  repeat (first | go_big_quiet_step ((first | (go_at_call 18; with_reducible exact inCls Kn.stay (l6Dec_any s _ (okL1 H1.out))) | (go_at_call 18; with_reducible exact inCls Kn.stay (l6Dec_any v _ (okL2 H1.out))))) | quiet_step ((first | (go_at_call 18; with_reducible exact inCls Kn.stay (l6Dec_any s _ (okL1 H1.out))) | (go_at_call 18; with_reducible exact inCls Kn.stay (l6Dec_any v _ (okL2 H1.out))))))
  refine wpQuiet_nil ?_
  rintro _ ⟨⟨y2, K2⟩, rfl⟩
  clear ne cc0 cc1 K1
  go_wp2
  go_ret
  exact ⟨by rw [HT.out]; rfl, K2.1⟩

set_option maxHeartbeats 1000000 in
theorem specText_bad (s v : Int) (w : World) (h1 : okL s v = false) :
    Calls Tryd.prog 8 #[lab s v] w fun e w' => e = .returned (.string (txt s v)) ∧ Below w.heap.size w w' := by
  have H1 := Lib.hid h1
  have HT := Lib.hid (txt_bad h1)
  clear h1
  have K0 := (Kn.refl (w := w)).new 24 #[.int .i64 s, .int .i64 v]
  go_enter Tryd.func8, Tryd.ntmps8
  go_wp2_with fail
  refine (specOk_any _ _ _).mono ?_
  rintro e x1 ⟨rfl, hb1⟩
  rw [H1.out]
  have K1 := K0.stay hb1
  clear K0 hb1
  go_wp2
  go_ret
  exact ⟨by rw [HT.out]; rfl, K1.1⟩

theorem specText_any (s v : Int) (w : World) :
    Calls Tryd.prog 8 #[lab s v] w fun e w' => e = .returned (.string (txt s v)) ∧ Below w.heap.size w w' := by
  cases h : okL s v
  · exact specText_bad s v w h
  · exact specText_ok s v w h
end Go.Proofs.YtiooefcdlemodaaDoor
