/-
  The text of a label: what impl.LabelText and spec.LabelText return.
-/
import Derived.Test.YtpahahonopiblaaDoorLabS
import Derived.Test.YtpahahonopiblaaDoorWld
namespace Go.Proofs.YtpahahonopiblaaDoor
open Go.RowKit

/-- The text of a label. -/
def txt (s v : Int) : ByteArray := if okL s v then ⟨#[(48 + s.toNat).toUInt8, 47, (48 + v.toNat).toUInt8]⟩ else ⟨#[]⟩
theorem txt_ok {s v : Int} (h : okL s v = true) : txt s v = ⟨#[(48 + s.toNat).toUInt8, 47, (48 + v.toNat).toUInt8]⟩ := by simp [txt, h]
theorem txt_bad {s v : Int} (h : okL s v = false) : txt s v = ⟨#[]⟩ := by simp [txt, h]

set_option maxHeartbeats 1000000 in
theorem implText_ok (s v : Int) (w : World) (h1 : okL s v = true) :
    Calls Tryd.prog 90 #[lab s v] w fun e w' => e = .returned (.string (txt s v)) ∧ Below w.heap.size w w' := by
  have H1 := Lib.hid h1
  have HT := Lib.hid (txt_ok h1)
  obtain ⟨a0, a3⟩ := okN_bd (okL1 h1)
  obtain ⟨b0, b3⟩ := okN_bd (okL2 h1)
  have S0 := Lib.hid a0
  have S9 := Lib.hid (show s ≤ 9 by omega)
  have V0 := Lib.hid b0
  have V9 := Lib.hid (show v ≤ 9 by omega)
  clear a0 a3 b0 b3
  clear h1
  have K0 := (Kn.refl (w := w)).new 33 #[.int .i64 s, .int .i64 v]
  go_enter Tryd.func90, Tryd.ntmps90
  go_wp2_with fail
  refine (implOk_any _ _ _).mono ?_
  rintro e x1 ⟨rfl, hb1⟩
  rw [H1.out]
  have K1 := K0.stay hb1
  clear K0 hb1
  go_wp2_with fail
  have cc0 := fun t : Wd (Kn w [(w.heap.size, 33, #[.int .i64 s, .int .i64 v])]) => t.ok.c (b := w.heap.size) (T := 33) (vs := #[.int .i64 s, .int .i64 v]) (by simp) 0 _ rfl
  have cc1 := fun t : Wd (Kn w [(w.heap.size, 33, #[.int .i64 s, .int .i64 v])]) => t.ok.c (b := w.heap.size) (T := 33) (vs := #[.int .i64 s, .int .i64 v]) (by simp) 1 _ rfl
  have ne : Nonempty (Wd (Kn w [(w.heap.size, 33, #[.int .i64 s, .int .i64 v])])) := ⟨⟨_, K1.drew⟩⟩
  refine wp_region_quiet (C := fun y => ∃ t : Wd (Kn w [(w.heap.size, 33, #[.int .i64 s, .int .i64 v])]), y = t.w) (by kernel_rfl) (by kernel_rfl) ⟨⟨_, K1.drew⟩, rfl⟩ ?_
  show wpQuiet _ _ _ _ [_, _, _, _, _, _, _, _, _] _
  repeat (first | go_big_quiet_step ((first | (go_at_call 48; with_reducible exact inClsSame (itoa_any s _ S0.out S9.out)) | (go_at_call 48; with_reducible exact inClsSame (itoa_any v _ V0.out V9.out)))) | quiet_step ((first | (go_at_call 48; with_reducible exact inClsSame (itoa_any s _ S0.out S9.out)) | (go_at_call 48; with_reducible exact inClsSame (itoa_any v _ V0.out V9.out)))))
  refine wpQuiet_nil ?_
  rintro _ ⟨⟨y2, K2⟩, rfl⟩
  clear ne cc0 cc1 K1
  go_wp2
  go_ret
  exact ⟨by rw [HT.out]; rfl, K2.1⟩

set_option maxHeartbeats 1000000 in
theorem implText_bad (s v : Int) (w : World) (h1 : okL s v = false) :
    Calls Tryd.prog 90 #[lab s v] w fun e w' => e = .returned (.string (txt s v)) ∧ Below w.heap.size w w' := by
  have H1 := Lib.hid h1
  have HT := Lib.hid (txt_bad h1)
  clear h1
  have K0 := (Kn.refl (w := w)).new 33 #[.int .i64 s, .int .i64 v]
  go_enter Tryd.func90, Tryd.ntmps90
  go_wp2_with fail
  refine (implOk_any _ _ _).mono ?_
  rintro e x1 ⟨rfl, hb1⟩
  rw [H1.out]
  have K1 := K0.stay hb1
  clear K0 hb1
  go_wp2
  go_ret
  exact ⟨by rw [HT.out]; rfl, K1.1⟩

theorem implText_any (s v : Int) (w : World) :
    Calls Tryd.prog 90 #[lab s v] w fun e w' => e = .returned (.string (txt s v)) ∧ Below w.heap.size w w' := by
  cases h : okL s v
  · exact implText_bad s v w h
  · exact implText_ok s v w h

set_option maxHeartbeats 1000000 in
theorem specText_ok (s v : Int) (w : World) (h1 : okL s v = true) :
    Calls Tryd.prog 112 #[lab s v] w fun e w' => e = .returned (.string (txt s v)) ∧ Below w.heap.size w w' := by
  have H1 := Lib.hid h1
  have HT := Lib.hid (txt_ok h1)
  obtain ⟨a0, a3⟩ := okN_bd (okL1 h1)
  obtain ⟨b0, b3⟩ := okN_bd (okL2 h1)
  have S0 := Lib.hid a0
  have S9 := Lib.hid (show s ≤ 9 by omega)
  have V0 := Lib.hid b0
  have V9 := Lib.hid (show v ≤ 9 by omega)
  clear a0 a3 b0 b3
  clear h1
  have K0 := (Kn.refl (w := w)).new 33 #[.int .i64 s, .int .i64 v]
  go_enter Tryd.func112, Tryd.ntmps112
  go_wp2_with fail
  refine (specOk_any _ _ _).mono ?_
  rintro e x1 ⟨rfl, hb1⟩
  rw [H1.out]
  have K1 := K0.stay hb1
  clear K0 hb1
  go_wp2_with fail
  have cc0 := fun t : Wd (Kn w [(w.heap.size, 33, #[.int .i64 s, .int .i64 v])]) => t.ok.c (b := w.heap.size) (T := 33) (vs := #[.int .i64 s, .int .i64 v]) (by simp) 0 _ rfl
  have cc1 := fun t : Wd (Kn w [(w.heap.size, 33, #[.int .i64 s, .int .i64 v])]) => t.ok.c (b := w.heap.size) (T := 33) (vs := #[.int .i64 s, .int .i64 v]) (by simp) 1 _ rfl
  have ne : Nonempty (Wd (Kn w [(w.heap.size, 33, #[.int .i64 s, .int .i64 v])])) := ⟨⟨_, K1.drew⟩⟩
  refine wp_region_quiet (C := fun y => ∃ t : Wd (Kn w [(w.heap.size, 33, #[.int .i64 s, .int .i64 v])]), y = t.w) (by kernel_rfl) (by kernel_rfl) ⟨⟨_, K1.drew⟩, rfl⟩ ?_
  show wpQuiet _ _ _ _ [_, _, _, _, _, _, _, _, _] _
  repeat (first | go_big_quiet_step ((first | (go_at_call 85; with_reducible exact inCls Kn.stay (l6Dec_any s _ S0.out S9.out)) | (go_at_call 85; with_reducible exact inCls Kn.stay (l6Dec_any v _ V0.out V9.out)))) | quiet_step ((first | (go_at_call 85; with_reducible exact inCls Kn.stay (l6Dec_any s _ S0.out S9.out)) | (go_at_call 85; with_reducible exact inCls Kn.stay (l6Dec_any v _ V0.out V9.out)))))
  refine wpQuiet_nil ?_
  rintro _ ⟨⟨y2, K2⟩, rfl⟩
  clear ne cc0 cc1 K1
  go_wp2
  go_ret
  exact ⟨by rw [HT.out]; rfl, K2.1⟩

set_option maxHeartbeats 1000000 in
theorem specText_bad (s v : Int) (w : World) (h1 : okL s v = false) :
    Calls Tryd.prog 112 #[lab s v] w fun e w' => e = .returned (.string (txt s v)) ∧ Below w.heap.size w w' := by
  have H1 := Lib.hid h1
  have HT := Lib.hid (txt_bad h1)
  clear h1
  have K0 := (Kn.refl (w := w)).new 33 #[.int .i64 s, .int .i64 v]
  go_enter Tryd.func112, Tryd.ntmps112
  go_wp2_with fail
  refine (specOk_any _ _ _).mono ?_
  rintro e x1 ⟨rfl, hb1⟩
  rw [H1.out]
  have K1 := K0.stay hb1
  clear K0 hb1
  go_wp2
  go_ret
  exact ⟨by rw [HT.out]; rfl, K1.1⟩

theorem specText_any (s v : Int) (w : World) :
    Calls Tryd.prog 112 #[lab s v] w fun e w' => e = .returned (.string (txt s v)) ∧ Below w.heap.size w w' := by
  cases h : okL s v
  · exact specText_bad s v w h
  · exact specText_ok s v w h
end Go.Proofs.YtpahahonopiblaaDoor
