/-
  The text of a right: what spec.RightText returns.
-/
import Derived.Test.YtpahahonopiblaaDoorRigS
namespace Go.Proofs.YtpahahonopiblaaDoor
open Go.RowKit
set_option linter.unusedVariables false

/-- A letter, or a stroke. -/
abbrev flg (b : Bool) (c : UInt8) : ByteArray := ⟨#[bif b then c else 45]⟩
/-- The text of a right that is ok and to something. -/
abbrev txtR6 (t v : Int) (r wr k : Bool) : ByteArray := ⟨#[(48 + t.toNat).toUInt8, 46, (48 + v.toNat).toUInt8, bif r then 114 else 45, bif wr then 119 else 45, bif k then 107 else 45]⟩
/-- The text of a right. -/
def txtR (t v : Int) (r wr k : Bool) : ByteArray := if okR t v r wr k then (if t = 0 then ⟨#[45]⟩ else txtR6 t v r wr k) else ⟨#[]⟩
theorem txtR_bad {t v : Int} {r wr k : Bool} (h : okR t v r wr k = false) : txtR t v r wr k = ⟨#[]⟩ := by simp [txtR, h]
theorem txtR_null {v : Int} {r wr k : Bool} (h : okR 0 v r wr k = true) : txtR 0 v r wr k = ⟨#[45]⟩ := by simp [txtR, h]
theorem txtR_some {t v : Int} {r wr k : Bool} (h : okR t v r wr k = true) (ht : ¬ t = 0) : txtR t v r wr k = txtR6 t v r wr k := by simp [txtR, h, ht]
theorem okR_bd {t v : Int} {r wr k : Bool} (h : okR t v r wr k = true) (ht : ¬ t = 0) : 1 ≤ t ∧ t ≤ 8 ∧ 0 ≤ v ∧ v ≤ 5 := by
  simp [okR, ht, inR] at h; omega

set_option maxHeartbeats 400000 in
theorem l2Flag_any (b : Bool) (c : UInt8) (w : World) :
    Calls Tryd.prog 127 #[.bool b, .string ⟨#[c]⟩] w fun e w' => e = .returned (.string (flg b c)) ∧ w = w' := by
  cases b
  all_goals
    go_enter Tryd.func127, Tryd.ntmps127
    go_wp2
    go_ret
    exact ⟨rfl, rfl⟩

set_option maxHeartbeats 1000000 in
theorem specRText_bad (t v : Int) (r wr k : Bool) (w : World) (h1 : okR t v r wr k = false) :
    Calls Tryd.prog 113 #[rgt t v r wr k] w fun e w' => e = .returned (.string (txtR t v r wr k)) ∧ Below w.heap.size w w' := by
  have H1 := Lib.hid h1
  have HT := Lib.hid (txtR_bad h1)
  clear h1
  have K0 := (Kn.refl (w := w)).new 44 (rgtC t v r wr k)
  go_enter Tryd.func113, Tryd.ntmps113
  go_wp2_with fail
  refine (specROk_val H1.out _).mono ?_
  rintro e x1 ⟨rfl, hb1⟩
  have K1 := K0.stay hb1
  clear K0 hb1
  go_wp2
  go_ret
  exact ⟨by rw [HT.out]; rfl, K1.1⟩

set_option maxHeartbeats 1000000 in
theorem specRText_null (v : Int) (r wr k : Bool) (w : World) (h1 : okR 0 v r wr k = true) :
    Calls Tryd.prog 113 #[rgt 0 v r wr k] w fun e w' => e = .returned (.string (txtR 0 v r wr k)) ∧ Below w.heap.size w w' := by
  have H1 := Lib.hid h1
  have HT := Lib.hid (txtR_null h1)
  clear h1
  have K0 := (Kn.refl (w := w)).new 44 (rgtC 0 v r wr k)
  go_enter Tryd.func113, Tryd.ntmps113
  go_wp2_with fail
  refine (specROk_val H1.out _).mono ?_
  rintro e x1 ⟨rfl, hb1⟩
  have K1 := K0.stay hb1
  have c0 := K1.c (b := w.heap.size) (T := 44) (vs := rgtC 0 v r wr k) (by simp) 0 (.int .i64 0) rfl
  clear K0 hb1
  go_wp2
  go_ret
  exact ⟨by rw [HT.out]; rfl, K1.1⟩

set_option maxHeartbeats 2000000 in
theorem specRText_some (t v : Int) (r wr k : Bool) (w : World) (h1 : okR t v r wr k = true) (ht : ¬ t = 0) :
    Calls Tryd.prog 113 #[rgt t v r wr k] w fun e w' => e = .returned (.string (txtR t v r wr k)) ∧ Below w.heap.size w w' := by
  have H1 := Lib.hid h1
  have HT := Lib.hid (txtR_some h1 ht)
  obtain ⟨a0, a8, b0, b5⟩ := okR_bd h1 ht
  have S0 := Lib.hid (show 0 ≤ t by omega)
  have S9 := Lib.hid (show t ≤ 9 by omega)
  have V0 := Lib.hid b0
  have V9 := Lib.hid (show v ≤ 9 by omega)
  have ht' : (t == 0) = false := by simpa using ht
  clear a0 a8 b0 b5 h1 ht
  have K0 := (Kn.refl (w := w)).new 44 (rgtC t v r wr k)
  go_enter Tryd.func113, Tryd.ntmps113
  go_wp2_with fail
  refine (specROk_val H1.out _).mono ?_
  rintro e x1 ⟨rfl, hb1⟩
  have K1 := K0.stay hb1
  have c0 := K1.c (b := w.heap.size) (T := 44) (vs := rgtC t v r wr k) (by simp) 0 (.int .i64 t) rfl
  clear K0 hb1
  go_wp2_with fail
  have cc0 := fun z : Wd (Kn w [(w.heap.size, 44, rgtC t v r wr k)]) => z.ok.c (b := w.heap.size) (T := 44) (vs := rgtC t v r wr k) (by simp) 0 _ rfl
  have cc1 := fun z : Wd (Kn w [(w.heap.size, 44, rgtC t v r wr k)]) => z.ok.c (b := w.heap.size) (T := 44) (vs := rgtC t v r wr k) (by simp) 1 _ rfl
  have cc2 := fun z : Wd (Kn w [(w.heap.size, 44, rgtC t v r wr k)]) => z.ok.c (b := w.heap.size) (T := 44) (vs := rgtC t v r wr k) (by simp) 2 _ rfl
  have cc3 := fun z : Wd (Kn w [(w.heap.size, 44, rgtC t v r wr k)]) => z.ok.c (b := w.heap.size) (T := 44) (vs := rgtC t v r wr k) (by simp) 3 _ rfl
  have cc4 := fun z : Wd (Kn w [(w.heap.size, 44, rgtC t v r wr k)]) => z.ok.c (b := w.heap.size) (T := 44) (vs := rgtC t v r wr k) (by simp) 4 _ rfl
  have ne : Nonempty (Wd (Kn w [(w.heap.size, 44, rgtC t v r wr k)])) := ⟨⟨_, K1.drew⟩⟩
  clear c0 ht'
  refine wp_region_quiet (C := fun y => ∃ z : Wd (Kn w [(w.heap.size, 44, rgtC t v r wr k)]), y = z.w) (by kernel_rfl) (by kernel_rfl) ⟨⟨_, K1.drew⟩, rfl⟩ ?_
  show wpQuiet _ _ _ _ [_, _, _, _, _, _, _, _, _, _, _, _, _, _, _] _
  repeat (first | go_big_quiet_step ((first | (go_at_call 85; with_reducible exact inCls Kn.stay (l6Dec_any t _ S0.out S9.out)) | (go_at_call 85; with_reducible exact inCls Kn.stay (l6Dec_any v _ V0.out V9.out)) | (go_at_call 127; with_reducible exact inClsSame (l2Flag_any r 114 _)) | (go_at_call 127; with_reducible exact inClsSame (l2Flag_any wr 119 _)) | (go_at_call 127; with_reducible exact inClsSame (l2Flag_any k 107 _)))) | quiet_step ((first | (go_at_call 85; with_reducible exact inCls Kn.stay (l6Dec_any t _ S0.out S9.out)) | (go_at_call 85; with_reducible exact inCls Kn.stay (l6Dec_any v _ V0.out V9.out)) | (go_at_call 127; with_reducible exact inClsSame (l2Flag_any r 114 _)) | (go_at_call 127; with_reducible exact inClsSame (l2Flag_any wr 119 _)) | (go_at_call 127; with_reducible exact inClsSame (l2Flag_any k 107 _)))))
  refine wpQuiet_nil ?_
  rintro _ ⟨⟨y2, K2⟩, rfl⟩
  clear ne cc0 cc1 cc2 cc3 cc4 K1
  go_wp2
  go_ret
  exact ⟨by rw [HT.out]; rfl, K2.1⟩

theorem specRText_any (t v : Int) (r wr k : Bool) (w : World) :
    Calls Tryd.prog 113 #[rgt t v r wr k] w fun e w' => e = .returned (.string (txtR t v r wr k)) ∧ Below w.heap.size w w' := by
  cases h : okR t v r wr k
  · exact specRText_bad t v r wr k w h
  · by_cases ht : t = 0
    · subst ht; exact specRText_null v r wr k w h
    · exact specRText_some t v r wr k w h ht
theorem specRText_val {t v : Int} {r wr k : Bool} {s : ByteArray} (h : txtR t v r wr k = s) (w : World) :
    Calls Tryd.prog 113 #[rgt t v r wr k] w fun e w' => e = .returned (.string s) ∧ Below w.heap.size w w' := by
  subst h; exact specRText_any t v r wr k w
end Go.Proofs.YtpahahonopiblaaDoor
