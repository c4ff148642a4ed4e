/-
  The program's RightText.
-/
import Derived.Test.YtpahahonopiblaaDoorRigK
import Derived.Test.YtpahahonopiblaaDoorRigU
namespace Go.Proofs.YtpahahonopiblaaDoor
open Go.RowKit
set_option linter.unusedVariables false

theorem mTextN (w : World) : (method 287 147 (.agg #[]) "loop.example/drawbar/impl.text").run Tryd.prog w = .ok (158, .agg #[]) w := by kernel_rfl
theorem mTextG (t v : Int) (r wr k : Bool) (w : World) : (method 287 148 (rgt t v r wr k) "loop.example/drawbar/impl.text").run Tryd.prog w = .ok (161, rgt t v r wr k) w := by kernel_rfl

set_option maxHeartbeats 400000 in
theorem letter_any (b : Bool) (c : UInt8) (w : World) :
    Calls Tryd.prog 162 #[.string ⟨#[c]⟩, .bool b] w fun e w' => e = .returned (.string (flg b c)) ∧ w = w' := by
  cases b
  all_goals
    go_enter Tryd.func162, Tryd.ntmps162
    go_wp2
    go_ret
    exact ⟨rfl, rfl⟩

set_option maxHeartbeats 1000000 in
theorem nothingText_any (w : World) :
    Calls Tryd.prog 158 #[.agg #[]] w fun e w' => e = .returned (.string ⟨#[45]⟩) ∧ Below w.heap.size w w' := by
  go_enter Tryd.func158, Tryd.ntmps158
  go_wp2
  go_ret
  exact ⟨rfl, (Below.refl _ _).alloc (Nat.le_refl _) _⟩

set_option maxHeartbeats 2000000 in
theorem grantText_some (t v : Int) (r wr k : Bool) (w : World) (h1 : okR t v r wr k = true) (ht : ¬ t = 0) :
    Calls Tryd.prog 161 #[rgt t v r wr k] w fun e w' => e = .returned (.string (txtR6 t v r wr k)) ∧ Below w.heap.size w w' := by
  obtain ⟨a0, a8, b0, b5⟩ := okR_bd h1 ht
  have S0 := Lib.hid (show 0 ≤ t by omega)
  have S9 := Lib.hid (show t ≤ 9 by omega)
  have V0 := Lib.hid b0
  have V9 := Lib.hid (show v ≤ 9 by omega)
  clear a0 a8 b0 b5 h1 ht
  have K1 := (Kn.refl (w := w)).new 148 (rgtC t v r wr k)
  go_enter Tryd.func161, Tryd.ntmps161
  go_wp2_with fail
  have cc0 := fun z : Wd (Kn w [(w.heap.size, 148, rgtC t v r wr k)]) => z.ok.c (b := w.heap.size) (T := 148) (vs := rgtC t v r wr k) (by simp) 0 _ rfl
  have cc1 := fun z : Wd (Kn w [(w.heap.size, 148, rgtC t v r wr k)]) => z.ok.c (b := w.heap.size) (T := 148) (vs := rgtC t v r wr k) (by simp) 1 _ rfl
  have cc2 := fun z : Wd (Kn w [(w.heap.size, 148, rgtC t v r wr k)]) => z.ok.c (b := w.heap.size) (T := 148) (vs := rgtC t v r wr k) (by simp) 2 _ rfl
  have cc3 := fun z : Wd (Kn w [(w.heap.size, 148, rgtC t v r wr k)]) => z.ok.c (b := w.heap.size) (T := 148) (vs := rgtC t v r wr k) (by simp) 3 _ rfl
  have cc4 := fun z : Wd (Kn w [(w.heap.size, 148, rgtC t v r wr k)]) => z.ok.c (b := w.heap.size) (T := 148) (vs := rgtC t v r wr k) (by simp) 4 _ rfl
  have ne : Nonempty (Wd (Kn w [(w.heap.size, 148, rgtC t v r wr k)])) := ⟨⟨_, K1.drew⟩⟩
  refine wp_region_quiet (C := fun y => ∃ z : Wd (Kn w [(w.heap.size, 148, rgtC t v r wr k)]), y = z.w) (by kernel_rfl) (by kernel_rfl) ⟨⟨_, K1.drew⟩, rfl⟩ ?_
  show wpQuiet _ _ _ _ [_, _, _, _, _, _, _, _, _, _, _, _, _, _, _, _, _, _, _, _, _] _
  repeat (first | go_big_quiet_step ((first | (go_at_call 48; with_reducible exact inClsSame (itoa_any t _ S0.out S9.out)) | (go_at_call 48; with_reducible exact inClsSame (itoa_any v _ V0.out V9.out)) | (go_at_call 162; with_reducible exact inClsSame (letter_any r 114 _)) | (go_at_call 162; with_reducible exact inClsSame (letter_any wr 119 _)) | (go_at_call 162; with_reducible exact inClsSame (letter_any k 107 _)))) | quiet_step ((first | (go_at_call 48; with_reducible exact inClsSame (itoa_any t _ S0.out S9.out)) | (go_at_call 48; with_reducible exact inClsSame (itoa_any v _ V0.out V9.out)) | (go_at_call 162; with_reducible exact inClsSame (letter_any r 114 _)) | (go_at_call 162; with_reducible exact inClsSame (letter_any wr 119 _)) | (go_at_call 162; with_reducible exact inClsSame (letter_any k 107 _)))))
  refine wpQuiet_nil ?_
  rintro _ ⟨⟨y2, K2⟩, rfl⟩
  clear ne cc0 cc1 cc2 cc3 cc4 K1
  go_wp2
  go_ret
  exact ⟨rfl, K2.1⟩

set_option maxHeartbeats 1000000 in
theorem implRText_bad (t v : Int) (r wr k : Bool) (w : World) (h1 : okR t v r wr k = false) :
    Calls Tryd.prog 91 #[rgt t v r wr k] w fun e w' => e = .returned (.string (txtR t v r wr k)) ∧ Below w.heap.size w w' := by
  have H1 := Lib.hid h1
  have HT := Lib.hid (txtR_bad h1)
  clear h1
  have K0 := (Kn.refl (w := w)).new 44 (rgtC t v r wr k)
  go_enter Tryd.func91, Tryd.ntmps91
  go_wp2_with fail
  refine (implROk_val H1.out _).mono ?_
  rintro e x1 ⟨rfl, hb1⟩
  have K1 := K0.stay hb1
  clear K0 hb1
  go_wp2
  go_ret
  exact ⟨by rw [HT.out]; rfl, K1.1⟩

set_option maxHeartbeats 1000000 in
theorem implRText_null (w : World) :
    Calls Tryd.prog 91 #[rgt 0 0 false false false] w fun e w' => e = .returned (.string ⟨#[45]⟩) ∧ Below w.heap.size w w' := by
  have K0 := (Kn.refl (w := w)).new 44 (rgtC 0 0 false false false)
  have hm := mTextN
  go_enter Tryd.func91, Tryd.ntmps91
  go_wp2_with fail
  refine (implROk_null _).mono ?_
  rintro e x1 ⟨rfl, hb1⟩
  have K1 := K0.stay hb1
  obtain ⟨q0, q1⟩ := bcell hb1
  have HK := Lib.hid K1
  clear K0 hb1 K1
  go_wp2_with fail
  refine (capOf_null _).mono ?_
  rintro e x2 ⟨rfl, hb2⟩
  have K2 := HK.out.stay hb2
  clear HK hb2 q0 q1
  go_wp2_with fail
  refine (nothingText_any _).mono ?_
  rintro e x3 ⟨rfl, hb3⟩
  have K3 := K2.stay hb3
  clear K2 hb3
  go_wp2
  go_ret
  exact ⟨rfl, K3.1⟩

set_option maxHeartbeats 1000000 in
theorem implRText_some (t v : Int) (r wr k : Bool) (w : World) (h1 : okR t v r wr k = true) (hn : nullR t v r wr k = false) (ht : ¬ t = 0) :
    Calls Tryd.prog 91 #[rgt t v r wr k] w fun e w' => e = .returned (.string (txtR t v r wr k)) ∧ Below w.heap.size w w' := by
  have K0 := (Kn.refl (w := w)).new 44 (rgtC t v r wr k)
  have hm := mTextG t v r wr k
  have H1 := Lib.hid h1
  have H2 := Lib.hid hn
  have H3 := Lib.hid ht
  rw [txtR_some h1 ht]
  clear h1 hn ht
  go_enter Tryd.func91, Tryd.ntmps91
  go_wp2_with fail
  refine (implROk_val H1.out _).mono ?_
  rintro e x1 ⟨rfl, hb1⟩
  have K1 := K0.stay hb1
  obtain ⟨q0, q1⟩ := bcell hb1
  have HK := Lib.hid K1
  clear K0 hb1 K1
  go_wp2_with fail
  refine (capOf_some t v r wr k H2.out _).mono ?_
  rintro e x2 ⟨rfl, hb2⟩
  have K2 := HK.out.stay hb2
  clear HK hb2 q0 q1
  go_wp2_with fail
  refine (grantText_some t v r wr k _ H1.out H3.out).mono ?_
  rintro e x3 ⟨rfl, hb3⟩
  have K3 := K2.stay hb3
  clear K2 hb3
  go_wp2
  go_ret
  exact ⟨rfl, K3.1⟩

theorem implRText_any (t v : Int) (r wr k : Bool) (w : World) :
    Calls Tryd.prog 91 #[rgt t v r wr k] w fun e w' => e = .returned (.string (txtR t v r wr k)) ∧ Below w.heap.size w w' := by
  cases h : okR t v r wr k
  · exact implRText_bad t v r wr k w h
  · cases hn : nullR t v r wr k
    · have ht : ¬ t = 0 := by
        rintro rfl
        rw [okR_nonull hn] at h
        simp [okG, inR] at h
      exact implRText_some t v r wr k w h hn ht
    · obtain ⟨rfl, rfl, rfl, rfl, rfl⟩ := nullR_zero hn
      exact implRText_null w

theorem implRText_val {t v : Int} {r wr k : Bool} {s : ByteArray} (h : txtR t v r wr k = s) (w : World) :
    Calls Tryd.prog 91 #[rgt t v r wr k] w fun e w' => e = .returned (.string s) ∧ Below w.heap.size w w' := by
  subst h; exact implRText_any t v r wr k w
end Go.Proofs.YtpahahonopiblaaDoor
