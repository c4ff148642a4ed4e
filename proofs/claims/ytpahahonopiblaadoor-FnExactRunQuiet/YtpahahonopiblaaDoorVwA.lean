/-
  What is high for a label: the program's and the model's answer.
-/
import Derived.Test.YtpahahonopiblaaDoorChB
namespace Go.Proofs.YtpahahonopiblaaDoor
open Go.RowKit
set_option linter.unusedVariables false
set_option maxRecDepth 100000

/-- It flows from a thing to a label. -/
def seesL (x : T8) (s v : Int) : Bool := flow x.sec x.vou s v
/-- A thing is high for a label. -/
def highV (l : List T8) (n s v : Int) : Bool := tabOk l && (okL s v && (inR n 1 l.length && !seesL (thAt l n) s v))

set_option maxHeartbeats 1000000 in
theorem sees_any (x : T8) (s q : Sl) (sl vl : Int) (w : World) :
    Calls Tryd.prog 67 #[lab sl vl, x.val s q] w fun e w' => e = .returned (.bool (seesL x sl vl)) ∧ Below w.heap.size w w' := by
  have HK0 := Lib.hid (((Kn.refl (w := w)).new 33 #[.int .i64 sl, .int .i64 vl]).new 37 (x.cs s q))
  go_enter Tryd.func67, Tryd.ntmps67
  go_wp2_with fail
  refine (implFlow_any _ _ _ _ _).mono ?_
  rintro e y ⟨rfl, hb⟩
  have HK1 := Lib.hid (HK0.out.stay hb)
  clear hb HK0
  go_wp2
  go_ret
  exact ⟨rfl, HK1.out.1⟩
theorem sees_val {x : T8} {sl vl : Int} {b : Bool} (h : seesL x sl vl = b) (s q : Sl) (w : World) :
    Calls Tryd.prog 67 #[lab sl vl, x.val s q] w fun e w' => e = .returned (.bool b) ∧ Below w.heap.size w w' := by
  subst h; exact sees_any x s q sl vl w

set_option maxHeartbeats 4000000 in
theorem implHigh_any (l : List T8) (s : Sl) (n sl vl : Int) (w : World) (ht : HasT w s l) (hf : KF w) (hz : l.length ≤ 1048576) :
    Calls Tryd.prog 26 #[.slice s.a s.n s.c, .int .i64 n, lab sl vl] w fun e w' => e = .returned (.bool (highV l n sl vl)) ∧ Below w.heap.size w w' := by
  have HT := Lib.hid ht
  have HF := Lib.hid hf
  clear ht hf
  have HK0 := Lib.hid ((Kn.refl (w := w)).new 33 #[.int .i64 sl, .int .i64 vl])
  cases h1 : tabOk l
  · have H1 := Lib.hid h1
    clear h1
    go_enter Tryd.func26, Tryd.ntmps26
    go_wp2_with fail
    refine (implTabOk_val H1.out _ (HT.out.stay HK0.out.1) (HF.out.stay HK0.out.1) hz).mono ?_
    rintro e y1 ⟨rfl, hb⟩
    have HK1 := Lib.hid (HK0.out.stay hb)
    clear hb
    go_wp2
    go_ret
    exact ⟨by simp [highV, H1.out], HK1.out.1⟩
  have H1 := Lib.hid h1
  clear h1
  go_enter Tryd.func26, Tryd.ntmps26
  go_wp2_with fail
  refine (implTabOk_val H1.out _ (HT.out.stay HK0.out.1) (HF.out.stay HK0.out.1) hz).mono ?_
  rintro e y1 ⟨rfl, hb⟩
  have HK1 := Lib.hid (HK0.out.stay hb)
  clear hb HK0
  have c0 := HK1.out.c (b := w.heap.size) (T := 33) (vs := #[.int .i64 sl, .int .i64 vl]) (by simp) 0 _ rfl
  have c1 := HK1.out.c (b := w.heap.size) (T := 33) (vs := #[.int .i64 sl, .int .i64 vl]) (by simp) 1 _ rfl
  go_wp2_with fail
  refine (implOk_any _ _ _).mono ?_
  rintro e y2 ⟨rfl, hb⟩
  have HK2 := Lib.hid (HK1.out.stay hb)
  clear hb HK1 c0 c1
  cases h2 : okL sl vl
  · have H2 := Lib.hid h2
    clear h2
    go_wp2
    go_ret
    exact ⟨by simp [highV, H2.out], HK2.out.1⟩
  have H2 := Lib.hid h2
  clear h2
  go_wp2_with fail
  refine (thingAt_get l s n _ (HT.out.stay HK2.out.1) hz).mono ?_
  rintro e y3 ⟨x, s2, q2, b2, rfl, h3, h4, hb⟩
  have HK3 := Lib.hid ((HK2.out.stay hb).new 37 (x.cs s2 q2))
  have H3 := Lib.hid h3
  have H4 := Lib.hid h4
  have hlt := ((HK2.out.stay hb).box (b := w.heap.size) (T := 33) (vs := #[.int .i64 sl, .int .i64 vl]) (by simp)).lt
  have c0 := (HK2.out.stay hb).c (b := w.heap.size) (T := 33) (vs := #[.int .i64 sl, .int .i64 vl]) (by simp) 0 _ rfl
  have c1 := (HK2.out.stay hb).c (b := w.heap.size) (T := 33) (vs := #[.int .i64 sl, .int .i64 vl]) (by simp) 1 _ rfl
  clear hb HK2 h3 h4
  cases b2
  · go_wp2
    go_ret
    refine ⟨?_, HK3.out.1⟩
    have h := H3.out
    simp only [highV]
    rw [← h]
    simp
  go_wp2_with fail
  refine (sees_any x s2 q2 sl vl _).mono ?_
  rintro e y4 ⟨rfl, hb⟩
  have HK4 := Lib.hid (HK3.out.stay hb)
  clear hb HK3 c0 c1 hlt
  go_wp2
  go_ret
  refine ⟨?_, HK4.out.1⟩
  have h := H3.out
  simp only [highV]
  rw [← h, H1.out, H2.out, ← H4.out (by simp)]
  simp
theorem implHigh_val {l : List T8} {s : Sl} {n sl vl : Int} {b : Bool} (h : highV l n sl vl = b) (w : World) (ht : HasT w s l) (hf : KF w) (hz : l.length ≤ 1048576) :
    Calls Tryd.prog 26 #[.slice s.a s.n s.c, .int .i64 n, lab sl vl] w fun e w' => e = .returned (.bool b) ∧ Below w.heap.size w w' := by
  subst h; exact implHigh_any l s n sl vl w ht hf hz

set_option maxHeartbeats 8000000 in
theorem specHigh_any (l : List T8) (s : Sl) (n sl vl : Int) (w : World) (ht : HasT w s l) (hz : l.length ≤ 1048576) (hzs : ∀ i (h : i < l.length), l[i].slots.length ≤ 1048576) :
    Calls Tryd.prog 27 #[.slice s.a s.n s.c, .int .i64 n, lab sl vl] w fun e w' => e = .returned (.bool (highV l n sl vl)) ∧ Below w.heap.size w w' := by
  obtain ⟨Y, hY⟩ : ∃ Y, w.alloc (.cells #[.int .i64 sl, .int .i64 vl] 33) = Y := ⟨_, rfl⟩
  have K0 := (Kn.refl (w := w)).new 33 #[.int .i64 sl, .int .i64 vl]
  rw [hY] at K0
  have E0 : Hid (KT w [(w.heap.size, 33, #[.int .i64 sl, .int .i64 vl])] s l Y) := Lib.hid ⟨K0, ht.stay K0.1⟩
  have HN := Lib.hid ht.1
  have A1 := Lib.hid (fun zz : Wd (KT w [(w.heap.size, 33, #[.int .i64 sl, .int .i64 vl])] s l) => specTabOk_val' (rfl : tabOk l = tabOk l) zz.w zz.ok.2 hz hzs)
  have A2 := Lib.hid (fun y => specOk_any sl vl y)
  have s1 := fun zz : Wd (KT w [(w.heap.size, 33, #[.int .i64 sl, .int .i64 vl])] s l) => zz.ok.1.c (b := w.heap.size) (T := 33) (vs := #[.int .i64 sl, .int .i64 vl]) (by simp) 0 _ rfl
  have v1 := fun zz : Wd (KT w [(w.heap.size, 33, #[.int .i64 sl, .int .i64 vl])] s l) => zz.ok.1.c (b := w.heap.size) (T := 33) (vs := #[.int .i64 sl, .int .i64 vl]) (by simp) 1 _ rfl
  have ne : Nonempty (Wd (KT w [(w.heap.size, 33, #[.int .i64 sl, .int .i64 vl])] s l)) := ⟨⟨_, E0.out.drew⟩⟩
  clear K0
  cases h1 : tabOk l
  · have HV := Lib.hid (show highV l n sl vl = false by simp [highV, h1])
    rw [h1] at A1
    clear h1 ht hzs
    go_enter Tryd.func27, Tryd.ntmps27
    go_upto_region 1 with fail
    refine wp_region_quiet (C := fun y => ∃ zz : Wd (KT w [(w.heap.size, 33, #[.int .i64 sl, .int .i64 vl])] s l), y = zz.w) (by kernel_rfl) (by kernel_rfl) ⟨⟨_, E0.out.drew⟩, rfl⟩ ?_
    show wpQuiet _ _ _ _ [_, _, _, _, _, _, _, _, _, _, _, _, _, _, _, _, _, _, _, _, _, _, _, _] _
    repeat (first | go_big_quiet_step (((go_at_call 28; exact inCls KT.stay (A1.out _)))) | quiet_step (((go_at_call 28; exact inCls KT.stay (A1.out _)))))
    refine wpQuiet_nil ?_
    rintro _ ⟨⟨y5, D5⟩, rfl⟩
    have HD5 := Lib.hid D5
    clear ne s1 v1 D5
    go_wp2
    go_ret
    exact ⟨by rw [HV.out]; rfl, HD5.out.1.1⟩

  cases h2 : okL sl vl
  · have HV := Lib.hid (show highV l n sl vl = false by simp [highV, h2])
    rw [h1] at A1
    rw [h2] at A2
    clear h1 h2 ht hzs
    go_enter Tryd.func27, Tryd.ntmps27
    go_upto_region 1 with fail
    refine wp_region_quiet (C := fun y => ∃ zz : Wd (KT w [(w.heap.size, 33, #[.int .i64 sl, .int .i64 vl])] s l), y = zz.w) (by kernel_rfl) (by kernel_rfl) ⟨⟨_, E0.out.drew⟩, rfl⟩ ?_
    show wpQuiet _ _ _ _ [_, _, _, _, _, _, _, _, _, _, _, _, _, _, _, _, _, _, _, _, _, _, _, _] _
    repeat (first | go_big_quiet_step ((first | (go_at_call 28; exact inCls KT.stay (A1.out _)) | (go_at_call 29; exact inCls KT.stay (A2.out _)))) | quiet_step ((first | (go_at_call 28; exact inCls KT.stay (A1.out _)) | (go_at_call 29; exact inCls KT.stay (A2.out _)))))
    refine wpQuiet_nil ?_
    rintro _ ⟨⟨y5, D5⟩, rfl⟩
    have HD5 := Lib.hid D5
    clear ne s1 v1 D5
    go_wp2
    go_ret
    exact ⟨by rw [HV.out]; rfl, HD5.out.1.1⟩

  have sn := ht.1
  rw [sn] at A1
  have A3 := Lib.hid (fun y => l6In_val (rfl : inR n 1 l.length = inR n 1 l.length) y)
  cases h3 : inR n 1 l.length
  · have HV := Lib.hid (show highV l n sl vl = false by simp [highV, h3])
    rw [h1] at A1
    rw [h2] at A2
    rw [h3] at A3
    clear h1 h2 h3 ht hzs
    go_enter Tryd.func27, Tryd.ntmps27
    go_upto_region 1 with fail
    refine wp_region_quiet (C := fun y => ∃ zz : Wd (KT w [(w.heap.size, 33, #[.int .i64 sl, .int .i64 vl])] s l), y = zz.w) (by kernel_rfl) (by kernel_rfl) ⟨⟨_, E0.out.drew⟩, rfl⟩ ?_
    show wpQuiet _ _ _ _ [_, _, _, _, _, _, _, _, _, _, _, _, _, _, _, _, _, _, _, _, _, _, _, _] _
    repeat (first | go_big_quiet_step ((first | (go_at_call 28; exact inCls KT.stay (A1.out _)) | (go_at_call 29; exact inCls KT.stay (A2.out _)) | (go_at_call 68; exact inClsSame (A3.out _)))) | quiet_step ((first | (go_at_call 28; exact inCls KT.stay (A1.out _)) | (go_at_call 29; exact inCls KT.stay (A2.out _)) | (go_at_call 68; exact inClsSame (A3.out _)))))
    refine wpQuiet_nil ?_
    rintro _ ⟨⟨y5, D5⟩, rfl⟩
    have HD5 := Lib.hid D5
    clear ne s1 v1 D5
    go_wp2
    go_ret
    exact ⟨by rw [HV.out]; rfl, HD5.out.1.1⟩

  obtain ⟨j, hj, hn⟩ := idx_of h3
  obtain ⟨b, o, ea, -⟩ := ht.ne hj
  rw [ea] at A1
  have wn : wrap64 (n - 1) = (j : Int) := by unfold wrap64; omega
  have wj : IntKind.i64.wrap (j : Int) = (j : Int) := IntWalk.i64_in _ (by omega)
  have wn2 : IntKind.i64.wrap (n - 1) = (j : Int) := by rw [hn]; exact wj
  have hj' : (j : Int) < (l.length : Int) := by omega
  have OJ := okT_lab (tab_okT h1 hj)
  have HV := Lib.hid (show highV l n sl vl = !(sub2 l[j].sec sl && sub2 vl l[j].vou) by
    simp only [highV, h1, h2, h3, Bool.true_and, seesL]; rw [thAt_of hj hn, flow_ok OJ h2])
  have A4 := Lib.hid (fun y => l1Flow_any l[j].sec l[j].vou sl vl y OJ h2)
  have key : ∀ zz : Wd (KT w [(w.heap.size, 33, #[.int .i64 sl, .int .i64 vl])] s l), ∃ ss qs, At zz.w b (o + j * 8) (l[j].cs ss qs) := fun zz => by
    obtain ⟨b', o', e, h⟩ := zz.ok.2.ne hj
    rw [ea] at e
    simp only [Option.some.injEq, Addr.mk.injEq] at e
    obtain ⟨rfl, rfl, -⟩ := e
    obtain ⟨ss, qs, -, -, hA⟩ := h j hj
    exact ⟨ss, qs, hA⟩
  have s2 : ∀ zz : Wd (KT w [(w.heap.size, 33, #[.int .i64 sl, .int .i64 vl])] s l), zz.w.cell? ⟨b, o + j * 8 + 1, none⟩ = some (.int .i64 l[j].sec) := fun zz => by obtain ⟨ss, qs, h⟩ := key zz; exact h 1 _ rfl
  have v2 : ∀ zz : Wd (KT w [(w.heap.size, 33, #[.int .i64 sl, .int .i64 vl])] s l), zz.w.cell? ⟨b, o + j * 8 + 2, none⟩ = some (.int .i64 l[j].vou) := fun zz => by obtain ⟨ss, qs, h⟩ := key zz; exact h 2 _ rfl
  rw [h1] at A1
  rw [h2] at A2
  rw [h3] at A3
  clear h1 h2 h3 ht hzs key OJ hn
  rw [HV.out]
  clear HV
  generalize l[j] = z at *
  go_enter Tryd.func27, Tryd.ntmps27
  go_upto_region 1 with fail
  refine wp_region_quiet (C := fun y => ∃ zz : Wd (KT w [(w.heap.size, 33, #[.int .i64 sl, .int .i64 vl])] s l), y = zz.w) (by kernel_rfl) (by kernel_rfl) ⟨⟨_, E0.out.drew⟩, rfl⟩ ?_
  show wpQuiet _ _ _ _ [_, _, _, _, _, _, _, _, _, _, _, _, _, _, _, _, _, _, _, _, _, _, _, _] _
  repeat (first | go_big_quiet_step ((first | (go_at_call 28; exact inCls KT.stay (A1.out _)) | (go_at_call 29; exact inCls KT.stay (A2.out _)) | (go_at_call 68; exact inClsSame (A3.out _)) | (go_at_call 69; exact inCls KT.stay (A4.out _)))) | quiet_step ((first | (go_at_call 28; exact inCls KT.stay (A1.out _)) | (go_at_call 29; exact inCls KT.stay (A2.out _)) | (go_at_call 68; exact inClsSame (A3.out _)) | (go_at_call 69; exact inCls KT.stay (A4.out _)))))
  refine wpQuiet_nil ?_
  rintro _ ⟨⟨y5, D5⟩, rfl⟩
  have HD5 := Lib.hid D5
  clear ne s1 v1 s2 v2 D5
  go_wp2
  go_ret
  exact ⟨by cases sub2 z.sec sl <;> cases sub2 vl z.vou <;> rfl, HD5.out.1.1⟩

theorem specHigh_val {l : List T8} {s : Sl} {n sl vl : Int} {b : Bool} (h : highV l n sl vl = b) (w : World) (ht : HasT w s l) (hz : l.length ≤ 1048576) (hzs : ∀ i (h : i < l.length), l[i].slots.length ≤ 1048576) :
    Calls Tryd.prog 27 #[.slice s.a s.n s.c, .int .i64 n, lab sl vl] w fun e w' => e = .returned (.bool b) ∧ Below w.heap.size w w' := by
  subst h; exact specHigh_any l s n sl vl w ht hz hzs
end Go.Proofs.YtpahahonopiblaaDoor
