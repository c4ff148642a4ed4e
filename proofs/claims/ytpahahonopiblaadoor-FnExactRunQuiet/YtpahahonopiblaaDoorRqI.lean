/-
  The program's scriptOk, isLow and RunQuiet.
-/
import Derived.Test.YtpahahonopiblaaDoorRqS
import Derived.Test.YtpahahonopiblaaDoorCaO
namespace Go.Proofs.YtpahahonopiblaaDoor
open Go.RowKit
set_option linter.unusedVariables false
set_option maxRecDepth 100000

set_option maxHeartbeats 4000000 in
theorem scriptOk_any (l : List T8) (s : Sl) (q : List C5) (t : Sl) (w : World) (ht : HasT w s l) (hf : KF w) (hq : HasC w t q) (hz : l.length ≤ 1048576) (hqz : q.length ≤ 1048576) :
    Calls Tryd.prog 76 #[.slice s.a s.n s.c, .slice t.a t.n t.c] w fun e w' => e = .returned (.bool (scriptV l q)) ∧ Below w.heap.size w w' := by
  have HT := Lib.hid ht
  have HF := Lib.hid hf
  clear ht hf
  cases h1 : tabOk l
  · have H1 := Lib.hid h1
    have HV := Lib.hid (show scriptV l q = false by simp [scriptV, h1])
    clear h1 hq
    go_enter Tryd.func76, Tryd.ntmps76
    go_wp2_with fail
    refine (implTabOk_val H1.out _ HT.out HF.out hz).mono ?_
    rintro e y1 ⟨rfl, hb⟩
    have HB := Lib.hid hb
    clear hb
    go_wp2
    go_ret
    exact ⟨by rw [HV.out]; try rfl, HB.out⟩
  have H1 := Lib.hid h1
  have hsv : scriptV l q = (callsV l q && decide (q.length ≤ 40)) := by simp only [scriptV, h1, Bool.true_and]
  clear h1
  rw [hq.len]
  by_cases h40 : (40 : Int) < (q.length : Int)
  · have HV := Lib.hid (show scriptV l q = false by
      rw [hsv, show decide (q.length ≤ 40) = false by simp; omega, Bool.and_false])
    clear hsv hq
    go_enter Tryd.func76, Tryd.ntmps76
    go_wp2_with fail
    refine (implTabOk_val H1.out _ HT.out HF.out hz).mono ?_
    rintro e y1 ⟨rfl, hb⟩
    have HB := Lib.hid hb
    clear hb
    go_wp2
    go_ret
    exact ⟨by rw [HV.out]; try rfl, HB.out⟩
  have hsv2 : scriptV l q = callsV l q := by rw [hsv, show decide (q.length ≤ 40) = true by simp; omega, Bool.and_true]
  rw [hsv2]
  clear hsv hsv2
  by_cases hl : q = []
  · subst hl
    clear hq
    go_enter Tryd.func76, Tryd.ntmps76
    go_wp2_with fail
    refine (implTabOk_val H1.out _ HT.out HF.out hz).mono ?_
    rintro e y1 ⟨rfl, hb⟩
    have HB := Lib.hid hb
    clear hb
    go_wp2
    go_loop [19] (fun i => i = .int .i64 0) (fun _ => 0)
    case atStart => rfl
    case round =>
      subst hrel
      go_wp2
      go_ret
      exact ⟨rfl, HB.out⟩
  obtain ⟨b, o, ea, hall⟩ := hq.ne hl
  rw [ea]
  have HQ := Lib.hid hall
  clear hq hall ea hl
  go_enter Tryd.func76, Tryd.ntmps76
  go_wp2_with fail
  refine (implTabOk_val H1.out _ HT.out HF.out hz).mono ?_
  rintro e y1 ⟨rfl, hb⟩
  have HB0 := Lib.hid hb
  clear hb
  go_wp2
  go_loopw [19] (fun i wr => ∃ k : Nat, k ≤ q.length ∧ i = .int .i64 k ∧ Below w.heap.size w wr ∧ ∀ i (h : i < q.length), i < k → (q[i].ok && isRun l q[i].r) = true) (fun i _ => q.length - (intOf i).toNat)
  case atStart => exact ⟨0, by omega, rfl, HB0.out, fun i h h0 => absurd h0 (by omega)⟩
  case round =>
    clear HB0
    obtain ⟨k, hk, rfl, B0, G0⟩ := hrel
    have HB := Lib.hid B0
    have HG := Lib.hid G0
    clear B0 G0
    by_cases hlt : k < q.length
    · have hlt' : (k : Int) < (q.length : Int) := by omega
      have hc := (HQ.out k hlt).stay HB.out
      have c0 : wr.cell? ⟨b, o + k * 5, none⟩ = some (.int .i64 (q[k]).k) := hc 0 _ rfl
      have c1 : wr.cell? ⟨b, o + k * 5 + 1, none⟩ = some (.int .i64 (q[k]).r) := hc 1 _ rfl
      have c2 : wr.cell? ⟨b, o + k * 5 + 2, none⟩ = some (.int .i64 (q[k]).a) := hc 2 _ rfl
      have c3 : wr.cell? ⟨b, o + k * 5 + 3, none⟩ = some (.int .i64 (q[k]).b) := hc 3 _ rfl
      have c4 : wr.cell? ⟨b, o + k * 5 + 4, none⟩ = some (.int .i64 (q[k]).n) := hc 4 _ rfl
      clear hc
      have HK := Lib.hid (fun h : (q[k].ok && isRun l q[k].r) = false => (show callsV l q = false from all_no (p := fun c : C5 => c.ok && isRun l c.r) hlt h))
      obtain ⟨v1, hv1⟩ : ∃ v, (q[k].ok && isRun l q[k].r) = v := ⟨_, rfl⟩
      have HV1 := Lib.hid hv1
      have HN := Lib.hid (show v1 = true → ∀ i (h : i < q.length), i < k + 1 → (q[i].ok && isRun l q[i].r) = true from fun e1 i h hi => by
        by_cases hik : i = k
        · subst hik; rw [hv1, e1]
        · exact HG.out i h (by omega))
      clear hv1
      generalize q[k] = c at *
      obtain ⟨Y1, hY1⟩ : ∃ Y1, wr.alloc (.cells c.cs 67) = Y1 := ⟨_, rfl⟩
      have hb1 : Below wr.heap.size wr Y1 := hY1 ▸ (Below.refl _ _).alloc (Nat.le_refl _) _
      have HB1 := Lib.hid (HB.out.trans (hb1.mono HB.out.size))
      have bx : Box Y1 wr.heap.size 67 c.cs := hY1 ▸ Box.fresh _ _ _
      have d0 := bx.cell 0 _ rfl
      have d1 := bx.cell 1 _ rfl
      have d2 := bx.cell 2 _ rfl
      have d3 := bx.cell 3 _ rfl
      have d4 := bx.cell 4 _ rfl
      clear hb1 bx
      go_wp2_with fail
      refine (callerO l s c _ (HT.out.stay HB1.out) (HF.out.stay HB1.out) hz).mono ?_
      rintro e y2 ⟨z, ss, qs, b1, rfl, g1, -, hb⟩
      have HB2 := Lib.hid (HB1.out.trans (hb.mono HB1.out.size))
      have G1 := Lib.hid (show b1 = v1 by rw [g1, Bool.and_comm, ← HV1.out]; simp [H1.out])
      obtain ⟨Y3, hY3⟩ : ∃ Y3, y2.alloc (.cells (z.cs ss qs) 37) = Y3 := ⟨_, rfl⟩
      have hb3 : Below y2.heap.size y2 Y3 := hY3 ▸ (Below.refl _ _).alloc (Nat.le_refl _) _
      have HB3 := Lib.hid (HB2.out.trans (hb3.mono HB2.out.size))
      clear hb g1 hb3 c0 c1 c2 c3 c4 d0 d1 d2 d3 d4 hY1
      rw [G1.out]
      clear G1
      cases v1
      · go_wp2
        go_ret
        exact ⟨by rw [HK.out HV1.out]; try rfl, HB3.out⟩
      · go_wp2
        go_roundw
        case rel => exact ⟨k + 1, by omega, by go_num, HB3.out, HN.out (by simp)⟩
        case measure => simp [intOf]; omega
    · have hlt' : ¬ (k : Int) < (q.length : Int) := by omega
      have HA := Lib.hid (show callsV l q = true from all_yes fun i hi => HG.out i hi (by omega))
      clear HG
      go_wp2
      go_ret
      exact ⟨by rw [HA.out]; try rfl, HB.out⟩
theorem scriptOk_val {l : List T8} {s : Sl} {q : List C5} {t : Sl} {v : Bool} (h : scriptV l q = v) (w : World) (ht : HasT w s l) (hf : KF w) (hq : HasC w t q) (hz : l.length ≤ 1048576) (hqz : q.length ≤ 1048576) :
    Calls Tryd.prog 76 #[.slice s.a s.n s.c, .slice t.a t.n t.c] w fun e w' => e = .returned (.bool v) ∧ Below w.heap.size w w' := by
  subst h; exact scriptOk_any l s q t w ht hf hq hz hqz
theorem scriptOk_nil {l : List T8} {s : Sl} {a : Option Addr} {cc : Nat} (h : scriptV l [] = true) (w : World) (ht : HasT w s l) (hf : KF w) (hz : l.length ≤ 1048576) :
    Calls Tryd.prog 76 #[.slice s.a s.n s.c, .slice a 0 cc] w fun e w' => e = .returned (.bool true) ∧ Below w.heap.size w w' :=
  scriptOk_val (t := ⟨a, 0, cc⟩) h w ht hf ⟨rfl, Nat.zero_le _, .inl rfl⟩ hz (Nat.zero_le _)
set_option maxHeartbeats 4000000 in
theorem isLow_at (l : List T8) (b o cc : Nat) (c : C5) (sl vl : Int) (j : Nat) (hj : j < l.length) (hn : c.r - 1 = j) (w : World) (hT : Tb w b o l) (hz : l.length ≤ 1048576) :
    Calls Tryd.prog 77 #[.slice (some ⟨b, o, none⟩) l.length cc, .agg #[.int .i64 c.k, .int .i64 c.r, .int .i64 c.a, .int .i64 c.b, .int .i64 c.n], lab sl vl] w fun e w' => e = .returned (.bool (seesL l[j] sl vl)) ∧ Below w.heap.size w w' := by
  obtain ⟨X, hX⟩ : ∃ X, (w.alloc (.cells c.cs 67)).alloc (.cells #[.int .i64 sl, .int .i64 vl] 33) = X := ⟨_, rfl⟩
  have hb0 : Below w.heap.size w X := hX ▸ ((Below.refl _ _).alloc (Nat.le_refl _) _).alloc (by simp) _
  have k1 : Box X w.heap.size 67 c.cs := hX ▸ (Box.fresh w 67 c.cs).stay ((Below.refl _ _).alloc (Nat.le_refl _) _)
  have k2 : Box X (w.heap.size + 1) 33 #[.int .i64 sl, .int .i64 vl] := by
    have h := Box.fresh (w.alloc (.cells c.cs 67)) 33 #[.int .i64 sl, .int .i64 vl]
    rw [hX] at h
    simpa using h
  obtain ⟨ss, qs, -, -, hA⟩ := hT j hj
  have hA := hA.stay hb0
  have hj' : (j : Int) < (l.length : Int) := by omega
  have wn : wrap64 (c.r - 1) = (j : Int) := by unfold wrap64; omega
  have wj : IntKind.i64.wrap (j : Int) = (j : Int) := IntWalk.i64_in _ (by omega)
  have wn2 : IntKind.i64.wrap (c.r - 1) = (j : Int) := by rw [hn]; exact wj
  have A1 := Lib.hid (fun y => sees_any l[j] ss qs sl vl y)
  have HB0 := Lib.hid hb0
  generalize l[j] = z at *
  have e0 := fun zz : Wd (Kn X []) => stayCell (k1.cell 1 _ rfl) zz.ok.1
  have e1 := fun zz : Wd (Kn X []) => stayCell (k2.cell 0 _ rfl) zz.ok.1
  have e2 := fun zz : Wd (Kn X []) => stayCell (k2.cell 1 _ rfl) zz.ok.1
  have t0 : ∀ zz : Wd (Kn X []), zz.w.cell? ⟨b, o + j * 8, none⟩ = some (.int .i64 z.kind) := fun zz => stayCell (hA 0 _ rfl) zz.ok.1
  have t1 : ∀ zz : Wd (Kn X []), zz.w.cell? ⟨b, o + j * 8 + 1, none⟩ = some (.int .i64 z.sec) := fun zz => stayCell (hA 1 _ rfl) zz.ok.1
  have t2 : ∀ zz : Wd (Kn X []), zz.w.cell? ⟨b, o + j * 8 + 2, none⟩ = some (.int .i64 z.vou) := fun zz => stayCell (hA 2 _ rfl) zz.ok.1
  have t3 : ∀ zz : Wd (Kn X []), zz.w.cell? ⟨b, o + j * 8 + 3, none⟩ = some (.int .i64 z.vers) := fun zz => stayCell (hA 3 _ rfl) zz.ok.1
  have t4 : ∀ zz : Wd (Kn X []), zz.w.cell? ⟨b, o + j * 8 + 4, none⟩ = some (.int .i64 z.num) := fun zz => stayCell (hA 4 _ rfl) zz.ok.1
  have t5 : ∀ zz : Wd (Kn X []), zz.w.cell? ⟨b, o + j * 8 + 5, none⟩ = some (.slice ss.a ss.n ss.c) := fun zz => stayCell (hA 5 _ rfl) zz.ok.1
  have t6 : ∀ zz : Wd (Kn X []), zz.w.cell? ⟨b, o + j * 8 + 6, none⟩ = some (.slice qs.a qs.n qs.c) := fun zz => stayCell (hA 6 _ rfl) zz.ok.1
  have t7 : ∀ zz : Wd (Kn X []), zz.w.cell? ⟨b, o + j * 8 + 7, none⟩ = some (.int .i64 z.to) := fun zz => stayCell (hA 7 _ rfl) zz.ok.1
  have ne : Nonempty (Wd (Kn X [])) := ⟨⟨_, (Kn.refl (w := X)).drew⟩⟩
  clear hT hb0 k1 k2 hA hn
  go_enter Tryd.func77, Tryd.ntmps77
  go_upto_region 1 with fail
  refine wp_region_quiet (C := fun y => ∃ zz : Wd (Kn X []), y = zz.w) (by kernel_rfl) (by kernel_rfl) ⟨⟨_, (Kn.refl (w := X)).drew⟩, rfl⟩ ?_
  show wpQuiet _ _ _ _ [_, _, _, _, _, _, _, _, _] _
  repeat (first | go_big_quiet_step ((go_at_call 67; exact inCls Kn.stay (A1.out _))) | quiet_step ((go_at_call 67; exact inCls Kn.stay (A1.out _))))
  refine wpQuiet_nil ?_
  rintro _ ⟨⟨y5, D5⟩, rfl⟩
  have HD5 := Lib.hid (HB0.out.trans (D5.1.mono HB0.out.size))
  clear ne e0 e1 e2 t0 t1 t2 t3 t4 t5 t6 t7 D5
  go_wp2
  go_ret
  exact ⟨rfl, HD5.out⟩
theorem tb_at {w : World} {b o n c : Nat} {l : List T8} (h : HasT w ⟨some ⟨b, o, none⟩, n, c⟩ l) {j : Nat} (hj : j < l.length) : Tb w b o l := by
  obtain ⟨b', o', e, ht⟩ := h.ne hj
  simp only [Option.some.injEq, Addr.mk.injEq] at e
  obtain ⟨rfl, rfl, -⟩ := e
  exact ht
set_option maxHeartbeats 4000000 in
theorem implQuiet_ne (l : List T8) (b2 o2 c2 : Nat) (q : List C5) (b o cc : Nat) (sl vl : Int) (w : World) (ht : HasT w ⟨some ⟨b2, o2, none⟩, l.length, c2⟩ l) (hf : KF w) (hq : HasC w ⟨some ⟨b, o, none⟩, q.length, cc⟩ q) (hl : q ≠ []) (hz : l.length ≤ 1048576) (hqz : q.length ≤ 1048576)
    (h1 : scriptV l q = true) (h4 : okL sl vl = true) :
    Calls Tryd.prog 41 #[.slice (some ⟨b2, o2, none⟩) l.length c2, .slice (some ⟨b, o, none⟩) q.length cc, lab sl vl] w fun e w' => e = .returned (.bool (q.all (quietC l sl vl))) ∧ Below w.heap.size w w' := by
  have E0 : Hid (KT w [(w.heap.size, 33, #[.int .i64 sl, .int .i64 vl])] ⟨some ⟨b2, o2, none⟩, l.length, c2⟩ l _) := Lib.hid ⟨(Kn.refl (w := w)).new 33 #[.int .i64 sl, .int .i64 vl], ht.stay ((Below.refl _ _).alloc (Nat.le_refl _) _)⟩
  have HQ := Lib.hid hq
  have HF := Lib.hid hf
  have HS := Lib.hid h1
  have H4 := Lib.hid h4
  have HC := Lib.hid (show callsV l q = true by simp only [scriptV, Bool.and_eq_true] at h1; exact h1.2.1)
  obtain ⟨b9, o9, e9, hall⟩ := hq.ne hl
  simp only [Option.some.injEq, Addr.mk.injEq] at e9
  obtain ⟨rfl, rfl, -⟩ := e9
  have HA := Lib.hid hall
  clear hq h1 h4 ht hf hall hl
  go_enter Tryd.func41, Tryd.ntmps41
  go_wp2_with fail
  refine (scriptOk_val (s := ⟨some ⟨b2, o2, none⟩, l.length, c2⟩) (t := ⟨some ⟨b, o, none⟩, q.length, cc⟩) HS.out _ E0.out.2 (HF.out.stay E0.out.1.1) (HQ.out.stay E0.out.1.1) hz hqz).mono ?_
  rintro e y1 ⟨rfl, hb⟩
  have E1 := Lib.hid (E0.out.stay hb)
  clear hb E0
  have d0 := E1.out.1.c (b := w.heap.size) (T := 33) (vs := #[.int .i64 sl, .int .i64 vl]) (by simp) 0 _ rfl
  have d1 := E1.out.1.c (b := w.heap.size) (T := 33) (vs := #[.int .i64 sl, .int .i64 vl]) (by simp) 1 _ rfl
  go_wp2_with fail
  refine (implOk_any sl vl _).mono ?_
  rintro e y3 ⟨rfl, hb⟩
  have E3 := Lib.hid (E1.out.stay hb)
  clear hb E1 d0 d1
  rw [H4.out]
  go_wp2
  go_loopw [20] (fun i wr => ∃ k : Nat, k ≤ q.length ∧ i = .int .i64 k ∧ KT w [(w.heap.size, 33, #[.int .i64 sl, .int .i64 vl])] ⟨some ⟨b2, o2, none⟩, l.length, c2⟩ l wr ∧ ∀ i (h : i < q.length), i < k → quietC l sl vl q[i] = true) (fun i _ => q.length - (intOf i).toNat)
  case atStart => exact ⟨0, by omega, rfl, E3.out, fun i h h0 => absurd h0 (by omega)⟩
  case round =>
    clear E3
    obtain ⟨k, hk, rfl, B0, G0⟩ := hrel
    have HB := Lib.hid B0
    have HG := Lib.hid G0
    clear B0 G0
    by_cases hlt : k < q.length
    · have hlt' : (k : Int) < (q.length : Int) := by omega
      have hc := (HA.out k hlt).stay HB.out.1.1
      have c0 : wr.cell? ⟨b, o + k * 5, none⟩ = some (.int .i64 (q[k]).k) := hc 0 _ rfl
      have c1 : wr.cell? ⟨b, o + k * 5 + 1, none⟩ = some (.int .i64 (q[k]).r) := hc 1 _ rfl
      have e2 : wr.cell? ⟨b, o + k * 5 + 2, none⟩ = some (.int .i64 (q[k]).a) := hc 2 _ rfl
      have c3 : wr.cell? ⟨b, o + k * 5 + 3, none⟩ = some (.int .i64 (q[k]).b) := hc 3 _ rfl
      have c4 : wr.cell? ⟨b, o + k * 5 + 4, none⟩ = some (.int .i64 (q[k]).n) := hc 4 _ rfl
      clear hc
      have HK := Lib.hid (fun h : quietC l sl vl q[k] = false => (show q.all (quietC l sl vl) = false from all_no hlt h))
      obtain ⟨v1, hv1⟩ : ∃ v, quietC l sl vl q[k] = v := ⟨_, rfl⟩
      have HV1 := Lib.hid hv1
      have HN := Lib.hid (show v1 = true → ∀ i (h : i < q.length), i < k + 1 → quietC l sl vl q[i] = true from fun e1 i h hi => by
        by_cases hik : i = k
        · subst hik; rw [hv1, e1]
        · exact HG.out i h (by omega))
      have hrun : isRun l q[k].r = true := by
        have := all_in HC.out hlt
        simp only [Bool.and_eq_true] at this
        exact this.2
      have HRUN := Lib.hid hrun
      clear hv1 hrun
      generalize q[k] = c at *
      obtain ⟨Y1, hY1⟩ : ∃ Y1, wr.alloc (.cells c.cs 67) = Y1 := ⟨_, rfl⟩
      have hb1 : Below wr.heap.size wr Y1 := hY1 ▸ (Below.refl _ _).alloc (Nat.le_refl _) _
      have E1 := Lib.hid (HB.out.stay hb1)
      have bx : Box Y1 wr.heap.size 67 c.cs := hY1 ▸ Box.fresh _ _ _
      have d0 := bx.cell 0 _ rfl
      cases h9 : (c.k == 9)
      · have ev : v1 = true := by rw [← HV1.out]; simp [quietC, h9]
        subst ev
        clear hb1 bx
        go_wp2
        go_roundw
        case rel => exact ⟨k + 1, by omega, by go_num, E1.out, HN.out (by simp)⟩
        case measure => simp [intOf]; omega
      · have hr1 : inR c.r 1 l.length = true := by have := HRUN.out; simp only [isRun, Bool.and_eq_true] at this; exact this.1
        obtain ⟨j, hj, hn⟩ := idx_of hr1
        have HV := Lib.hid (show v1 = seesL l[j] sl vl by
          rw [← HV1.out]
          simp only [quietC, lowC, h9, Bool.true_and, Bool.not_not]
          rw [thAt_of hj hn])
        have d1 := bx.cell 1 _ rfl
        have d2 := bx.cell 2 _ rfl
        have d3 := bx.cell 3 _ rfl
        have d4 := bx.cell 4 _ rfl
        have f0 := E1.out.1.c (b := w.heap.size) (T := 33) (vs := #[.int .i64 sl, .int .i64 vl]) (by simp) 0 _ rfl
        have f1 := E1.out.1.c (b := w.heap.size) (T := 33) (vs := #[.int .i64 sl, .int .i64 vl]) (by simp) 1 _ rfl
        clear hb1 bx hr1
        go_wp2_with fail
        refine (isLow_at l b2 o2 c2 c sl vl j hj hn _ (tb_at E1.out.2 hj) hz).mono ?_
        rintro e y5 ⟨rfl, hb⟩
        have E5 := Lib.hid (E1.out.stay hb)
        rw [← HV.out]
        clear hb d0 d1 d2 d3 d4 f0 f1 c0 c1 e2 c3 c4 hn HV hY1
        cases v1
        · go_wp2
          go_ret
          exact ⟨by rw [HK.out HV1.out]; try rfl, E5.out.1.1⟩
        · go_wp2
          go_roundw
          case rel => exact ⟨k + 1, by omega, by go_num, E5.out, HN.out (by simp)⟩
          case measure => simp [intOf]; omega
    · have hlt' : ¬ (k : Int) < (q.length : Int) := by omega
      have HA := Lib.hid (show q.all (quietC l sl vl) = true from all_yes fun i hi => HG.out i hi (by omega))
      clear HG
      go_wp2
      go_ret
      exact ⟨by rw [HA.out]; try rfl, HB.out.1.1⟩
set_option maxHeartbeats 2000000 in
theorem implQuiet_any (l : List T8) (s : Sl) (q : List C5) (t : Sl) (sl vl : Int) (w : World) (ht : HasT w s l) (hf : KF w) (hq : HasC w t q) (hz : l.length ≤ 1048576) (hqz : q.length ≤ 1048576) :
    Calls Tryd.prog 41 #[.slice s.a s.n s.c, .slice t.a t.n t.c, lab sl vl] w fun e w' => e = .returned (.bool (quietV l q sl vl)) ∧ Below w.heap.size w w' := by
  have HK0 := Lib.hid ((Kn.refl (w := w)).new 33 #[.int .i64 sl, .int .i64 vl])
  have HT := Lib.hid ht
  have HQ := Lib.hid hq
  have HF := Lib.hid hf
  clear hf
  cases h1 : scriptV l q
  · have HS := Lib.hid h1
    have HV := Lib.hid (show quietV l q sl vl = false by simp [quietV, h1])
    clear h1 ht hq
    go_enter Tryd.func41, Tryd.ntmps41
    go_wp2_with fail
    refine (scriptOk_val HS.out _ (HT.out.stay HK0.out.1) (HF.out.stay HK0.out.1) (HQ.out.stay HK0.out.1) hz hqz).mono ?_
    rintro e y1 ⟨rfl, hb⟩
    have HK1 := Lib.hid (HK0.out.stay hb)
    clear hb
    go_wp2
    go_ret
    exact ⟨by rw [HV.out]; try rfl, HK1.out.1⟩
  cases h4 : okL sl vl
  · have HS := Lib.hid h1
    have H4 := Lib.hid h4
    have HV := Lib.hid (show quietV l q sl vl = false by simp [quietV, h4])
    clear h1 h4 ht hq
    go_enter Tryd.func41, Tryd.ntmps41
    go_wp2_with fail
    refine (scriptOk_val HS.out _ (HT.out.stay HK0.out.1) (HF.out.stay HK0.out.1) (HQ.out.stay HK0.out.1) hz hqz).mono ?_
    rintro e y1 ⟨rfl, hb⟩
    have HK1 := Lib.hid (HK0.out.stay hb)
    clear hb
    have d0 := HK1.out.c (b := w.heap.size) (T := 33) (vs := #[.int .i64 sl, .int .i64 vl]) (by simp) 0 _ rfl
    have d1 := HK1.out.c (b := w.heap.size) (T := 33) (vs := #[.int .i64 sl, .int .i64 vl]) (by simp) 1 _ rfl
    go_wp2_with fail
    refine (implOk_any sl vl _).mono ?_
    rintro e y3 ⟨rfl, hb⟩
    have HK3 := Lib.hid (HK1.out.stay hb)
    clear hb d0 d1
    rw [H4.out]
    go_wp2
    go_ret
    exact ⟨by rw [HV.out]; try rfl, HK3.out.1⟩
  have hv : quietV l q sl vl = q.all (quietC l sl vl) := by simp only [quietV, h1, h4, Bool.true_and]
  have htab : tabOk l = true := by simp only [scriptV, Bool.and_eq_true] at h1; exact h1.1
  have hlen := tab_len htab
  obtain ⟨b2, o2, ea, hTb⟩ := ht.ne (j := 0) (by omega)
  obtain ⟨sa, sn, c2⟩ := s
  have sn' := ht.1
  dsimp only at ea sn'
  subst ea sn'
  by_cases hl : q = []
  · subst hl
    rw [hv, hq.len]
    have E0 : Hid (KT w [(w.heap.size, 33, #[.int .i64 sl, .int .i64 vl])] ⟨some ⟨b2, o2, none⟩, l.length, c2⟩ l _) := Lib.hid ⟨(Kn.refl (w := w)).new 33 #[.int .i64 sl, .int .i64 vl], ht.stay ((Below.refl _ _).alloc (Nat.le_refl _) _)⟩
    have HS := Lib.hid h1
    have H4 := Lib.hid h4
    clear h1 h4 ht hq hv htab hTb HK0
    dsimp only [List.length_nil]
    go_enter Tryd.func41, Tryd.ntmps41
    go_wp2_with fail
    refine ((scriptOk_nil (s := ⟨some ⟨b2, o2, none⟩, l.length, c2⟩) (a := t.a) (cc := t.c) HS.out _ E0.out.2 (HF.out.stay E0.out.1.1) hz)).mono ?_
    rintro e y1 ⟨rfl, hb⟩
    have E1 := Lib.hid (E0.out.stay hb)
    clear hb E0
    have d0 := E1.out.1.c (b := w.heap.size) (T := 33) (vs := #[.int .i64 sl, .int .i64 vl]) (by simp) 0 _ rfl
    have d1 := E1.out.1.c (b := w.heap.size) (T := 33) (vs := #[.int .i64 sl, .int .i64 vl]) (by simp) 1 _ rfl
    go_wp2_with fail
    refine (implOk_any sl vl _).mono ?_
    rintro e y3 ⟨rfl, hb⟩
    have E3 := Lib.hid (E1.out.stay hb)
    clear hb E1 d0 d1
    rw [H4.out]
    go_wp2
    go_loop [20] (fun i => i = .int .i64 0) (fun _ => 0)
    case atStart => rfl
    case round =>
      subst hrel
      go_wp2
      go_ret
      exact ⟨rfl, E3.out.1.1⟩
  · obtain ⟨b, o, eb, hall⟩ := hq.ne hl
    obtain ⟨ta, tn, cc⟩ := t
    have tn' := hq.len
    dsimp only at eb tn'
    subst eb tn'
    rw [hv]
    exact implQuiet_ne l b2 o2 c2 q b o cc sl vl w ht HF.out hq hl hz hqz h1 h4
end Go.Proofs.YtpahahonopiblaaDoor
