/-
  The walk of laws.FnThingForm.
-/
import Derived.Test.YtnfalnmidddkjaaDoorDrawTO
import Derived.Test.YtnfalnmidddkjaaDoorThgI
namespace Go.Proofs.YtnfalnmidddkjaaDoor
open Go.RowKit
set_option maxRecDepth 100000
set_option linter.unusedVariables false

theorem form_kind (x : T8) : okT ({ x with kind := 6 } : T8) = false := by simp [okT, okT1, inR]
theorem form_versT (x : T8) : okT ({ x with vers := 6 } : T8) = false := by simp [okT, okT1, inR]
theorem form_queue {x : T8} (h : okT x = true) : (x.kind == 4 || (x.queue.length : Int) == 0) = true := by
  simp only [okT, okT4, Bool.and_eq_true] at h
  exact h.2.2.2.2.2.1
theorem form_to {x : T8} (h : okT x = true) : (x.kind == 5) = decide (0 < x.to) := by
  simp only [okT, okT4, Bool.and_eq_true] at h
  have h5 := h.2.2.2.2.2.2
  by_cases hk : x.kind = 5
  · rw [hk] at h5 ⊢
    simp [inR] at h5
    simp; omega
  · simp [hk] at h5
    rw [h5]; simp [hk]
theorem specTOk_val {x : T8} {s q : Sl} {v : Bool} (h : okT x = v) (w : World) (hs : HasR w s x.slots) (hq : HasQ w q x.queue) (hz : x.slots.length ≤ 1048576) :
    Calls Tryd.prog 21 #[x.val s q] w fun e w' => e = .returned (.bool v) ∧ Below w.heap.size w w' := by
  subst h; exact specTOk_any x s q w hs hq hz

set_option maxHeartbeats 8000000 in
theorem walk_FnThingForm (a0 : Option Addr) (len0 cap0 : Nat) (z0 : List Int) (w : World) (hKF : KF w) (w0 : IsRow .u8 w a0 len0 cap0 z0) :
    Calls Tryd.prog 4 #[.slice a0 len0 cap0] w fun e w' => e = .returned (.bool true) ∧ Below w.heap.size w w' := by
  by_cases g0 : (1048576 : Int) < (len0 : Int)
  · go_enter Tryd.func4, Tryd.ntmps4
    go_wp2
    go_ret
    exact ⟨rfl, Below.refl _ _⟩
  have W0 := Lib.hid w0
  have HF := Lib.hid hKF
  clear w0 hKF
  go_enter Tryd.func4, Tryd.ntmps4
  go_wp2_with fail
  refine (drawTOk_any a0 len0 cap0 z0 _ W0.out).mono ?_
  rintro e y0 ⟨x, s, q, rfl, hR, hQ, hsl, hql, hb⟩
  have hal : Below y0.heap.size y0 (y0.alloc (.cells (x.cs s q) 30)) := (Below.refl _ _).alloc (Nat.le_refl _) _
  have K0 := Lib.hid ((Kn.start hb).new 30 (x.cs s q))
  have R0 := Lib.hid (hR.stay hal)
  have Q0 := Lib.hid (hQ.stay hal)
  have HZ := Lib.hid (Nat.le_trans hsl (show 4 ≤ 1048576 by decide))
  clear W0 hb hR hQ hal hsl hql
  obtain ⟨g, hg⟩ : ∃ g, okT x = g := ⟨_, rfl⟩
  have HG := Lib.hid hg
  clear hg
  go_wp2_with fail
  refine (implTOk_val HG.out _ R0.out Q0.out (HF.out.stay K0.out.1)).mono ?_
  rintro e y1 ⟨rfl, hb⟩
  have K1 := Lib.hid (K0.out.stay hb)
  have R1 := Lib.hid (R0.out.stay hb)
  have Q1 := Lib.hid (Q0.out.stay hb)
  clear hb K0 R0 Q0
  have c0 := K1.out.c (b := y0.heap.size) (T := 30) (vs := x.cs s q) (by simp) 0 _ rfl
  have c1 := K1.out.c (b := y0.heap.size) (T := 30) (vs := x.cs s q) (by simp) 1 _ rfl
  have c2 := K1.out.c (b := y0.heap.size) (T := 30) (vs := x.cs s q) (by simp) 2 _ rfl
  have c3 := K1.out.c (b := y0.heap.size) (T := 30) (vs := x.cs s q) (by simp) 3 _ rfl
  have c4 := K1.out.c (b := y0.heap.size) (T := 30) (vs := x.cs s q) (by simp) 4 _ rfl
  have c5 := K1.out.c (b := y0.heap.size) (T := 30) (vs := x.cs s q) (by simp) 5 _ rfl
  have c6 := K1.out.c (b := y0.heap.size) (T := 30) (vs := x.cs s q) (by simp) 6 _ rfl
  have c7 := K1.out.c (b := y0.heap.size) (T := 30) (vs := x.cs s q) (by simp) 7 _ rfl
  go_wp2_with fail
  refine (specTOk_val HG.out _ R1.out Q1.out HZ.out).mono ?_
  rintro e y2 ⟨rfl, hb⟩
  have K2 := Lib.hid (K1.out.stay hb)
  have R2 := Lib.hid (R1.out.stay hb)
  have Q2 := Lib.hid (Q1.out.stay hb)
  clear hb K1 R1 Q1 c0 c1 c2 c3 c4 c5 c6 c7
  have c0 := K2.out.c (b := y0.heap.size) (T := 30) (vs := x.cs s q) (by simp) 0 _ rfl
  have c1 := K2.out.c (b := y0.heap.size) (T := 30) (vs := x.cs s q) (by simp) 1 _ rfl
  have c2 := K2.out.c (b := y0.heap.size) (T := 30) (vs := x.cs s q) (by simp) 2 _ rfl
  have c3 := K2.out.c (b := y0.heap.size) (T := 30) (vs := x.cs s q) (by simp) 3 _ rfl
  have c4 := K2.out.c (b := y0.heap.size) (T := 30) (vs := x.cs s q) (by simp) 4 _ rfl
  have c5 := K2.out.c (b := y0.heap.size) (T := 30) (vs := x.cs s q) (by simp) 5 _ rfl
  have c6 := K2.out.c (b := y0.heap.size) (T := 30) (vs := x.cs s q) (by simp) 6 _ rfl
  have c7 := K2.out.c (b := y0.heap.size) (T := 30) (vs := x.cs s q) (by simp) 7 _ rfl
  cases g
  · go_wp2_with fail
    refine (specTOk_val HG.out _ R2.out Q2.out HZ.out).mono ?_
    rintro e y3 ⟨rfl, hb⟩
    have K3 := Lib.hid (K2.out.stay hb)
    clear hb
    go_wp2
    go_ret
    exact ⟨rfl, K3.out.1⟩
  have n2 := form_queue HG.out
  have n3 := form_to HG.out
  have n4 := okT_kind HG.out
  have n5 := R2.out.len
  have n6 := Q2.out.len
  have n7 := okT_slots HG.out
  clear c0 c1 c2 c3 c4 c5 c6 c7
  obtain ⟨xk, xs, xv, xr, xn, sl, qu, xt⟩ := x
  obtain ⟨sa, sn, sc⟩ := s
  obtain ⟨qa, qn, qc⟩ := q
  simp only at n2 n3 n4 n5 n6 n7
  have hlen : sn = if hasS xk then 4 else 0 := by
    have h3 := HG.out
    simp only [okT, okT3, Bool.and_eq_true] at h3
    have h4 := h3.2.2.2.2.1
    split at h4
    · rename_i hh
      have : (sl.length : Int) = 4 := by simpa using h4
      rw [if_pos hh]; omega
    · rename_i hh
      have : (sl.length : Int) = 0 := by simpa using h4
      rw [if_neg hh]; omega
  have hto : xk ≠ 5 → xt = 0 := fun h => by
    have h3 := HG.out
    simp only [okT, okT4, Bool.and_eq_true] at h3
    have h4 := h3.2.2.2.2.2.2
    simp [h] at h4
    exact h4
  have hkk : xk = 1 ∨ xk = 2 ∨ xk = 3 ∨ xk = 4 ∨ xk = 5 := by omega
  clear n7 n4
  rcases hkk with rfl | rfl | rfl | rfl | rfl
  · obtain rfl : sn = 0 := hlen
    obtain rfl : xt = 0 := hto (by decide)
    obtain rfl : qn = 0 := by simp at n2; rw [n6, n2]; rfl
    clear hto n2 n3 n5 n6
    have c0 : y2.cell? ⟨y0.heap.size, 0, none⟩ = some (.int .i64 1) := K2.out.c (b := y0.heap.size) (T := 30) (vs := (⟨1, xs, xv, xr, xn, sl, qu, 0⟩ : T8).cs ⟨sa, 0, sc⟩ ⟨qa, 0, qc⟩) (by simp) 0 _ rfl
    have c1 : y2.cell? ⟨y0.heap.size, 1, none⟩ = some (.int .i64 xs) := K2.out.c (b := y0.heap.size) (T := 30) (vs := (⟨1, xs, xv, xr, xn, sl, qu, 0⟩ : T8).cs ⟨sa, 0, sc⟩ ⟨qa, 0, qc⟩) (by simp) 1 _ rfl
    have c2 : y2.cell? ⟨y0.heap.size, 2, none⟩ = some (.int .i64 xv) := K2.out.c (b := y0.heap.size) (T := 30) (vs := (⟨1, xs, xv, xr, xn, sl, qu, 0⟩ : T8).cs ⟨sa, 0, sc⟩ ⟨qa, 0, qc⟩) (by simp) 2 _ rfl
    have c3 : y2.cell? ⟨y0.heap.size, 3, none⟩ = some (.int .i64 xr) := K2.out.c (b := y0.heap.size) (T := 30) (vs := (⟨1, xs, xv, xr, xn, sl, qu, 0⟩ : T8).cs ⟨sa, 0, sc⟩ ⟨qa, 0, qc⟩) (by simp) 3 _ rfl
    have c4 : y2.cell? ⟨y0.heap.size, 4, none⟩ = some (.int .i64 xn) := K2.out.c (b := y0.heap.size) (T := 30) (vs := (⟨1, xs, xv, xr, xn, sl, qu, 0⟩ : T8).cs ⟨sa, 0, sc⟩ ⟨qa, 0, qc⟩) (by simp) 4 _ rfl
    have c5 : y2.cell? ⟨y0.heap.size, 5, none⟩ = some (.slice sa 0 sc) := K2.out.c (b := y0.heap.size) (T := 30) (vs := (⟨1, xs, xv, xr, xn, sl, qu, 0⟩ : T8).cs ⟨sa, 0, sc⟩ ⟨qa, 0, qc⟩) (by simp) 5 _ rfl
    have c6 : y2.cell? ⟨y0.heap.size, 6, none⟩ = some (.slice qa 0 qc) := K2.out.c (b := y0.heap.size) (T := 30) (vs := (⟨1, xs, xv, xr, xn, sl, qu, 0⟩ : T8).cs ⟨sa, 0, sc⟩ ⟨qa, 0, qc⟩) (by simp) 6 _ rfl
    have c7 : y2.cell? ⟨y0.heap.size, 7, none⟩ = some (.int .i64 0) := K2.out.c (b := y0.heap.size) (T := 30) (vs := (⟨1, xs, xv, xr, xn, sl, qu, 0⟩ : T8).cs ⟨sa, 0, sc⟩ ⟨qa, 0, qc⟩) (by simp) 7 _ rfl
    have hblt := (K2.out.box (b := y0.heap.size) (T := 30) (vs := (⟨1, xs, xv, xr, xn, sl, qu, 0⟩ : T8).cs ⟨sa, 0, sc⟩ ⟨qa, 0, qc⟩) (by simp)).lt
    have E0 : Hid (Kn w [(y2.heap.size + 1, 30, (⟨1, xs, xv, 6, xn, sl, qu, 0⟩ : T8).cs ⟨sa, 0, sc⟩ ⟨qa, 0, qc⟩), (y2.heap.size, 30, (⟨6, xs, xv, xr, xn, sl, qu, 0⟩ : T8).cs ⟨sa, 0, sc⟩ ⟨qa, 0, qc⟩), (y0.heap.size, 30, (⟨1, xs, xv, xr, xn, sl, qu, 0⟩ : T8).cs ⟨sa, 0, sc⟩ ⟨qa, 0, qc⟩)] ((y2.alloc (.cells ((⟨6, xs, xv, xr, xn, sl, qu, 0⟩ : T8).cs ⟨sa, 0, sc⟩ ⟨qa, 0, qc⟩) 30)).alloc (.cells ((⟨1, xs, xv, 6, xn, sl, qu, 0⟩ : T8).cs ⟨sa, 0, sc⟩ ⟨qa, 0, qc⟩) 30))) := Lib.hid <| by
      have k := (K2.out.new 30 ((⟨6, xs, xv, xr, xn, sl, qu, 0⟩ : T8).cs ⟨sa, 0, sc⟩ ⟨qa, 0, qc⟩)).new 30 ((⟨1, xs, xv, 6, xn, sl, qu, 0⟩ : T8).cs ⟨sa, 0, sc⟩ ⟨qa, 0, qc⟩)
      rw [show (y2.alloc (.cells ((⟨6, xs, xv, xr, xn, sl, qu, 0⟩ : T8).cs ⟨sa, 0, sc⟩ ⟨qa, 0, qc⟩) 30)).heap.size = y2.heap.size + 1 by simp] at k
      exact k
    have al : Below y2.heap.size y2 ((y2.alloc (.cells ((⟨6, xs, xv, xr, xn, sl, qu, 0⟩ : T8).cs ⟨sa, 0, sc⟩ ⟨qa, 0, qc⟩) 30)).alloc (.cells ((⟨1, xs, xv, 6, xn, sl, qu, 0⟩ : T8).cs ⟨sa, 0, sc⟩ ⟨qa, 0, qc⟩) 30)) := ((Below.refl _ _).alloc (Nat.le_refl _) _).alloc (by simp) _
    have R3 := Lib.hid (show HasR _ ⟨sa, 0, sc⟩ sl from R2.out.stay al)
    have Q3 := Lib.hid (show HasQ _ ⟨qa, 0, qc⟩ qu from Q2.out.stay al)
    have HA := Lib.hid (show okT (⟨6, xs, xv, xr, xn, sl, qu, 0⟩ : T8) = false by simp [okT, okT1, inR])
    have HB := Lib.hid (show okT (⟨1, xs, xv, 6, xn, sl, qu, 0⟩ : T8) = false by simp [okT, okT1, inR])
    clear al K2 R2 Q2
    go_wp2_with fail
    refine (implTOk_val (x := (⟨6, xs, xv, xr, xn, sl, qu, 0⟩ : T8)) HA.out _ R3.out Q3.out (HF.out.stay E0.out.1)).mono ?_
    rintro e y3 ⟨rfl, hb⟩
    have E1 := Lib.hid (E0.out.stay hb)
    have R4 := Lib.hid (R3.out.stay hb)
    have Q4 := Lib.hid (Q3.out.stay hb)
    clear hb E0 R3 Q3 c0 c1 c2 c3 c4 c5 c6 c7
    have d0 := E1.out.c (b := y2.heap.size + 1) (T := 30) (vs := (⟨1, xs, xv, 6, xn, sl, qu, 0⟩ : T8).cs ⟨sa, 0, sc⟩ ⟨qa, 0, qc⟩) (by simp) 0 _ rfl
    have d1 := E1.out.c (b := y2.heap.size + 1) (T := 30) (vs := (⟨1, xs, xv, 6, xn, sl, qu, 0⟩ : T8).cs ⟨sa, 0, sc⟩ ⟨qa, 0, qc⟩) (by simp) 1 _ rfl
    have d2 := E1.out.c (b := y2.heap.size + 1) (T := 30) (vs := (⟨1, xs, xv, 6, xn, sl, qu, 0⟩ : T8).cs ⟨sa, 0, sc⟩ ⟨qa, 0, qc⟩) (by simp) 2 _ rfl
    have d3 := E1.out.c (b := y2.heap.size + 1) (T := 30) (vs := (⟨1, xs, xv, 6, xn, sl, qu, 0⟩ : T8).cs ⟨sa, 0, sc⟩ ⟨qa, 0, qc⟩) (by simp) 3 _ rfl
    have d4 := E1.out.c (b := y2.heap.size + 1) (T := 30) (vs := (⟨1, xs, xv, 6, xn, sl, qu, 0⟩ : T8).cs ⟨sa, 0, sc⟩ ⟨qa, 0, qc⟩) (by simp) 4 _ rfl
    have d5 := E1.out.c (b := y2.heap.size + 1) (T := 30) (vs := (⟨1, xs, xv, 6, xn, sl, qu, 0⟩ : T8).cs ⟨sa, 0, sc⟩ ⟨qa, 0, qc⟩) (by simp) 5 _ rfl
    have d6 := E1.out.c (b := y2.heap.size + 1) (T := 30) (vs := (⟨1, xs, xv, 6, xn, sl, qu, 0⟩ : T8).cs ⟨sa, 0, sc⟩ ⟨qa, 0, qc⟩) (by simp) 6 _ rfl
    have d7 := E1.out.c (b := y2.heap.size + 1) (T := 30) (vs := (⟨1, xs, xv, 6, xn, sl, qu, 0⟩ : T8).cs ⟨sa, 0, sc⟩ ⟨qa, 0, qc⟩) (by simp) 7 _ rfl
    go_wp2_with fail
    refine (implTOk_val (x := (⟨1, xs, xv, 6, xn, sl, qu, 0⟩ : T8)) HB.out _ R4.out Q4.out (HF.out.stay E1.out.1)).mono ?_
    rintro e y4 ⟨rfl, hb⟩
    have E2 := Lib.hid (E1.out.stay hb)
    clear hb E1
    go_wp2
    go_ret
    exact ⟨rfl, E2.out.1⟩
  · obtain rfl : sn = 4 := hlen
    obtain rfl : xt = 0 := hto (by decide)
    obtain rfl : qn = 0 := by simp at n2; rw [n6, n2]; rfl
    clear hto n2 n3 n5 n6
    have c0 : y2.cell? ⟨y0.heap.size, 0, none⟩ = some (.int .i64 2) := K2.out.c (b := y0.heap.size) (T := 30) (vs := (⟨2, xs, xv, xr, xn, sl, qu, 0⟩ : T8).cs ⟨sa, 4, sc⟩ ⟨qa, 0, qc⟩) (by simp) 0 _ rfl
    have c1 : y2.cell? ⟨y0.heap.size, 1, none⟩ = some (.int .i64 xs) := K2.out.c (b := y0.heap.size) (T := 30) (vs := (⟨2, xs, xv, xr, xn, sl, qu, 0⟩ : T8).cs ⟨sa, 4, sc⟩ ⟨qa, 0, qc⟩) (by simp) 1 _ rfl
    have c2 : y2.cell? ⟨y0.heap.size, 2, none⟩ = some (.int .i64 xv) := K2.out.c (b := y0.heap.size) (T := 30) (vs := (⟨2, xs, xv, xr, xn, sl, qu, 0⟩ : T8).cs ⟨sa, 4, sc⟩ ⟨qa, 0, qc⟩) (by simp) 2 _ rfl
    have c3 : y2.cell? ⟨y0.heap.size, 3, none⟩ = some (.int .i64 xr) := K2.out.c (b := y0.heap.size) (T := 30) (vs := (⟨2, xs, xv, xr, xn, sl, qu, 0⟩ : T8).cs ⟨sa, 4, sc⟩ ⟨qa, 0, qc⟩) (by simp) 3 _ rfl
    have c4 : y2.cell? ⟨y0.heap.size, 4, none⟩ = some (.int .i64 xn) := K2.out.c (b := y0.heap.size) (T := 30) (vs := (⟨2, xs, xv, xr, xn, sl, qu, 0⟩ : T8).cs ⟨sa, 4, sc⟩ ⟨qa, 0, qc⟩) (by simp) 4 _ rfl
    have c5 : y2.cell? ⟨y0.heap.size, 5, none⟩ = some (.slice sa 4 sc) := K2.out.c (b := y0.heap.size) (T := 30) (vs := (⟨2, xs, xv, xr, xn, sl, qu, 0⟩ : T8).cs ⟨sa, 4, sc⟩ ⟨qa, 0, qc⟩) (by simp) 5 _ rfl
    have c6 : y2.cell? ⟨y0.heap.size, 6, none⟩ = some (.slice qa 0 qc) := K2.out.c (b := y0.heap.size) (T := 30) (vs := (⟨2, xs, xv, xr, xn, sl, qu, 0⟩ : T8).cs ⟨sa, 4, sc⟩ ⟨qa, 0, qc⟩) (by simp) 6 _ rfl
    have c7 : y2.cell? ⟨y0.heap.size, 7, none⟩ = some (.int .i64 0) := K2.out.c (b := y0.heap.size) (T := 30) (vs := (⟨2, xs, xv, xr, xn, sl, qu, 0⟩ : T8).cs ⟨sa, 4, sc⟩ ⟨qa, 0, qc⟩) (by simp) 7 _ rfl
    have hblt := (K2.out.box (b := y0.heap.size) (T := 30) (vs := (⟨2, xs, xv, xr, xn, sl, qu, 0⟩ : T8).cs ⟨sa, 4, sc⟩ ⟨qa, 0, qc⟩) (by simp)).lt
    have E0 : Hid (Kn w [(y2.heap.size + 1, 30, (⟨2, xs, xv, 6, xn, sl, qu, 0⟩ : T8).cs ⟨sa, 4, sc⟩ ⟨qa, 0, qc⟩), (y2.heap.size, 30, (⟨6, xs, xv, xr, xn, sl, qu, 0⟩ : T8).cs ⟨sa, 4, sc⟩ ⟨qa, 0, qc⟩), (y0.heap.size, 30, (⟨2, xs, xv, xr, xn, sl, qu, 0⟩ : T8).cs ⟨sa, 4, sc⟩ ⟨qa, 0, qc⟩)] ((y2.alloc (.cells ((⟨6, xs, xv, xr, xn, sl, qu, 0⟩ : T8).cs ⟨sa, 4, sc⟩ ⟨qa, 0, qc⟩) 30)).alloc (.cells ((⟨2, xs, xv, 6, xn, sl, qu, 0⟩ : T8).cs ⟨sa, 4, sc⟩ ⟨qa, 0, qc⟩) 30))) := Lib.hid <| by
      have k := (K2.out.new 30 ((⟨6, xs, xv, xr, xn, sl, qu, 0⟩ : T8).cs ⟨sa, 4, sc⟩ ⟨qa, 0, qc⟩)).new 30 ((⟨2, xs, xv, 6, xn, sl, qu, 0⟩ : T8).cs ⟨sa, 4, sc⟩ ⟨qa, 0, qc⟩)
      rw [show (y2.alloc (.cells ((⟨6, xs, xv, xr, xn, sl, qu, 0⟩ : T8).cs ⟨sa, 4, sc⟩ ⟨qa, 0, qc⟩) 30)).heap.size = y2.heap.size + 1 by simp] at k
      exact k
    have al : Below y2.heap.size y2 ((y2.alloc (.cells ((⟨6, xs, xv, xr, xn, sl, qu, 0⟩ : T8).cs ⟨sa, 4, sc⟩ ⟨qa, 0, qc⟩) 30)).alloc (.cells ((⟨2, xs, xv, 6, xn, sl, qu, 0⟩ : T8).cs ⟨sa, 4, sc⟩ ⟨qa, 0, qc⟩) 30)) := ((Below.refl _ _).alloc (Nat.le_refl _) _).alloc (by simp) _
    have R3 := Lib.hid (show HasR _ ⟨sa, 4, sc⟩ sl from R2.out.stay al)
    have Q3 := Lib.hid (show HasQ _ ⟨qa, 0, qc⟩ qu from Q2.out.stay al)
    have HA := Lib.hid (show okT (⟨6, xs, xv, xr, xn, sl, qu, 0⟩ : T8) = false by simp [okT, okT1, inR])
    have HB := Lib.hid (show okT (⟨2, xs, xv, 6, xn, sl, qu, 0⟩ : T8) = false by simp [okT, okT1, inR])
    clear al K2 R2 Q2
    go_wp2_with fail
    refine (implTOk_val (x := (⟨6, xs, xv, xr, xn, sl, qu, 0⟩ : T8)) HA.out _ R3.out Q3.out (HF.out.stay E0.out.1)).mono ?_
    rintro e y3 ⟨rfl, hb⟩
    have E1 := Lib.hid (E0.out.stay hb)
    have R4 := Lib.hid (R3.out.stay hb)
    have Q4 := Lib.hid (Q3.out.stay hb)
    clear hb E0 R3 Q3 c0 c1 c2 c3 c4 c5 c6 c7
    have d0 := E1.out.c (b := y2.heap.size + 1) (T := 30) (vs := (⟨2, xs, xv, 6, xn, sl, qu, 0⟩ : T8).cs ⟨sa, 4, sc⟩ ⟨qa, 0, qc⟩) (by simp) 0 _ rfl
    have d1 := E1.out.c (b := y2.heap.size + 1) (T := 30) (vs := (⟨2, xs, xv, 6, xn, sl, qu, 0⟩ : T8).cs ⟨sa, 4, sc⟩ ⟨qa, 0, qc⟩) (by simp) 1 _ rfl
    have d2 := E1.out.c (b := y2.heap.size + 1) (T := 30) (vs := (⟨2, xs, xv, 6, xn, sl, qu, 0⟩ : T8).cs ⟨sa, 4, sc⟩ ⟨qa, 0, qc⟩) (by simp) 2 _ rfl
    have d3 := E1.out.c (b := y2.heap.size + 1) (T := 30) (vs := (⟨2, xs, xv, 6, xn, sl, qu, 0⟩ : T8).cs ⟨sa, 4, sc⟩ ⟨qa, 0, qc⟩) (by simp) 3 _ rfl
    have d4 := E1.out.c (b := y2.heap.size + 1) (T := 30) (vs := (⟨2, xs, xv, 6, xn, sl, qu, 0⟩ : T8).cs ⟨sa, 4, sc⟩ ⟨qa, 0, qc⟩) (by simp) 4 _ rfl
    have d5 := E1.out.c (b := y2.heap.size + 1) (T := 30) (vs := (⟨2, xs, xv, 6, xn, sl, qu, 0⟩ : T8).cs ⟨sa, 4, sc⟩ ⟨qa, 0, qc⟩) (by simp) 5 _ rfl
    have d6 := E1.out.c (b := y2.heap.size + 1) (T := 30) (vs := (⟨2, xs, xv, 6, xn, sl, qu, 0⟩ : T8).cs ⟨sa, 4, sc⟩ ⟨qa, 0, qc⟩) (by simp) 6 _ rfl
    have d7 := E1.out.c (b := y2.heap.size + 1) (T := 30) (vs := (⟨2, xs, xv, 6, xn, sl, qu, 0⟩ : T8).cs ⟨sa, 4, sc⟩ ⟨qa, 0, qc⟩) (by simp) 7 _ rfl
    go_wp2_with fail
    refine (implTOk_val (x := (⟨2, xs, xv, 6, xn, sl, qu, 0⟩ : T8)) HB.out _ R4.out Q4.out (HF.out.stay E1.out.1)).mono ?_
    rintro e y4 ⟨rfl, hb⟩
    have E2 := Lib.hid (E1.out.stay hb)
    clear hb E1
    go_wp2
    go_ret
    exact ⟨rfl, E2.out.1⟩
  · obtain rfl : sn = 4 := hlen
    obtain rfl : xt = 0 := hto (by decide)
    obtain rfl : qn = 0 := by simp at n2; rw [n6, n2]; rfl
    clear hto n2 n3 n5 n6
    have c0 : y2.cell? ⟨y0.heap.size, 0, none⟩ = some (.int .i64 3) := K2.out.c (b := y0.heap.size) (T := 30) (vs := (⟨3, xs, xv, xr, xn, sl, qu, 0⟩ : T8).cs ⟨sa, 4, sc⟩ ⟨qa, 0, qc⟩) (by simp) 0 _ rfl
    have c1 : y2.cell? ⟨y0.heap.size, 1, none⟩ = some (.int .i64 xs) := K2.out.c (b := y0.heap.size) (T := 30) (vs := (⟨3, xs, xv, xr, xn, sl, qu, 0⟩ : T8).cs ⟨sa, 4, sc⟩ ⟨qa, 0, qc⟩) (by simp) 1 _ rfl
    have c2 : y2.cell? ⟨y0.heap.size, 2, none⟩ = some (.int .i64 xv) := K2.out.c (b := y0.heap.size) (T := 30) (vs := (⟨3, xs, xv, xr, xn, sl, qu, 0⟩ : T8).cs ⟨sa, 4, sc⟩ ⟨qa, 0, qc⟩) (by simp) 2 _ rfl
    have c3 : y2.cell? ⟨y0.heap.size, 3, none⟩ = some (.int .i64 xr) := K2.out.c (b := y0.heap.size) (T := 30) (vs := (⟨3, xs, xv, xr, xn, sl, qu, 0⟩ : T8).cs ⟨sa, 4, sc⟩ ⟨qa, 0, qc⟩) (by simp) 3 _ rfl
    have c4 : y2.cell? ⟨y0.heap.size, 4, none⟩ = some (.int .i64 xn) := K2.out.c (b := y0.heap.size) (T := 30) (vs := (⟨3, xs, xv, xr, xn, sl, qu, 0⟩ : T8).cs ⟨sa, 4, sc⟩ ⟨qa, 0, qc⟩) (by simp) 4 _ rfl
    have c5 : y2.cell? ⟨y0.heap.size, 5, none⟩ = some (.slice sa 4 sc) := K2.out.c (b := y0.heap.size) (T := 30) (vs := (⟨3, xs, xv, xr, xn, sl, qu, 0⟩ : T8).cs ⟨sa, 4, sc⟩ ⟨qa, 0, qc⟩) (by simp) 5 _ rfl
    have c6 : y2.cell? ⟨y0.heap.size, 6, none⟩ = some (.slice qa 0 qc) := K2.out.c (b := y0.heap.size) (T := 30) (vs := (⟨3, xs, xv, xr, xn, sl, qu, 0⟩ : T8).cs ⟨sa, 4, sc⟩ ⟨qa, 0, qc⟩) (by simp) 6 _ rfl
    have c7 : y2.cell? ⟨y0.heap.size, 7, none⟩ = some (.int .i64 0) := K2.out.c (b := y0.heap.size) (T := 30) (vs := (⟨3, xs, xv, xr, xn, sl, qu, 0⟩ : T8).cs ⟨sa, 4, sc⟩ ⟨qa, 0, qc⟩) (by simp) 7 _ rfl
    have hblt := (K2.out.box (b := y0.heap.size) (T := 30) (vs := (⟨3, xs, xv, xr, xn, sl, qu, 0⟩ : T8).cs ⟨sa, 4, sc⟩ ⟨qa, 0, qc⟩) (by simp)).lt
    have E0 : Hid (Kn w [(y2.heap.size + 1, 30, (⟨3, xs, xv, 6, xn, sl, qu, 0⟩ : T8).cs ⟨sa, 4, sc⟩ ⟨qa, 0, qc⟩), (y2.heap.size, 30, (⟨6, xs, xv, xr, xn, sl, qu, 0⟩ : T8).cs ⟨sa, 4, sc⟩ ⟨qa, 0, qc⟩), (y0.heap.size, 30, (⟨3, xs, xv, xr, xn, sl, qu, 0⟩ : T8).cs ⟨sa, 4, sc⟩ ⟨qa, 0, qc⟩)] ((y2.alloc (.cells ((⟨6, xs, xv, xr, xn, sl, qu, 0⟩ : T8).cs ⟨sa, 4, sc⟩ ⟨qa, 0, qc⟩) 30)).alloc (.cells ((⟨3, xs, xv, 6, xn, sl, qu, 0⟩ : T8).cs ⟨sa, 4, sc⟩ ⟨qa, 0, qc⟩) 30))) := Lib.hid <| by
      have k := (K2.out.new 30 ((⟨6, xs, xv, xr, xn, sl, qu, 0⟩ : T8).cs ⟨sa, 4, sc⟩ ⟨qa, 0, qc⟩)).new 30 ((⟨3, xs, xv, 6, xn, sl, qu, 0⟩ : T8).cs ⟨sa, 4, sc⟩ ⟨qa, 0, qc⟩)
      rw [show (y2.alloc (.cells ((⟨6, xs, xv, xr, xn, sl, qu, 0⟩ : T8).cs ⟨sa, 4, sc⟩ ⟨qa, 0, qc⟩) 30)).heap.size = y2.heap.size + 1 by simp] at k
      exact k
    have al : Below y2.heap.size y2 ((y2.alloc (.cells ((⟨6, xs, xv, xr, xn, sl, qu, 0⟩ : T8).cs ⟨sa, 4, sc⟩ ⟨qa, 0, qc⟩) 30)).alloc (.cells ((⟨3, xs, xv, 6, xn, sl, qu, 0⟩ : T8).cs ⟨sa, 4, sc⟩ ⟨qa, 0, qc⟩) 30)) := ((Below.refl _ _).alloc (Nat.le_refl _) _).alloc (by simp) _
    have R3 := Lib.hid (show HasR _ ⟨sa, 4, sc⟩ sl from R2.out.stay al)
    have Q3 := Lib.hid (show HasQ _ ⟨qa, 0, qc⟩ qu from Q2.out.stay al)
    have HA := Lib.hid (show okT (⟨6, xs, xv, xr, xn, sl, qu, 0⟩ : T8) = false by simp [okT, okT1, inR])
    have HB := Lib.hid (show okT (⟨3, xs, xv, 6, xn, sl, qu, 0⟩ : T8) = false by simp [okT, okT1, inR])
    clear al K2 R2 Q2
    go_wp2_with fail
    refine (implTOk_val (x := (⟨6, xs, xv, xr, xn, sl, qu, 0⟩ : T8)) HA.out _ R3.out Q3.out (HF.out.stay E0.out.1)).mono ?_
    rintro e y3 ⟨rfl, hb⟩
    have E1 := Lib.hid (E0.out.stay hb)
    have R4 := Lib.hid (R3.out.stay hb)
    have Q4 := Lib.hid (Q3.out.stay hb)
    clear hb E0 R3 Q3 c0 c1 c2 c3 c4 c5 c6 c7
    have d0 := E1.out.c (b := y2.heap.size + 1) (T := 30) (vs := (⟨3, xs, xv, 6, xn, sl, qu, 0⟩ : T8).cs ⟨sa, 4, sc⟩ ⟨qa, 0, qc⟩) (by simp) 0 _ rfl
    have d1 := E1.out.c (b := y2.heap.size + 1) (T := 30) (vs := (⟨3, xs, xv, 6, xn, sl, qu, 0⟩ : T8).cs ⟨sa, 4, sc⟩ ⟨qa, 0, qc⟩) (by simp) 1 _ rfl
    have d2 := E1.out.c (b := y2.heap.size + 1) (T := 30) (vs := (⟨3, xs, xv, 6, xn, sl, qu, 0⟩ : T8).cs ⟨sa, 4, sc⟩ ⟨qa, 0, qc⟩) (by simp) 2 _ rfl
    have d3 := E1.out.c (b := y2.heap.size + 1) (T := 30) (vs := (⟨3, xs, xv, 6, xn, sl, qu, 0⟩ : T8).cs ⟨sa, 4, sc⟩ ⟨qa, 0, qc⟩) (by simp) 3 _ rfl
    have d4 := E1.out.c (b := y2.heap.size + 1) (T := 30) (vs := (⟨3, xs, xv, 6, xn, sl, qu, 0⟩ : T8).cs ⟨sa, 4, sc⟩ ⟨qa, 0, qc⟩) (by simp) 4 _ rfl
    have d5 := E1.out.c (b := y2.heap.size + 1) (T := 30) (vs := (⟨3, xs, xv, 6, xn, sl, qu, 0⟩ : T8).cs ⟨sa, 4, sc⟩ ⟨qa, 0, qc⟩) (by simp) 5 _ rfl
    have d6 := E1.out.c (b := y2.heap.size + 1) (T := 30) (vs := (⟨3, xs, xv, 6, xn, sl, qu, 0⟩ : T8).cs ⟨sa, 4, sc⟩ ⟨qa, 0, qc⟩) (by simp) 6 _ rfl
    have d7 := E1.out.c (b := y2.heap.size + 1) (T := 30) (vs := (⟨3, xs, xv, 6, xn, sl, qu, 0⟩ : T8).cs ⟨sa, 4, sc⟩ ⟨qa, 0, qc⟩) (by simp) 7 _ rfl
    go_wp2_with fail
    refine (implTOk_val (x := (⟨3, xs, xv, 6, xn, sl, qu, 0⟩ : T8)) HB.out _ R4.out Q4.out (HF.out.stay E1.out.1)).mono ?_
    rintro e y4 ⟨rfl, hb⟩
    have E2 := Lib.hid (E1.out.stay hb)
    clear hb E1
    go_wp2
    go_ret
    exact ⟨rfl, E2.out.1⟩
  · obtain rfl : sn = 0 := hlen
    obtain rfl : xt = 0 := hto (by decide)
    clear hto n2 n3 n5 n6
    have c0 : y2.cell? ⟨y0.heap.size, 0, none⟩ = some (.int .i64 4) := K2.out.c (b := y0.heap.size) (T := 30) (vs := (⟨4, xs, xv, xr, xn, sl, qu, 0⟩ : T8).cs ⟨sa, 0, sc⟩ ⟨qa, qn, qc⟩) (by simp) 0 _ rfl
    have c1 : y2.cell? ⟨y0.heap.size, 1, none⟩ = some (.int .i64 xs) := K2.out.c (b := y0.heap.size) (T := 30) (vs := (⟨4, xs, xv, xr, xn, sl, qu, 0⟩ : T8).cs ⟨sa, 0, sc⟩ ⟨qa, qn, qc⟩) (by simp) 1 _ rfl
    have c2 : y2.cell? ⟨y0.heap.size, 2, none⟩ = some (.int .i64 xv) := K2.out.c (b := y0.heap.size) (T := 30) (vs := (⟨4, xs, xv, xr, xn, sl, qu, 0⟩ : T8).cs ⟨sa, 0, sc⟩ ⟨qa, qn, qc⟩) (by simp) 2 _ rfl
    have c3 : y2.cell? ⟨y0.heap.size, 3, none⟩ = some (.int .i64 xr) := K2.out.c (b := y0.heap.size) (T := 30) (vs := (⟨4, xs, xv, xr, xn, sl, qu, 0⟩ : T8).cs ⟨sa, 0, sc⟩ ⟨qa, qn, qc⟩) (by simp) 3 _ rfl
    have c4 : y2.cell? ⟨y0.heap.size, 4, none⟩ = some (.int .i64 xn) := K2.out.c (b := y0.heap.size) (T := 30) (vs := (⟨4, xs, xv, xr, xn, sl, qu, 0⟩ : T8).cs ⟨sa, 0, sc⟩ ⟨qa, qn, qc⟩) (by simp) 4 _ rfl
    have c5 : y2.cell? ⟨y0.heap.size, 5, none⟩ = some (.slice sa 0 sc) := K2.out.c (b := y0.heap.size) (T := 30) (vs := (⟨4, xs, xv, xr, xn, sl, qu, 0⟩ : T8).cs ⟨sa, 0, sc⟩ ⟨qa, qn, qc⟩) (by simp) 5 _ rfl
    have c6 : y2.cell? ⟨y0.heap.size, 6, none⟩ = some (.slice qa qn qc) := K2.out.c (b := y0.heap.size) (T := 30) (vs := (⟨4, xs, xv, xr, xn, sl, qu, 0⟩ : T8).cs ⟨sa, 0, sc⟩ ⟨qa, qn, qc⟩) (by simp) 6 _ rfl
    have c7 : y2.cell? ⟨y0.heap.size, 7, none⟩ = some (.int .i64 0) := K2.out.c (b := y0.heap.size) (T := 30) (vs := (⟨4, xs, xv, xr, xn, sl, qu, 0⟩ : T8).cs ⟨sa, 0, sc⟩ ⟨qa, qn, qc⟩) (by simp) 7 _ rfl
    have hblt := (K2.out.box (b := y0.heap.size) (T := 30) (vs := (⟨4, xs, xv, xr, xn, sl, qu, 0⟩ : T8).cs ⟨sa, 0, sc⟩ ⟨qa, qn, qc⟩) (by simp)).lt
    have E0 : Hid (Kn w [(y2.heap.size + 1, 30, (⟨4, xs, xv, 6, xn, sl, qu, 0⟩ : T8).cs ⟨sa, 0, sc⟩ ⟨qa, qn, qc⟩), (y2.heap.size, 30, (⟨6, xs, xv, xr, xn, sl, qu, 0⟩ : T8).cs ⟨sa, 0, sc⟩ ⟨qa, qn, qc⟩), (y0.heap.size, 30, (⟨4, xs, xv, xr, xn, sl, qu, 0⟩ : T8).cs ⟨sa, 0, sc⟩ ⟨qa, qn, qc⟩)] ((y2.alloc (.cells ((⟨6, xs, xv, xr, xn, sl, qu, 0⟩ : T8).cs ⟨sa, 0, sc⟩ ⟨qa, qn, qc⟩) 30)).alloc (.cells ((⟨4, xs, xv, 6, xn, sl, qu, 0⟩ : T8).cs ⟨sa, 0, sc⟩ ⟨qa, qn, qc⟩) 30))) := Lib.hid <| by
      have k := (K2.out.new 30 ((⟨6, xs, xv, xr, xn, sl, qu, 0⟩ : T8).cs ⟨sa, 0, sc⟩ ⟨qa, qn, qc⟩)).new 30 ((⟨4, xs, xv, 6, xn, sl, qu, 0⟩ : T8).cs ⟨sa, 0, sc⟩ ⟨qa, qn, qc⟩)
      rw [show (y2.alloc (.cells ((⟨6, xs, xv, xr, xn, sl, qu, 0⟩ : T8).cs ⟨sa, 0, sc⟩ ⟨qa, qn, qc⟩) 30)).heap.size = y2.heap.size + 1 by simp] at k
      exact k
    have al : Below y2.heap.size y2 ((y2.alloc (.cells ((⟨6, xs, xv, xr, xn, sl, qu, 0⟩ : T8).cs ⟨sa, 0, sc⟩ ⟨qa, qn, qc⟩) 30)).alloc (.cells ((⟨4, xs, xv, 6, xn, sl, qu, 0⟩ : T8).cs ⟨sa, 0, sc⟩ ⟨qa, qn, qc⟩) 30)) := ((Below.refl _ _).alloc (Nat.le_refl _) _).alloc (by simp) _
    have R3 := Lib.hid (show HasR _ ⟨sa, 0, sc⟩ sl from R2.out.stay al)
    have Q3 := Lib.hid (show HasQ _ ⟨qa, qn, qc⟩ qu from Q2.out.stay al)
    have HA := Lib.hid (show okT (⟨6, xs, xv, xr, xn, sl, qu, 0⟩ : T8) = false by simp [okT, okT1, inR])
    have HB := Lib.hid (show okT (⟨4, xs, xv, 6, xn, sl, qu, 0⟩ : T8) = false by simp [okT, okT1, inR])
    clear al K2 R2 Q2
    go_wp2_with fail
    refine (implTOk_val (x := (⟨6, xs, xv, xr, xn, sl, qu, 0⟩ : T8)) HA.out _ R3.out Q3.out (HF.out.stay E0.out.1)).mono ?_
    rintro e y3 ⟨rfl, hb⟩
    have E1 := Lib.hid (E0.out.stay hb)
    have R4 := Lib.hid (R3.out.stay hb)
    have Q4 := Lib.hid (Q3.out.stay hb)
    clear hb E0 R3 Q3 c0 c1 c2 c3 c4 c5 c6 c7
    have d0 := E1.out.c (b := y2.heap.size + 1) (T := 30) (vs := (⟨4, xs, xv, 6, xn, sl, qu, 0⟩ : T8).cs ⟨sa, 0, sc⟩ ⟨qa, qn, qc⟩) (by simp) 0 _ rfl
    have d1 := E1.out.c (b := y2.heap.size + 1) (T := 30) (vs := (⟨4, xs, xv, 6, xn, sl, qu, 0⟩ : T8).cs ⟨sa, 0, sc⟩ ⟨qa, qn, qc⟩) (by simp) 1 _ rfl
    have d2 := E1.out.c (b := y2.heap.size + 1) (T := 30) (vs := (⟨4, xs, xv, 6, xn, sl, qu, 0⟩ : T8).cs ⟨sa, 0, sc⟩ ⟨qa, qn, qc⟩) (by simp) 2 _ rfl
    have d3 := E1.out.c (b := y2.heap.size + 1) (T := 30) (vs := (⟨4, xs, xv, 6, xn, sl, qu, 0⟩ : T8).cs ⟨sa, 0, sc⟩ ⟨qa, qn, qc⟩) (by simp) 3 _ rfl
    have d4 := E1.out.c (b := y2.heap.size + 1) (T := 30) (vs := (⟨4, xs, xv, 6, xn, sl, qu, 0⟩ : T8).cs ⟨sa, 0, sc⟩ ⟨qa, qn, qc⟩) (by simp) 4 _ rfl
    have d5 := E1.out.c (b := y2.heap.size + 1) (T := 30) (vs := (⟨4, xs, xv, 6, xn, sl, qu, 0⟩ : T8).cs ⟨sa, 0, sc⟩ ⟨qa, qn, qc⟩) (by simp) 5 _ rfl
    have d6 := E1.out.c (b := y2.heap.size + 1) (T := 30) (vs := (⟨4, xs, xv, 6, xn, sl, qu, 0⟩ : T8).cs ⟨sa, 0, sc⟩ ⟨qa, qn, qc⟩) (by simp) 6 _ rfl
    have d7 := E1.out.c (b := y2.heap.size + 1) (T := 30) (vs := (⟨4, xs, xv, 6, xn, sl, qu, 0⟩ : T8).cs ⟨sa, 0, sc⟩ ⟨qa, qn, qc⟩) (by simp) 7 _ rfl
    go_wp2_with fail
    refine (implTOk_val (x := (⟨4, xs, xv, 6, xn, sl, qu, 0⟩ : T8)) HB.out _ R4.out Q4.out (HF.out.stay E1.out.1)).mono ?_
    rintro e y4 ⟨rfl, hb⟩
    have E2 := Lib.hid (E1.out.stay hb)
    clear hb E1
    go_wp2
    go_ret
    exact ⟨rfl, E2.out.1⟩
  · obtain rfl : sn = 0 := hlen
    have hpos : 0 < xt := by simpa using n3.symm
    obtain rfl : qn = 0 := by simp at n2; rw [n6, n2]; rfl
    clear hto n2 n3 n5 n6
    have c0 : y2.cell? ⟨y0.heap.size, 0, none⟩ = some (.int .i64 5) := K2.out.c (b := y0.heap.size) (T := 30) (vs := (⟨5, xs, xv, xr, xn, sl, qu, xt⟩ : T8).cs ⟨sa, 0, sc⟩ ⟨qa, 0, qc⟩) (by simp) 0 _ rfl
    have c1 : y2.cell? ⟨y0.heap.size, 1, none⟩ = some (.int .i64 xs) := K2.out.c (b := y0.heap.size) (T := 30) (vs := (⟨5, xs, xv, xr, xn, sl, qu, xt⟩ : T8).cs ⟨sa, 0, sc⟩ ⟨qa, 0, qc⟩) (by simp) 1 _ rfl
    have c2 : y2.cell? ⟨y0.heap.size, 2, none⟩ = some (.int .i64 xv) := K2.out.c (b := y0.heap.size) (T := 30) (vs := (⟨5, xs, xv, xr, xn, sl, qu, xt⟩ : T8).cs ⟨sa, 0, sc⟩ ⟨qa, 0, qc⟩) (by simp) 2 _ rfl
    have c3 : y2.cell? ⟨y0.heap.size, 3, none⟩ = some (.int .i64 xr) := K2.out.c (b := y0.heap.size) (T := 30) (vs := (⟨5, xs, xv, xr, xn, sl, qu, xt⟩ : T8).cs ⟨sa, 0, sc⟩ ⟨qa, 0, qc⟩) (by simp) 3 _ rfl
    have c4 : y2.cell? ⟨y0.heap.size, 4, none⟩ = some (.int .i64 xn) := K2.out.c (b := y0.heap.size) (T := 30) (vs := (⟨5, xs, xv, xr, xn, sl, qu, xt⟩ : T8).cs ⟨sa, 0, sc⟩ ⟨qa, 0, qc⟩) (by simp) 4 _ rfl
    have c5 : y2.cell? ⟨y0.heap.size, 5, none⟩ = some (.slice sa 0 sc) := K2.out.c (b := y0.heap.size) (T := 30) (vs := (⟨5, xs, xv, xr, xn, sl, qu, xt⟩ : T8).cs ⟨sa, 0, sc⟩ ⟨qa, 0, qc⟩) (by simp) 5 _ rfl
    have c6 : y2.cell? ⟨y0.heap.size, 6, none⟩ = some (.slice qa 0 qc) := K2.out.c (b := y0.heap.size) (T := 30) (vs := (⟨5, xs, xv, xr, xn, sl, qu, xt⟩ : T8).cs ⟨sa, 0, sc⟩ ⟨qa, 0, qc⟩) (by simp) 6 _ rfl
    have c7 : y2.cell? ⟨y0.heap.size, 7, none⟩ = some (.int .i64 xt) := K2.out.c (b := y0.heap.size) (T := 30) (vs := (⟨5, xs, xv, xr, xn, sl, qu, xt⟩ : T8).cs ⟨sa, 0, sc⟩ ⟨qa, 0, qc⟩) (by simp) 7 _ rfl
    have hblt := (K2.out.box (b := y0.heap.size) (T := 30) (vs := (⟨5, xs, xv, xr, xn, sl, qu, xt⟩ : T8).cs ⟨sa, 0, sc⟩ ⟨qa, 0, qc⟩) (by simp)).lt
    have E0 : Hid (Kn w [(y2.heap.size + 1, 30, (⟨5, xs, xv, 6, xn, sl, qu, xt⟩ : T8).cs ⟨sa, 0, sc⟩ ⟨qa, 0, qc⟩), (y2.heap.size, 30, (⟨6, xs, xv, xr, xn, sl, qu, xt⟩ : T8).cs ⟨sa, 0, sc⟩ ⟨qa, 0, qc⟩), (y0.heap.size, 30, (⟨5, xs, xv, xr, xn, sl, qu, xt⟩ : T8).cs ⟨sa, 0, sc⟩ ⟨qa, 0, qc⟩)] ((y2.alloc (.cells ((⟨6, xs, xv, xr, xn, sl, qu, xt⟩ : T8).cs ⟨sa, 0, sc⟩ ⟨qa, 0, qc⟩) 30)).alloc (.cells ((⟨5, xs, xv, 6, xn, sl, qu, xt⟩ : T8).cs ⟨sa, 0, sc⟩ ⟨qa, 0, qc⟩) 30))) := Lib.hid <| by
      have k := (K2.out.new 30 ((⟨6, xs, xv, xr, xn, sl, qu, xt⟩ : T8).cs ⟨sa, 0, sc⟩ ⟨qa, 0, qc⟩)).new 30 ((⟨5, xs, xv, 6, xn, sl, qu, xt⟩ : T8).cs ⟨sa, 0, sc⟩ ⟨qa, 0, qc⟩)
      rw [show (y2.alloc (.cells ((⟨6, xs, xv, xr, xn, sl, qu, xt⟩ : T8).cs ⟨sa, 0, sc⟩ ⟨qa, 0, qc⟩) 30)).heap.size = y2.heap.size + 1 by simp] at k
      exact k
    have al : Below y2.heap.size y2 ((y2.alloc (.cells ((⟨6, xs, xv, xr, xn, sl, qu, xt⟩ : T8).cs ⟨sa, 0, sc⟩ ⟨qa, 0, qc⟩) 30)).alloc (.cells ((⟨5, xs, xv, 6, xn, sl, qu, xt⟩ : T8).cs ⟨sa, 0, sc⟩ ⟨qa, 0, qc⟩) 30)) := ((Below.refl _ _).alloc (Nat.le_refl _) _).alloc (by simp) _
    have R3 := Lib.hid (show HasR _ ⟨sa, 0, sc⟩ sl from R2.out.stay al)
    have Q3 := Lib.hid (show HasQ _ ⟨qa, 0, qc⟩ qu from Q2.out.stay al)
    have HA := Lib.hid (show okT (⟨6, xs, xv, xr, xn, sl, qu, xt⟩ : T8) = false by simp [okT, okT1, inR])
    have HB := Lib.hid (show okT (⟨5, xs, xv, 6, xn, sl, qu, xt⟩ : T8) = false by simp [okT, okT1, inR])
    clear al K2 R2 Q2
    go_wp2_with fail
    refine (implTOk_val (x := (⟨6, xs, xv, xr, xn, sl, qu, xt⟩ : T8)) HA.out _ R3.out Q3.out (HF.out.stay E0.out.1)).mono ?_
    rintro e y3 ⟨rfl, hb⟩
    have E1 := Lib.hid (E0.out.stay hb)
    have R4 := Lib.hid (R3.out.stay hb)
    have Q4 := Lib.hid (Q3.out.stay hb)
    clear hb E0 R3 Q3 c0 c1 c2 c3 c4 c5 c6 c7
    have d0 := E1.out.c (b := y2.heap.size + 1) (T := 30) (vs := (⟨5, xs, xv, 6, xn, sl, qu, xt⟩ : T8).cs ⟨sa, 0, sc⟩ ⟨qa, 0, qc⟩) (by simp) 0 _ rfl
    have d1 := E1.out.c (b := y2.heap.size + 1) (T := 30) (vs := (⟨5, xs, xv, 6, xn, sl, qu, xt⟩ : T8).cs ⟨sa, 0, sc⟩ ⟨qa, 0, qc⟩) (by simp) 1 _ rfl
    have d2 := E1.out.c (b := y2.heap.size + 1) (T := 30) (vs := (⟨5, xs, xv, 6, xn, sl, qu, xt⟩ : T8).cs ⟨sa, 0, sc⟩ ⟨qa, 0, qc⟩) (by simp) 2 _ rfl
    have d3 := E1.out.c (b := y2.heap.size + 1) (T := 30) (vs := (⟨5, xs, xv, 6, xn, sl, qu, xt⟩ : T8).cs ⟨sa, 0, sc⟩ ⟨qa, 0, qc⟩) (by simp) 3 _ rfl
    have d4 := E1.out.c (b := y2.heap.size + 1) (T := 30) (vs := (⟨5, xs, xv, 6, xn, sl, qu, xt⟩ : T8).cs ⟨sa, 0, sc⟩ ⟨qa, 0, qc⟩) (by simp) 4 _ rfl
    have d5 := E1.out.c (b := y2.heap.size + 1) (T := 30) (vs := (⟨5, xs, xv, 6, xn, sl, qu, xt⟩ : T8).cs ⟨sa, 0, sc⟩ ⟨qa, 0, qc⟩) (by simp) 5 _ rfl
    have d6 := E1.out.c (b := y2.heap.size + 1) (T := 30) (vs := (⟨5, xs, xv, 6, xn, sl, qu, xt⟩ : T8).cs ⟨sa, 0, sc⟩ ⟨qa, 0, qc⟩) (by simp) 6 _ rfl
    have d7 := E1.out.c (b := y2.heap.size + 1) (T := 30) (vs := (⟨5, xs, xv, 6, xn, sl, qu, xt⟩ : T8).cs ⟨sa, 0, sc⟩ ⟨qa, 0, qc⟩) (by simp) 7 _ rfl
    go_wp2_with fail
    refine (implTOk_val (x := (⟨5, xs, xv, 6, xn, sl, qu, xt⟩ : T8)) HB.out _ R4.out Q4.out (HF.out.stay E1.out.1)).mono ?_
    rintro e y4 ⟨rfl, hb⟩
    have E2 := Lib.hid (E1.out.stay hb)
    clear hb E1
    go_wp2
    go_ret
    exact ⟨rfl, E2.out.1⟩
end Go.Proofs.YtnfalnmidddkjaaDoor
