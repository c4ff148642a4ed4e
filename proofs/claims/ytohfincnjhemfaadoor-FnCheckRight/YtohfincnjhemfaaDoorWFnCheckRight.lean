/-
  The walk of laws.FnCheckRight.
-/
import Derived.Test.YtohfincnjhemfaaDoorCkM
namespace Go.Proofs.YtohfincnjhemfaaDoor
open Go.RowKit
set_option maxRecDepth 100000
set_option linter.unusedVariables false

set_option maxHeartbeats 8000000 in
theorem walk_FnCheckRight (a0 : Option Addr) (len0 cap0 : Nat) (z0 : List Int) (w : World) (hKF : KF w) (hET : ET w) (w0 : IsRow .u8 w a0 len0 cap0 z0) :
    Calls Tryd.prog 6 #[.slice a0 len0 cap0] w fun e w' => e = .returned (.bool true) ∧ Below w.heap.size w w' := by
  by_cases g0 : (1048576 : Int) < (len0 : Int)
  · go_enter Tryd.func6, Tryd.ntmps6
    go_wp2
    go_ret
    exact ⟨rfl, Below.refl _ _⟩
  have W0 := Lib.hid w0
  have HF := Lib.hid hKF
  have HE := Lib.hid hET
  clear w0 hKF hET
  go_enter Tryd.func6, Tryd.ntmps6
  go_wp2_with fail
  refine (drawCC_any a0 len0 cap0 z0 _ W0.out).mono ?_
  rintro e y0 ⟨g, c, l, q, rfl, hT, l3, l8, hzs, hb⟩
  have K0 := Lib.hid ((Kn.start hb).new 37 (C5.cs q))
  have T0 := Lib.hid (hT.stay ((Below.refl _ _).alloc (Nat.le_refl _) (.cells (C5.cs q) 37)))
  have HZS := Lib.hid hzs
  have hz : l.length ≤ 1048576 := by omega
  clear W0 hb hT hzs
  obtain ⟨v, hv⟩ : ∃ v, chkV l q = v := ⟨_, rfl⟩
  have HV := Lib.hid hv
  clear hv
  go_wp2_with fail
  refine (implCheck_val (s := ⟨some ⟨g, 0, none⟩, l.length, c⟩) HV.out _ T0.out (HF.out.stay K0.out.1) (HE.out.stay K0.out.1) hz).mono ?_
  rintro e y1 ⟨rfl, hb⟩
  have K1 := Lib.hid (K0.out.stay hb)
  have T1 := Lib.hid (T0.out.stay hb)
  clear hb K0 T0
  have c0 := K1.out.c (b := y0.heap.size) (T := 37) (vs := C5.cs q) (by simp) 0 _ rfl
  have c1 := K1.out.c (b := y0.heap.size) (T := 37) (vs := C5.cs q) (by simp) 1 _ rfl
  have c2 := K1.out.c (b := y0.heap.size) (T := 37) (vs := C5.cs q) (by simp) 2 _ rfl
  have c3 := K1.out.c (b := y0.heap.size) (T := 37) (vs := C5.cs q) (by simp) 3 _ rfl
  have c4 := K1.out.c (b := y0.heap.size) (T := 37) (vs := C5.cs q) (by simp) 4 _ rfl
  go_wp2_with fail
  refine (specCheck_val (s := ⟨some ⟨g, 0, none⟩, l.length, c⟩) HV.out _ T1.out hz HZS.out).mono ?_
  rintro e y2 ⟨rfl, hb⟩
  have K2 := Lib.hid (K1.out.stay hb)
  have T2 := Lib.hid (T1.out.stay hb)
  clear hb K1 T1 c0 c1 c2 c3 c4
  have c0 := K2.out.c (b := y0.heap.size) (T := 37) (vs := C5.cs q) (by simp) 0 _ rfl
  have c1 := K2.out.c (b := y0.heap.size) (T := 37) (vs := C5.cs q) (by simp) 1 _ rfl
  have c2 := K2.out.c (b := y0.heap.size) (T := 37) (vs := C5.cs q) (by simp) 2 _ rfl
  have c3 := K2.out.c (b := y0.heap.size) (T := 37) (vs := C5.cs q) (by simp) 3 _ rfl
  have c4 := K2.out.c (b := y0.heap.size) (T := 37) (vs := C5.cs q) (by simp) 4 _ rfl
  have fin : ∀ y : World, Kn w [(y0.heap.size, 37, C5.cs q)] y → HasT y ⟨some ⟨g, 0, none⟩, l.length, c⟩ l → Calls Tryd.prog 29 #[.slice (some ⟨g, 0, none⟩) l.length c, .agg #[.int .i64 q.k, .int .i64 q.r, .int .i64 q.a, .int .i64 q.b, .int .i64 q.n]] y fun e y' => e = .returned (.int .i64 v) ∧ Below w.heap.size w y' := fun y hk ht =>
    (specCheck_val (s := ⟨some ⟨g, 0, none⟩, l.length, c⟩) HV.out _ ht hz HZS.out).mono fun e y' h => ⟨h.1, (hk.stay h.2).1⟩
  have FIN := Lib.hid fin
  clear fin
  by_cases hv0 : ¬ v = 0
  · have hv0' : (v == 0) = false := by simpa using hv0
    go_wp2_with fail
    refine (FIN.out _ K2.out T2.out).mono ?_
    rintro e y9 ⟨rfl, hb⟩
    have HB := Lib.hid hb
    clear hb
    go_wp2
    go_ret
    exact ⟨rfl, HB.out⟩
  obtain rfl : v = 0 := Classical.not_not.1 hv0
  clear hv0
  by_cases h3 : q.k = 3
  · have c0' : y2.cell? ⟨y0.heap.size, 0, none⟩ = some (.int .i64 3) := by rw [c0]; simp [h3]
    clear c0
    rw [show (C5.cs q) = C5.cs ⟨q.k, q.r, q.a, q.b, q.n⟩ from rfl, h3] at K2 FIN
    go_wp2_with fail
    refine (FIN.out _ K2.out T2.out).mono ?_
    rintro e y9 ⟨rfl, hb⟩
    have HB := Lib.hid hb
    clear hb
    go_wp2
    go_ret
    exact ⟨rfl, HB.out⟩
  have h3' : (q.k == 3) = false := by simpa using h3
  have H3 := Lib.hid h3
  clear h3
  obtain ⟨h1, hok, hin, hki, hri, hfo⟩ := chk_facts HV.out (by decide) H3.out
  obtain ⟨jr, ja, hjr, rb, ro, sc, qs, er, ea, hja, eth, hA, hB, hrk⟩ := slot_at T2.out h1 hok
  obtain ⟨k9, -, -, -, -⟩ := ok_k hok
  obtain ⟨ck, cr, ca, cbb, cn⟩ := q
  dsimp only at *
  subst er ea
  obtain ⟨r, hr⟩ : ∃ r, slotAt (thAt l ((jr : Int) + 1)) (ja : Int) = r := ⟨_, rfl⟩
  rw [hr] at hin hki hri hfo hB hrk
  obtain ⟨rt, rv, rr, rw_, rk⟩ := r
  dsimp only at *
  obtain ⟨jn, hjn, ejn⟩ := idx_of hin
  obtain rfl : rt = (jn : Int) + 1 := by omega
  have f5 : y2.cell? ⟨g, jr * 8 + 5, none⟩ = some (.slice (some ⟨rb, ro, none⟩) 4 sc) := hA 5 _ rfl
  have g0' : y2.cell? ⟨rb, ro + ja * 5, none⟩ = some (.int .i64 ((jn : Int) + 1)) := hB 0 _ rfl
  have g1 : y2.cell? ⟨rb, ro + ja * 5 + 1, none⟩ = some (.int .i64 rv) := hB 1 _ rfl
  have g2 : y2.cell? ⟨rb, ro + ja * 5 + 2, none⟩ = some (.bool rr) := hB 2 _ rfl
  have g3 : y2.cell? ⟨rb, ro + ja * 5 + 3, none⟩ = some (.bool rw_) := hB 3 _ rfl
  have g4 : y2.cell? ⟨rb, ro + ja * 5 + 4, none⟩ = some (.bool rk) := hB 4 _ rfl
  have hbl1 := cell_lt f5
  have hbl2 := cell_lt g0'
  have hbl3 := cell_lt c0
  have hjr' : (jr : Int) < (l.length : Int) := by omega
  have hjn' : (jn : Int) < (l.length : Int) := by omega
  have hja' : (ja : Int) < 4 := by omega
  have wr : wrap64 ((jr : Int) + 1 - 1) = (jr : Int) := by unfold wrap64; omega
  have wn : wrap64 ((jn : Int) + 1 - 1) = (jn : Int) := by unfold wrap64; omega
  have wr2 : IntKind.i64.wrap (jr : Int) = (jr : Int) := IntWalk.i64_in _ (by omega)
  have wn2 : IntKind.i64.wrap (jn : Int) = (jn : Int) := IntWalk.i64_in _ (by omega)
  have wa : IntKind.i64.wrap (ja : Int) = (ja : Int) := IntWalk.i64_in _ (by omega)
  have H1 := Lib.hid h1
  have HIN := Lib.hid hin
  have HKI := Lib.hid hki
  have HRI := Lib.hid hri
  have HFO := Lib.hid hfo
  have HRK := Lib.hid hrk
  have K9 := Lib.hid k9
  clear h1 hok hin hki hri hfo hA hB hrk k9 eth hr
  obtain ⟨u3, e3⟩ : ∃ u, chkSees l ((jr : Int) + 1) ((jn : Int) + 1) = u := ⟨_, rfl⟩
  obtain ⟨u4, e4⟩ : ∃ u, chkTou l ((jr : Int) + 1) ((jn : Int) + 1) = u := ⟨_, rfl⟩
  have E3 := Lib.hid e3
  have E4 := Lib.hid e4
  have HLB := Lib.hid (show ((!needR ck || u3) && (!needW ck || u4)) = true by
    have h := HFO.out
    rw [← chkSees_run H1.out HIN.out, ← chkTou_run H1.out HIN.out, e3, e4] at h
    cases hx : ((!needR ck || u3) && (!needW ck || u4)) with
    | true => rfl
    | false => rw [hx] at h; simp at h)
  clear e3 e4
  clear HV
  go_upto_region 7 with fail
  go_region
  have K3 := Lib.hid ((K2.out.new 43 (R5.cs ⟨(jn : Int) + 1, rv, rr, rw_, rk⟩)).drew)
  have T3 := Lib.hid (T2.out.stay (((Below.refl _ _).alloc (Nat.le_refl _) (.cells (R5.cs ⟨(jn : Int) + 1, rv, rr, rw_, rk⟩) 43)).drew))
  obtain ⟨Y, hY⟩ : ∃ Y, (y2.alloc (.cells (R5.cs ⟨(jn : Int) + 1, rv, rr, rw_, rk⟩) 43)).drew = Y := ⟨_, rfl⟩
  rw [hY] at K3 T3 ⊢
  clear hY K2 T2 FIN f5 g0' g1 g2 g3 g4 c0 c1 c2 c3 c4
  have c0 := K3.out.c (b := y0.heap.size) (T := 37) (vs := C5.cs ⟨ck, (jr : Int) + 1, (ja : Int), cbb, cn⟩) (by simp) 0 _ rfl
  have c1 := K3.out.c (b := y0.heap.size) (T := 37) (vs := C5.cs ⟨ck, (jr : Int) + 1, (ja : Int), cbb, cn⟩) (by simp) 1 _ rfl
  have r0 := K3.out.c (b := y2.heap.size) (T := 43) (vs := R5.cs ⟨(jn : Int) + 1, rv, rr, rw_, rk⟩) (by simp) 0 _ rfl
  have r1 := K3.out.c (b := y2.heap.size) (T := 43) (vs := R5.cs ⟨(jn : Int) + 1, rv, rr, rw_, rk⟩) (by simp) 1 _ rfl
  have r2 := K3.out.c (b := y2.heap.size) (T := 43) (vs := R5.cs ⟨(jn : Int) + 1, rv, rr, rw_, rk⟩) (by simp) 2 _ rfl
  have r3 := K3.out.c (b := y2.heap.size) (T := 43) (vs := R5.cs ⟨(jn : Int) + 1, rv, rr, rw_, rk⟩) (by simp) 3 _ rfl
  have r4 := K3.out.c (b := y2.heap.size) (T := 43) (vs := R5.cs ⟨(jn : Int) + 1, rv, rr, rw_, rk⟩) (by simp) 4 _ rfl
  go_wp2_with fail
  refine (implCheckSees_val (s := ⟨some ⟨g, 0, none⟩, l.length, c⟩) E3.out _ T3.out (HF.out.stay K3.out.1) hz).mono ?_
  rintro e y4 ⟨rfl, hb⟩
  have K4 := Lib.hid (K3.out.stay hb)
  have T4 := Lib.hid (T3.out.stay hb)
  clear hb K3 T3 c0 c1 r0 r1 r2 r3 r4
  have c0 := K4.out.c (b := y0.heap.size) (T := 37) (vs := C5.cs ⟨ck, (jr : Int) + 1, (ja : Int), cbb, cn⟩) (by simp) 0 _ rfl
  have c1 := K4.out.c (b := y0.heap.size) (T := 37) (vs := C5.cs ⟨ck, (jr : Int) + 1, (ja : Int), cbb, cn⟩) (by simp) 1 _ rfl
  have r0 := K4.out.c (b := y2.heap.size) (T := 43) (vs := R5.cs ⟨(jn : Int) + 1, rv, rr, rw_, rk⟩) (by simp) 0 _ rfl
  have r1 := K4.out.c (b := y2.heap.size) (T := 43) (vs := R5.cs ⟨(jn : Int) + 1, rv, rr, rw_, rk⟩) (by simp) 1 _ rfl
  have r2 := K4.out.c (b := y2.heap.size) (T := 43) (vs := R5.cs ⟨(jn : Int) + 1, rv, rr, rw_, rk⟩) (by simp) 2 _ rfl
  have r3 := K4.out.c (b := y2.heap.size) (T := 43) (vs := R5.cs ⟨(jn : Int) + 1, rv, rr, rw_, rk⟩) (by simp) 3 _ rfl
  have r4 := K4.out.c (b := y2.heap.size) (T := 43) (vs := R5.cs ⟨(jn : Int) + 1, rv, rr, rw_, rk⟩) (by simp) 4 _ rfl
  go_wp2_with fail
  refine (implCheckTouches_val (s := ⟨some ⟨g, 0, none⟩, l.length, c⟩) E4.out _ T4.out (HF.out.stay K4.out.1) hz).mono ?_
  rintro e y5 ⟨rfl, hb⟩
  have K5 := Lib.hid (K4.out.stay hb)
  clear hb K4 T4 c0 c1 r0 r1 r2 r3 r4
  have hx := HLB.out
  have hy := HRI.out
  clear E3 E4 HLB HRI HFO HKI H1 HIN HRK
  rcases eight K9.out H3.out with rfl | rfl | rfl | rfl | rfl | rfl | rfl | rfl
  · simp [needR, needW] at hx hy
    subst hx hy
    have c0 := K5.out.c (b := y0.heap.size) (T := 37) (vs := C5.cs ⟨1, (jr : Int) + 1, (ja : Int), cbb, cn⟩) (by simp) 0 _ rfl
    have c1 := K5.out.c (b := y0.heap.size) (T := 37) (vs := C5.cs ⟨1, (jr : Int) + 1, (ja : Int), cbb, cn⟩) (by simp) 1 _ rfl
    have r0 := K5.out.c (b := y2.heap.size) (T := 43) (vs := R5.cs ⟨(jn : Int) + 1, rv, true, rw_, rk⟩) (by simp) 0 _ rfl
    have r1 := K5.out.c (b := y2.heap.size) (T := 43) (vs := R5.cs ⟨(jn : Int) + 1, rv, true, rw_, rk⟩) (by simp) 1 _ rfl
    have r2 := K5.out.c (b := y2.heap.size) (T := 43) (vs := R5.cs ⟨(jn : Int) + 1, rv, true, rw_, rk⟩) (by simp) 2 _ rfl
    have r3 := K5.out.c (b := y2.heap.size) (T := 43) (vs := R5.cs ⟨(jn : Int) + 1, rv, true, rw_, rk⟩) (by simp) 3 _ rfl
    have r4 := K5.out.c (b := y2.heap.size) (T := 43) (vs := R5.cs ⟨(jn : Int) + 1, rv, true, rw_, rk⟩) (by simp) 4 _ rfl
    go_wp2
    go_ret
    exact ⟨rfl, K5.out.1⟩
  · simp [needR, needW] at hx hy
    subst hx hy
    have c0 := K5.out.c (b := y0.heap.size) (T := 37) (vs := C5.cs ⟨2, (jr : Int) + 1, (ja : Int), cbb, cn⟩) (by simp) 0 _ rfl
    have c1 := K5.out.c (b := y0.heap.size) (T := 37) (vs := C5.cs ⟨2, (jr : Int) + 1, (ja : Int), cbb, cn⟩) (by simp) 1 _ rfl
    have r0 := K5.out.c (b := y2.heap.size) (T := 43) (vs := R5.cs ⟨(jn : Int) + 1, rv, rr, true, rk⟩) (by simp) 0 _ rfl
    have r1 := K5.out.c (b := y2.heap.size) (T := 43) (vs := R5.cs ⟨(jn : Int) + 1, rv, rr, true, rk⟩) (by simp) 1 _ rfl
    have r2 := K5.out.c (b := y2.heap.size) (T := 43) (vs := R5.cs ⟨(jn : Int) + 1, rv, rr, true, rk⟩) (by simp) 2 _ rfl
    have r3 := K5.out.c (b := y2.heap.size) (T := 43) (vs := R5.cs ⟨(jn : Int) + 1, rv, rr, true, rk⟩) (by simp) 3 _ rfl
    have r4 := K5.out.c (b := y2.heap.size) (T := 43) (vs := R5.cs ⟨(jn : Int) + 1, rv, rr, true, rk⟩) (by simp) 4 _ rfl
    go_wp2
    go_ret
    exact ⟨rfl, K5.out.1⟩
  · simp [needR, needW] at hx hy
    subst hx hy
    have c0 := K5.out.c (b := y0.heap.size) (T := 37) (vs := C5.cs ⟨4, (jr : Int) + 1, (ja : Int), cbb, cn⟩) (by simp) 0 _ rfl
    have c1 := K5.out.c (b := y0.heap.size) (T := 37) (vs := C5.cs ⟨4, (jr : Int) + 1, (ja : Int), cbb, cn⟩) (by simp) 1 _ rfl
    have r0 := K5.out.c (b := y2.heap.size) (T := 43) (vs := R5.cs ⟨(jn : Int) + 1, rv, true, rw_, rk⟩) (by simp) 0 _ rfl
    have r1 := K5.out.c (b := y2.heap.size) (T := 43) (vs := R5.cs ⟨(jn : Int) + 1, rv, true, rw_, rk⟩) (by simp) 1 _ rfl
    have r2 := K5.out.c (b := y2.heap.size) (T := 43) (vs := R5.cs ⟨(jn : Int) + 1, rv, true, rw_, rk⟩) (by simp) 2 _ rfl
    have r3 := K5.out.c (b := y2.heap.size) (T := 43) (vs := R5.cs ⟨(jn : Int) + 1, rv, true, rw_, rk⟩) (by simp) 3 _ rfl
    have r4 := K5.out.c (b := y2.heap.size) (T := 43) (vs := R5.cs ⟨(jn : Int) + 1, rv, true, rw_, rk⟩) (by simp) 4 _ rfl
    go_wp2
    go_ret
    exact ⟨rfl, K5.out.1⟩
  · simp [needR, needW] at hx hy
    subst hx hy
    have c0 := K5.out.c (b := y0.heap.size) (T := 37) (vs := C5.cs ⟨5, (jr : Int) + 1, (ja : Int), cbb, cn⟩) (by simp) 0 _ rfl
    have c1 := K5.out.c (b := y0.heap.size) (T := 37) (vs := C5.cs ⟨5, (jr : Int) + 1, (ja : Int), cbb, cn⟩) (by simp) 1 _ rfl
    have r0 := K5.out.c (b := y2.heap.size) (T := 43) (vs := R5.cs ⟨(jn : Int) + 1, rv, rr, true, rk⟩) (by simp) 0 _ rfl
    have r1 := K5.out.c (b := y2.heap.size) (T := 43) (vs := R5.cs ⟨(jn : Int) + 1, rv, rr, true, rk⟩) (by simp) 1 _ rfl
    have r2 := K5.out.c (b := y2.heap.size) (T := 43) (vs := R5.cs ⟨(jn : Int) + 1, rv, rr, true, rk⟩) (by simp) 2 _ rfl
    have r3 := K5.out.c (b := y2.heap.size) (T := 43) (vs := R5.cs ⟨(jn : Int) + 1, rv, rr, true, rk⟩) (by simp) 3 _ rfl
    have r4 := K5.out.c (b := y2.heap.size) (T := 43) (vs := R5.cs ⟨(jn : Int) + 1, rv, rr, true, rk⟩) (by simp) 4 _ rfl
    go_wp2
    go_ret
    exact ⟨rfl, K5.out.1⟩
  · simp [needR, needW] at hx hy
    subst hx hy
    have c0 := K5.out.c (b := y0.heap.size) (T := 37) (vs := C5.cs ⟨6, (jr : Int) + 1, (ja : Int), cbb, cn⟩) (by simp) 0 _ rfl
    have c1 := K5.out.c (b := y0.heap.size) (T := 37) (vs := C5.cs ⟨6, (jr : Int) + 1, (ja : Int), cbb, cn⟩) (by simp) 1 _ rfl
    have r0 := K5.out.c (b := y2.heap.size) (T := 43) (vs := R5.cs ⟨(jn : Int) + 1, rv, rr, true, rk⟩) (by simp) 0 _ rfl
    have r1 := K5.out.c (b := y2.heap.size) (T := 43) (vs := R5.cs ⟨(jn : Int) + 1, rv, rr, true, rk⟩) (by simp) 1 _ rfl
    have r2 := K5.out.c (b := y2.heap.size) (T := 43) (vs := R5.cs ⟨(jn : Int) + 1, rv, rr, true, rk⟩) (by simp) 2 _ rfl
    have r3 := K5.out.c (b := y2.heap.size) (T := 43) (vs := R5.cs ⟨(jn : Int) + 1, rv, rr, true, rk⟩) (by simp) 3 _ rfl
    have r4 := K5.out.c (b := y2.heap.size) (T := 43) (vs := R5.cs ⟨(jn : Int) + 1, rv, rr, true, rk⟩) (by simp) 4 _ rfl
    go_wp2
    go_ret
    exact ⟨rfl, K5.out.1⟩
  · simp [needR, needW] at hx hy
    obtain ⟨rfl, rfl⟩ := hx
    obtain ⟨rfl, rfl⟩ := hy
    have c0 := K5.out.c (b := y0.heap.size) (T := 37) (vs := C5.cs ⟨7, (jr : Int) + 1, (ja : Int), cbb, cn⟩) (by simp) 0 _ rfl
    have c1 := K5.out.c (b := y0.heap.size) (T := 37) (vs := C5.cs ⟨7, (jr : Int) + 1, (ja : Int), cbb, cn⟩) (by simp) 1 _ rfl
    have r0 := K5.out.c (b := y2.heap.size) (T := 43) (vs := R5.cs ⟨(jn : Int) + 1, rv, true, true, rk⟩) (by simp) 0 _ rfl
    have r1 := K5.out.c (b := y2.heap.size) (T := 43) (vs := R5.cs ⟨(jn : Int) + 1, rv, true, true, rk⟩) (by simp) 1 _ rfl
    have r2 := K5.out.c (b := y2.heap.size) (T := 43) (vs := R5.cs ⟨(jn : Int) + 1, rv, true, true, rk⟩) (by simp) 2 _ rfl
    have r3 := K5.out.c (b := y2.heap.size) (T := 43) (vs := R5.cs ⟨(jn : Int) + 1, rv, true, true, rk⟩) (by simp) 3 _ rfl
    have r4 := K5.out.c (b := y2.heap.size) (T := 43) (vs := R5.cs ⟨(jn : Int) + 1, rv, true, true, rk⟩) (by simp) 4 _ rfl
    go_wp2
    go_ret
    exact ⟨rfl, K5.out.1⟩
  · simp [needR, needW] at hx hy
    subst hx hy
    have c0 := K5.out.c (b := y0.heap.size) (T := 37) (vs := C5.cs ⟨8, (jr : Int) + 1, (ja : Int), cbb, cn⟩) (by simp) 0 _ rfl
    have c1 := K5.out.c (b := y0.heap.size) (T := 37) (vs := C5.cs ⟨8, (jr : Int) + 1, (ja : Int), cbb, cn⟩) (by simp) 1 _ rfl
    have r0 := K5.out.c (b := y2.heap.size) (T := 43) (vs := R5.cs ⟨(jn : Int) + 1, rv, rr, true, rk⟩) (by simp) 0 _ rfl
    have r1 := K5.out.c (b := y2.heap.size) (T := 43) (vs := R5.cs ⟨(jn : Int) + 1, rv, rr, true, rk⟩) (by simp) 1 _ rfl
    have r2 := K5.out.c (b := y2.heap.size) (T := 43) (vs := R5.cs ⟨(jn : Int) + 1, rv, rr, true, rk⟩) (by simp) 2 _ rfl
    have r3 := K5.out.c (b := y2.heap.size) (T := 43) (vs := R5.cs ⟨(jn : Int) + 1, rv, rr, true, rk⟩) (by simp) 3 _ rfl
    have r4 := K5.out.c (b := y2.heap.size) (T := 43) (vs := R5.cs ⟨(jn : Int) + 1, rv, rr, true, rk⟩) (by simp) 4 _ rfl
    go_wp2
    go_ret
    exact ⟨rfl, K5.out.1⟩
  · simp [needR, needW] at hx hy
    subst hx hy
    have c0 := K5.out.c (b := y0.heap.size) (T := 37) (vs := C5.cs ⟨9, (jr : Int) + 1, (ja : Int), cbb, cn⟩) (by simp) 0 _ rfl
    have c1 := K5.out.c (b := y0.heap.size) (T := 37) (vs := C5.cs ⟨9, (jr : Int) + 1, (ja : Int), cbb, cn⟩) (by simp) 1 _ rfl
    have r0 := K5.out.c (b := y2.heap.size) (T := 43) (vs := R5.cs ⟨(jn : Int) + 1, rv, rr, true, rk⟩) (by simp) 0 _ rfl
    have r1 := K5.out.c (b := y2.heap.size) (T := 43) (vs := R5.cs ⟨(jn : Int) + 1, rv, rr, true, rk⟩) (by simp) 1 _ rfl
    have r2 := K5.out.c (b := y2.heap.size) (T := 43) (vs := R5.cs ⟨(jn : Int) + 1, rv, rr, true, rk⟩) (by simp) 2 _ rfl
    have r3 := K5.out.c (b := y2.heap.size) (T := 43) (vs := R5.cs ⟨(jn : Int) + 1, rv, rr, true, rk⟩) (by simp) 3 _ rfl
    have r4 := K5.out.c (b := y2.heap.size) (T := 43) (vs := R5.cs ⟨(jn : Int) + 1, rv, rr, true, rk⟩) (by simp) 4 _ rfl
    go_wp2
    go_ret
    exact ⟨rfl, K5.out.1⟩
end Go.Proofs.YtohfincnjhemfaaDoor
