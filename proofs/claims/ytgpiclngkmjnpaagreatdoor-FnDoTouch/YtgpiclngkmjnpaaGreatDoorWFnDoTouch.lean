/-
  The walk of laws.FnDoTouch.
-/
import Derived.Test.YtgpiclngkmjnpaaGreatDoorLdM
namespace Go.Proofs.YtgpiclngkmjnpaaGreatDoor
open Go.RowKit
set_option maxRecDepth 100000
set_option linter.unusedVariables false

set_option maxHeartbeats 16000000 in
theorem walk_FnDoTouch (a0 : Option Addr) (len0 cap0 : Nat) (z0 : List Int) (w : World) (hKF : KF w) (hET : ET w) (w0 : IsRow .u8 w a0 len0 cap0 z0) :
    Calls Tryz.prog 5 #[.slice a0 len0 cap0] w fun e w' => e = .returned (.bool true) ∧ Below w.heap.size w w' := by
  by_cases g0 : (1048576 : Int) < (len0 : Int)
  · go_enter Tryz.func5, Tryz.ntmps5
    go_wp2
    go_ret
    exact ⟨rfl, Below.refl _ _⟩
  have W0 := Lib.hid w0
  have HF := Lib.hid hKF
  have HE := Lib.hid hET
  clear w0 hKF hET
  go_enter Tryz.func5, Tryz.ntmps5
  go_wp2_with fail
  refine (drawCD_any a0 len0 cap0 z0 _ W0.out).mono ?_
  rintro e y0 ⟨g, c, l, q, rfl, hT, l3, l8, hzs, hb⟩
  have K0 := Lib.hid ((Kn.start hb).new 25 (C5.cs q))
  have T0 := Lib.hid (hT.stay ((Below.refl _ _).alloc (Nat.le_refl _) (.cells (C5.cs q) 25)))
  have HZS := Lib.hid hzs
  have hz : l.length ≤ 1048576 := by omega
  clear W0 hb hT hzs
  obtain ⟨x, ans, hv⟩ : ∃ x ans, callV l q = (x, ans) := ⟨_, _, rfl⟩
  have HV := Lib.hid hv
  have HSX := Lib.hid (call_sm hv)
  clear hv
  go_wp2_with fail
  refine (specDo_val (s := ⟨some ⟨g, 0, none⟩, l.length, c⟩) HV.out _ T0.out hz HZS.out).mono ?_
  rintro e y1 ⟨s1, ts1, rfl, t1, hm1, hb⟩
  have K1 := Lib.hid (K0.out.stay hb)
  have T1 := Lib.hid (T0.out.stay hb)
  have X1 := Lib.hid (show HasT y1 s1 x from hm1 ▸ t1.hasT)
  clear hb t1 hm1 K0 T0
  have c0 := K1.out.c (b := y0.heap.size) (T := 25) (vs := C5.cs q) (by simp) 0 _ rfl
  have c1 := K1.out.c (b := y0.heap.size) (T := 25) (vs := C5.cs q) (by simp) 1 _ rfl
  have c2 := K1.out.c (b := y0.heap.size) (T := 25) (vs := C5.cs q) (by simp) 2 _ rfl
  have c3 := K1.out.c (b := y0.heap.size) (T := 25) (vs := C5.cs q) (by simp) 3 _ rfl
  have c4 := K1.out.c (b := y0.heap.size) (T := 25) (vs := C5.cs q) (by simp) 4 _ rfl
  go_wp2_with fail
  refine (implDo_val (s := ⟨some ⟨g, 0, none⟩, l.length, c⟩) HV.out _ T1.out (HF.out.stay K1.out.1) (HE.out.stay K1.out.1) hz).mono ?_
  rintro e y2 ⟨s2, ts2, rfl, t2, hm2, hb⟩
  have K2 := Lib.hid (K1.out.stay hb)
  have T2 := Lib.hid (T1.out.stay hb)
  have X2 := Lib.hid (X1.out.stay hb)
  have P2 := Lib.hid (show HasT y2 s2 x from hm2 ▸ t2.hasT)
  have HA2 := Lib.hid (show 0 < x.length → ∃ gx, s2.a = some ⟨gx, 0, none⟩ from fun h => by
    obtain ⟨gx, cur, e, -⟩ := t2.1.form (by have := congrArg List.length hm2; simp at this; omega)
    exact ⟨gx, e⟩)
  clear hb t2 hm2 K1 T1 X1 c0 c1 c2 c3 c4
  go_wp2_with fail
  refine (ldTable_same x s2 s1 _ P2.out X2.out HSX.out.1 HSX.out.2).mono ?_
  rintro e y3 ⟨rfl, hb⟩
  have K3 := Lib.hid (K2.out.stay hb)
  have T3 := Lib.hid (T2.out.stay hb)
  have X3 := Lib.hid (X2.out.stay hb)
  have P3 := Lib.hid (P2.out.stay hb)
  clear hb K2 T2 X2 P2
  have c0 := K3.out.c (b := y0.heap.size) (T := 25) (vs := C5.cs q) (by simp) 0 _ rfl
  have c1 := K3.out.c (b := y0.heap.size) (T := 25) (vs := C5.cs q) (by simp) 1 _ rfl
  have c2 := K3.out.c (b := y0.heap.size) (T := 25) (vs := C5.cs q) (by simp) 2 _ rfl
  have c3 := K3.out.c (b := y0.heap.size) (T := 25) (vs := C5.cs q) (by simp) 3 _ rfl
  have c4 := K3.out.c (b := y0.heap.size) (T := 25) (vs := C5.cs q) (by simp) 4 _ rfl
  go_wp2_with fail
  refine (ldCan_any l g l.length c q _ T3.out rfl (HF.out.stay K3.out.1) hz).mono ?_
  rintro e y4 ⟨v, rfl, hv, hb⟩
  have HVV := Lib.hid hv
  have K4 := Lib.hid (K3.out.stay hb)
  have T4 := Lib.hid (T3.out.stay hb)
  have X4 := Lib.hid (X3.out.stay hb)
  have P4 := Lib.hid (P3.out.stay hb)
  clear hb hv K3 T3 X3 P3 c0 c1 c2 c3 c4
  cases v
  · go_wp2_with fail
    refine (ldTable_same x s2 s1 _ P4.out X4.out HSX.out.1 HSX.out.2).mono ?_
    rintro e y5 ⟨rfl, hb⟩
    have HB := Lib.hid (K4.out.stay hb).1
    clear hb
    go_wp2
    go_ret
    exact ⟨rfl, HB.out⟩
  have HO := Lib.hid (HVV.out.1 rfl)
  have HXA := Lib.hid (show x = (doV l q).1 ∧ ans = (doV l q).2 by
    have := HV.out
    rw [callV_ok HO.out] at this
    rw [this]; exact ⟨rfl, rfl⟩)
  have hxl : x.length = l.length := by rw [HXA.out.1, do_len]
  obtain ⟨gx, hs2⟩ := HA2.out (by omega)
  have hsn : s2.n = l.length := by rw [P4.out.1, hxl]
  have HXL := Lib.hid hxl
  obtain ⟨s2a, s2n, cx⟩ := s2
  dsimp only at hs2 hsn
  subst hs2 hsn
  obtain ⟨jr, hjr, hcr, hth, hkr⟩ := HO.out.run
  have hbd := C5.bd HO.out.2
  obtain ⟨ck, cr, ca, cbb, cn⟩ := q
  dsimp only at *
  subst hcr
  obtain ⟨ja, rfl⟩ : ∃ ja : Nat, ca = ja := ⟨ca.toNat, by omega⟩
  obtain ⟨jb, rfl⟩ : ∃ jb : Nat, cbb = jb := ⟨cbb.toNat, by omega⟩
  have hja : ja < 4 := by omega
  have hjb : jb < 4 := by omega
  have hjr' : (jr : Int) < (l.length : Int) := by omega
  have hja' : (ja : Int) < 4 := by omega
  have hjb' : (jb : Int) < 4 := by omega
  have wr : wrap64 ((jr : Int) + 1 - 1) = (jr : Int) := by unfold wrap64; omega
  have wr2 : IntKind.i64.wrap (jr : Int) = (jr : Int) := IntWalk.i64_in _ (by omega)
  have HBD := Lib.hid hbd
  have HTH := Lib.hid hth
  have HKR := Lib.hid hkr
  clear hbd hth hkr hxl HA2 HV HVV X4 HZS
  have c0 := K4.out.c (b := y0.heap.size) (T := 25) (vs := C5.cs ⟨ck, (jr : Int) + 1, (ja : Int), (jb : Int), cn⟩) (by simp) 0 _ rfl
  have c1 := K4.out.c (b := y0.heap.size) (T := 25) (vs := C5.cs ⟨ck, (jr : Int) + 1, (ja : Int), (jb : Int), cn⟩) (by simp) 1 _ rfl
  have c2 := K4.out.c (b := y0.heap.size) (T := 25) (vs := C5.cs ⟨ck, (jr : Int) + 1, (ja : Int), (jb : Int), cn⟩) (by simp) 2 _ rfl
  have c3 := K4.out.c (b := y0.heap.size) (T := 25) (vs := C5.cs ⟨ck, (jr : Int) + 1, (ja : Int), (jb : Int), cn⟩) (by simp) 3 _ rfl
  have c4 := K4.out.c (b := y0.heap.size) (T := 25) (vs := C5.cs ⟨ck, (jr : Int) + 1, (ja : Int), (jb : Int), cn⟩) (by simp) 4 _ rfl
  obtain ⟨jr1, ja1, hjr1, rb, ro, sc, qs, er1, ea1, -, eth1, hA, hB, -⟩ := slot_at T4.out HO.out.1 HO.out.2
  obtain rfl : jr = jr1 := by dsimp only at er1; omega
  obtain rfl : ja = ja1 := by dsimp only at ea1; omega
  obtain ⟨r, hr⟩ : ∃ r, rOf l ⟨ck, (jr : Int) + 1, (ja : Int), (jb : Int), cn⟩ = r := ⟨_, rfl⟩
  have hBr : At y4 rb (ro + ja * 5) r.cs := by rw [← hr]; exact hB
  obtain ⟨rt, rv, rr, rw_, rk⟩ := r
  have HR := Lib.hid hr
  have f5 : y4.cell? ⟨g, jr * 8 + 5, none⟩ = some (.slice (some ⟨rb, ro, none⟩) 4 sc) := hA 5 _ rfl
  have g0' : y4.cell? ⟨rb, ro + ja * 5, none⟩ = some (.int .i64 rt) := hBr 0 _ rfl
  have g1 : y4.cell? ⟨rb, ro + ja * 5 + 1, none⟩ = some (.int .i64 rv) := hBr 1 _ rfl
  have g2 : y4.cell? ⟨rb, ro + ja * 5 + 2, none⟩ = some (.bool rr) := hBr 2 _ rfl
  have g3 : y4.cell? ⟨rb, ro + ja * 5 + 3, none⟩ = some (.bool rw_) := hBr 3 _ rfl
  have g4 : y4.cell? ⟨rb, ro + ja * 5 + 4, none⟩ = some (.bool rk) := hBr 4 _ rfl
  have hbl1 := cell_lt f5
  have hbl2 := cell_lt g0'
  have hbl3 := cell_lt c0
  clear hA hB hBr hr er1 ea1 eth1
  go_upto_region 8 with fail
  go_region
  have K5 := Lib.hid ((K4.out.new 42 (R5.cs ⟨rt, rv, rr, rw_, rk⟩)).drew)
  have B5 := Lib.hid (((Below.refl y4.heap.size y4).alloc (Nat.le_refl _) (.cells (R5.cs ⟨rt, rv, rr, rw_, rk⟩) 42)).drew)
  have T5 := Lib.hid (T4.out.stay B5.out)
  have P5 := Lib.hid (P4.out.stay B5.out)
  obtain ⟨Y, hY⟩ : ∃ Y, (y4.alloc (.cells (R5.cs ⟨rt, rv, rr, rw_, rk⟩) 42)).drew = Y := ⟨_, rfl⟩
  rw [hY] at K5 B5 T5 P5 ⊢
  clear hY K4 T4 P4 f5 g0' g1 g2 g3 g4 c0 c1 c2 c3 c4
  have c0 := K5.out.c (b := y0.heap.size) (T := 25) (vs := C5.cs ⟨ck, (jr : Int) + 1, (ja : Int), (jb : Int), cn⟩) (by simp) 0 _ rfl
  have c1 := K5.out.c (b := y0.heap.size) (T := 25) (vs := C5.cs ⟨ck, (jr : Int) + 1, (ja : Int), (jb : Int), cn⟩) (by simp) 1 _ rfl
  have c2 := K5.out.c (b := y0.heap.size) (T := 25) (vs := C5.cs ⟨ck, (jr : Int) + 1, (ja : Int), (jb : Int), cn⟩) (by simp) 2 _ rfl
  have c3 := K5.out.c (b := y0.heap.size) (T := 25) (vs := C5.cs ⟨ck, (jr : Int) + 1, (ja : Int), (jb : Int), cn⟩) (by simp) 3 _ rfl
  have c4 := K5.out.c (b := y0.heap.size) (T := 25) (vs := C5.cs ⟨ck, (jr : Int) + 1, (ja : Int), (jb : Int), cn⟩) (by simp) 4 _ rfl
  have r0 := K5.out.c (b := y4.heap.size) (T := 42) (vs := R5.cs ⟨rt, rv, rr, rw_, rk⟩) (by simp) 0 _ rfl
  have HX1 := Lib.hid (show ∀ (i : Nat) (h1 : i < x.length) (h2 : i < l.length), (doV l ⟨ck, (jr : Int) + 1, (ja : Int), (jb : Int), cn⟩).1[i]'(by rw [do_len]; exact h2) = l[i] → x[i] = l[i] from fun i h1 h2 e => by
    rw [← e]; exact get_of HXA.out.1 _)
  by_cases h9 : ck = 9
  case neg =>
    have h9' : (ck == 9) = false := by simpa using h9
    have HSM := Lib.hid (show ∀ i (h1 : i < x.length) (h2 : i < l.length), (i : Int) + 1 ≠ (jr : Int) + 1 → (i : Int) + 1 ≠ rt → x[i] = l[i] from fun i h1 h2 n1 n2 => HX1.out i h1 h2 (do_touch HO.out h2 n1 (by rw [HR.out]; exact n2) (fun e => absurd e h9)))
    clear h9
    go_wp2_with fail
    refine (ldBut_same x l gx cx g c l.length _ _ _ P5.out T5.out HXL.out rfl l8 (fun i hi => by have := (tab_small HO.out.tab).2 i hi; omega) HSM.out).mono ?_
    rintro e y6 ⟨rfl, hb⟩
    have HB := Lib.hid (K5.out.stay hb).1
    clear hb
    go_wp2
    go_ret
    exact ⟨rfl, HB.out⟩
  subst h9
  by_cases h0 : 0 < rt
  case neg =>
    have HSM := Lib.hid (show ∀ i (h1 : i < x.length) (h2 : i < l.length), (i : Int) + 1 ≠ (jr : Int) + 1 → (i : Int) + 1 ≠ rt → x[i] = l[i] from fun i h1 h2 n1 n2 => HX1.out i h1 h2 (do_still HO.out h2 n1 (fun e => by
      obtain ⟨jo, -, ho, -⟩ := obj_get HO.out e (show (9 : Int) ≠ 3 by decide) hjr rfl
      rw [HR.out] at ho
      have h1 : rt = (jo : Int) + 1 := ho
      omega)))
    go_wp2_with fail
    refine (ldBut_same x l gx cx g c l.length _ _ _ P5.out T5.out HXL.out rfl l8 (fun i hi => by have := (tab_small HO.out.tab).2 i hi; omega) HSM.out).mono ?_
    rintro e y6 ⟨rfl, hb⟩
    have HB := Lib.hid (K5.out.stay hb).1
    clear hb
    go_wp2
    go_ret
    exact ⟨rfl, HB.out⟩
  obtain ⟨jo, ejo⟩ : ∃ jo : Nat, rt = (jo : Int) + 1 := ⟨(rt - 1).toNat, by omega⟩
  subst ejo
  have hjo : jo < l.length := by
    have h2 := (rOf_in HO.out).2
    rw [HR.out] at h2
    simp only [rightIn, Bool.not_eq_true', Bool.or_eq_false_iff, decide_eq_false_iff_not] at h2
    omega
  have hjo' : (jo : Int) < (l.length : Int) := by omega
  have wo : wrap64 ((jo : Int) + 1 - 1) = (jo : Int) := by unfold wrap64; omega
  have wo2 : IntKind.i64.wrap (jo : Int) = (jo : Int) := IntWalk.i64_in _ (by omega)
  obtain ⟨so, qo, -, -, hAo⟩ := T5.out.cells hjo
  have HTO := Lib.hid (show thAt l (rOf l ⟨9, (jr : Int) + 1, (ja : Int), (jb : Int), cn⟩).t = l[jo]'hjo from thAt_of hjo (by rw [HR.out]; dsimp only; omega))
  by_cases h5 : (l[jo]'hjo).kind = 5
  case neg =>
    have HSM := Lib.hid (show ∀ i (h1 : i < x.length) (h2 : i < l.length), (i : Int) + 1 ≠ (jr : Int) + 1 → (i : Int) + 1 ≠ (jo : Int) + 1 → x[i] = l[i] from fun i h1 h2 n1 n2 => HX1.out i h1 h2 (do_touch HO.out h2 n1 (by rw [HR.out]; exact n2) (fun _ e => absurd (by rw [← HTO.out]; exact e) h5)))
    obtain ⟨kd, hkd⟩ : ∃ kd, (l[jo]'hjo).kind = kd := ⟨_, rfl⟩
    have d0 : Y.cell? ⟨g, jo * 8, none⟩ = some (.int .i64 kd) := by rw [← hkd]; exact hAo 0 _ rfl
    rw [hkd] at h5
    have h5' : (kd == 5) = false := by simpa using h5
    clear hAo hkd h5
    go_wp2_with fail
    refine (ldBut_same x l gx cx g c l.length _ _ _ P5.out T5.out HXL.out rfl l8 (fun i hi => by have := (tab_small HO.out.tab).2 i hi; omega) HSM.out).mono ?_
    rintro e y6 ⟨rfl, hb⟩
    have HB := Lib.hid (K5.out.stay hb).1
    clear hb
    go_wp2
    go_ret
    exact ⟨rfl, HB.out⟩
  obtain ⟨jt, hjt, hto, hkt⟩ := gate_to HO.out.tab hjo h5
  have hjt' : (jt : Int) < (l.length : Int) := by omega
  have wt : wrap64 ((jt : Int) + 1 - 1) = (jt : Int) := by unfold wrap64; omega
  have wt2 : IntKind.i64.wrap (jt : Int) = (jt : Int) := IntWalk.i64_in _ (by omega)
  obtain ⟨tsY, sy, W2, hts, hth2, hels, hr1, ow1, bl1⟩ := copyT Y ⟨some ⟨gx, 0, none⟩, l.length, cx⟩ x P5.out HSX.out.1 23
  have hyl : tsY.length = l.length := by rw [← HXL.out, ← hts]; simp
  obtain ⟨gy, cury, hsy, hgy, bxy, -⟩ := ow1.form (by omega)
  have hyn : sy.n = l.length := by rw [ow1.1, hyl]
  obtain ⟨sya, syn, cy⟩ := sy
  dsimp only at hsy hyn
  subst hsy hyn
  obtain ⟨t, htj, het⟩ := row_get hts (j := jt) (by rw [HXL.out]; exact hjt)
  have d0 : Y.cell? ⟨g, jo * 8, none⟩ = some (.int .i64 5) := by rw [← h5]; exact hAo 0 _ rfl
  have o7 : W2.cell? ⟨g, jo * 8 + 7, none⟩ = some (.int .i64 ((jt : Int) + 1)) := by rw [← hto]; exact (hAo.stay bl1) 7 _ rfl
  obtain ⟨st, qt, hRt, hQt, hAt0⟩ := T5.out.cells hjt
  have hAt := hAt0.stay bl1
  obtain ⟨z, hz'⟩ : ∃ z, l[jt]'hjt = z := ⟨_, rfl⟩
  have HZ := Lib.hid hz'
  rw [hz'] at hRt hQt hAt
  have dt0 : W2.cell? ⟨g, jt * 8, none⟩ = some (.int .i64 z.kind) := hAt 0 _ rfl
  have dt1 : W2.cell? ⟨g, jt * 8 + 1, none⟩ = some (.int .i64 z.sec) := hAt 1 _ rfl
  have dt2 : W2.cell? ⟨g, jt * 8 + 2, none⟩ = some (.int .i64 z.vou) := hAt 2 _ rfl
  have dt3 : W2.cell? ⟨g, jt * 8 + 3, none⟩ = some (.int .i64 z.vers) := hAt 3 _ rfl
  have dt4 : W2.cell? ⟨g, jt * 8 + 4, none⟩ = some (.int .i64 z.num) := hAt 4 _ rfl
  have dt5 : W2.cell? ⟨g, jt * 8 + 5, none⟩ = some (.slice st.a st.n st.c) := hAt 5 _ rfl
  have dt6 : W2.cell? ⟨g, jt * 8 + 6, none⟩ = some (.slice qt.a qt.n qt.c) := hAt 6 _ rfl
  have dt7 : W2.cell? ⟨g, jt * 8 + 7, none⟩ = some (.int .i64 z.to) := hAt 7 _ rfl
  have xy := ow1.at szT rfl htj
  have x0 := xy 0 _ rfl
  rw [Nat.add_zero] at x0
  have x1 := xy 1 _ rfl
  have x2 := xy 2 _ rfl
  have x3 := xy 3 _ rfl
  have x4 := xy 4 _ rfl
  have x5 := xy 5 _ rfl
  have x6 := xy 6 _ rfl
  have x7 := xy 7 _ rfl
  have f0 := ow1.thaw rfl (jt * 8)
  have f1 := ow1.thaw rfl (jt * 8 + 1)
  have f2 := ow1.thaw rfl (jt * 8 + 2)
  have f3 := ow1.thaw rfl (jt * 8 + 3)
  have f4 := ow1.thaw rfl (jt * 8 + 4)
  have f5 := ow1.thaw rfl (jt * 8 + 5)
  have f6 := ow1.thaw rfl (jt * 8 + 6)
  have f7 := ow1.thaw rfl (jt * 8 + 7)
  have K6 := Lib.hid (K5.out.stay bl1)
  have m1 := K6.out.c (b := y0.heap.size) (T := 25) (vs := C5.cs ⟨9, (jr : Int) + 1, (ja : Int), (jb : Int), cn⟩) (by simp) 1 _ rfl
  have mr0 := K6.out.c (b := y4.heap.size) (T := 42) (vs := R5.cs ⟨(jo : Int) + 1, rv, rr, rw_, rk⟩) (by simp) 0 _ rfl
  have OW1 := Lib.hid ow1
  have HTY := Lib.hid hts
  have HTT := Lib.hid hth2
  have HTJ := Lib.hid htj
  have BL1 := Lib.hid bl1
  have HRT := Lib.hid hRt
  have HQT := Lib.hid hQt
  have HH5 := Lib.hid h5
  have HTOO := Lib.hid hto
  have HKT := Lib.hid hkt
  clear hAo hAt hAt0 xy hts hth2 htj het hels ow1 bl1 bxy hRt hQt hz' h5 hto hkt
  go_upto_region 13 with (refine wpList_append_run rfl (.tmp 84) (.tmp 85) 23 rfl (.slice (some ⟨Y.heap.size, 0, none⟩) 0 0) (.slice (some ⟨gx, 0, none⟩) l.length cx) rfl rfl (.slice (some ⟨gy, 0, none⟩) l.length cy) W2 hr1 ?_)
  clear hr1
  obtain ⟨Z, hZ⟩ : ∃ Z, ((((((((W2.setCell ⟨gy, jt * 8, none⟩ (.int .i64 z.kind)).setCell ⟨gy, jt * 8 + 1, none⟩ (.int .i64 z.sec)).setCell ⟨gy, jt * 8 + 2, none⟩ (.int .i64 z.vou)).setCell ⟨gy, jt * 8 + 3, none⟩ (.int .i64 z.vers)).setCell ⟨gy, jt * 8 + 4, none⟩ (.int .i64 z.num)).setCell ⟨gy, jt * 8 + 5, none⟩ (.slice st.a st.n st.c)).setCell ⟨gy, jt * 8 + 6, none⟩ (.slice qt.a qt.n qt.c)).setCell ⟨gy, jt * 8 + 7, none⟩ (.int .i64 z.to)) = Z := ⟨_, rfl⟩
  rw [hZ]
  rw [lay8 W2 gy (jt * 8) (z, st, qt)] at hZ
  have BZ : Below Y.heap.size Y Z := hZ ▸ BL1.out.trans (lay_belo hgy _ _ _)
  have OWZ : OwnF Tr.cs 8 37 Y.heap.size Z ⟨some ⟨gy, 0, none⟩, l.length, cy⟩ (tsY.set jt (z, st, qt)) := hZ ▸ OW1.out.lay szT rfl HTJ.out (z, st, qt)
  have HYT := Lib.hid (show HasT Z ⟨some ⟨gy, 0, none⟩, l.length, cy⟩ (x.set jt z) by
    have h := hasT_of OWZ (fun u hu => by
      rcases List.mem_or_eq_of_mem_set hu with hu | rfl
      · exact (HTT.out u hu).stay BZ
      · exact ⟨HRT.out.stay BZ, HQT.out.stay BZ⟩)
    rw [map_set1 HTY.out] at h
    exact h)
  have HSM := Lib.hid (show ∀ i (h1 : i < (x.set jt z).length) (h2 : i < l.length), (i : Int) + 1 ≠ (jr : Int) + 1 → (i : Int) + 1 ≠ (jo : Int) + 1 → (x.set jt z)[i] = l[i] from fun i h1 h2 n1 n2 => by
    rw [getElem_setTh]
    by_cases e : jt = i
    · subst e; rw [if_pos rfl, HZ.out]
    · rw [if_neg e]
      exact HX1.out i (by rw [HXL.out]; exact h2) h2 (do_touch HO.out h2 n1 (by rw [HR.out]; exact n2) (fun _ _ => by rw [HTO.out, HTOO.out]; omega)))
  have HXS := Lib.hid (show (x.set jt z).length = l.length by rw [List.length_set]; exact HXL.out)
  have KZ := Lib.hid (K5.out.stay BZ)
  have TZ := Lib.hid (T5.out.stay BZ)
  clear hZ OWZ BZ m1 mr0 o7 x0 x1 x2 x3 x4 x5 x6 x7 f0 f1 f2 f3 f4 f5 f6 f7 dt0 dt1 dt2 dt3 dt4 dt5 dt6 dt7 K5 T5 P5 K6 c0 c1 c2 c3 c4 r0 d0
  have m1 := KZ.out.c (b := y0.heap.size) (T := 25) (vs := C5.cs ⟨9, (jr : Int) + 1, (ja : Int), (jb : Int), cn⟩) (by simp) 1 _ rfl
  have mr0 := KZ.out.c (b := y4.heap.size) (T := 42) (vs := R5.cs ⟨(jo : Int) + 1, rv, rr, rw_, rk⟩) (by simp) 0 _ rfl
  go_wp2_with fail
  refine (ldBut_same (x.set jt z) l gy cy g c l.length _ _ _ HYT.out TZ.out HXS.out rfl l8 (fun i hi => by have := (tab_small HO.out.tab).2 i hi; omega) HSM.out).mono ?_
  rintro e y6 ⟨rfl, hb⟩
  have HB := Lib.hid (KZ.out.stay hb).1
  clear hb
  go_wp2
  go_ret
  exact ⟨rfl, HB.out⟩
end Go.Proofs.YtgpiclngkmjnpaaGreatDoor
