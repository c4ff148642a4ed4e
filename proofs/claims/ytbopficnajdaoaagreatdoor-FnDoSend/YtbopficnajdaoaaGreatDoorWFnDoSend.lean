/-
  The walk of laws.FnDoSend.
-/
import Derived.Test.YtbopficnajdaoaaGreatDoorLdM
namespace Go.Proofs.YtbopficnajdaoaaGreatDoor
open Go.RowKit
set_option maxRecDepth 100000
set_option linter.unusedVariables false

theorem wk3 {k : Nat} (h : k < 9) : wrap64 ((k : Int) + 1) = (k : Int) + 1 ∧ IntKind.i64.wrap ((k : Int) + 1) = (k : Int) + 1 ∧ IntKind.i64.wrap (k : Int) = (k : Int) ∧ wrap64 ((k : Int) + 1 - 1) = (k : Int) :=
  ⟨by unfold wrap64; omega, IntWalk.i64_in _ (by omega), IntWalk.i64_in _ (by omega), by unfold wrap64; omega⟩
theorem ltn (k n : Nat) : k < n ↔ (k : Int) < (n : Int) := by omega
theorem ltn1 {k n : Nat} (h : k < n) : (k : Int) + 1 < (n : Int) + 1 := by omega
theorem mn {k n : Nat} (h : k < n) : n - (intOf (.int .i64 ((k + 1 : Nat) : Int))).toNat < n - (intOf (.int .i64 (k : Int))).toNat := by
  simp only [intOf]; omega
theorem wkk {k k1 : Nat} (h : k + 1 = k1) (hk : k < 9) : wrap64 ((k : Int) + 1) = (k1 : Int) ∧ IntKind.i64.wrap ((k : Int) + 1) = (k1 : Int) ∧ IntKind.i64.wrap (k : Int) = (k : Int) ∧ IntKind.i64.wrap (k1 : Int) = (k1 : Int) :=
  ⟨by unfold wrap64; omega, by rw [show (k : Int) + 1 = (k1 : Int) by omega]; exact IntWalk.i64_in _ (by omega), IntWalk.i64_in _ (by omega), IntWalk.i64_in _ (by omega)⟩
theorem ltk1 {k k1 m m1 : Nat} (h : k + 1 = k1) (h2 : m + 1 = m1) (hk : k < m) : (k1 : Int) < (m1 : Int) ∧ k1 < m1 := by omega
theorem mnk {k k1 n : Nat} (e : k + 1 = k1) (h : k < n) : n - (intOf (.int .i64 (k1 : Int))).toNat < n - (intOf (.int .i64 (k : Int))).toNat := by
  simp only [intOf]; omega
theorem m1f {m m1 : Nat} (h : m + 1 = m1) (hb : m1 ≤ 3) : (((m1 : Int)) == 0) = false ∧ (0 : Int) < (m1 : Int) ∧ 0 < m1 ∧ wrap64 ((m1 : Int) - 1) = (m : Int) ∧ IntKind.i64.wrap ((m1 : Int) - 1) = (m : Int) :=
  ⟨by simp; omega, by omega, by omega, by unfold wrap64; omega, by rw [show (m1 : Int) - 1 = (m : Int) by omega]; exact IntWalk.i64_in _ (by omega)⟩
theorem kn1 (k : Nat) : Value.int .i64 ((k : Int) + 1) = Value.int .i64 ((k + 1 : Nat) : Int) := by congr 1
theorem m3f {n : Nat} (h : n < 3) : ((n : Int) == 3) = false ∧ ¬ (n : Int) = 3 := by
  refine ⟨?_, by omega⟩
  simp; omega
theorem m4f {n m : Nat} (h : n + 1 = m) : (n : Int) < (m : Int) ∧ n < m := by omega
theorem m5f {n m k : Nat} (h : n + 1 = m) (hk : k < n) : (k : Int) < (m : Int) ∧ k < m := by omega
set_option maxHeartbeats 16000000 in
theorem walk_FnDoSend (a0 : Option Addr) (len0 cap0 : Nat) (z0 : List Int) (w : World) (hKF : KF w) (hET : ET w) (w0 : IsRow .u8 w a0 len0 cap0 z0) :
    Calls Tryz.prog 3 #[.slice a0 len0 cap0] w fun e w' => e = .returned (.bool true) ∧ Below w.heap.size w w' := by
  by_cases g0 : (1048576 : Int) < (len0 : Int)
  · go_enter Tryz.func3, Tryz.ntmps3
    go_wp2
    go_ret
    exact ⟨rfl, Below.refl _ _⟩
  have W0 := Lib.hid w0
  have HF := Lib.hid hKF
  have HE := Lib.hid hET
  clear w0 hKF hET
  go_enter Tryz.func3, Tryz.ntmps3
  go_wp2_with fail
  refine (drawCD_any a0 len0 cap0 z0 _ W0.out).mono ?_
  rintro e y0 ⟨g, c, l, q, rfl, hT, l3, l8, hzs, hb⟩
  have K0 := Lib.hid ((Kn.start hb).new 25 (C5.cs q))
  have T0 := Lib.hid (hT.stay ((Below.refl _ _).alloc (Nat.le_refl _) (.cells (C5.cs q) 25)))
  have HZS := Lib.hid hzs
  have hz : l.length ≤ 1048576 := by omega
  clear W0 hb hT hzs
  obtain ⟨x, ans, hv⟩ : ∃ x ans, callV l q = (x, ans) := ⟨_, _, rfl⟩
  have HV := Lib.hid hv
  have HSX := Lib.hid (call_sm hv)
  clear hv
  go_wp2_with fail
  refine (specDo_val (s := ⟨some ⟨g, 0, none⟩, l.length, c⟩) HV.out _ T0.out hz HZS.out).mono ?_
  rintro e y1 ⟨s1, ts1, rfl, t1, hm1, hb⟩
  have K1 := Lib.hid (K0.out.stay hb)
  have T1 := Lib.hid (T0.out.stay hb)
  have X1 := Lib.hid (show HasT y1 s1 x from hm1 ▸ t1.hasT)
  clear hb t1 hm1 K0 T0
  have c0 := K1.out.c (b := y0.heap.size) (T := 25) (vs := C5.cs q) (by simp) 0 _ rfl
  have c1 := K1.out.c (b := y0.heap.size) (T := 25) (vs := C5.cs q) (by simp) 1 _ rfl
  have c2 := K1.out.c (b := y0.heap.size) (T := 25) (vs := C5.cs q) (by simp) 2 _ rfl
  have c3 := K1.out.c (b := y0.heap.size) (T := 25) (vs := C5.cs q) (by simp) 3 _ rfl
  have c4 := K1.out.c (b := y0.heap.size) (T := 25) (vs := C5.cs q) (by simp) 4 _ rfl
  go_wp2_with fail
  refine (implDo_val (s := ⟨some ⟨g, 0, none⟩, l.length, c⟩) HV.out _ T1.out (HF.out.stay K1.out.1) (HE.out.stay K1.out.1) hz).mono ?_
  rintro e y2 ⟨s2, ts2, rfl, t2, hm2, hb⟩
  have K2 := Lib.hid (K1.out.stay hb)
  have T2 := Lib.hid (T1.out.stay hb)
  have X2 := Lib.hid (X1.out.stay hb)
  have P2 := Lib.hid (show HasT y2 s2 x from hm2 ▸ t2.hasT)
  have HA2 := Lib.hid (show 0 < x.length → ∃ gx, s2.a = some ⟨gx, 0, none⟩ from fun h => by
    obtain ⟨gx, cur, e, -⟩ := t2.1.form (by have := congrArg List.length hm2; simp at this; omega)
    exact ⟨gx, e⟩)
  clear hb t2 hm2 K1 T1 X1 c0 c1 c2 c3 c4
  go_wp2_with fail
  refine (ldTable_same x s2 s1 _ P2.out X2.out HSX.out.1 HSX.out.2).mono ?_
  rintro e y3 ⟨rfl, hb⟩
  have K3 := Lib.hid (K2.out.stay hb)
  have T3 := Lib.hid (T2.out.stay hb)
  have X3 := Lib.hid (X2.out.stay hb)
  have P3 := Lib.hid (P2.out.stay hb)
  clear hb K2 T2 X2 P2
  have c0 := K3.out.c (b := y0.heap.size) (T := 25) (vs := C5.cs q) (by simp) 0 _ rfl
  have c1 := K3.out.c (b := y0.heap.size) (T := 25) (vs := C5.cs q) (by simp) 1 _ rfl
  have c2 := K3.out.c (b := y0.heap.size) (T := 25) (vs := C5.cs q) (by simp) 2 _ rfl
  have c3 := K3.out.c (b := y0.heap.size) (T := 25) (vs := C5.cs q) (by simp) 3 _ rfl
  have c4 := K3.out.c (b := y0.heap.size) (T := 25) (vs := C5.cs q) (by simp) 4 _ rfl
  go_wp2_with fail
  refine (ldCan_any l g l.length c q _ T3.out rfl (HF.out.stay K3.out.1) hz).mono ?_
  rintro e y4 ⟨v, rfl, hv, hb⟩
  have HVV := Lib.hid hv
  have K4 := Lib.hid (K3.out.stay hb)
  have T4 := Lib.hid (T3.out.stay hb)
  have X4 := Lib.hid (X3.out.stay hb)
  have P4 := Lib.hid (P3.out.stay hb)
  clear hb hv K3 T3 X3 P3 c0 c1 c2 c3 c4
  cases v
  · go_wp2_with fail
    refine (ldTable_same x s2 s1 _ P4.out X4.out HSX.out.1 HSX.out.2).mono ?_
    rintro e y5 ⟨rfl, hb⟩
    have HB := Lib.hid (K4.out.stay hb).1
    clear hb
    go_wp2
    go_ret
    exact ⟨rfl, HB.out⟩
  have HO := Lib.hid (HVV.out.1 rfl)
  have HXA := Lib.hid (show x = (doV l q).1 ∧ ans = (doV l q).2 by
    have := HV.out
    rw [callV_ok HO.out] at this
    rw [this]; exact ⟨rfl, rfl⟩)
  have hxl : x.length = l.length := by rw [HXA.out.1, do_len]
  obtain ⟨gx, hs2⟩ := HA2.out (by omega)
  have hsn : s2.n = l.length := by rw [P4.out.1, hxl]
  have HXL := Lib.hid hxl
  obtain ⟨s2a, s2n, cx⟩ := s2
  dsimp only at hs2 hsn
  subst hs2 hsn
  obtain ⟨jr, hjr, hcr, hth, hkr⟩ := HO.out.run
  have hbd := C5.bd HO.out.2
  obtain ⟨ck, cr, ca, cbb, cn⟩ := q
  dsimp only at *
  subst hcr
  obtain ⟨ja, rfl⟩ : ∃ ja : Nat, ca = ja := ⟨ca.toNat, by omega⟩
  obtain ⟨jb, rfl⟩ : ∃ jb : Nat, cbb = jb := ⟨cbb.toNat, by omega⟩
  have hja : ja < 4 := by omega
  have hjb : jb < 4 := by omega
  have hjr' : (jr : Int) < (l.length : Int) := by omega
  have hja' : (ja : Int) < 4 := by omega
  have hjb' : (jb : Int) < 4 := by omega
  have wr : wrap64 ((jr : Int) + 1 - 1) = (jr : Int) := by unfold wrap64; omega
  have wr2 : IntKind.i64.wrap (jr : Int) = (jr : Int) := IntWalk.i64_in _ (by omega)
  have HBD := Lib.hid hbd
  have HTH := Lib.hid hth
  have HKR := Lib.hid hkr
  clear hbd hth hkr hxl HA2 HV HVV X4 HZS
  have c0 := K4.out.c (b := y0.heap.size) (T := 25) (vs := C5.cs ⟨ck, (jr : Int) + 1, (ja : Int), (jb : Int), cn⟩) (by simp) 0 _ rfl
  have c1 := K4.out.c (b := y0.heap.size) (T := 25) (vs := C5.cs ⟨ck, (jr : Int) + 1, (ja : Int), (jb : Int), cn⟩) (by simp) 1 _ rfl
  have c2 := K4.out.c (b := y0.heap.size) (T := 25) (vs := C5.cs ⟨ck, (jr : Int) + 1, (ja : Int), (jb : Int), cn⟩) (by simp) 2 _ rfl
  have c3 := K4.out.c (b := y0.heap.size) (T := 25) (vs := C5.cs ⟨ck, (jr : Int) + 1, (ja : Int), (jb : Int), cn⟩) (by simp) 3 _ rfl
  have c4 := K4.out.c (b := y0.heap.size) (T := 25) (vs := C5.cs ⟨ck, (jr : Int) + 1, (ja : Int), (jb : Int), cn⟩) (by simp) 4 _ rfl
  by_cases hk1 : ¬ ck = 6
  · have hk1' : (ck == 6) = false := by simpa using hk1
    have hk1'' : (ck != 6) = true := by simpa using hk1
    clear hk1
    go_wp2
    go_ret
    exact ⟨rfl, K4.out.1⟩
  obtain rfl : ck = 6 := Classical.not_not.1 hk1
  clear hk1
  obtain ⟨v, hv⟩ : ∃ v, chkV l ⟨6, (jr : Int) + 1, (ja : Int), (jb : Int), cn⟩ = v := ⟨_, rfl⟩
  have HCV := Lib.hid hv
  clear hv
  go_wp2_with fail
  refine (implCheck_val (s := ⟨some ⟨g, 0, none⟩, l.length, c⟩) (c := ⟨6, (jr : Int) + 1, (ja : Int), (jb : Int), cn⟩) HCV.out _ T4.out (HF.out.stay K4.out.1) (HE.out.stay K4.out.1) hz).mono ?_
  rintro e y5 ⟨rfl, hb⟩
  have Ka := Lib.hid (K4.out.stay hb)
  have Ta := Lib.hid (T4.out.stay hb)
  have Pa := Lib.hid (P4.out.stay hb)
  clear hb K4 T4 P4 c0 c1 c2 c3 c4
  by_cases hv0 : v < 0
  · clear HXA
    go_wp2
    go_ret
    exact ⟨rfl, Ka.out.1⟩
  have h0 : chkV l ⟨6, (jr : Int) + 1, (ja : Int), (jb : Int), cn⟩ = 0 := by rcases chk_vals HO.out with e | e | e | e <;> rw [HCV.out] at e <;> rw [HCV.out] <;> omega
  obtain ⟨jo, hjo, hro, hnj⟩ := obj_get HO.out h0 (show (6 : Int) ≠ 3 by decide) hjr rfl
  have hjo' : (jo : Int) < (l.length : Int) := by omega
  have wo : wrap64 ((jo : Int) + 1 - 1) = (jo : Int) := by unfold wrap64; omega
  have wo2 : IntKind.i64.wrap (jo : Int) = (jo : Int) := IntWalk.i64_in _ (by omega)
  have HH0 := Lib.hid h0
  have HRO := Lib.hid hro
  have HNJ := Lib.hid hnj
  clear h0 hro hnj
  have c0 := Ka.out.c (b := y0.heap.size) (T := 25) (vs := C5.cs ⟨6, (jr : Int) + 1, (ja : Int), (jb : Int), cn⟩) (by simp) 0 _ rfl
  have c1 := Ka.out.c (b := y0.heap.size) (T := 25) (vs := C5.cs ⟨6, (jr : Int) + 1, (ja : Int), (jb : Int), cn⟩) (by simp) 1 _ rfl
  have c2 := Ka.out.c (b := y0.heap.size) (T := 25) (vs := C5.cs ⟨6, (jr : Int) + 1, (ja : Int), (jb : Int), cn⟩) (by simp) 2 _ rfl
  have c3 := Ka.out.c (b := y0.heap.size) (T := 25) (vs := C5.cs ⟨6, (jr : Int) + 1, (ja : Int), (jb : Int), cn⟩) (by simp) 3 _ rfl
  have c4 := Ka.out.c (b := y0.heap.size) (T := 25) (vs := C5.cs ⟨6, (jr : Int) + 1, (ja : Int), (jb : Int), cn⟩) (by simp) 4 _ rfl
  obtain ⟨jr1, ja1, hjr1, rb, ro, sc, qs, er1, ea1, -, eth1, hA, hB, -⟩ := slot_at Ta.out HO.out.1 HO.out.2
  obtain rfl : jr = jr1 := by dsimp only at er1; omega
  obtain rfl : ja = ja1 := by dsimp only at ea1; omega
  obtain ⟨r, hr⟩ : ∃ r, rOf l ⟨6, (jr : Int) + 1, (ja : Int), (jb : Int), cn⟩ = r := ⟨_, rfl⟩
  have hBr : At y5 rb (ro + ja * 5) r.cs := by rw [← hr]; exact hB
  obtain ⟨rt, rv, rr, rw_, rk⟩ := r
  have HR := Lib.hid hr
  have f5 : y5.cell? ⟨g, jr * 8 + 5, none⟩ = some (.slice (some ⟨rb, ro, none⟩) 4 sc) := hA 5 _ rfl
  have g0' : y5.cell? ⟨rb, ro + ja * 5, none⟩ = some (.int .i64 rt) := hBr 0 _ rfl
  have g1 : y5.cell? ⟨rb, ro + ja * 5 + 1, none⟩ = some (.int .i64 rv) := hBr 1 _ rfl
  have g2 : y5.cell? ⟨rb, ro + ja * 5 + 2, none⟩ = some (.bool rr) := hBr 2 _ rfl
  have g3 : y5.cell? ⟨rb, ro + ja * 5 + 3, none⟩ = some (.bool rw_) := hBr 3 _ rfl
  have g4 : y5.cell? ⟨rb, ro + ja * 5 + 4, none⟩ = some (.bool rk) := hBr 4 _ rfl
  have hbl1 := cell_lt f5
  have hbl2 := cell_lt g0'
  have hbl3 := cell_lt c0
  clear hA hB hBr hr er1 ea1 eth1
  go_upto_region 10 with fail
  go_region
  have K5 := Lib.hid ((Ka.out.new 34 (R5.cs ⟨rt, rv, rr, rw_, rk⟩)).drew)
  have B5 := Lib.hid (((Below.refl y5.heap.size y5).alloc (Nat.le_refl _) (.cells (R5.cs ⟨rt, rv, rr, rw_, rk⟩) 34)).drew)
  have T5 := Lib.hid (Ta.out.stay B5.out)
  have P5 := Lib.hid (Pa.out.stay B5.out)
  obtain ⟨Y, hY⟩ : ∃ Y, (y5.alloc (.cells (R5.cs ⟨rt, rv, rr, rw_, rk⟩) 34)).drew = Y := ⟨_, rfl⟩
  rw [hY] at K5 B5 T5 P5 ⊢
  clear hY Ka Ta Pa f5 g0' g1 g2 g3 g4 c0 c1 c2 c3 c4
  have hrt : rt = (jo : Int) + 1 := by have := HRO.out; rw [HR.out] at this; exact this
  subst hrt
  obtain ⟨lv, hlv⟩ : ∃ lv, liveB l ⟨(jo : Int) + 1, rv, rr, rw_, rk⟩ = lv := ⟨_, rfl⟩
  have HLV := Lib.hid (show tabLive l ⟨(jo : Int) + 1, rv, rr, rw_, rk⟩ = lv by rw [← HR.out, liveB_tab HO.out, HR.out]; exact hlv)
  have hds := do_send HO.out rfl HH0.out hjr rfl hjo (by rw [HR.out])
  rw [HR.out, hlv] at hds
  clear hlv
  obtain ⟨sv, hsv⟩ : ∃ sv, chkSees l ((jr : Int) + 1) ((jo : Int) + 1) = sv := ⟨_, rfl⟩
  have HSV := Lib.hid hsv
  rw [show seesT (l[jr]'hjr) (l[jo]'hjo) = sv by
    have hin : inR ((jo : Int) + 1) 1 l.length = true := by simp [inR]; omega
    have := chkSees_run HO.out.1 hin
    dsimp only at this
    rw [hsv, thAt_of hjr (by omega), thAt_of hjo (by omega)] at this
    exact this.symm] at hds
  have hqb := (okT_queue (tab_okT HO.out.tab hjo)).1
  clear hsv
  obtain ⟨so, qo, -, hQo, hAo⟩ := T5.out.cells hjo
  obtain ⟨sx, qx, -, hQx, hAx⟩ := P5.out.cells (i := jo) (by rw [HXL.out]; exact hjo)
  have d6 : Y.cell? ⟨g, jo * 8 + 6, none⟩ = some (.slice qo.a qo.n qo.c) := hAo 6 _ rfl
  have e6 : Y.cell? ⟨gx, jo * 8 + 6, none⟩ = some (.slice qx.a qx.n qx.c) := hAx 6 _ rfl
  have hn1 := hQo.len
  have hn2 := hQx.len
  have HN1 := Lib.hid hn1
  have HQO := Lib.hid hQo
  have HQX := Lib.hid hQx
  have HDS := Lib.hid hds
  have HQB := Lib.hid hqb
  have HN2 := Lib.hid hn2
  clear hAo hAx hQo hQx hds hqb hn1 hn2
  obtain ⟨qa, qn, qc⟩ := qo
  obtain ⟨xa, xn, xc⟩ := qx
  dsimp only at HN1 HN2 d6 e6
  have r0 := K5.out.c (b := y5.heap.size) (T := 34) (vs := R5.cs ⟨(jo : Int) + 1, rv, rr, rw_, rk⟩) (by simp) 0 _ rfl
  have r1 := K5.out.c (b := y5.heap.size) (T := 34) (vs := R5.cs ⟨(jo : Int) + 1, rv, rr, rw_, rk⟩) (by simp) 1 _ rfl
  have r2 := K5.out.c (b := y5.heap.size) (T := 34) (vs := R5.cs ⟨(jo : Int) + 1, rv, rr, rw_, rk⟩) (by simp) 2 _ rfl
  have r3 := K5.out.c (b := y5.heap.size) (T := 34) (vs := R5.cs ⟨(jo : Int) + 1, rv, rr, rw_, rk⟩) (by simp) 3 _ rfl
  have r4 := K5.out.c (b := y5.heap.size) (T := 34) (vs := R5.cs ⟨(jo : Int) + 1, rv, rr, rw_, rk⟩) (by simp) 4 _ rfl
  have c1 := K5.out.c (b := y0.heap.size) (T := 25) (vs := C5.cs ⟨6, (jr : Int) + 1, (ja : Int), (jb : Int), cn⟩) (by simp) 1 _ rfl
  have c4 := K5.out.c (b := y0.heap.size) (T := 25) (vs := C5.cs ⟨6, (jr : Int) + 1, (ja : Int), (jb : Int), cn⟩) (by simp) 4 _ rfl
  go_wp2_with fail
  refine (implCheckSees_val (s := ⟨some ⟨g, 0, none⟩, l.length, c⟩) HSV.out _ T5.out (HF.out.stay K5.out.1) hz).mono ?_
  rintro e y6 ⟨rfl, hb⟩
  have K6 := Lib.hid (K5.out.stay hb)
  have T6 := Lib.hid (T5.out.stay hb)
  have P6 := Lib.hid (P5.out.stay hb)
  have B6 := Lib.hid hb
  clear hb K5 T5 P5 c1 c4 r0 r1 r2 r3 r4 d6 e6
  have r0 := K6.out.c (b := y5.heap.size) (T := 34) (vs := R5.cs ⟨(jo : Int) + 1, rv, rr, rw_, rk⟩) (by simp) 0 _ rfl
  have r1 := K6.out.c (b := y5.heap.size) (T := 34) (vs := R5.cs ⟨(jo : Int) + 1, rv, rr, rw_, rk⟩) (by simp) 1 _ rfl
  have r2 := K6.out.c (b := y5.heap.size) (T := 34) (vs := R5.cs ⟨(jo : Int) + 1, rv, rr, rw_, rk⟩) (by simp) 2 _ rfl
  have r3 := K6.out.c (b := y5.heap.size) (T := 34) (vs := R5.cs ⟨(jo : Int) + 1, rv, rr, rw_, rk⟩) (by simp) 3 _ rfl
  have r4 := K6.out.c (b := y5.heap.size) (T := 34) (vs := R5.cs ⟨(jo : Int) + 1, rv, rr, rw_, rk⟩) (by simp) 4 _ rfl
  go_wp2_with fail
  refine (implTabLive_val' (s := ⟨some ⟨g, 0, none⟩, l.length, c⟩) (r := ⟨(jo : Int) + 1, rv, rr, rw_, rk⟩) HLV.out _ T6.out (HF.out.stay K6.out.1) hz).mono ?_
  rintro e y7 ⟨rfl, hb⟩
  have K7 := Lib.hid (K6.out.stay hb)
  have T7 := Lib.hid (T6.out.stay hb)
  have P7 := Lib.hid (P6.out.stay hb)
  have B7 := Lib.hid (show Below Y.heap.size Y y7 from B6.out.trans (hb.mono B6.out.size))
  clear hb K6 T6 P6 r0 r1 r2 r3 r4
  by_cases hgo : ¬ (lv = true ∧ (l[jo]'hjo).queue.length < 3)
  · as_aux_lemma =>
      have hds := HDS.out
      rw [if_neg hgo] at hds
      have HSAME := Lib.hid (show x[jo]'(by rw [HXL.out]; exact hjo) = l[jo]'hjo by rw [get_of HXA.out.1 (i := jo) (by rw [HXL.out]; exact hjo)]; exact hds.1)
      have han : ans = if sv then -4 else 0 := HXA.out.2.trans hds.2
      have hfull : lv = false ∨ lv = true ∧ qn = 3 := by
        cases lv with
        | false => exact .inl rfl
        | true =>
          refine .inr ⟨rfl, ?_⟩
          have h1 : ¬ (l[jo]'hjo).queue.length < 3 := fun h => hgo ⟨rfl, h⟩
          have h2 := HQB.out
          have h3 := HN1.out
          omega
      clear hgo hds HDS
      cases sv
      all_goals
        simp only [if_true, if_false, Bool.false_eq_true] at han
        subst han
        rcases hfull with rfl | ⟨rfl, rfl⟩
        all_goals
          obtain ⟨ss, qs, hRs, hQs, hAs⟩ := T7.out.cells hjo
          obtain ⟨sx, qx, hRx, hQx, hAx⟩ := P7.out.cells (i := jo) (by rw [HXL.out]; exact hjo)
          rw [HSAME.out] at hRx hQx hAx
          obtain ⟨z, hz'⟩ : ∃ z, l[jo]'hjo = z := ⟨_, rfl⟩
          have hsm := get_set_sm (fun i hi => by have := (tab_small HO.out.tab).2 i hi; omega) hjo hz'
          rw [hz'] at hRs hQs hAs hRx hQx hAx
          have d0 : y7.cell? ⟨g, jo * 8, none⟩ = some (.int .i64 z.kind) := hAs 0 _ rfl
          have d1 : y7.cell? ⟨g, jo * 8 + 1, none⟩ = some (.int .i64 z.sec) := hAs 1 _ rfl
          have d2 : y7.cell? ⟨g, jo * 8 + 2, none⟩ = some (.int .i64 z.vou) := hAs 2 _ rfl
          have d3 : y7.cell? ⟨g, jo * 8 + 3, none⟩ = some (.int .i64 z.vers) := hAs 3 _ rfl
          have d4 : y7.cell? ⟨g, jo * 8 + 4, none⟩ = some (.int .i64 z.num) := hAs 4 _ rfl
          have d5 : y7.cell? ⟨g, jo * 8 + 5, none⟩ = some (.slice ss.a ss.n ss.c) := hAs 5 _ rfl
          have d6 : y7.cell? ⟨g, jo * 8 + 6, none⟩ = some (.slice qs.a qs.n qs.c) := hAs 6 _ rfl
          have d7 : y7.cell? ⟨g, jo * 8 + 7, none⟩ = some (.int .i64 z.to) := hAs 7 _ rfl
          have e0 : y7.cell? ⟨gx, jo * 8, none⟩ = some (.int .i64 z.kind) := hAx 0 _ rfl
          have e1 : y7.cell? ⟨gx, jo * 8 + 1, none⟩ = some (.int .i64 z.sec) := hAx 1 _ rfl
          have e2 : y7.cell? ⟨gx, jo * 8 + 2, none⟩ = some (.int .i64 z.vou) := hAx 2 _ rfl
          have e3 : y7.cell? ⟨gx, jo * 8 + 3, none⟩ = some (.int .i64 z.vers) := hAx 3 _ rfl
          have e4 : y7.cell? ⟨gx, jo * 8 + 4, none⟩ = some (.int .i64 z.num) := hAx 4 _ rfl
          have e5 : y7.cell? ⟨gx, jo * 8 + 5, none⟩ = some (.slice sx.a sx.n sx.c) := hAx 5 _ rfl
          have e6 : y7.cell? ⟨gx, jo * 8 + 6, none⟩ = some (.slice qx.a qx.n qx.c) := hAx 6 _ rfl
          have e7 : y7.cell? ⟨gx, jo * 8 + 7, none⟩ = some (.int .i64 z.to) := hAx 7 _ rfl
          have r0 : y7.cell? ⟨y5.heap.size, 0, none⟩ = some (.int .i64 ((jo : Int) + 1)) := (K7.out.box (b := y5.heap.size) (T := 34) (vs := R5.cs ⟨(jo : Int) + 1, rv, rr, rw_, rk⟩) (by simp)).cell 0 _ rfl
          have HLD := Lib.hid (fun zz : Wd (Kn y7 []) => ldThing_same z sx qx ss qs zz.w (hRx.stay zz.ok.1) (hQx.stay zz.ok.1) (hRs.stay zz.ok.1) (hQs.stay zz.ok.1) hsm.1 hsm.2)
          clear hRx hQx hAx hRs hQs hAs hz' hsm
          have qd0 := fun zz : Wd (Kn y7 []) => stayCell d0 zz.ok.1
          have qd1 := fun zz : Wd (Kn y7 []) => stayCell d1 zz.ok.1
          have qd2 := fun zz : Wd (Kn y7 []) => stayCell d2 zz.ok.1
          have qd3 := fun zz : Wd (Kn y7 []) => stayCell d3 zz.ok.1
          have qd4 := fun zz : Wd (Kn y7 []) => stayCell d4 zz.ok.1
          have qd5 := fun zz : Wd (Kn y7 []) => stayCell d5 zz.ok.1
          have qd6 := fun zz : Wd (Kn y7 []) => stayCell d6 zz.ok.1
          have qd7 := fun zz : Wd (Kn y7 []) => stayCell d7 zz.ok.1
          have qe0 := fun zz : Wd (Kn y7 []) => stayCell e0 zz.ok.1
          have qe1 := fun zz : Wd (Kn y7 []) => stayCell e1 zz.ok.1
          have qe2 := fun zz : Wd (Kn y7 []) => stayCell e2 zz.ok.1
          have qe3 := fun zz : Wd (Kn y7 []) => stayCell e3 zz.ok.1
          have qe4 := fun zz : Wd (Kn y7 []) => stayCell e4 zz.ok.1
          have qe5 := fun zz : Wd (Kn y7 []) => stayCell e5 zz.ok.1
          have qe6 := fun zz : Wd (Kn y7 []) => stayCell e6 zz.ok.1
          have qe7 := fun zz : Wd (Kn y7 []) => stayCell e7 zz.ok.1
          have qr0 := fun zz : Wd (Kn y7 []) => stayCell r0 zz.ok.1
          have ne : Nonempty (Wd (Kn y7 [])) := ⟨⟨_, (Kn.refl (w := y7)).drew⟩⟩
          clear d0 d1 d2 d3 d4 d5 d6 d7 e0 e1 e2 e3 e4 e5 e6 e7 r0
          go_upto_region 15 with fail
          refine wp_region_quiet (C := fun y => ∃ zz : Wd (Kn y7 []), y = zz.w) (by kernel_rfl) (by kernel_rfl) ⟨⟨_, (Kn.refl (w := y7)).drew⟩, rfl⟩ ?_
          show wpQuiet _ _ _ _ [_, _, _, _, _, _, _, _, _, _, _, _, _, _, _, _, _, _, _, _, _, _, _, _, _, _, _, _, _] _
          repeat (first | go_big_quiet_step ((go_at_call 28; with_reducible exact inCls Kn.stay (HLD.out _))) | quiet_step ((go_at_call 28; with_reducible exact inCls Kn.stay (HLD.out _))))
          refine wpQuiet_nil ?_
          rintro _ ⟨⟨y9, K9⟩, rfl⟩
          have HB2 := Lib.hid (K7.out.stay K9.1).1
          clear ne qd0 qd1 qd2 qd3 qd4 qd5 qd6 qd7 qe0 qe1 qe2 qe3 qe4 qe5 qe6 qe7 qr0 K9 HLD
          go_wp2
          go_ret
          exact ⟨by simp [*], HB2.out⟩
  have hgo := Classical.not_not.1 hgo
  have hds := HDS.out
  rw [if_pos hgo] at hds
  obtain ⟨rfl, hq3⟩ := hgo
  obtain rfl : ans = 0 := HXA.out.2.trans hds.1
  have hxq : (x[jo]'(by rw [HXL.out]; exact hjo)).queue = (l[jo]'hjo).queue ++ [cn] := by
    rw [get_of HXA.out.1 (i := jo) (by rw [HXL.out]; exact hjo), hds.2]
  obtain ⟨Qu, hQu⟩ : ∃ Qu, (l[jo]'hjo).queue = Qu := ⟨_, rfl⟩
  have hQo := HQO.out
  have hQx := HQX.out
  have hn1 := HN1.out
  have hn2 := HN2.out
  rw [hxq, hQu] at hQx hn2
  rw [hQu] at hQo hn1 hq3
  rw [List.length_append, List.length_singleton] at hn2
  have hnx : qn + 1 = xn := by omega
  have hqn3 : qn < 3 := by omega
  have HNX := Lib.hid hnx
  have HN3 := Lib.hid hn1
  have HQ1 := Lib.hid hQo
  have HQ2 := Lib.hid hQx
  obtain ⟨w1, w2, w3', w4⟩ := wkk hnx (by omega)
  obtain ⟨h31, h32⟩ := m3f hqn3
  clear hds hxq hQu hQo hQx hn1 hn2 HDS HQO HQX HN1 HN2 HQB hq3 hnx HXA
  go_wp2
  go_loopw [13] (fun i wr => ∃ k : Nat, k ≤ qn ∧ i = .int .i64 k ∧ Below y7.heap.size y7 wr) (fun i _ => qn - (intOf i).toNat)
  case atStart => exact ⟨0, Nat.zero_le _, rfl, Below.refl _ _⟩
  case round =>
    obtain ⟨k, hk, rfl, B0⟩ := hrel
    have HB := Lib.hid (B7.out.trans (B0.mono B7.out.size))
    have HB7 := Lib.hid B0
    have KK := Lib.hid (K7.out.stay B0)
    clear B0
    by_cases hlt : ¬ k < qn
    · have hlt' : ¬ (k : Int) < (qn : Int) := fun h => hlt ((ltn k qn).2 h)
      obtain ⟨b2, o2, eb2, hx0⟩ := HQ2.out.at (i := qn) (by rw [List.length_append, List.length_singleton, ← HN3.out]; exact Nat.lt_succ_self _)
      dsimp only at eb2
      subst eb2
      have x0 : wr.cell? ⟨b2, o2 + qn, none⟩ = some (.int .i64 cn) := by
        have h := stayCell hx0 HB.out
        rw [List.getElem_append_right (by rw [← HN3.out]; exact Nat.le_refl _)] at h
        simpa using h
      obtain ⟨h33, h34⟩ := m4f HNX.out
      have c4 := KK.out.c (b := y0.heap.size) (T := 25) (vs := C5.cs ⟨6, (jr : Int) + 1, (ja : Int), (jb : Int), cn⟩) (by simp) 4 _ rfl
      clear hx0 hlt
      go_upto_region 21 with fail
      go_quiet (fail)
      go_wp2
      go_ret
      exact ⟨by simp [*], (KK.out.drewN _).1⟩
    have hkl : k < qn := Classical.not_not.1 hlt
    have hlt' := (ltn k qn).1 hkl
    obtain ⟨k1, hk1⟩ : ∃ k1, k + 1 = k1 := ⟨_, rfl⟩
    have HK1 := Lib.hid hk1
    obtain ⟨wk, wk2, wk4, wk5⟩ := wkk hk1 (Nat.lt_of_lt_of_le hkl (Nat.le_of_lt (Nat.lt_of_lt_of_le hqn3 (by decide))))
    obtain ⟨hx1, hx2⟩ := m5f HNX.out hkl
    obtain ⟨b2, o2, eb2, hx0⟩ := HQ2.out.at (i := k) (by rw [List.length_append, List.length_singleton, ← HN3.out]; exact Nat.lt_succ_of_lt hkl)
    obtain ⟨b3, o3, eb3, ho0⟩ := HQ1.out.at (i := k) (by rw [← HN3.out]; exact hkl)
    dsimp only at eb2 eb3
    subst eb2 eb3
    obtain ⟨u, hu⟩ : ∃ u, Qu[k]'(by rw [← HN3.out]; exact hkl) = u := ⟨_, rfl⟩
    have x0 : wr.cell? ⟨b2, o2 + k, none⟩ = some (.int .i64 u) := by
      have h := stayCell hx0 HB.out
      rw [List.getElem_append_left (by rw [← HN3.out]; exact hkl), hu] at h
      exact h
    have o0 : wr.cell? ⟨b3, o3 + k, none⟩ = some (.int .i64 u) := by rw [← hu]; exact stayCell ho0 HB.out
    clear hx0 ho0 hu hk1 hlt
    go_upto_region 19 with fail
    go_quiet (fail)
    go_wp2
    go_roundw
    case rel => exact ⟨k1, by have := HK1.out; omega, rfl, drewNB HB7.out _⟩
    case measure => exact mnk HK1.out hkl
end Go.Proofs.YtbopficnajdaoaaGreatDoor
